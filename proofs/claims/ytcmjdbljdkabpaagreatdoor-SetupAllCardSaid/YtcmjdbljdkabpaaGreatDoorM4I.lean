/- Of layer 4: Tb, OpenTuples, TupMem, RefTup, RefTup2, LFew. -/
import Derived.Test.YtcmjdbljdkabpaaGreatDoorM4A
import Derived.Test.YtcmjdbljdkabpaaGreatDoorM4D
import Derived.WalkSpells
import Derived.Laws.StructEq

set_option linter.all false

namespace Go.Proofs.YtcmjdbljdkabpaaGreatDoor

/-- A parameter: its number, its text's bytes. -/
abbrev Tp := Int × List UInt8

/-- Its bytes. -/
def tb (t : Tp) : List UInt8 := UInt8.ofNat t.1.toNat :: UInt8.ofNat t.2.length :: t.2
def okT (t : Tp) : Prop := 0 ≤ t.1 ∧ t.1 ≤ 255 ∧ t.2.length ≤ 40
instance (t : Tp) : Decidable (okT t) := by unfold okT; infer_instance
def flat (l : List Tp) : List UInt8 := l.flatMap tb

/-- P7.1: parameters as bytes; none: too long, or one may not be. -/
def putT (l : List Tp) : Option (List UInt8) := if (∀ t ∈ l, okT t) ∧ (flat l).length ≤ 64 then some (flat l) else none

/-- Bytes as parameters. -/
def getL : List UInt8 → Option (List Tp)
  | [] => some []
  | [_] => none
  | a :: n :: r => if 40 < n.toNat ∨ r.length < n.toNat then none else (getL (r.drop n.toNat)).map ((((a.toNat : Nat) : Int), r.take n.toNat) :: ·)
termination_by s => s.length
decreasing_by simp only [List.length_drop, List.length_cons]; omega

/-- P7.1: bytes as parameters; none: they are not. -/
def getT (s : List UInt8) : Option (List Tp) := if s.length ≤ 64 then getL s else none

theorem getL_nil : getL [] = some [] := by unfold getL; rfl
theorem getL_one (a : UInt8) : getL [a] = none := by unfold getL; rfl
theorem getL_two (a n : UInt8) (r : List UInt8) : getL (a :: n :: r) = if 40 < n.toNat ∨ r.length < n.toNat then none else (getL (r.drop n.toNat)).map ((((a.toNat : Nat) : Int), r.take n.toNat) :: ·) := by
  rw [getL]

theorem flat_nil : flat [] = [] := rfl
theorem flat_cons (t : Tp) (l : List Tp) : flat (t :: l) = tb t ++ flat l := rfl
theorem flat_append (a b : List Tp) : flat (a ++ b) = flat a ++ flat b := by unfold flat; rw [List.flatMap_append]
theorem tb_len (t : Tp) : (tb t).length = t.2.length + 2 := rfl

theorem getL_tb {t : Tp} (h : okT t) (s : List UInt8) : getL (tb t ++ s) = (getL s).map (t :: ·) := by
  obtain ⟨i, v⟩ := t
  unfold okT at h
  simp only at h
  have hn : (UInt8.ofNat v.length).toNat = v.length := by rw [UInt8.toNat_ofNat']; omega
  have hi : (((UInt8.ofNat i.toNat).toNat : Nat) : Int) = i := by rw [UInt8.toNat_ofNat']; omega
  show getL (UInt8.ofNat i.toNat :: UInt8.ofNat v.length :: (v ++ s)) = _
  rw [getL_two, hn, if_neg (by rw [List.length_append]; omega), List.drop_left, List.take_left, hi]

theorem getL_append {l : List Tp} (h : ∀ t ∈ l, okT t) (s : List UInt8) : getL (flat l ++ s) = (getL s).map (l ++ ·) := by
  induction l with
  | nil => rw [flat_nil, List.nil_append]; cases getL s <;> rfl
  | cons t l ih =>
    rw [flat_cons, List.append_assoc, getL_tb (h t (List.mem_cons_self ..)), ih (fun x hx => h x (List.mem_cons_of_mem _ hx))]
    cases getL s <;> rfl

theorem getL_flat {l : List Tp} (h : ∀ t ∈ l, okT t) : getL (flat l) = some l := by
  have := getL_append h []
  rw [List.append_nil, getL_nil] at this
  rw [this]; simp

theorem flat_getL : ∀ (n : Nat) (s : List UInt8), s.length ≤ n → ∀ l, getL s = some l → flat l = s ∧ ∀ t ∈ l, okT t
  | _, [], _, l, h => by
    rw [getL_nil] at h; injection h with h; subst h
    exact ⟨rfl, by intro t ht; cases ht⟩
  | _, [a], _, l, h => by rw [getL_one] at h; cases h
  | 0, a :: b :: r, hn, l, h => by simp at hn
  | n + 1, a :: b :: r, hn, l, h => by
    rw [getL_two] at h
    split at h
    · cases h
    · rename_i hc
      have ih := flat_getL n (r.drop b.toNat) (by simp only [List.length_cons] at hn; rw [List.length_drop]; omega)
      cases hg : getL (r.drop b.toNat) with
      | none => rw [hg] at h; cases h
      | some m =>
        rw [hg] at h
        injection h with h
        subst h
        obtain ⟨h1, h2⟩ := ih m hg
        have ha := a.toNat_lt
        have hlen : (r.take b.toNat).length = b.toNat := by rw [List.length_take]; omega
        refine ⟨?_, ?_⟩
        · rw [flat_cons, h1]
          unfold tb
          simp only [hlen]
          rw [show (((a.toNat : Nat) : Int)).toNat = a.toNat from rfl, UInt8.ofNat_toNat, UInt8.ofNat_toNat]
          simp only [List.cons_append, List.take_append_drop]
        · intro t ht
          rcases List.mem_cons.1 ht with rfl | ht
          · exact ⟨by simp, by simp only; omega, by simp only; omega⟩
          · exact h2 t ht

theorem getL_some {s : List UInt8} {l : List Tp} (h : getL s = some l) : flat l = s ∧ ∀ t ∈ l, okT t := flat_getL _ s (Nat.le_refl _) l h

theorem getT_putT {l : List Tp} {s : List UInt8} (h : putT l = some s) : getT s = some l := by
  unfold putT at h
  split at h
  · rename_i hc
    injection h with h
    subst h
    unfold getT
    rw [if_pos hc.2, getL_flat hc.1]
  · cases h

/-- Cut off: parameters still, just at a seam. -/
theorem getL_take {l : List Tp} (h : ∀ t ∈ l, okT t) (k : Nat) (hk : k ≤ (flat l).length) : (getL ((flat l).take k)).isSome = true ↔ ∃ i, i ≤ l.length ∧ (flat (l.take i)).length = k := by
  constructor
  · intro hs
    obtain ⟨m, hm⟩ := Option.isSome_iff_exists.1 hs
    obtain ⟨h1, h2⟩ := getL_some hm
    have h3 := getL_append h2 ((flat l).drop k)
    rw [h1, List.take_append_drop, getL_flat h] at h3
    cases hd : getL ((flat l).drop k) with
    | none => rw [hd] at h3; cases h3
    | some r =>
      rw [hd] at h3
      injection h3 with h3
      refine ⟨m.length, by rw [h3, List.length_append]; omega, ?_⟩
      rw [h3, List.take_left, h1, List.length_take]
      omega
  · rintro ⟨i, hi, rfl⟩
    have : (flat l).take (flat (l.take i)).length = flat (l.take i) := by
      have e : flat l = flat (l.take i) ++ flat (l.drop i) := by rw [← flat_append, List.take_append_drop]
      rw [e, List.take_left]
    rw [this, getL_flat (fun t ht => h t (List.mem_of_mem_take ht))]
    rfl
end Go.Proofs.YtcmjdbljdkabpaaGreatDoor

/- An argument that is a slice of parameters, opened: two cells each. -/
namespace Go.Proofs.YtcmjdbljdkabpaaGreatDoor
open Go.ChangeShapes Go.WideShapes Go.ChangeAt Go.RowKit

/-- v is a slice of n parameters: the i-th one's number is ID i, its text T i. -/
def IsTs (w : World) (v : Value) (n : Nat) (ID : Nat → Int) (T : Nat → ByteArray) : Prop :=
  (v = .slice none 0 0 ∧ n = 0) ∨ ∃ (a : Addr) (cap : Nat), v = .slice (some a) n cap ∧ (0 < n → a.block < w.heap.size) ∧ n ≤ cap ∧ cap ≤ maxLen ∧
    ∀ i, i < n → w.cell? (a.add (i * 2)) = some (.int .i64 (ID i)) ∧ w.cell? (a.add (i * 2 + 1)) = some (.string (T i)) ∧ (Lit.int .i64 (ID i)).wf = true ∧ (T i).size ≤ maxLen

theorem IsTs.below {w w' : World} {v : Value} {n : Nat} {ID : Nat → Int} {T : Nat → ByteArray} (h : IsTs w v n ID T) (hb : Below w.heap.size w w') : IsTs w' v n ID T := by
  rcases h with h | ⟨a, cap, h1, h2, h3, h4, h5⟩
  · exact .inl h
  · refine .inr ⟨a, cap, h1, fun h0 => Nat.lt_of_lt_of_le (h2 h0) hb.size, h3, h4, fun i hi => ?_⟩
    obtain ⟨c1, c2, c3, c4⟩ := h5 i hi
    exact ⟨(hb.cell (by rw [block_of_add]; exact h2 (by omega))).trans c1, (hb.cell (by rw [block_of_add]; exact h2 (by omega))).trans c2, c3, c4⟩

set_option maxRecDepth 100000 in
theorem open_tuples {H : Type} {enc : TypeId × Value → H} {W : World} {v : Value} {d : DataW H} {p : List MemPlace}
    (hval : Value.okWide Tryz.prog W .any 0 35 v) (h : DataW.Trod enc Tryz.prog W 0 (fun _ => true) true 35 v d p) : ∃ n ID T, IsTs W v n ID T := by
  obtain ⟨A, len, cap, rfl⟩ := okWide_slice Tryz.underlying35 hval
  obtain ⟨fuel, hf⟩ := h
  simp only [Value.cells] at hf
  rcases DataW.trod_slice Tryz.underlying35 hf with ⟨hcs, _⟩ | ⟨a, len', cap', elems, rest, m, _, hcs, _, _, hl, hm, hlen, hel, _, _⟩
  · injection hcs with hcs
    exact ⟨0, fun _ => 0, fun _ => ⟨#[]⟩, .inl ⟨hcs, rfl⟩⟩
  · injection hcs with hcs
    rw [hcs]
    have key : ∀ i, i < len' → ∃ (id : Int) (s : ByteArray), W.cell? (a.add (i * 2)) = some (.int .i64 id) ∧ W.cell? (a.add (i * 2 + 1)) = some (.string s) ∧ (Lit.int .i64 id).wf = true ∧ s.size ≤ maxLen := by
      intro i hi
      have h1 := hel i hi
      rw [show Tryz.prog.cellsOf 39 = 2 from by kernel_rfl, List.getElem?_eq_getElem (by omega)] at h1
      obtain ⟨cs, hc, ht⟩ := Option.bind_eq_some_iff.1 h1
      obtain ⟨_, hcl, hat⟩ := World.cells?_some hc
      obtain ⟨xs, k, _, _, _, hn, hx⟩ := DataW.trod_struct Tryz.underlying39 ht
      obtain ⟨y0, y1, rfl⟩ := two hn
      obtain ⟨a0, a1, rfl⟩ := two hcl
      have f0 := fld hx 0 0 1 3 rfl rfl rfl (by kernel_rfl)
      have f1 := fld hx 1 1 1 9 rfl rfl rfl (by kernel_rfl)
      change DataW.trod enc Tryz.prog W 0 (fun _ => true) true k 3 [a0] = some y0 at f0
      change DataW.trod enc Tryz.prog W 0 (fun _ => true) true k 9 [a1] = some y1 at f1
      obtain ⟨id, h0, _, w0⟩ := DataW.trod_int Tryz.underlying3 f0
      obtain ⟨s, h2, _, w1⟩ := DataW.trod_string Tryz.underlying9 f1
      injection h0 with h0
      injection h2 with h2
      subst h0; subst h2
      have c0 := hat 0 (by decide)
      have c1 := hat 1 (by decide)
      rw [add_of_add] at c0 c1
      exact ⟨id, s, c0, c1, w0, w1⟩
    have ex : ∀ i, ∃ q : Int × ByteArray, i < len' → W.cell? (a.add (i * 2)) = some (.int .i64 q.1) ∧ W.cell? (a.add (i * 2 + 1)) = some (.string q.2) ∧ (Lit.int .i64 q.1).wf = true ∧ q.2.size ≤ maxLen := by
      intro i
      by_cases hi : i < len'
      · obtain ⟨id, s, h⟩ := key i hi
        exact ⟨(id, s), fun _ => h⟩
      · exact ⟨(0, ⟨#[]⟩), fun h => absurd h hi⟩
    obtain ⟨f, hf'⟩ : ∃ f : Nat → Int × ByteArray, ∀ i, i < len' → W.cell? (a.add (i * 2)) = some (.int .i64 (f i).1) ∧ W.cell? (a.add (i * 2 + 1)) = some (.string (f i).2) ∧ (Lit.int .i64 (f i).1).wf = true ∧ (f i).2.size ≤ maxLen := ⟨fun i => (ex i).choose, fun i => (ex i).choose_spec⟩
    refine ⟨len', fun i => (f i).1, fun i => (f i).2, .inr ⟨a, cap', rfl, fun h0 => ?_, hl, hm, fun i hi => hf' i hi⟩⟩
    obtain ⟨_, _, c0, _⟩ := key 0 h0
    have := World.block_lt_of_cell? W _ c0
    rwa [block_of_add] at this
end Go.Proofs.YtcmjdbljdkabpaaGreatDoor

/- Slices of parameters in memory. -/
namespace Go.Proofs.YtcmjdbljdkabpaaGreatDoor
open Go.RowKit

/-- A parameter's cells. -/
def tc (t : Tp) : List Value := [.int .i64 t.1, .string ⟨t.2.toArray⟩]
def tcs (l : List Tp) : List Value := l.flatMap tc
theorem tcs_cons (t : Tp) (l : List Tp) : tcs (t :: l) = .int .i64 t.1 :: .string ⟨t.2.toArray⟩ :: tcs l := rfl
theorem tcs_append (a b : List Tp) : tcs (a ++ b) = tcs a ++ tcs b := by unfold tcs; rw [List.flatMap_append]
theorem tcs_length (l : List Tp) : (tcs l).length = l.length * 2 := by
  induction l with
  | nil => rfl
  | cons t l ih => rw [tcs_cons]; simp only [List.length_cons, ih]; omega
theorem tcs_at : ∀ (l : List Tp) (i : Nat) (h : i < l.length), (tcs l)[i * 2]? = some (.int .i64 (l[i]).1) ∧ (tcs l)[i * 2 + 1]? = some (.string ⟨(l[i]).2.toArray⟩)
  | [], i, h => by simp at h
  | t :: l, 0, _ => ⟨rfl, rfl⟩
  | t :: l, i + 1, h => by
    have := tcs_at l i (by simpa using h)
    rw [tcs_cons, show (i + 1) * 2 = i * 2 + 1 + 1 by omega]
    simpa using this
theorem tcs_one (l : List Tp) : ∀ u ∈ tcs l, u.oneCell' = true := by
  intro u hu
  unfold tcs at hu
  obtain ⟨t, _, ht⟩ := List.mem_flatMap.1 hu
  unfold tc at ht
  simp only [List.mem_cons, List.not_mem_nil, or_false] at ht
  rcases ht with rfl | rfl <;> rfl

/-- v is a slice that reads as the parameters l. -/
def RdT (w : World) (v : Value) (l : List Tp) : Prop :=
  ∃ A cap, v = .slice A l.length cap ∧ l.length ≤ cap ∧ cap ≤ maxLen ∧ (0 < l.length → ∃ b off, A = some ⟨b, off, none⟩ ∧ b < w.heap.size ∧ ∀ j u, (tcs l)[j]? = some u → w.cell? ⟨b, off + j, none⟩ = some u)
theorem RdT.below {w w' : World} {v : Value} {l : List Tp} (h : RdT w v l) (hb : Below w.heap.size w w') : RdT w' v l := by
  obtain ⟨A, cap, rfl, h1, h2, h3⟩ := h
  refine ⟨A, cap, rfl, h1, h2, fun h0 => ?_⟩
  obtain ⟨b, off, rfl, hlt, hc⟩ := h3 h0
  exact ⟨b, off, rfl, Nat.lt_of_lt_of_le hlt hb.size, fun j u hu => (hb.cell (p := ⟨b, off + j, none⟩) hlt).trans (hc j u hu)⟩
theorem RdT.at_ {w : World} {A : Option Addr} {n cap : Nat} {l : List Tp} (h : RdT w (.slice A n cap) l) {i : Nat} (hi : i < l.length) :
    ∃ b off, A = some ⟨b, off, none⟩ ∧ b < w.heap.size ∧ w.cell? ⟨b, off + i * 2, none⟩ = some (.int .i64 (l[i]).1) ∧ w.cell? ⟨b, off + i * 2 + 1, none⟩ = some (.string ⟨(l[i]).2.toArray⟩) := by
  obtain ⟨A', cap', he, _, _, h3⟩ := h
  injection he with he
  subst he
  obtain ⟨b, off, rfl, hlt, hc⟩ := h3 (by omega)
  obtain ⟨k1, k2⟩ := tcs_at l i hi
  exact ⟨b, off, rfl, hlt, hc _ _ k1, hc (i * 2 + 1) _ k2⟩
/-- v is a slice of the call's own of the parameters l. -/
def OwnT (w : World) (base : Nat) (v : Value) (l : List Tp) : Prop := w.ownsRow base 39 2 v l.length (tcs l)
theorem OwnT.nil_ (w : World) (base : Nat) : OwnT w base (.slice none 0 0) [] := World.ownsRow_nil w base 39 2
theorem OwnT.grown {w w' : World} {base : Nat} {v : Value} {l : List Tp} (h : OwnT w base v l) {row : Option Nat} (hg : w.grownBy w' row) (hne : v.ownBlock = none ∨ v.ownBlock ≠ row) : OwnT w' base v l := World.ownsRow.kept h hg hne
theorem OwnT.below {w w' : World} {base : Nat} {v : Value} {l : List Tp} (h : OwnT w base v l) (hb : Below w.heap.size w w') : OwnT w' base v l := h.grown (grownBy_of_below hb none) (by cases hv : v.ownBlock <;> simp)
theorem OwnT.rd {w : World} {base : Nat} {v : Value} {l : List Tp} (h : OwnT w base v l) : RdT w v l := by
  have hcells := @World.ownsRow.cells w base 39 2 v l.length (tcs l) h
  rcases h.2 with ⟨rfl, hn⟩ | ⟨g, cap, cur, rfl, hb, hh, hc, hm, hs, ht⟩
  · exact ⟨none, 0, by rw [hn], by omega, by simp [maxLen], fun h0 => by omega⟩
  · refine ⟨_, cap, rfl, hc, hm, fun _ => ⟨g, 0, rfl, lt_at hh, fun j u hu => ?_⟩⟩
    have := hcells (g := g) rfl j u hu
    rw [addr_add] at this
    exact this
theorem OwnT.lt {w : World} {base : Nat} {v : Value} {l : List Tp} (h : OwnT w base v l) : ∀ k, v.ownBlock = some k → base ≤ k ∧ k < w.heap.size := World.ownsRow.lt h
theorem OwnT.shape {w : World} {base : Nat} {v : Value} {l : List Tp} (h : OwnT w base v l) : ∃ A cap, v = .slice A l.length cap ∧ l.length ≤ cap ∧ cap ≤ maxLen := by
  obtain ⟨A, cap, h1, h2, h3, _⟩ := h.rd
  exact ⟨A, cap, h1, h2, h3⟩

/-- What is handed in, as a list. -/
def lst (n : Nat) (ID : Nat → Int) (T : Nat → ByteArray) : List Tp := (List.range n).map fun i => (ID i, (T i).data.toList)
theorem lst_length (n : Nat) (ID : Nat → Int) (T : Nat → ByteArray) : (lst n ID T).length = n := by simp [lst]
theorem lst_at {n : Nat} {ID : Nat → Int} {T : Nat → ByteArray} {i : Nat} (h : i < (lst n ID T).length) : (lst n ID T)[i] = (ID i, (T i).data.toList) := by simp [lst]
theorem IsTs.wf {w : World} {v : Value} {n : Nat} {ID : Nat → Int} {T : Nat → ByteArray} (h : IsTs w v n ID T) : ∀ t ∈ lst n ID T, (Lit.int .i64 t.1).wf = true ∧ t.2.length ≤ maxLen := by
  intro t ht
  unfold lst at ht
  obtain ⟨i, hi, rfl⟩ := List.mem_map.1 ht
  have hi2 := List.mem_range.1 hi
  rcases h with ⟨_, hn⟩ | ⟨a, cap, _, _, _, _, hc⟩
  · omega
  · obtain ⟨_, _, c3, c4⟩ := hc i hi2
    refine ⟨c3, ?_⟩
    simp only [Array.length_toList]
    exact c4
theorem tcs_split : ∀ (l : List Tp) (j : Nat) (u : Value), (tcs l)[j]? = some u → ∃ i, ∃ h : i < l.length, (j = i * 2 ∧ u = .int .i64 (l[i]).1) ∨ (j = i * 2 + 1 ∧ u = .string ⟨(l[i]).2.toArray⟩)
  | [], j, u, h => by simp [tcs] at h
  | t :: l, 0, u, h => ⟨0, by simp, .inl ⟨rfl, by rw [tcs_cons] at h; simpa using h.symm⟩⟩
  | t :: l, 1, u, h => ⟨0, by simp, .inr ⟨rfl, by rw [tcs_cons] at h; simpa using h.symm⟩⟩
  | t :: l, j + 2, u, h => by
    rw [tcs_cons] at h
    obtain ⟨i, hi, hh⟩ := tcs_split l j u (by simpa using h)
    refine ⟨i + 1, by simpa using hi, ?_⟩
    rcases hh with ⟨rfl, rfl⟩ | ⟨rfl, rfl⟩
    · exact .inl ⟨by omega, by simp⟩
    · exact .inr ⟨by omega, by simp⟩
theorem IsTs.rd {w : World} {v : Value} {n : Nat} {ID : Nat → Int} {T : Nat → ByteArray} (h : IsTs w v n ID T) : RdT w v (lst n ID T) := by
  rcases h with ⟨rfl, rfl⟩ | ⟨a, cap, rfl, hlt, hl, hm, hc⟩
  · exact ⟨none, 0, rfl, by simp [lst], by simp [maxLen], fun h0 => by simp [lst] at h0⟩
  · refine ⟨some a, cap, by rw [lst_length], by rw [lst_length]; exact hl, hm, fun h0 => ?_⟩
    rw [lst_length] at h0
    obtain ⟨b, off, spot⟩ := a
    have hc0 := (hc 0 h0).1
    have hspot : spot = none := by simpa [Addr.add] using World.cell?_spot hc0
    subst hspot
    refine ⟨b, off, rfl, hlt h0, fun j u hu => ?_⟩
    obtain ⟨i, hi, hh⟩ := tcs_split _ j u hu
    rw [lst_length] at hi
    obtain ⟨k1, k2, _, _⟩ := hc i hi
    rw [addr_add] at k1 k2
    rcases hh with ⟨rfl, rfl⟩ | ⟨rfl, rfl⟩
    · rw [lst_at]; exact k1
    · rw [lst_at]; simpa using k2

theorem tuple_info : (Tryz.prog.info? 39).map (fun i => (i.zero, i.size, i.bytes)) = some (some (.agg #[.int .i64 0, .string ⟨#[]⟩]), 2, 24) := by kernel_rfl
theorem wp_appT {w : World} {o : Oper} {a : Act} {K : Act → World → Prop} {Q : Exit → Act → World → Prop} (s x : Operand)
    (ho : o.op = .call { callee := .builtin .append, args := #[s, x], argTypes := #[35, 35] })
    (base g : Nat) (v : Value) (l : List Tp) (t : Tp) (hs : a.eval s = v) (hx : a.eval x = .slice (some ⟨g, 0, none⟩) 1 1) (hg : w.heap[g]? = some (.cells #[.int .i64 t.1, .string ⟨t.2.toArray⟩] 39 (0, 0))) (hown : OwnT w base v l)
    (hlen : l.length ≤ 1000000) (hbase : base ≤ w.heap.size)
    (h : ∀ v' w', OwnT w' base v' (l ++ [t]) → w.grownBy w' v.ownBlock → (v'.ownBlock = v.ownBlock ∨ v'.ownBlock = some w.heap.size) → K (a.put o.dst v') w') : o.wp Tryz.prog a w K Q := by
  obtain ⟨i0, hi, hz0, hz1, hz2⟩ := info_parts tuple_info
  have hreads : Reads w w.heap.size 2 (some ⟨g, 0, none⟩) 1 (tc t) := by
    refine ⟨rfl, fun _ => ⟨_, rfl, lt_at hg, fun j y hy => ?_⟩⟩
    rw [addr_add, cell_of_row w g _ _ 39 (0, 0) hg, Nat.zero_add]
    unfold tc at hy
    rcases j with _ | _ | j
    · simpa using hy
    · simpa using hy
    · simp at hy
  refine wp_append_any w s x 35 ho base 39 i0 _ 2 24 Tryz.underlying35 hi hz0 hz1 hz2 rfl (by omega) v l.length (tcs l) hs hown w.heap.size (some ⟨g, 0, none⟩) 1 1 (tc t) hx hreads (tcs_one [t]) (by simp only [maxLen]; omega) (by omega) hbase ?_
  intro v' w' k1 k2 k3
  refine h v' w' ?_ k2 k3
  unfold OwnT
  rw [tcs_append, List.length_append]
  exact k1
theorem rests_appT {ops : Array Oper} {Q : Exit → Act → World → Prop} {S : World → Prop} {fuel : Nat} {listed : Array Bool} {a : Act} {w : World} (i : Nat) {oi : Oper} (hi : ops[i]? = some oi) (s x : Operand)
    (hr : Region.ready .any ops listed = [i]) (hw : Region.wanted oi (yielded ops a.tmps) = true)
    (ho : oi.op = .call { callee := .builtin .append, args := #[s, x], argTypes := #[35, 35] })
    (base g : Nat) (v : Value) (l : List Tp) (t : Tp) (hs : a.eval s = v) (hx : a.eval x = .slice (some ⟨g, 0, none⟩) 1 1) (hg : w.heap[g]? = some (.cells #[.int .i64 t.1, .string ⟨t.2.toArray⟩] 39 (0, 0))) (hown : OwnT w base v l)
    (hlen : l.length ≤ 1000000) (hbase : base ≤ w.heap.size)
    (h : ∀ v' w', OwnT w' base v' (l ++ [t]) → w.grownBy w' v.ownBlock → (v'.ownBlock = v.ownBlock ∨ v'.ownBlock = some w.heap.size) → S w' ∧ RestS S Tryz.prog ops Q fuel (listed.setIfInBounds i true) (a.put oi.dst v') w') : RestS S Tryz.prog ops Q (fuel + 1) listed a w := by
  refine rests_step i hi hr hw ?_
  exact wp_appT s x ho base g v l t hs hx hg hown hlen hbase h
theorem RdT.reads {w : World} {v : Value} {l : List Tp} (h : RdT w v l) : ∃ A cap, v = .slice A l.length cap ∧ Reads w w.heap.size 2 A l.length (tcs l) := by
  obtain ⟨A, cap, rfl, h1, h2, h3⟩ := h
  refine ⟨A, cap, rfl, tcs_length l, fun hl => ?_⟩
  obtain ⟨b, off, rfl, hlt, hc⟩ := h3 hl
  refine ⟨_, rfl, hlt, fun j u hu => ?_⟩
  rw [addr_add]
  exact hc j u hu
end Go.Proofs.YtcmjdbljdkabpaaGreatDoor

/- The walks of the reference's parameters: Put. -/
namespace Go.Proofs.YtcmjdbljdkabpaaGreatDoor
open Go.RowKit M

def PutTP (l : List Tp) (w : World) (e : Ending) (w' : World) : Prop := e = .returned (.tuple #[.string ⟨((putT l).getD []).toArray⟩, .bool (putT l).isSome]) ∧ Below w.heap.size w w'
theorem putTP_none {l : List Tp} {w w' : World} (h : putT l = none) (hb : Below w.heap.size w w') : PutTP l w (.returned (.tuple #[.string ⟨#[]⟩, .bool false])) w' := by
  unfold PutTP; rw [h]; exact ⟨rfl, hb⟩
theorem putTP_some {l : List Tp} {s : ByteArray} {w w' : World} (h : putT l = some s.data.toList) (hb : Below w.heap.size w w') : PutTP l w (.returned (.tuple #[.string s, .bool true])) w' := by
  unfold PutTP; rw [h]; exact ⟨rfl, hb⟩
/-- k parameters were written. -/
def TRel (l : List Tp) (w : World) (k : Nat) (acc : ByteArray) (wr : World) : Prop := (∀ t ∈ l.take k, okT t) ∧ acc.data.toList = flat (l.take k) ∧ acc.size ≤ 42 * k ∧ Below w.heap.size w wr
theorem TRel.next {l : List Tp} {w wr w2 : World} {k : Nat} {acc T : ByteArray} {id : Int} (h : TRel l w k acc wr) (hk : k < l.length) (hi : (l[k]).1 = id) (ht : T = ⟨(l[k]).2.toArray⟩) (hok : okT l[k]) (hb : Below w.heap.size w w2) :
    TRel l w (k + 1) (acc ++ ((⟨[by8 id, by8 T.size].toArray⟩ : ByteArray) ++ T)) w2 := by
  obtain ⟨h1, h2, h3, _⟩ := h
  have hT : T.size = (l[k]).2.length := by subst ht; show ((l[k]).2.toArray).size = _; simp
  have hTl : T.data.toList = (l[k]).2 := by subst ht; simp
  have e : l.take (k + 1) = l.take k ++ [l[k]] := List.take_succ_eq_append_getElem hk
  refine ⟨?_, ?_, ?_, hb⟩
  · rw [e]
    intro t htm
    rcases List.mem_append.1 htm with hm | hm
    · exact h1 t hm
    · rw [List.mem_singleton.1 hm]; exact hok
  · rw [e, flat_append, ← h2]
    rw [ByteArray.data_append, ByteArray.data_append, Array.toList_append, Array.toList_append, hTl]
    show acc.data.toList ++ ([by8 id, by8 T.size] ++ (l[k]).2) = acc.data.toList ++ (tb l[k] ++ [])
    rw [List.append_nil]
    unfold tb by8
    rw [hi, hT, Int.toNat_natCast]
    rfl
  · have : (acc ++ ((⟨[by8 id, by8 T.size].toArray⟩ : ByteArray) ++ T)).size = acc.size + (2 + T.size) := by
      rw [ByteArray.size_append, ByteArray.size_append]; rfl
    rw [this]
    unfold okT at hok
    omega
theorem b2_cells {id : Int} {n : Nat} (h : 0 ≤ id ∧ id ≤ 255) (hn : n ≤ 255) : (#[.int .u8 id, .int .u8 n] : Array Value) = (bcs [by8 id, by8 n]).toArray := by
  show _ = (#[bc (by8 id), bc (by8 n)] : Array Value)
  rw [by8_bc (by omega), by8_bc (by omega)]

set_option maxRecDepth 100000 in
set_option maxHeartbeats 4000000 in
theorem RefPutT_any (v : Value) (l : List Tp) (w : World) (hr : RdT w v l) (hl : l.length ≤ 1000) (hz : ∀ t ∈ l, t.2.length ≤ 1000) : Calls Tryz.prog 60 #[v] w (PutTP l w) := by
  have hr2 := hr
  obtain ⟨A, cap, rfl, hcap, hcm, -⟩ := hr2
  have HR := Lib.hid hr
  have HZ := Lib.hid hz
  unfold maxLen at hcm
  clear hr hz
  go_enter Tryz.func60, Tryz.ntmps60
  go_wp2
  go_loopw [2, 3, 4, 5] (fun q2 q3 s i wr => q2 = .string ⟨#[]⟩ ∧ q3 = .bool false ∧ ∃ (k : Nat) (acc : ByteArray), k ≤ l.length ∧ i = .int .i64 k ∧ s = .string acc ∧ TRel l w k acc wr) (fun _ _ _ i _ => l.length - (intOf i).toNat)
  case atStart => exact ⟨rfl, rfl, 0, ⟨#[]⟩, by omega, rfl, rfl, fun t ht => by simp at ht, rfl, by decide, bel0 _⟩
  case round =>
    obtain ⟨rfl, rfl, k, acc, hk, rfl, rfl, hR⟩ := hrel
    have HT := Lib.hid hR
    have HB := Lib.hid hR.2.2.2
    have hacc := hR.2.2.1
    clear hR
    by_cases hlt : k < l.length
    · have td : decide ((k : Int) < (l.length : Int)) = true := decide_eq_true (by omega)
      obtain ⟨b, off, rfl, hbl, hc1, hc2⟩ := HR.out.at_ hlt
      obtain ⟨id, hid⟩ : ∃ id, (l[k]).1 = id := ⟨_, rfl⟩
      obtain ⟨T, hT⟩ : ∃ T : ByteArray, T = ⟨(l[k]).2.toArray⟩ := ⟨_, rfl⟩
      have hTs : T.size = (l[k]).2.length := by rw [hT]; show ((l[k]).2.toArray).size = _; simp
      have hTm := HZ.out l[k] (List.getElem_mem hlt)
      rw [← hTs] at hTm
      rw [hid] at hc1
      rw [← hT] at hc2
      have hbr : b < wr.heap.size := Nat.lt_of_lt_of_le hbl HB.out.size
      have d1 : wr.cell? ⟨b, off + k * 2, none⟩ = some (.int .i64 id) := (HB.out.cell (p := ⟨b, off + k * 2, none⟩) hbl).trans hc1
      have d2 : wr.cell? ⟨b, off + k * 2 + 1, none⟩ = some (.string T) := (HB.out.cell (p := ⟨b, off + k * 2 + 1, none⟩) hbl).trans hc2
      have HID := Lib.hid hid
      have HTT := Lib.hid hT
      have HTS := Lib.hid hTs
      clear hid hT hTs
      by_cases hok : 0 ≤ id ∧ id ≤ 255 ∧ T.size ≤ 40
      · have HOK : Hid (okT l[k]) := by show okT _; unfold okT; rw [HID.out, ← HTS.out]; exact hok
        obtain ⟨o1, o2, o3⟩ := hok
        have e1 : IntKind.u8.wrap id = id := IntWalk.u8_in _ (by omega)
        have e2 : IntKind.u8.wrap (T.size : Int) = (T.size : Int) := IntWalk.u8_in _ (by omega)
        have i1 : (k : Int) < (l.length : Int) := by omega
        have n1 : ¬ 9223372036854775807 < 2 + T.size := by omega
        have n2 : ¬ 9223372036854775807 < acc.size + (2 + T.size) := by omega
        go_wp2
        refine rests_begin (From w) (by kernel_rfl) ?_
        refine rests_take 0 (oi := _) (v := ?_) (by simp only [List.getElem?_toArray, List.getElem?_cons_zero]; rfl) (by kernel_rfl) (by kernel_rfl) (by kernel_rfl) (by exact fun _ _ _ h => h) (HB.out.drew) (by rfl) ?_ ?_; rotate_left; (· intro W HW; go_simp; try with_reducible rfl)
        simp only [Act.put, List.setIfInBounds_toArray, List.set_cons_zero, List.set_cons_succ]
        refine rests_take 1 (oi := _) (v := ?_) (by simp only [List.getElem?_toArray, List.getElem?_cons_succ, List.getElem?_cons_zero]; rfl) (by kernel_rfl) (by kernel_rfl) (by kernel_rfl) (by exact fun _ _ _ h => h) (HB.out.drew) (by rfl) ?_ ?_; rotate_left; (· intro W HW; go_simp; try with_reducible rfl)
        simp only [Act.put, List.setIfInBounds_toArray, List.set_cons_zero, List.set_cons_succ]
        refine rests_take 2 (oi := _) (v := ?_) (by simp only [List.getElem?_toArray, List.getElem?_cons_succ, List.getElem?_cons_zero]; rfl) (by kernel_rfl) (by kernel_rfl) (by kernel_rfl) (by exact fun _ _ _ h => h) (HB.out.drew) (by rfl) ?_ ?_; rotate_left; (· intro W HW; go_simp; try with_reducible rfl)
        simp only [Act.put, List.setIfInBounds_toArray, List.set_cons_zero, List.set_cons_succ]
        refine rests_take 3 (oi := _) (v := ?_) (by simp only [List.getElem?_toArray, List.getElem?_cons_succ, List.getElem?_cons_zero]; rfl) (by kernel_rfl) (by kernel_rfl) (by kernel_rfl) (by exact fun _ _ _ h => h) (HB.out.drew) (by rfl) ?_ ?_; rotate_left; (· intro W HW; go_simp; try with_reducible rfl)
        simp only [Act.put, List.setIfInBounds_toArray, List.set_cons_zero, List.set_cons_succ]
        refine rests_take 4 (oi := _) (v := ?_) (by simp only [List.getElem?_toArray, List.getElem?_cons_succ, List.getElem?_cons_zero]; rfl) (by kernel_rfl) (by kernel_rfl) (by kernel_rfl) (by exact fun _ _ _ h => h) (HB.out.drew) (by rfl) ?_ ?_; rotate_left; (· intro W HW; go_simp; try with_reducible rfl)
        simp only [Act.put, List.setIfInBounds_toArray, List.set_cons_zero, List.set_cons_succ]
        refine rests_take 5 (oi := _) (v := ?_) (by simp only [List.getElem?_toArray, List.getElem?_cons_succ, List.getElem?_cons_zero]; rfl) (by kernel_rfl) (by kernel_rfl) (by kernel_rfl) (by exact fun _ _ _ h => h) (HB.out.drew) (by rfl) ?_ ?_; rotate_left; (· intro W HW; have cw : W.cell? ⟨b, off + k * 2, none⟩ = some (.int .i64 id) := (HW.cell (p := ⟨b, off + k * 2, none⟩) hbl).trans hc1; go_simp; try with_reducible rfl)
        simp only [Act.put, List.setIfInBounds_toArray, List.set_cons_zero, List.set_cons_succ]
        refine rests_take 6 (oi := _) (v := ?_) (by simp only [List.getElem?_toArray, List.getElem?_cons_succ, List.getElem?_cons_zero]; rfl) (by kernel_rfl) (by kernel_rfl) (by kernel_rfl) (by exact fun _ _ _ h => h) (HB.out.drew) (by rfl) ?_ ?_; rotate_left; (· intro W HW; go_simp; try with_reducible rfl)
        simp only [Act.put, List.setIfInBounds_toArray, List.set_cons_zero, List.set_cons_succ]
        refine rests_take 7 (oi := _) (v := ?_) (by simp only [List.getElem?_toArray, List.getElem?_cons_succ, List.getElem?_cons_zero]; rfl) (by kernel_rfl) (by kernel_rfl) (by kernel_rfl) (by exact fun _ _ _ h => h) (HB.out.drew) (by rfl) ?_ ?_; rotate_left; (· intro W HW; go_simp; try with_reducible rfl)
        simp only [Act.put, List.setIfInBounds_toArray, List.set_cons_zero, List.set_cons_succ]
        refine rests_take 8 (oi := _) (v := ?_) (by simp only [List.getElem?_toArray, List.getElem?_cons_succ, List.getElem?_cons_zero]; rfl) (by kernel_rfl) (by kernel_rfl) (by kernel_rfl) (by exact fun _ _ _ h => h) (HB.out.drew) (by rfl) ?_ ?_; rotate_left; (· intro W HW; go_simp; try with_reducible rfl)
        simp only [Act.put, List.setIfInBounds_toArray, List.set_cons_zero, List.set_cons_succ]
        refine rests_take 9 (oi := _) (v := ?_) (by simp only [List.getElem?_toArray, List.getElem?_cons_succ, List.getElem?_cons_zero]; rfl) (by kernel_rfl) (by kernel_rfl) (by kernel_rfl) (by exact fun _ _ _ h => h) (HB.out.drew) (by rfl) ?_ ?_; rotate_left; (· intro W HW; go_simp; try with_reducible rfl)
        simp only [Act.put, List.setIfInBounds_toArray, List.set_cons_zero, List.set_cons_succ]
        refine rests_take 10 (oi := _) (v := ?_) (by simp only [List.getElem?_toArray, List.getElem?_cons_succ, List.getElem?_cons_zero]; rfl) (by kernel_rfl) (by kernel_rfl) (by kernel_rfl) (by exact fun _ _ _ h => h) (HB.out.drew) (by rfl) ?_ ?_; rotate_left; (· intro W HW; go_simp; try with_reducible rfl)
        simp only [Act.put, List.setIfInBounds_toArray, List.set_cons_zero, List.set_cons_succ]
        refine rests_take 11 (oi := _) (v := ?_) (by simp only [List.getElem?_toArray, List.getElem?_cons_succ, List.getElem?_cons_zero]; rfl) (by kernel_rfl) (by kernel_rfl) (by kernel_rfl) (by exact fun _ _ _ h => h) (HB.out.drew) (by rfl) ?_ ?_; rotate_left; (· intro W HW; have cw : W.cell? ⟨b, off + k * 2 + 1, none⟩ = some (.string T) := (HW.cell (p := ⟨b, off + k * 2 + 1, none⟩) hbl).trans hc2; go_simp; try with_reducible rfl)
        simp only [Act.put, List.setIfInBounds_toArray, List.set_cons_zero, List.set_cons_succ]
        refine rests_take 12 (oi := _) (v := ?_) (by simp only [List.getElem?_toArray, List.getElem?_cons_succ, List.getElem?_cons_zero]; rfl) (by kernel_rfl) (by kernel_rfl) (by kernel_rfl) (by exact fun _ _ _ h => h) (HB.out.drew) (by rfl) ?_ ?_; rotate_left; (· intro W HW; go_simp; try with_reducible rfl)
        simp only [Act.put, List.setIfInBounds_toArray, List.set_cons_zero, List.set_cons_succ]
        refine rests_take 13 (oi := _) (v := ?_) (by simp only [List.getElem?_toArray, List.getElem?_cons_succ, List.getElem?_cons_zero]; rfl) (by kernel_rfl) (by kernel_rfl) (by kernel_rfl) (by exact fun _ _ _ h => h) (HB.out.drew) (by rfl) ?_ ?_; rotate_left; (· intro W HW; go_simp; try with_reducible rfl)
        simp only [Act.put, List.setIfInBounds_toArray, List.set_cons_zero, List.set_cons_succ]
        refine rests_take 16 (oi := _) (v := ?_) (by simp only [List.getElem?_toArray, List.getElem?_cons_succ, List.getElem?_cons_zero]; rfl) (by kernel_rfl) (by kernel_rfl) (by kernel_rfl) (by exact fun _ _ _ h => h) (HB.out.drew) (by rfl) ?_ ?_; rotate_left; (· intro W HW; go_simp; try with_reducible rfl)
        simp only [Act.put, List.setIfInBounds_toArray, List.set_cons_zero, List.set_cons_succ]
        refine rests_take 17 (oi := _) (v := ?_) (by simp only [List.getElem?_toArray, List.getElem?_cons_succ, List.getElem?_cons_zero]; rfl) (by kernel_rfl) (by kernel_rfl) (by kernel_rfl) (by exact fun _ _ _ h => h) (HB.out.drew) (by rfl) ?_ ?_; rotate_left; (· intro W HW; go_simp; try with_reducible rfl)
        simp only [Act.put, List.setIfInBounds_toArray, List.set_cons_zero, List.set_cons_succ]
        refine rests_take 18 (oi := _) (v := ?_) (by simp only [List.getElem?_toArray, List.getElem?_cons_succ, List.getElem?_cons_zero]; rfl) (by kernel_rfl) (by kernel_rfl) (by kernel_rfl) (by exact fun _ _ _ h => h) (HB.out.drew) (by rfl) ?_ ?_; rotate_left; (· intro W HW; go_simp; try with_reducible rfl)
        simp only [Act.put, List.setIfInBounds_toArray, List.set_cons_zero, List.set_cons_succ]
        refine rests_take 19 (oi := _) (v := ?_) (by simp only [List.getElem?_toArray, List.getElem?_cons_succ, List.getElem?_cons_zero]; rfl) (by kernel_rfl) (by kernel_rfl) (by kernel_rfl) (by exact fun _ _ _ h => h) (HB.out.drew) (by rfl) ?_ ?_; rotate_left; (· intro W HW; go_simp; try with_reducible rfl)
        simp only [Act.put, List.setIfInBounds_toArray, List.set_cons_zero, List.set_cons_succ]
        refine rests_take 20 (oi := _) (v := ?_) (by simp only [List.getElem?_toArray, List.getElem?_cons_succ, List.getElem?_cons_zero]; rfl) (by kernel_rfl) (by kernel_rfl) (by kernel_rfl) (by exact fun _ _ _ h => h) (HB.out.drew) (by rfl) ?_ ?_; rotate_left; (· intro W HW; have cw : W.cell? ⟨b, off + k * 2 + 1, none⟩ = some (.string T) := (HW.cell (p := ⟨b, off + k * 2 + 1, none⟩) hbl).trans hc2; go_simp; try with_reducible rfl)
        simp only [Act.put, List.setIfInBounds_toArray, List.set_cons_zero, List.set_cons_succ]
        refine rests_run 14 (oi := _) (by simp only [List.getElem?_toArray, List.getElem?_cons_succ, List.getElem?_cons_zero]; rfl) (by kernel_rfl) (by rfl) (.slice (some ⟨wr.heap.size, 0, none⟩) 2 2) (wr.drew.alloc (.cells #[.int .u8 id, .int .u8 T.size] 5)) (by go_simp) ⟨bal HB.out.drew _, ?_⟩
        have HO := Lib.hid (Own.built wr.drew [by8 id, by8 T.size] 0 (by omega) (by simp [maxLen]))
        simp only [Act.put, List.setIfInBounds_toArray, List.set_cons_zero, List.set_cons_succ]
        refine rests_conv 15 (oi := _) (by simp only [List.getElem?_toArray, List.getElem?_cons_succ, List.getElem?_cons_zero]; rfl) (.tmp 49) _ [by8 id, by8 T.size] (by kernel_rfl) (by rfl) (bal HB.out.drew _) rfl rfl (by rw [b2_cells ⟨o1, o2⟩ (by omega)]; exact HO.out.rds) ?_
        simp only [Act.put, List.setIfInBounds_toArray, List.set_cons_zero, List.set_cons_succ]
        refine rests_take 21 (oi := _) (v := ?_) (by simp only [List.getElem?_toArray, List.getElem?_cons_succ, List.getElem?_cons_zero]; rfl) (by kernel_rfl) (by kernel_rfl) (by kernel_rfl) (by exact fun _ _ _ h => h) (bal HB.out.drew _) (by rfl) ?_ ?_; rotate_left; (· intro W HW; go_simp; try with_reducible rfl)
        simp only [Act.put, List.setIfInBounds_toArray, List.set_cons_zero, List.set_cons_succ]
        refine rests_take 22 (oi := _) (v := ?_) (by simp only [List.getElem?_toArray, List.getElem?_cons_succ, List.getElem?_cons_zero]; rfl) (by kernel_rfl) (by kernel_rfl) (by kernel_rfl) (by exact fun _ _ _ h => h) (bal HB.out.drew _) (by rfl) ?_ ?_; rotate_left; (· intro W HW; go_simp; try with_reducible rfl)
        simp only [Act.put, List.setIfInBounds_toArray, List.set_cons_zero, List.set_cons_succ]
        refine rests_take 23 (oi := _) (v := ?_) (by simp only [List.getElem?_toArray, List.getElem?_cons_succ, List.getElem?_cons_zero]; rfl) (by kernel_rfl) (by kernel_rfl) (by kernel_rfl) (by exact fun _ _ _ h => h) (bal HB.out.drew _) (by rfl) ?_ ?_; rotate_left; (· intro W HW; go_simp; try with_reducible rfl)
        simp only [Act.put, List.setIfInBounds_toArray, List.set_cons_zero, List.set_cons_succ]
        refine rests_done (by kernel_rfl) ?_
        go_wp2
        go_roundw
        case rel => exact ⟨rfl, rfl, k + 1, _, by omega, by go_num, rfl, HT.out.next hlt HID.out HTT.out HOK.out (bal HB.out.drew _)⟩
        case measure => simp [intOf]; omega
      · have HN : Hid (putT l = none) := by
          show putT l = none
          unfold putT
          rw [if_neg]
          intro hh
          have := hh.1 l[k] (List.getElem_mem hlt)
          unfold okT at this
          rw [HID.out, ← HTS.out] at this
          exact hok this
        rcases (show id < 0 ∨ (0 ≤ id ∧ 255 < id) ∨ (0 ≤ id ∧ id ≤ 255 ∧ 40 < T.size) by omega) with h | ⟨h, h2⟩ | ⟨h, h2, h3⟩
        all_goals
          clear hok
          go_wp2
          go_ret2
          exact putTP_none HN.out HB.out
    · obtain rfl : k = l.length := by omega
      have td : decide ((l.length : Int) < (l.length : Int)) = false := decide_eq_false (by omega)
      have hflat : acc.data.toList = flat l := by have := HT.out.2.1; rwa [List.take_length] at this
      have hall : ∀ t ∈ l, okT t := by have := HT.out.1; rwa [List.take_length] at this
      have hsz : acc.size = (flat l).length := by rw [← hflat, Array.length_toList]; rfl
      by_cases h64 : acc.size ≤ 64
      · have HP : Hid (putT l = some acc.data.toList) := by
          show putT l = _
          unfold putT
          rw [if_pos ⟨hall, by omega⟩, hflat]
        clear hflat hall hsz
        go_wp2
        go_ret2
        exact putTP_some HP.out HB.out
      · have HP : Hid (putT l = none) := by
          show putT l = _
          unfold putT
          rw [if_neg (fun hh => by have := hh.2; omega)]
        clear hflat hall hsz
        go_wp2
        go_ret2
        exact putTP_none HP.out HB.out
end Go.Proofs.YtcmjdbljdkabpaaGreatDoor

/- The walks of the reference's parameters: Get. -/
namespace Go.Proofs.YtcmjdbljdkabpaaGreatDoor
open Go.RowKit M

/-- What makes parameters, and says whether they are. -/
def GetTP (s : List UInt8) (w : World) (e : Ending) (w' : World) : Prop := ∃ v, e = .returned (.tuple #[v, .bool (getT s).isSome]) ∧ OwnT w' w.heap.size v ((getT s).getD []) ∧ Below w.heap.size w w'
theorem getTP_none {s : List UInt8} {w w' : World} (h : getT s = none) (hb : Below w.heap.size w w') : GetTP s w (.returned (.tuple #[.slice none 0 0, .bool false])) w' := by
  unfold GetTP; rw [h]; exact ⟨_, rfl, OwnT.nil_ _ _, hb⟩
theorem getTP_some {s : List UInt8} {l : List Tp} {v : Value} {w w' : World} (h : getT s = some l) (ho : OwnT w' w.heap.size v l) (hb : Below w.heap.size w w') : GetTP s w (.returned (.tuple #[v, .bool true])) w' := by
  unfold GetTP; rw [h]; exact ⟨_, rfl, ho, hb⟩

/-- What is still to be read, and what was. -/
def XRel (s : List UInt8) (w : World) (r : ByteArray) (v : Value) (acc : List Tp) (wr : World) : Prop :=
  getL s = (getL r.data.toList).map (acc ++ ·) ∧ r.size ≤ 64 ∧ acc.length + r.size ≤ 64 ∧ OwnT wr w.heap.size v acc ∧ Below w.heap.size w wr
theorem ba_len (r : ByteArray) : r.data.toList.length = r.size := by rw [Array.length_toList]; rfl
theorem ba_two {r : ByteArray} (h : 1 < r.size) : ∃ q, r.data.toList = r[0] :: r[1] :: q ∧ q.length = r.size - 2 := by
  have hl := ba_len r
  match hq : r.data.toList with
  | [] => rw [hq] at hl; simp at hl; omega
  | [a] => rw [hq] at hl; simp at hl; omega
  | a :: b :: q =>
    rw [hq] at hl
    have h0 : r[0] = a := by
      show r.data[0]'(show 0 < r.size by omega) = a
      rw [← Array.getElem_toList]
      simp [hq]
    have h1 : r[1] = b := by
      show r.data[1]'h = b
      rw [← Array.getElem_toList]
      simp [hq]
    exact ⟨q, by rw [h0, h1], by simp at hl; omega⟩
theorem ba_ext (r : ByteArray) (a b : Nat) : (r.extract a b).data.toList = (r.data.toList.drop a).take (b - a) := by
  rw [ByteArray.data_extract, Array.toList_extract]
theorem XRel.next {s : List UInt8} {w wr w2 : World} {r : ByteArray} {v v2 : Value} {acc : List Tp} {a n : UInt8} {q : List UInt8} (h : XRel s w r v acc wr) (hr : r.data.toList = a :: n :: q) (hq : q.length = r.size - 2) (hp : 1 < r.size) (h40 : n.toNat ≤ 40) (hn : n.toNat ≤ q.length)
    (ho : OwnT w2 w.heap.size v2 (acc ++ [((a.toNat : Int), (r.extract 2 (2 + n.toNat)).data.toList)])) (hb : Below w.heap.size w w2) : XRel s w (r.extract (2 + n.toNat) r.size) v2 (acc ++ [((a.toNat : Int), (r.extract 2 (2 + n.toNat)).data.toList)]) w2 := by
  obtain ⟨h1, h2, h3, _, _⟩ := h
  have e1 : (r.extract 2 (2 + n.toNat)).data.toList = q.take n.toNat := by rw [ba_ext, hr]; simp
  have e2 : (r.extract (2 + n.toNat) r.size).data.toList = q.drop n.toNat := by
    rw [ba_ext, hr, show 2 + n.toNat = n.toNat + 1 + 1 by omega, List.drop_succ_cons, List.drop_succ_cons]
    exact List.take_of_length_le (by rw [List.length_drop]; omega)
  have e3 : (r.extract (2 + n.toNat) r.size).size = r.size - (2 + n.toNat) := by rw [ByteArray.size_extract]; omega
  refine ⟨?_, by omega, by rw [List.length_append, e3]; simp; omega, ho, hb⟩
  rw [h1, hr, getL_two, if_neg (by omega), e1, e2]
  cases getL (q.drop n.toNat) <;> simp

set_option maxRecDepth 100000 in
set_option maxHeartbeats 8000000 in
theorem RefGetT_any (s : ByteArray) (w : World) (hs : s.size ≤ maxLen) : Calls Tryz.prog 40 #[.string s] w (GetTP s.data.toList w) := by
  have hsl := ba_len s
  unfold maxLen at hs
  by_cases h64 : s.size ≤ 64
  · have HG : Hid (getT s.data.toList = getL s.data.toList) := by show getT _ = _; unfold getT; rw [if_pos (by omega)]
    have td0 : decide ((64 : Int) < (s.size : Int)) = false := decide_eq_false (by omega)
    clear hsl
    go_enter Tryz.func40, Tryz.ntmps40
    go_wp2
    go_loopw [0, 2, 3, 4] (fun q0 q2 q3 q4 wr => q2 = .slice none 0 0 ∧ q3 = .bool false ∧ ∃ (r : ByteArray) (acc : List Tp), q0 = .string r ∧ XRel s.data.toList w r q4 acc wr) (fun q0 _ _ _ _ => match q0 with | .string r => r.size | _ => 0)
    case atStart => exact ⟨rfl, rfl, s, [], rfl, by simp, h64, by simpa using h64, OwnT.nil_ _ _, bel0 _⟩
    case round =>
      obtain ⟨rfl, rfl, r, acc, rfl, hR⟩ := hrel
      have HR := Lib.hid hR
      obtain ⟨hgl, hr64, hacc, ho, hb⟩ := hR
      obtain ⟨A, cap, rfl, hcap, hcm⟩ := ho.shape
      have HO := Lib.hid ho
      have HB := Lib.hid hb
      have HGL := Lib.hid hgl
      clear ho hb hgl
      by_cases h0 : r.size = 0
      · have hnil : r.data.toList = [] := List.eq_nil_of_length_eq_zero (by rw [ba_len]; exact h0)
        have e0 : r.toList.isEmpty = true := by rw [ByteArray.toList_eq, hnil]; rfl
        have HT : Hid (getT s.data.toList = some acc) := by
          show getT _ = _
          rw [HG.out, HGL.out, hnil, getL_nil]; simp
        clear hnil h0
        go_wp2
        go_ret2
        exact getTP_some HT.out HO.out HB.out
      · have e0 : r.toList.isEmpty = false := by
          rw [ByteArray.toList_eq, List.isEmpty_eq_false_iff]
          intro e
          have := congrArg List.length e
          rw [ba_len] at this
          exact h0 this
        by_cases h1 : r.size = 1
        · have HT : Hid (getT s.data.toList = none) := by
            show getT _ = _
            rw [HG.out, HGL.out]
            have hl := ba_len r
            match hq : r.data.toList, hl with
            | [], hl => simp at hl; omega
            | [a], _ => rw [getL_one]; rfl
            | a :: b :: q, hl => simp at hl; omega
          have h2 : r.size < 2 := by omega
          clear h0 h1
          go_wp2
          go_ret2
          exact getTP_none HT.out HB.out
        · have hp1 : 1 < r.size := by omega
          have hp0 : 0 < r.size := by omega
          obtain ⟨q, hq, hql⟩ := ba_two hp1
          obtain ⟨n, hn⟩ : ∃ n, r[1] = n := ⟨_, rfl⟩
          obtain ⟨a, ha⟩ : ∃ a, r[0] = a := ⟨_, rfl⟩
          rw [hn, ha] at hq
          have hnl := n.toNat_lt
          have hal := a.toNat_lt
          have HQ := Lib.hid hq
          clear h0 h1 hq
          by_cases hbad : 40 < n.toNat ∨ q.length < n.toNat
          · have HT : Hid (getT s.data.toList = none) := by
              show getT _ = _
              rw [HG.out, HGL.out, HQ.out, getL_two, if_pos hbad]; rfl
            rcases (show 40 < n.toNat ∨ (n.toNat ≤ 40 ∧ q.length < n.toNat) by omega) with h | ⟨h, h2⟩
            · clear hbad
              go_wp2
              go_ret2
              exact getTP_none HT.out HB.out
            · clear hbad
              have h3 : (r.size : Int) - 2 < (n.toNat : Int) := by omega
              go_wp2
              go_ret2
              exact getTP_none HT.out HB.out
          · have h40 : n.toNat ≤ 40 := by omega
            have hnq : n.toNat ≤ q.length := by omega
            have h3 : ¬ (r.size : Int) - 2 < (n.toNat : Int) := by omega
            clear hbad
            have w1 : IntKind.i64.wrap (a.toNat : Int) = (a.toNat : Int) := IntWalk.i64_in _ (by omega)
            have w2 : IntKind.i64.wrap (n.toNat : Int) = (n.toNat : Int) := IntWalk.i64_in _ (by omega)
            have w3 : IntKind.i64.wrap (2 + (n.toNat : Int)) = 2 + (n.toNat : Int) := IntWalk.i64_in _ (by omega)
            have w4 : (2 + (n.toNat : Int)).toNat = 2 + n.toNat := by omega
            have w5 : 2 + n.toNat ≤ r.size := by omega
            have w6 : (0 : Int) ≤ 2 + (n.toNat : Int) := by omega
            have w7 : 2 + (n.toNat : Int) ≤ (r.size : Int) := by omega
            have w8 : (2 : Int) ≤ 2 + (n.toNat : Int) := by omega
            go_wp2
            refine rests_begin (From w) (by kernel_rfl) ?_
            refine rests_take 0 (oi := _) (v := ?_) (by simp only [List.getElem?_toArray, List.getElem?_cons_zero]; rfl) (by kernel_rfl) (by kernel_rfl) (by kernel_rfl) (by exact fun _ _ _ h => h) (HB.out.drew) (by rfl) ?_ ?_; rotate_left; (· intro W HW; go_simp; try with_reducible rfl)
            simp only [Act.put, List.setIfInBounds_toArray, List.set_cons_zero, List.set_cons_succ]
            refine rests_take 1 (oi := _) (v := ?_) (by simp only [List.getElem?_toArray, List.getElem?_cons_succ, List.getElem?_cons_zero]; rfl) (by kernel_rfl) (by kernel_rfl) (by kernel_rfl) (by exact fun _ _ _ h => h) (HB.out.drew) (by rfl) ?_ ?_; rotate_left; (· intro W HW; go_simp; try with_reducible rfl)
            simp only [Act.put, List.setIfInBounds_toArray, List.set_cons_zero, List.set_cons_succ]
            refine rests_take 2 (oi := _) (v := ?_) (by simp only [List.getElem?_toArray, List.getElem?_cons_succ, List.getElem?_cons_zero]; rfl) (by kernel_rfl) (by kernel_rfl) (by kernel_rfl) (by exact fun _ _ _ h => h) (HB.out.drew) (by rfl) ?_ ?_; rotate_left; (· intro W HW; go_simp; try with_reducible rfl)
            simp only [Act.put, List.setIfInBounds_toArray, List.set_cons_zero, List.set_cons_succ]
            refine rests_take 3 (oi := _) (v := ?_) (by simp only [List.getElem?_toArray, List.getElem?_cons_succ, List.getElem?_cons_zero]; rfl) (by kernel_rfl) (by kernel_rfl) (by kernel_rfl) (by exact fun _ _ _ h => h) (HB.out.drew) (by rfl) ?_ ?_; rotate_left; (· intro W HW; go_simp; try with_reducible rfl)
            simp only [Act.put, List.setIfInBounds_toArray, List.set_cons_zero, List.set_cons_succ]
            refine rests_take 4 (oi := _) (v := ?_) (by simp only [List.getElem?_toArray, List.getElem?_cons_succ, List.getElem?_cons_zero]; rfl) (by kernel_rfl) (by kernel_rfl) (by kernel_rfl) (by exact fun _ _ _ h => h) (HB.out.drew) (by rfl) ?_ ?_; rotate_left; (· intro W HW; go_simp; try with_reducible rfl)
            simp only [Act.put, List.setIfInBounds_toArray, List.set_cons_zero, List.set_cons_succ]
            refine rests_take 5 (oi := _) (v := ?_) (by simp only [List.getElem?_toArray, List.getElem?_cons_succ, List.getElem?_cons_zero]; rfl) (by kernel_rfl) (by kernel_rfl) (by kernel_rfl) (by exact fun _ _ _ h => h) (HB.out.drew) (by rfl) ?_ ?_; rotate_left; (· intro W HW; go_simp; try with_reducible rfl)
            simp only [Act.put, List.setIfInBounds_toArray, List.set_cons_zero, List.set_cons_succ]
            refine rests_take 6 (oi := _) (v := ?_) (by simp only [List.getElem?_toArray, List.getElem?_cons_succ, List.getElem?_cons_zero]; rfl) (by kernel_rfl) (by kernel_rfl) (by kernel_rfl) (by exact fun _ _ _ h => h) (HB.out.drew) (by rfl) ?_ ?_; rotate_left; (· intro W HW; go_simp; try with_reducible rfl)
            simp only [Act.put, List.setIfInBounds_toArray, List.set_cons_zero, List.set_cons_succ]
            refine rests_take 7 (oi := _) (v := ?_) (by simp only [List.getElem?_toArray, List.getElem?_cons_succ, List.getElem?_cons_zero]; rfl) (by kernel_rfl) (by kernel_rfl) (by kernel_rfl) (by exact fun _ _ _ h => h) (HB.out.drew) (by rfl) ?_ ?_; rotate_left; (· intro W HW; go_simp; try with_reducible rfl)
            simp only [Act.put, List.setIfInBounds_toArray, List.set_cons_zero, List.set_cons_succ]
            refine rests_take 8 (oi := _) (v := ?_) (by simp only [List.getElem?_toArray, List.getElem?_cons_succ, List.getElem?_cons_zero]; rfl) (by kernel_rfl) (by kernel_rfl) (by kernel_rfl) (by exact fun _ _ _ h => h) (HB.out.drew) (by rfl) ?_ ?_; rotate_left; (· intro W HW; go_simp; try with_reducible rfl)
            simp only [Act.put, List.setIfInBounds_toArray, List.set_cons_zero, List.set_cons_succ]
            refine rests_take 9 (oi := _) (v := ?_) (by simp only [List.getElem?_toArray, List.getElem?_cons_succ, List.getElem?_cons_zero]; rfl) (by kernel_rfl) (by kernel_rfl) (by kernel_rfl) (by exact fun _ _ _ h => h) (HB.out.drew) (by rfl) ?_ ?_; rotate_left; (· intro W HW; go_simp; try with_reducible rfl)
            simp only [Act.put, List.setIfInBounds_toArray, List.set_cons_zero, List.set_cons_succ]
            refine rests_take 10 (oi := _) (v := ?_) (by simp only [List.getElem?_toArray, List.getElem?_cons_succ, List.getElem?_cons_zero]; rfl) (by kernel_rfl) (by kernel_rfl) (by kernel_rfl) (by exact fun _ _ _ h => h) (HB.out.drew) (by rfl) ?_ ?_; rotate_left; (· intro W HW; go_simp; try with_reducible rfl)
            simp only [Act.put, List.setIfInBounds_toArray, List.set_cons_zero, List.set_cons_succ]
            refine rests_run 11 (oi := _) (by simp only [List.getElem?_toArray, List.getElem?_cons_succ, List.getElem?_cons_zero]; rfl) (by kernel_rfl) (by rfl) (.slice (some ⟨wr.heap.size, 0, none⟩) 1 1) (wr.drew.alloc (.cells #[.int .i64 (a.toNat : Int), .string (r.extract 2 (2 + n.toNat))] 39)) (by go_simp) ⟨bal HB.out.drew _, ?_⟩
            simp only [Act.put, List.setIfInBounds_toArray, List.set_cons_zero, List.set_cons_succ]
            refine rests_appT 12 (oi := _) (by simp only [List.getElem?_toArray, List.getElem?_cons_succ, List.getElem?_cons_zero]; rfl) (.tmp 27) (.tmp 38) (by kernel_rfl) (by rfl) rfl w.heap.size wr.heap.size (.slice A acc.length cap) acc ((a.toNat : Int), (r.extract 2 (2 + n.toNat)).data.toList) rfl rfl (heap_alloc_new wr.drew _) (HO.out.below (bal (bel0 wr).drew _)) (by omega) (bal HB.out.drew _).size ?_
            intro v2 wz ho2 hg2 hat2; have hbz : Below w.heap.size w wz := (bal HB.out.drew _).grown hg2 (bal HB.out.drew _).size (fun k hk => (HO.out.lt k hk).1); refine ⟨hbz, ?_⟩; have HBZ := Lib.hid hbz; have HOZ := Lib.hid ho2; obtain ⟨A2, cap2, rfl, _, _⟩ := ho2.shape; clear ho2 hg2 hat2 hbz
            simp only [Act.put, List.setIfInBounds_toArray, List.set_cons_zero, List.set_cons_succ]
            refine rests_take 13 (oi := _) (v := ?_) (by simp only [List.getElem?_toArray, List.getElem?_cons_succ, List.getElem?_cons_zero]; rfl) (by kernel_rfl) (by kernel_rfl) (by kernel_rfl) (by exact fun _ _ _ h => h) (HBZ.out) (by rfl) ?_ ?_; rotate_left; (· intro W HW; go_simp; try with_reducible rfl)
            simp only [Act.put, List.setIfInBounds_toArray, List.set_cons_zero, List.set_cons_succ]
            refine rests_done (by kernel_rfl) ?_
            go_wp2
            go_roundw
            case rel => exact ⟨rfl, rfl, _, _, rfl, HR.out.next HQ.out hql hp1 h40 hnq (by have hz := HOZ.out; rw [List.length_append] at hz; exact hz) HBZ.out⟩
            case measure => simp [ByteArray.size_extract]; omega
  · have HT : Hid (getT s.data.toList = none) := by show getT _ = _; unfold getT; rw [if_neg (by omega)]
    clear hsl
    go_enter Tryz.func40, Tryz.ntmps40
    go_wp2
    go_ret2
    exact getTP_none HT.out (bel0 _)
end Go.Proofs.YtcmjdbljdkabpaaGreatDoor

/- The walks of the laws' few and eq. -/
namespace Go.Proofs.YtcmjdbljdkabpaaGreatDoor
open Go.RowKit M

end Go.Proofs.YtcmjdbljdkabpaaGreatDoor
