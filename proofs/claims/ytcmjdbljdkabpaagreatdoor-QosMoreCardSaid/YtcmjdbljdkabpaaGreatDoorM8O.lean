/- Of layer 8: MkB, CutM, TupE, FreshM, RowB. -/
import Derived.Test.YtcmjdbljdkabpaaGreatDoorM8M
import Derived.Test.YtcmjdbljdkabpaaGreatDoorM8B
import Derived.Test.YtcmjdbljdkabpaaGreatDoorM4A
import Derived.Test.YtcmjdbljdkabpaaGreatDoorM4B
import Derived.Test.YtcmjdbljdkabpaaGreatDoorM8A
import Derived.Test.YtcmjdbljdkabpaaGreatDoorM4I
import Derived.Laws.CopyOwn
import Derived.Laws.MakeOwn

set_option linter.all false

namespace Go.Proofs.YtcmjdbljdkabpaaGreatDoor
open Go.RowKit M

theorem zeros_bcs (n : Nat) : madeCells (Value.int .u8 0).cells (n * 1) = (bcs (List.replicate n 0)).toArray := by
  apply Array.ext
  · rw [size_madeCells, Nat.mul_one]; simp [bcs_length]
  · intro i h1 h2
    simp [madeCells, bcs, bc, Value.cells, Nat.mod_one]
theorem wpList_makeB {w : World} {ops : Array Oper} {rest : List Oper} {o : Oper} {a : Act} {Q : Exit → Act → World → Prop} (hgd : o.guard = none) (x y : Operand) (ho : o.op = .makeSlice 46 x y)
    (kl kc : IntKind) (n : Nat) (hx : a.eval x = .int kl (n : Int)) (hy : a.eval y = .int kc (n : Int)) (hn : n ≤ 1000000)
    (h : ∀ w', Below w.heap.size w w' → w'.heap[w.heap.size]? = some (.cells (bcs (List.replicate n 0)).toArray 5 (0, 0)) → wpList Tryz.prog ops Q rest (a.put o.dst (.slice (some ⟨w.heap.size, 0, none⟩) n n)) w') : wpList Tryz.prog ops Q (o :: rest) a w := by
  obtain ⟨i0, hi, hz0, hz1, hz2⟩ := info_parts byte_info
  have hm := run_make (P := Tryz.prog) w 46 5 i0 (.int .u8 0) Tryz.underlying46 hi hz0 kl kc (n : Int) (n : Int) (by omega) (by omega) (by rw [hz2]; omega) (by omega)
  rw [hz1] at hm
  refine wpList_plain hgd fun K hK => ?_
  have hr : (execOp a.eval o).run Tryz.prog w = .ok (.value (.slice (some ⟨w.heap.size, 0, none⟩) n n)) (w.alloc (.cells (bcs (List.replicate n 0)).toArray 5)) := by
    rw [← zeros_bcs]
    simp only [execOp, ho, hx, hy, Sem.run_bind, hm, Result.andThen_ok, Sem.run_pure, Int.toNat_natCast]
  unfold Oper.wp
  rw [hr, Oper.upon_value]
  exact hK _ _ (h _ (bal (bel0 w) _) (heap_alloc_new w _))
theorem wpList_copyX {w : World} {ops : Array Oper} {rest : List Oper} {o : Oper} {a : Act} {Q : Exit → Act → World → Prop} (hgd : o.guard = none) (d s : Operand)
    (ho : o.op = .call { callee := .builtin .copy, args := #[d, s], argTypes := #[46, 46] }) (g n base : Nat) (w0 : World) (X : List UInt8) (u : Value) (m : List UInt8)
    (hd : a.eval d = .slice (some ⟨g, 0, none⟩) n n) (hs : a.eval s = u) (hg : w.heap[g]? = some (.cells (bcs X).toArray 5 (0, 0))) (hX : X.length = n) (hr : Rds w u m) (hb : Below base w0 w) (hbg : base ≤ g)
    (h : ∀ w' Y c, Y.length = n → w'.heap[g]? = some (.cells (bcs Y).toArray 5 (0, 0)) → Below base w0 w' → wpList Tryz.prog ops Q rest (a.put o.dst (goInt c)) w') : wpList Tryz.prog ops Q (o :: rest) a w := by
  obtain ⟨A, cap, rfl, hreads⟩ := hr.reads
  have hl : (bcs (m.take n)).length = Nat.min m.length n := by
    rw [bcs_length, List.length_take]
    exact Nat.min_comm _ _
  have hmin : Nat.min m.length n ≤ n := Nat.min_le_right _ _
  refine wpList_copy_splice hgd d s 46 46 ho 5 Tryz.underlying46 byte_infoS _ A n n m.length cap hd hs g 0 (bcs X) 5 hg (bcs (m.take n)) hl (fun hp => ⟨rfl, ?_⟩) (by rw [hl, bcs_length, hX]; omega) (bcs_one _) base w0 hb hbg ?_
  · have hml : 0 < m.length := by
      rw [hl] at hp
      have : Nat.min m.length n ≤ m.length := Nat.min_le_left _ _
      omega
    obtain ⟨ad, h1, _, h2⟩ := hreads.2 hml
    refine ⟨ad, h1, fun j v hv => h2 j v ?_⟩
    have hj : j < (bcs (m.take n)).length := (List.getElem?_eq_some_iff.1 hv).1
    rw [hl] at hj
    have hjn : j < n := by omega
    unfold bcs at hv ⊢
    rw [List.map_take, List.getElem?_take, if_pos hjn] at hv
    exact hv
  · intro w' hh hb'
    have hh := hh.out
    have e : splice (bcs X) 0 (bcs (m.take n)) = bcs (m.take n ++ X.drop (m.take n).length) := by
      unfold splice bcs
      simp
    rw [e] at hh
    refine h w' _ _ ?_ hh hb'
    rw [List.length_append, List.length_drop, List.length_take, hX]
    omega
theorem bcs_set (Y : List UInt8) (i : Nat) (c : UInt8) : ((bcs Y).toArray).setIfInBounds i (bc c) = (bcs (Y.set i c)).toArray := by
  rw [List.setIfInBounds_toArray]
  congr 1
  unfold bcs
  rw [List.map_set]
theorem cwrap1_len (Y : List UInt8) : 3 ≤ (cwrap Y 1).length ∧ (cwrap Y 1).length ≤ 2 * Y.length + 7 := by
  have h := cesc_length (cput Y)
  have hc : (cput Y).length = Y.length + 2 := by unfold cput; simp
  have e : extras 1 = 1 := by decide
  unfold cwrap
  rw [e]
  simp only [List.length_append, List.length_replicate, List.length_cons, List.length_nil]
  omega
theorem frame_fits {i j : Int} (hi : 0 ≤ i ∧ i ≤ 3) (hj : 0 ≤ j ∧ j ≤ 3) : 2 * (sizeQ i + 3) + 7 ≤ frameM (sizeQ i) (baud j) * baud j := by
  rcases (show i = 0 ∨ i = 1 ∨ i = 2 ∨ i = 3 by omega) with rfl | rfl | rfl | rfl <;> rcases (show j = 0 ∨ j = 1 ∨ j = 2 ∨ j = 3 by omega) with rfl | rfl | rfl | rfl <;> decide
end Go.Proofs.YtcmjdbljdkabpaaGreatDoor

namespace Go.Proofs.YtcmjdbljdkabpaaGreatDoor
open Go.RowKit M

/-- The first k, each text no longer than n. -/
def cutT (n : Nat) (l : List Tp) (k : Nat) : List Tp := (l.take k).map fun t => ((t.1, t.2.take n) : Tp)
theorem cutT_len {n : Nat} {l : List Tp} {k : Nat} (h : k ≤ l.length) : (cutT n l k).length = k := by unfold cutT; rw [List.length_map, List.length_take]; omega
theorem cutT_small {n : Nat} {l : List Tp} {k : Nat} : ∀ t ∈ cutT n l k, t.2.length ≤ n := by
  intro t ht
  unfold cutT at ht
  obtain ⟨u, _, rfl⟩ := List.mem_map.1 ht
  simp only [List.length_take]; omega
theorem cutT_succ {n : Nat} {l : List Tp} {k : Nat} (h : k < l.length) : cutT n l (k + 1) = cutT n l k ++ [((l[k]).1, (l[k]).2.take n)] := by
  unfold cutT
  rw [List.take_succ_eq_append_getElem h, List.map_append]
  rfl
theorem cut_n (n : Nat) (l : List UInt8) : (⟨l.toArray⟩ : ByteArray).extract 0 (min (⟨l.toArray⟩ : ByteArray).size n) = ⟨(l.take n).toArray⟩ := by
  have hs : (⟨l.toArray⟩ : ByteArray).size = l.length := by show l.toArray.size = _; simp
  have : ((⟨l.toArray⟩ : ByteArray).extract 0 (min (⟨l.toArray⟩ : ByteArray).size n)).data.toList = l.take n := by
    rw [ba_ext, hs]
    simp only [List.drop_zero, Nat.sub_zero]
    by_cases h : l.length ≤ n
    · rw [Nat.min_eq_left h, List.take_length, List.take_of_length_le h]
    · rw [Nat.min_eq_right (by omega)]
  rw [← this]
theorem flat_le {n : Nat} : ∀ (l : List Tp), (∀ t ∈ l, t.2.length ≤ n) → (flat l).length ≤ l.length * (n + 2)
  | [], _ => by simp [flat_nil]
  | t :: l, h => by
    have h1 := flat_le l (fun u hu => h u (List.mem_cons_of_mem _ hu))
    have h2 := h t (List.mem_cons_self ..)
    rw [flat_cons, List.length_append, tb_len, List.length_cons, Nat.add_mul]
    omega
/-- Without one of the five there is no offer. -/
theorem getO_drop {o : Of5} {d : Nat} (hd : d < 5) : getO ((bytesO o).take (3 * d) ++ (bytesO o).drop (3 * d + 3)) = none := by
  have key : ∀ l' : List Tp, (∀ t ∈ l', t ∈ fiveT o) → flat l' = (bytesO o).take (3 * d) ++ (bytesO o).drop (3 * d + 3) → (∀ t ∈ l', t.1 ≠ (d : Int) + 1) → getO ((bytesO o).take (3 * d) ++ (bytesO o).drop (3 * d + 3)) = none := by
    intro l' h1 h2 h3
    rw [← h2]
    unfold getO getT
    have hl : (flat l').length ≤ 64 := by
      rw [h2, List.length_append, List.length_take, List.length_drop]
      simp [bytesO]
      omega
    rw [if_pos hl, getL_flat (fun t ht => five_ok o t (h1 t ht))]
    simp only [Option.bind_some]
    rw [if_neg]
    intro hm
    have h0 : valT l' ((d : Int) + 1) = 0 := by
      unfold valT
      rw [fnd1_none h3]
    have hp := mayO_parts hm
    unfold offerT at hp
    simp only at hp
    rcases (show d = 0 ∨ d = 1 ∨ d = 2 ∨ d = 3 ∨ d = 4 by omega) with rfl | rfl | rfl | rfl | rfl <;> (simp at h0; omega)
  rcases (show d = 0 ∨ d = 1 ∨ d = 2 ∨ d = 3 ∨ d = 4 by omega) with rfl | rfl | rfl | rfl | rfl
  · exact key ((fiveT o).drop 1) (fun t ht => List.mem_of_mem_drop ht) rfl (by intro t ht; simp [fiveT] at ht; rcases ht with rfl | rfl | rfl | rfl <;> simp)
  · exact key ((fiveT o).take 1 ++ (fiveT o).drop 2) (fun t ht => (List.mem_append.1 ht).elim List.mem_of_mem_take List.mem_of_mem_drop) rfl (by intro t ht; simp [fiveT] at ht; rcases ht with rfl | rfl | rfl | rfl <;> simp)
  · exact key ((fiveT o).take 2 ++ (fiveT o).drop 3) (fun t ht => (List.mem_append.1 ht).elim List.mem_of_mem_take List.mem_of_mem_drop) rfl (by intro t ht; simp [fiveT] at ht; rcases ht with rfl | rfl | rfl | rfl <;> simp)
  · exact key ((fiveT o).take 3 ++ (fiveT o).drop 4) (fun t ht => (List.mem_append.1 ht).elim List.mem_of_mem_take List.mem_of_mem_drop) rfl (by intro t ht; simp [fiveT] at ht; rcases ht with rfl | rfl | rfl | rfl <;> simp)
  · exact key ((fiveT o).take 4 ++ (fiveT o).drop 5) (fun t ht => (List.mem_append.1 ht).elim List.mem_of_mem_take List.mem_of_mem_drop) rfl (by intro t ht; simp [fiveT] at ht; rcases ht with rfl | rfl | rfl | rfl <;> simp)
theorem getS_noO {s : St} {r : List UInt8} (hr : getO r = none) : getS (headS s ++ r) = none := by
  have key : ∀ (a b c d e f g h i j : UInt8) (r : List UInt8), getO r = none → getS (a :: b :: c :: d :: e :: f :: g :: h :: i :: j :: r) = none := by
    intro a b c d e f g h i j r hr
    show (getO r).bind _ = none
    rw [hr]
    rfl
  exact key _ _ _ _ _ _ _ _ _ _ r hr
/-- A beginning without one of its offer's parts. -/
theorem getS_drop {s : St} {d : Nat} (hd : d < 5) : getS ((headS s ++ bytesO s.o).take (10 + 3 * d) ++ (headS s ++ bytesO s.o).drop (10 + 3 * d + 3)) = none := by
  have hl : (headS s).length = 10 := rfl
  rw [List.take_append, List.drop_append, List.take_of_length_le (by omega), List.drop_of_length_le (by omega), List.nil_append, List.append_assoc, hl, show 10 + 3 * d - 10 = 3 * d by omega, show 10 + 3 * d + 3 - 10 = 3 * d + 3 by omega]
  exact getS_noO (getO_drop hd)
end Go.Proofs.YtcmjdbljdkabpaaGreatDoor

namespace Go.Proofs.YtcmjdbljdkabpaaGreatDoor
open Go.RowKit M

theorem RdT.take {w : World} {A : Option Addr} {n cap : Nat} {l : List Tp} (h : RdT w (.slice A n cap) l) {k : Nat} (hk : k ≤ n) : RdT w (.slice A k cap) (l.take k) := by
  obtain ⟨A', cap', he, h1, h2, h3⟩ := h
  injection he with e1 e2 e3
  subst e1; subst e2; subst e3
  have hl : (l.take k).length = k := by rw [List.length_take]; omega
  refine ⟨A, cap, by rw [hl], by omega, h2, fun h0 => ?_⟩
  obtain ⟨b, off, rfl, hlt, hc⟩ := h3 (by omega)
  refine ⟨b, off, rfl, hlt, fun j u hu => hc j u ?_⟩
  have e : tcs l = tcs (l.take k) ++ tcs (l.drop k) := by rw [← tcs_append, List.take_append_drop]
  rw [e, List.getElem?_append_left (List.getElem?_eq_some_iff.1 hu).1]
  exact hu
theorem RdT.from_ {w : World} {b off n cap : Nat} {l : List Tp} (h : RdT w (.slice (some ⟨b, off, none⟩) n cap) l) {k : Nat} (hk : k ≤ n) (hn : 0 < n) : RdT w (.slice (if cap = k then some ⟨b, off, none⟩ else some ⟨b, off + k * 2, none⟩) (n - k) (cap - k)) (l.drop k) := by
  obtain ⟨A', cap', he, h1, h2, h3⟩ := h
  injection he with e1 e2 e3
  subst e1; subst e2; subst e3
  refine ⟨_, _, by rw [List.length_drop], by rw [List.length_drop]; omega, by omega, fun h0 => ?_⟩
  rw [List.length_drop] at h0
  obtain ⟨b', off', he, hlt, hc⟩ := h3 hn
  injection he with he
  injection he with he1 he2 he3
  subst he1; subst he2
  rw [if_neg (by omega)]
  refine ⟨b, off + k * 2, rfl, hlt, fun j u hu => ?_⟩
  have hl : (tcs (l.take k)).length = k * 2 := by rw [tcs_length, List.length_take, Nat.min_eq_left hk]
  have e : tcs l = tcs (l.take k) ++ tcs (l.drop k) := by rw [← tcs_append, List.take_append_drop]
  rw [Nat.add_assoc]
  refine hc (k * 2 + j) u ?_
  rw [e, List.getElem?_append_right (by omega), hl, Nat.add_sub_cancel_left]
  exact hu
theorem rests_appTs {ops : Array Oper} {Q : Exit → Act → World → Prop} {S : World → Prop} {fuel : Nat} {listed : Array Bool} {a : Act} {w : World} (i : Nat) {oi : Oper} (hi : ops[i]? = some oi) (s x : Operand)
    (hr : Region.ready .any ops listed = [i]) (hw : Region.wanted oi (yielded ops a.tmps) = true)
    (ho : oi.op = .call { callee := .builtin .append, args := #[s, x], argTypes := #[35, 35] })
    (base : Nat) (v u : Value) (l m : List Tp) (hs : a.eval s = v) (hx : a.eval x = u) (hown : OwnT w base v l) (hrd : RdT w u m) (hlen : l.length + m.length ≤ 1000000) (hbase : base ≤ w.heap.size)
    (h : ∀ v' w', OwnT w' base v' (l ++ m) → w.grownBy w' v.ownBlock → (v'.ownBlock = v.ownBlock ∨ v'.ownBlock = some w.heap.size) → S w' ∧ RestS S Tryz.prog ops Q fuel (listed.setIfInBounds i true) (a.put oi.dst v') w') : RestS S Tryz.prog ops Q (fuel + 1) listed a w := by
  refine rests_step i hi hr hw ?_
  obtain ⟨i0, hi', hz0, hz1, hz2⟩ := info_parts tuple_info
  obtain ⟨A, cap, rfl, hreads⟩ := hrd.reads
  refine wp_append_any w s x 35 ho base 39 i0 _ 2 24 Tryz.underlying35 hi' hz0 hz1 hz2 rfl (by omega) v l.length (tcs l) hs hown w.heap.size A m.length cap (tcs m) hx hreads (tcs_one m) (by simp only [maxLen]; omega) (by omega) hbase ?_
  intro v' w' k1 k2 k3
  refine h v' w' ?_ k2 k3
  unfold OwnT
  rw [tcs_append, List.length_append]
  exact k1
end Go.Proofs.YtcmjdbljdkabpaaGreatDoor

namespace Go.Proofs.YtcmjdbljdkabpaaGreatDoor

theorem drawn_some {nots : List Int} : ∀ (l : List Int) (k : Nat) {x : Int} {j : Nat}, drawn nots l k = some (x, j) → ∃ i, ∃ h : i < l.length, j = k + i + 1 ∧ l[i] = x ∧ ownN x = true ∧ nots.contains x = false ∧ ∀ y ∈ l.take i, (ownN y && !nots.contains y) = false
  | [], _, _, _, h => by cases h
  | d :: r, k, x, j, h => by
    unfold drawn at h
    split at h
    · rename_i hd
      injection h with h
      injection h with h1 h2
      subst h1; subst h2
      rw [Bool.and_eq_true] at hd
      refine ⟨0, by simp, by omega, rfl, hd.1, by simpa using hd.2, fun y hy => by simp at hy⟩
    · rename_i hd
      obtain ⟨i, hi, h1, h2, h3, h4, h5⟩ := drawn_some r (k + 1) h
      refine ⟨i + 1, by simpa using hi, by omega, by simpa using h2, h3, h4, fun y hy => ?_⟩
      rw [List.take_succ_cons] at hy
      rcases List.mem_cons.1 hy with rfl | hy
      · simpa using hd
      · exact h5 y hy
theorem drawn_none {nots : List Int} : ∀ (l : List Int) (k : Nat), drawn nots l k = none → ∀ y ∈ l, (ownN y && !nots.contains y) = false
  | [], _, _, y, hy => by simp at hy
  | d :: r, k, h, y, hy => by
    unfold drawn at h
    split at h
    · cases h
    · rename_i hd
      rcases List.mem_cons.1 hy with rfl | hy
      · simpa using hd
      · exact drawn_none r (k + 1) h y hy
/-- A number that is taken is one's own, and none of those that are not to be. -/
theorem fresh_spec {l m : List Int} (hm : m.length ≤ 1000) : ownN (freshM l m).1 = true ∧ (freshM l m).1 ∉ m ∧ (freshM l m).2 ≤ l.length ∧ (∀ i (h : i < l.length), i + 1 < (freshM l m).2 → l[i] ≠ (freshM l m).1) ∧
    ((freshM l m).2 = l.length ∨ ∃ h : (freshM l m).2 - 1 < l.length, l[(freshM l m).2 - 1] = (freshM l m).1) := by
  cases hd : drawn m l 0 with
  | some p =>
    obtain ⟨x, j⟩ := p
    have e : freshM l m = (x, j) := by unfold freshM; rw [hd]; rfl
    rw [e]
    obtain ⟨i, hi, h1, h2, h3, h4, h5⟩ := drawn_some l 0 hd
    simp only
    have hx : x ∉ m := by
      intro h
      rw [← List.contains_iff_mem, h4] at h
      cases h
    refine ⟨h3, hx, by omega, fun i' h' hlt he => ?_, .inr ⟨by omega, ?_⟩⟩
    · have := h5 l[i'] (by
        rw [List.mem_take_iff_getElem]
        exact ⟨i', by omega, rfl⟩)
      rw [he, h3, h4] at this
      cases this
    · have : j - 1 = i := by omega
      simp only [this]
      exact h2
  | none =>
    have e : freshM l m = (leastN m m.length 1, l.length) := by unfold freshM; rw [hd]; rfl
    rw [e]
    obtain ⟨s1, s2, -, -⟩ := leastN_spec m m.length 1
    have s4 := leastN_not m 1
    simp only
    have ho : ownN (leastN m m.length 1) = true := by
      unfold ownN
      rw [Bool.and_eq_true, bne_iff_ne, bne_iff_ne]
      omega
    refine ⟨ho, s4, Nat.le_refl _, fun i h _ he => ?_, .inl trivial⟩
    have := drawn_none l 0 hd l[i] (List.getElem_mem h)
    rw [he, ho] at this
    simp at this
    exact s4 this
end Go.Proofs.YtcmjdbljdkabpaaGreatDoor

namespace Go.Proofs.YtcmjdbljdkabpaaGreatDoor
open Go.RowKit

theorem IsRow.rds {w : World} {a : Option Addr} {len cap : Nat} {zs : List Int} (h : IsRow .u8 w a len cap zs) : ∃ l, Rds w (.slice a len cap) l := by
  rcases h with ⟨rfl, rfl, rfl, rfl⟩ | ⟨x, rfl, hl, hm, hz, hc, hw⟩
  · exact ⟨[], (Own.nil_ w 0).rds⟩
  · have hlen : ((zs.take len).map fun n => UInt8.ofNat n.toNat).length = len := by simp; omega
    refine ⟨(zs.take len).map fun n => UInt8.ofNat n.toNat, some x, cap, by rw [hlen], by omega, hm, fun h0 => ?_⟩
    rw [hlen] at h0
    obtain ⟨b, off, spot⟩ := x
    have hc0 := hc 0 (by omega)
    have hspot : spot = none := by simpa [Addr.add] using World.cell?_spot hc0
    subst hspot
    refine ⟨b, off, rfl, fun j hj => ?_⟩
    rw [hlen] at hj
    have hcj := hc j (by omega)
    rw [addr_add] at hcj
    rw [hcj]
    have hg : zs.getD j 0 = zs[j]'(by omega) := by simp [show j < zs.length by omega]
    have hb := bounds_u8 (hw (zs[j]'(by omega)) (List.getElem_mem _))
    rw [hg, bc]
    have e : (((zs.take len).map fun n => UInt8.ofNat n.toNat).getD j 0) = UInt8.ofNat (zs[j]'(by omega)).toNat := by
      rw [List.getD_eq_getElem?_getD, List.getElem?_map, List.getElem?_take_of_lt hj, List.getElem?_eq_getElem (by omega)]
      rfl
    rw [e]
    congr 2
    rw [UInt8.toNat_ofNat']
    omega
end Go.Proofs.YtcmjdbljdkabpaaGreatDoor
