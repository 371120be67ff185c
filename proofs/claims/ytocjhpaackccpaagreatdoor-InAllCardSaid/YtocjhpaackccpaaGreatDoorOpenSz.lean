/- Arguments opened with what the form says of their sizes: each text takes at most a memory's bytes. -/
import Derived.Test.YtocjhpaackccpaaGreatDoorN12C
import Derived.SizedLaws

set_option linter.all false

namespace Go.Proofs.YtocjhpaackccpaaGreatDoor
open Go.ChangeShapes Go.WideShapes Go.ChangeAt Go.RowKit

section
variable {H : Type} {P : Program}
/-- Each text, slice, map within takes at most a memory's bytes. -/
def Lean_ (P : Program) (t : TypeId) (d : DataW H) : Prop := ∀ n ∈ d.weights P t, n ≤ reachBytes
theorem lean_arg {ts : List TypeId} {ds : List (DataW H)} (h : (DataW.weightsEach P ts ds).all (· ≤ reachBytes) = true) {j : Nat} {t : TypeId} {d : DataW H} (ht : ts[j]? = some t) (hd : ds[j]? = some d) : Lean_ P t d := fun n hn => by
  have := List.all_eq_true.1 h _ (DataW.weights_mem_each ht hd n hn)
  simpa using this
theorem weightsAll_mem {e : TypeId} : ∀ {ds : List (DataW H)} {j : Nat} {d : DataW H}, ds[j]? = some d → ∀ n ∈ d.weights P e, n ∈ DataW.weightsAll P e ds
  | d0 :: ds, 0, d, hd, n, hn => by
    simp only [List.getElem?_cons_zero, Option.some.injEq] at hd
    subst hd
    simp only [DataW.weightsAll, List.mem_append]
    exact .inl hn
  | d0 :: ds, j + 1, d, hd, n, hn => by
    simp only [List.getElem?_cons_succ] at hd
    simp only [DataW.weightsAll, List.mem_append]
    exact .inr (weightsAll_mem hd n hn)
  | [], _, _, hd, _, _ => by simp at hd
theorem Lean_.elem {t e : TypeId} {elems spare : List (DataW H)} (h : Lean_ P t (.slice elems spare)) (hu : P.underlying t = some (.slice e)) {j : Nat} {d : DataW H} (hd : elems[j]? = some d) : Lean_ P e d := fun n hn =>
  h n (by
    simp only [DataW.weights, hu, List.mem_cons, List.mem_append]
    exact .inr (.inl (weightsAll_mem hd n hn)))
theorem Lean_.field {t : TypeId} {fs : Array Field} {parts : List (DataW H)} (h : Lean_ P t (.agg parts)) (hu : P.underlying t = some (.struct fs)) {j : Nat} {f : TypeId} {d : DataW H} (hf : (fs.toList.map (·.type))[j]? = some f) (hd : parts[j]? = some d) : Lean_ P f d := fun n hn =>
  h n (by
    simp only [DataW.weights, hu]
    exact DataW.weights_mem_each hf hd n hn)
theorem Lean_.text {t : TypeId} {l : List UInt8} (h : Lean_ P t (.lit (.string l) : DataW H)) : l.length ≤ reachBytes := h _ (by simp [DataW.weights])
theorem reach_lt {n : Nat} (h : n ≤ reachBytes) : n ≤ 281474976710656 := Nat.le_trans h (by decide)
end
section
variable {α : Type} {f : α → List Value} {k : Nat}
set_option maxRecDepth 100000 in
theorem open_rowsW {H : Type} {enc : TypeId × Value → H} {W : World} {v : Value} {d : DataW H} {p : List MemPlace} (okx : α → Prop) (hk : 0 < k) (hf : ∀ x, (f x).length = k) (t e : TypeId) (ht : Tryz.prog.underlying t = some (.slice e)) (hce : Tryz.prog.cellsOf e = k)
    (hel0 : ∀ m cs y, DataW.trod enc Tryz.prog W 0 (fun _ => true) true m e cs = some y → Lean_ Tryz.prog e y.1 → cs.length = k → ∃ x, cs = f x ∧ okx x)
    (hval : Value.okWide Tryz.prog W .any 0 t v) (h : DataW.Trod enc Tryz.prog W 0 (fun _ => true) true t v d p) (hz : Lean_ Tryz.prog t d) : ∃ l : List α, RdG k W v l.length (l.flatMap f) ∧ ∀ x ∈ l, okx x := by
  obtain ⟨A, len, cap, rfl⟩ := okWide_slice ht hval
  obtain ⟨fuel, hfu⟩ := h
  simp only [Value.cells] at hfu
  rcases DataW.trod_slice ht hfu with ⟨hcs, _⟩ | ⟨a, len', cap', elems, rest, m, _, hcs, hx, _, hl, hm, hlen, hel, _, _⟩
  · injection hcs with hcs
    exact ⟨[], by rw [hcs]; exact RdG.nil_ k W, fun _ h => by cases h⟩
  · injection hcs with hcs
    rw [hcs]
    injection hx with hx _
    subst hx
    have key : ∀ i, i < len' → ∃ x : α, okx x ∧ ∀ r u, (f x)[r]? = some u → W.cell? (a.add (i * k + r)) = some u := by
      intro i hi
      have h1 := hel i hi
      rw [hce, List.getElem?_eq_getElem (by omega)] at h1
      obtain ⟨cs, hc, htr⟩ := Option.bind_eq_some_iff.1 h1
      obtain ⟨_, hcl, hat⟩ := World.cells?_some hc
      obtain ⟨x, rfl, hx⟩ := hel0 m cs _ htr (hz.elem ht (j := i) (by rw [List.getElem?_map, List.getElem?_eq_getElem (by omega)]; rfl)) hcl
      refine ⟨x, hx, fun r u hu => ?_⟩
      have hr := (List.getElem?_eq_some_iff.1 hu)
      have := hat r (by have h1 := hr.1; rw [hf] at h1; exact h1)
      rw [add_of_add] at this
      first
        | (rw [this]; exact hu)
        | (rw [this, hr.2])
    by_cases h0 : len' = 0
    · subst h0
      exact ⟨[], ⟨by simp, some a, cap', rfl, hl, hm, fun h => absurd h (by simp)⟩, fun _ h => by cases h⟩
    · obtain ⟨x0, hx0, hc0⟩ := key 0 (by omega)
      have ex : ∀ i, ∃ x : α, i < len' → okx x ∧ ∀ r u, (f x)[r]? = some u → W.cell? (a.add (i * k + r)) = some u := fun i => by
        by_cases hi : i < len'
        · obtain ⟨x, hx⟩ := key i hi
          exact ⟨x, fun _ => hx⟩
        · exact ⟨x0, fun h => absurd h hi⟩
      obtain ⟨g, hg⟩ : ∃ g : Nat → α, ∀ i, i < len' → okx (g i) ∧ ∀ r u, (f (g i))[r]? = some u → W.cell? (a.add (i * k + r)) = some u := ⟨fun i => (ex i).choose, fun i => (ex i).choose_spec⟩
      have hll : ((List.range len').map g).length = len' := by simp
      obtain ⟨b, off, spot⟩ := a
      obtain ⟨u0, hu0⟩ : ∃ u, (f x0)[0]? = some u := ⟨(f x0)[0]'(by rw [hf]; exact hk), List.getElem?_eq_getElem _⟩
      have hz0 := hc0 0 u0 hu0
      have hspot : spot = none := by simpa [Addr.add] using World.cell?_spot hz0
      subst hspot
      have hlt := World.block_lt_of_cell? W _ hz0
      rw [block_of_add] at hlt
      refine ⟨(List.range len').map g, ⟨flat_length hf _, some ⟨b, off, none⟩, cap', by rw [hll], by rw [hll]; exact hl, hm, fun _ => ⟨b, off, rfl, hlt, fun j u hu => ?_⟩⟩, fun x hx => ?_⟩
      · have hj := (List.getElem?_eq_some_iff.1 hu).1
        rw [flat_length hf, hll] at hj
        have hi : j / k < len' := Nat.div_lt_of_lt_mul (by rw [Nat.mul_comm]; exact hj)
        have hjr : j = j / k * k + j % k := by rw [Nat.mul_comm]; exact (Nat.div_add_mod j k).symm
        rw [hjr, flat_at hf _ (j / k) (j % k) (by rw [hll]; exact hi) (Nat.mod_lt _ hk)] at hu
        have := (hg (j / k) hi).2 (j % k) u (by simpa using hu)
        rw [addr_add, ← hjr] at this
        exact this
      · obtain ⟨i, hi, rfl⟩ := List.mem_map.1 hx
        exact (hg i (List.mem_range.1 hi)).1
end
section
variable {H : Type} {enc : TypeId × Value → H} {W : World}
def OpIn.okz (x : OpIn) : Prop := x.ok ∧ x.body.size ≤ 281474976710656
set_option maxRecDepth 100000 in
theorem open_opsz {v : Value} {d : DataW H} {p : List MemPlace} (hval : Value.okWide Tryz.prog W .any 0 26 v) (h : DataW.Trod enc Tryz.prog W 0 (fun _ => true) true 26 v d p) (hz : Lean_ Tryz.prog 26 d) : ∃ l : List OpIn, RdG 12 W v l.length (l.flatMap oc) ∧ ∀ x ∈ l, x.okz :=
  open_rowsW (f := oc) OpIn.okz (by decide) (fun _ => rfl) 26 39 Tryz.underlying26 (by kernel_rfl) (fun m cs y hy hz hl => by
    obtain ⟨a0, a1, a2, a3, a4, a5, a6, a7, a8, a9, a10, a11, rfl⟩ := twelve hl
    obtain ⟨xs, n, _, hy1, _, hn, hx⟩ := DataW.trod_struct Tryz.underlying39 hy
    obtain ⟨y0, y1, y2, y3, rfl⟩ := fourL hn
    subst hy1
    have f0 := fld hx 0 0 1 3 rfl rfl rfl (by kernel_rfl)
    have f1 := fld hx 1 1 1 3 rfl rfl rfl (by kernel_rfl)
    have f2 := fld hx 2 2 1 9 rfl rfl rfl (by kernel_rfl)
    have f3 := fld hx 3 3 9 37 rfl rfl rfl (by kernel_rfl)
    change DataW.trod enc Tryz.prog W 0 (fun _ => true) true n 3 [a0] = some y0 at f0
    change DataW.trod enc Tryz.prog W 0 (fun _ => true) true n 3 [a1] = some y1 at f1
    change DataW.trod enc Tryz.prog W 0 (fun _ => true) true n 9 [a2] = some y2 at f2
    change DataW.trod enc Tryz.prog W 0 (fun _ => true) true n 37 [a3, a4, a5, a6, a7, a8, a9, a10, a11] = some y3 at f3
    obtain ⟨q, hq, hok⟩ := plain_cells f3
    obtain ⟨n0, h0, _, w0⟩ := DataW.trod_int Tryz.underlying3 f0
    obtain ⟨n1, h1, _, w1⟩ := DataW.trod_int Tryz.underlying3 f1
    obtain ⟨s, h2, e2, w2⟩ := DataW.trod_string Tryz.underlying9 f2
    have hs := Lean_.field (j := 2) (f := 9) (d := y2.1) hz Tryz.underlying39 rfl rfl
    rw [e2] at hs
    have hs := hs.text
    injection h0 with h0
    injection h1 with h1
    injection h2 with h2
    exact ⟨⟨n0, n1, s, q⟩, by rw [hq, h0, h1, h2]; rfl, ⟨w0, w1, w2, hok⟩, reach_lt (by rw [← Lib.size_eq] at hs; exact hs)⟩) hval h hz
end
end Go.Proofs.YtocjhpaackccpaaGreatDoor
