/- Of layer 12: S12, Ref12a, OpenG, RInn. -/
import Derived.Test.YtocjhpaackccpaaGreatDoorTurnA2
import Derived.Test.YtocjhpaackccpaaGreatDoorN12B
import Derived.Test.YtocjhpaackccpaaGreatDoorBegun4
import Derived.Test.YtocjhpaackccpaaGreatDoorM4B

set_option linter.all false

namespace Go.Proofs.YtocjhpaackccpaaGreatDoor
open Go.RowKit

/-- A frame whose text may be copied. -/
def PIn.okT (p : PIn) : Prop := p.ok ∧ p.body.size ≤ 281474976710656
end Go.Proofs.YtocjhpaackccpaaGreatDoor

namespace Go.Proofs.YtocjhpaackccpaaGreatDoor
open Go.RowKit

theorem RMod_any (n : Int) (w : World) : Calls Tryz.prog 19 #[.int .i64 n] w fun e w' => e = .returned (.int .i64 (m8 n)) ∧ w' = w := by
  obtain ⟨h1, h2, h3⟩ := tmod8 n
  obtain ⟨r, hr⟩ : ∃ r, r = m8 n := ⟨_, rfl⟩
  have e1 : IntKind.i64.wrap (n.tmod 8) = n.tmod 8 := IntWalk.i64_in _ (by omega)
  have e2 : IntKind.i64.wrap (n.tmod 8 + 8) = n.tmod 8 + 8 := IntWalk.i64_in _ (by omega)
  have e3 : IntKind.i64.wrap ((n.tmod 8 + 8) % 8) = (n.tmod 8 + 8) % 8 := IntWalk.i64_in _ (by omega)
  rw [← hr]
  have HR : Hid ((n.tmod 8 + 8) % 8 = r) := by show _ = r; rw [hr, h1]; rfl
  clear hr h1
  go_enter Tryz.func19, Tryz.ntmps19
  go_wp2
  go_ret
  exact ⟨congrArg (fun x => Ending.returned (.int .i64 x)) (by first | exact HR.out | (have := HR.out; omega)), rfl⟩

end Go.Proofs.YtocjhpaackccpaaGreatDoor

namespace Go.Proofs.YtocjhpaackccpaaGreatDoor
open Go.ChangeShapes Go.WideShapes Go.ChangeAt Go.RowKit

section
variable {α : Type} {f : α → List Value} {k : Nat}
theorem flat_length (hf : ∀ x, (f x).length = k) : ∀ l : List α, (l.flatMap f).length = l.length * k
  | [] => by simp
  | x :: l => by rw [List.flatMap_cons, List.length_append, hf, flat_length hf l, List.length_cons, Nat.succ_mul]; omega
theorem flat_at (hf : ∀ x, (f x).length = k) : ∀ (l : List α) (i r : Nat) (h : i < l.length), r < k → (l.flatMap f)[i * k + r]? = (f l[i])[r]?
  | [], i, r, h, _ => by simp at h
  | x :: l, 0, r, _, hr => by
    rw [List.flatMap_cons, Nat.zero_mul, Nat.zero_add, List.getElem?_append_left (by rw [hf]; exact hr)]
    rfl
  | x :: l, i + 1, r, h, hr => by
    rw [List.flatMap_cons, List.getElem?_append_right (by rw [hf, Nat.succ_mul]; omega), hf, show (i + 1) * k + r - k = i * k + r by rw [Nat.succ_mul]; omega, flat_at hf l i r (by simpa using h) hr]
    rfl
/-- One of them. -/
theorem RdG.row {w : World} {A : Option Addr} {n cap : Nat} {l : List α} (hf : ∀ x, (f x).length = k) (h : RdG k w (.slice A n cap) l.length (l.flatMap f)) {i : Nat} (hi : i < l.length) :
    ∃ b off, A = some ⟨b, off, none⟩ ∧ b < w.heap.size ∧ ∀ r u, r < k → (f l[i])[r]? = some u → w.cell? ⟨b, off + i * k + r, none⟩ = some u := by
  obtain ⟨b, off, e, hlt, hc⟩ := h.at_ hi
  exact ⟨b, off, e, hlt, fun r u hr hu => hc r u hr (by rw [flat_at hf l i r hi hr]; exact hu)⟩
set_option maxRecDepth 100000 in
theorem open_rows {H : Type} {enc : TypeId × Value → H} {W : World} {v : Value} {d : DataW H} {p : List MemPlace} (okx : α → Prop) (hk : 0 < k) (hf : ∀ x, (f x).length = k) (t e : TypeId) (ht : Tryz.prog.underlying t = some (.slice e)) (hce : Tryz.prog.cellsOf e = k)
    (hel0 : ∀ m cs y, DataW.trod enc Tryz.prog W 0 (fun _ => true) true m e cs = some y → cs.length = k → ∃ x, cs = f x ∧ okx x)
    (hval : Value.okWide Tryz.prog W .any 0 t v) (h : DataW.Trod enc Tryz.prog W 0 (fun _ => true) true t v d p) : ∃ l : List α, RdG k W v l.length (l.flatMap f) ∧ ∀ x ∈ l, okx x := by
  obtain ⟨A, len, cap, rfl⟩ := okWide_slice ht hval
  obtain ⟨fuel, hfu⟩ := h
  simp only [Value.cells] at hfu
  rcases DataW.trod_slice ht hfu with ⟨hcs, _⟩ | ⟨a, len', cap', elems, rest, m, _, hcs, _, _, hl, hm, hlen, hel, _, _⟩
  · injection hcs with hcs
    exact ⟨[], by rw [hcs]; exact RdG.nil_ k W, fun _ h => by cases h⟩
  · injection hcs with hcs
    rw [hcs]
    have key : ∀ i, i < len' → ∃ x : α, okx x ∧ ∀ r u, (f x)[r]? = some u → W.cell? (a.add (i * k + r)) = some u := by
      intro i hi
      have h1 := hel i hi
      rw [hce, List.getElem?_eq_getElem (by omega)] at h1
      obtain ⟨cs, hc, htr⟩ := Option.bind_eq_some_iff.1 h1
      obtain ⟨_, hcl, hat⟩ := World.cells?_some hc
      obtain ⟨x, rfl, hx⟩ := hel0 m cs _ htr hcl
      refine ⟨x, hx, fun r u hu => ?_⟩
      have hr := (List.getElem?_eq_some_iff.1 hu)
      have := hat r (by have h1 := hr.1; rw [hf] at h1; exact h1)
      rw [add_of_add] at this
      first
        | (rw [this]; exact hu)
        | (rw [this, hr.2])
    by_cases h0 : len' = 0
    · subst h0
      exact ⟨[], ⟨by simp, some a, cap', rfl, hl, hm, fun h => absurd h (by simp)⟩, fun _ h => by cases h⟩
    · obtain ⟨x0, hx0, hc0⟩ := key 0 (by omega)
      have ex : ∀ i, ∃ x : α, i < len' → okx x ∧ ∀ r u, (f x)[r]? = some u → W.cell? (a.add (i * k + r)) = some u := fun i => by
        by_cases hi : i < len'
        · obtain ⟨x, hx⟩ := key i hi
          exact ⟨x, fun _ => hx⟩
        · exact ⟨x0, fun h => absurd h hi⟩
      obtain ⟨g, hg⟩ : ∃ g : Nat → α, ∀ i, i < len' → okx (g i) ∧ ∀ r u, (f (g i))[r]? = some u → W.cell? (a.add (i * k + r)) = some u := ⟨fun i => (ex i).choose, fun i => (ex i).choose_spec⟩
      have hll : ((List.range len').map g).length = len' := by simp
      obtain ⟨b, off, spot⟩ := a
      obtain ⟨u0, hu0⟩ : ∃ u, (f x0)[0]? = some u := ⟨(f x0)[0]'(by rw [hf]; exact hk), List.getElem?_eq_getElem _⟩
      have hz := hc0 0 u0 hu0
      have hspot : spot = none := by simpa [Addr.add] using World.cell?_spot hz
      subst hspot
      have hlt := World.block_lt_of_cell? W _ hz
      rw [block_of_add] at hlt
      refine ⟨(List.range len').map g, ⟨flat_length hf _, some ⟨b, off, none⟩, cap', by rw [hll], by rw [hll]; exact hl, hm, fun _ => ⟨b, off, rfl, hlt, fun j u hu => ?_⟩⟩, fun x hx => ?_⟩
      · have hj := (List.getElem?_eq_some_iff.1 hu).1
        rw [flat_length hf, hll] at hj
        have hi : j / k < len' := Nat.div_lt_of_lt_mul (by rw [Nat.mul_comm]; exact hj)
        have hjr : j = j / k * k + j % k := by rw [Nat.mul_comm]; exact (Nat.div_add_mod j k).symm
        rw [hjr, flat_at hf _ (j / k) (j % k) (by rw [hll]; exact hi) (Nat.mod_lt _ hk)] at hu
        have := (hg (j / k) hi).2 (j % k) u (by simpa using hu)
        rw [addr_add, ← hjr] at this
        exact this
      · obtain ⟨i, hi, rfl⟩ := List.mem_map.1 hx
        exact (hg i (List.mem_range.1 hi)).1
end

section
variable {H : Type} {enc : TypeId × Value → H} {W : World}
/-- An operation. -/
structure OpIn where
  kind : Int
  n : Int
  body : ByteArray
  p : PIn
def OpIn.ok (x : OpIn) : Prop := (Lit.int .i64 x.kind).wf = true ∧ (Lit.int .i64 x.n).wf = true ∧ x.body.size ≤ maxLen ∧ x.p.ok
def oc (x : OpIn) : List Value := [.int .i64 x.kind, .int .i64 x.n, .string x.body, .int .i64 x.p.seat, .int .i64 x.p.count, .bool x.p.cmd, .int .i64 x.p.kind, .int .i64 x.p.sort, .int .i64 x.p.nr, .int .i64 x.p.ns, .bool x.p.pf, .string x.p.body]
/-- A step of two sides. -/
structure StIn where
  kind : Int
  n : Int
  loss : Int
  body : ByteArray
def StIn.ok (x : StIn) : Prop := (Lit.int .i64 x.kind).wf = true ∧ (Lit.int .i64 x.n).wf = true ∧ (Lit.int .i64 x.loss).wf = true ∧ x.body.size ≤ maxLen
theorem fourL {α : Type} {cs : List α} (h : cs.length = 4) : ∃ a0 a1 a2 a3, cs = [a0, a1, a2, a3] := by
  match cs, h with
  | [a0, a1, a2, a3], _ => exact ⟨a0, a1, a2, a3, rfl⟩
theorem twelve {α : Type} {cs : List α} (h : cs.length = 12) : ∃ a0 a1 a2 a3 a4 a5 a6 a7 a8 a9 a10 a11, cs = [a0, a1, a2, a3, a4, a5, a6, a7, a8, a9, a10, a11] := by
  match cs, h with
  | [a0, a1, a2, a3, a4, a5, a6, a7, a8, a9, a10, a11], _ => exact ⟨a0, a1, a2, a3, a4, a5, a6, a7, a8, a9, a10, a11, rfl⟩
set_option maxRecDepth 100000 in
theorem plain_cells {n : Nat} {a0 a1 a2 a3 a4 a5 a6 a7 a8 : Value} {y : DataW H × List MemPlace} (hf : DataW.trod enc Tryz.prog W 0 (fun _ => true) true n 37 [a0, a1, a2, a3, a4, a5, a6, a7, a8] = some y) : ∃ p : PIn, [a0, a1, a2, a3, a4, a5, a6, a7, a8] = pcs p ∧ p.ok := by
  obtain ⟨xs, n, _, _, hl, hn, hx⟩ := DataW.trod_struct Tryz.underlying37 hf
  obtain ⟨y0, y1, y2, y3, y4, y5, y6, y7, rfl⟩ := eight hn
  clear hf hl hn
  have f0 := fld hx 0 0 2 35 rfl rfl rfl (by kernel_rfl)
  have f1 := fld hx 1 2 1 4 rfl rfl rfl (by kernel_rfl)
  have f2 := fld hx 2 3 1 3 rfl rfl rfl (by kernel_rfl)
  have f3 := fld hx 3 4 1 3 rfl rfl rfl (by kernel_rfl)
  have f4 := fld hx 4 5 1 3 rfl rfl rfl (by kernel_rfl)
  have f5 := fld hx 5 6 1 3 rfl rfl rfl (by kernel_rfl)
  have f6 := fld hx 6 7 1 4 rfl rfl rfl (by kernel_rfl)
  have f7 := fld hx 7 8 1 9 rfl rfl rfl (by kernel_rfl)
  clear hx
  change DataW.trod enc Tryz.prog W 0 (fun _ => true) true n 35 [a0, a1] = some y0 at f0
  change DataW.trod enc Tryz.prog W 0 (fun _ => true) true n 4 [a2] = some y1 at f1
  change DataW.trod enc Tryz.prog W 0 (fun _ => true) true n 3 [a3] = some y2 at f2
  change DataW.trod enc Tryz.prog W 0 (fun _ => true) true n 3 [a4] = some y3 at f3
  change DataW.trod enc Tryz.prog W 0 (fun _ => true) true n 3 [a5] = some y4 at f4
  change DataW.trod enc Tryz.prog W 0 (fun _ => true) true n 3 [a6] = some y5 at f5
  change DataW.trod enc Tryz.prog W 0 (fun _ => true) true n 4 [a7] = some y6 at f6
  change DataW.trod enc Tryz.prog W 0 (fun _ => true) true n 9 [a8] = some y7 at f7
  obtain ⟨seat, count, rfl, rfl, w0, w1⟩ := open_address f0
  obtain ⟨cmd, h1, _⟩ := DataW.trod_bool Tryz.underlying4 f1
  obtain ⟨kind, h2, _, w2⟩ := DataW.trod_int Tryz.underlying3 f2
  obtain ⟨sort, h3, _, w3⟩ := DataW.trod_int Tryz.underlying3 f3
  obtain ⟨nr, h4, _, w4⟩ := DataW.trod_int Tryz.underlying3 f4
  obtain ⟨ns, h5, _, w5⟩ := DataW.trod_int Tryz.underlying3 f5
  obtain ⟨pf, h6, _⟩ := DataW.trod_bool Tryz.underlying4 f6
  obtain ⟨body, h7, _, w7⟩ := DataW.trod_string Tryz.underlying9 f7
  injection h1 with h1
  injection h2 with h2
  injection h3 with h3
  injection h4 with h4
  injection h5 with h5
  injection h6 with h6
  injection h7 with h7
  subst h1; subst h2; subst h3; subst h4; subst h5; subst h6; subst h7
  exact ⟨⟨seat, count, cmd, kind, sort, nr, ns, pf, body⟩, rfl, w0, w1, w2, w3, w4, w5, w7⟩
set_option maxRecDepth 100000 in
theorem open_ops {v : Value} {d : DataW H} {p : List MemPlace} (hval : Value.okWide Tryz.prog W .any 0 26 v) (h : DataW.Trod enc Tryz.prog W 0 (fun _ => true) true 26 v d p) : ∃ l : List OpIn, RdG 12 W v l.length (l.flatMap oc) ∧ ∀ x ∈ l, x.ok :=
  open_rows (f := oc) OpIn.ok (by decide) (fun _ => rfl) 26 39 Tryz.underlying26 (by kernel_rfl) (fun m cs y hy hl => by
    obtain ⟨a0, a1, a2, a3, a4, a5, a6, a7, a8, a9, a10, a11, rfl⟩ := twelve hl
    obtain ⟨xs, n, _, _, _, hn, hx⟩ := DataW.trod_struct Tryz.underlying39 hy
    obtain ⟨y0, y1, y2, y3, rfl⟩ := fourL hn
    have f0 := fld hx 0 0 1 3 rfl rfl rfl (by kernel_rfl)
    have f1 := fld hx 1 1 1 3 rfl rfl rfl (by kernel_rfl)
    have f2 := fld hx 2 2 1 9 rfl rfl rfl (by kernel_rfl)
    have f3 := fld hx 3 3 9 37 rfl rfl rfl (by kernel_rfl)
    change DataW.trod enc Tryz.prog W 0 (fun _ => true) true n 3 [a0] = some y0 at f0
    change DataW.trod enc Tryz.prog W 0 (fun _ => true) true n 3 [a1] = some y1 at f1
    change DataW.trod enc Tryz.prog W 0 (fun _ => true) true n 9 [a2] = some y2 at f2
    change DataW.trod enc Tryz.prog W 0 (fun _ => true) true n 37 [a3, a4, a5, a6, a7, a8, a9, a10, a11] = some y3 at f3
    obtain ⟨q, hq, hok⟩ := plain_cells f3
    obtain ⟨n0, h0, _, w0⟩ := DataW.trod_int Tryz.underlying3 f0
    obtain ⟨n1, h1, _, w1⟩ := DataW.trod_int Tryz.underlying3 f1
    obtain ⟨s, h2, _, w2⟩ := DataW.trod_string Tryz.underlying9 f2
    injection h0 with h0
    injection h1 with h1
    injection h2 with h2
    exact ⟨⟨n0, n1, s, q⟩, by rw [hq, h0, h1, h2]; rfl, w0, w1, w2, hok⟩) hval h
/-- A deal that is handed in. -/
structure De5In where
  b : Int
  s : Int
  wi : Int
  z : Int
  wa : Int
abbrev De5In.val (d : De5In) : Value := .agg #[.int .i64 d.b, .int .i64 d.s, .int .i64 d.wi, .int .i64 d.z, .int .i64 d.wa]
def De5In.ok (d : De5In) : Prop := (Lit.int .i64 d.b).wf = true ∧ (Lit.int .i64 d.s).wf = true ∧ (Lit.int .i64 d.wi).wf = true ∧ (Lit.int .i64 d.z).wf = true ∧ (Lit.int .i64 d.wa).wf = true
theorem fiveL {α : Type} {cs : List α} (h : cs.length = 5) : ∃ a0 a1 a2 a3 a4, cs = [a0, a1, a2, a3, a4] := by
  match cs, h with
  | [a0, a1, a2, a3, a4], _ => exact ⟨a0, a1, a2, a3, a4, rfl⟩
set_option maxRecDepth 100000 in
theorem open_deal {v : Value} {d : DataW H} {p : List MemPlace} (hval : Value.okWide Tryz.prog W .any 0 43 v) (h : DataW.Trod enc Tryz.prog W 0 (fun _ => true) true 43 v d p) : ∃ a : De5In, v = a.val ∧ a.ok := by
  obtain ⟨cs, rfl, hsz⟩ := okWide_struct Tryz.underlying43 hval
  obtain ⟨l⟩ := cs
  obtain ⟨fuel, hf⟩ := h
  simp only [Value.cells] at hf
  clear hval hsz
  obtain ⟨xs, n, _, _, hl, hn, hx⟩ := DataW.trod_struct Tryz.underlying43 hf
  obtain ⟨a0, a1, a2, a3, a4, rfl⟩ := fiveL (hl.trans (by kernel_rfl))
  obtain ⟨y0, y1, y2, y3, y4, rfl⟩ := fiveL hn
  have f0 := fld hx 0 0 1 3 rfl rfl rfl (by kernel_rfl)
  have f1 := fld hx 1 1 1 3 rfl rfl rfl (by kernel_rfl)
  have f2 := fld hx 2 2 1 3 rfl rfl rfl (by kernel_rfl)
  have f3 := fld hx 3 3 1 3 rfl rfl rfl (by kernel_rfl)
  have f4 := fld hx 4 4 1 3 rfl rfl rfl (by kernel_rfl)
  change DataW.trod enc Tryz.prog W 0 (fun _ => true) true n 3 [a0] = some y0 at f0
  change DataW.trod enc Tryz.prog W 0 (fun _ => true) true n 3 [a1] = some y1 at f1
  change DataW.trod enc Tryz.prog W 0 (fun _ => true) true n 3 [a2] = some y2 at f2
  change DataW.trod enc Tryz.prog W 0 (fun _ => true) true n 3 [a3] = some y3 at f3
  change DataW.trod enc Tryz.prog W 0 (fun _ => true) true n 3 [a4] = some y4 at f4
  obtain ⟨n0, h0, _, w0⟩ := DataW.trod_int Tryz.underlying3 f0
  obtain ⟨n1, h1, _, w1⟩ := DataW.trod_int Tryz.underlying3 f1
  obtain ⟨n2, h2, _, w2⟩ := DataW.trod_int Tryz.underlying3 f2
  obtain ⟨n3, h3, _, w3⟩ := DataW.trod_int Tryz.underlying3 f3
  obtain ⟨n4, h4, _, w4⟩ := DataW.trod_int Tryz.underlying3 f4
  injection h0 with h0
  injection h1 with h1
  injection h2 with h2
  injection h3 with h3
  injection h4 with h4
  subst h0; subst h1; subst h2; subst h3; subst h4
  exact ⟨⟨n0, n1, n2, n3, n4⟩, rfl, w0, w1, w2, w3, w4⟩
end
end Go.Proofs.YtocjhpaackccpaaGreatDoor

namespace Go.Proofs.YtocjhpaackccpaaGreatDoor
open Go.RowKit M

end Go.Proofs.YtocjhpaackccpaaGreatDoor
