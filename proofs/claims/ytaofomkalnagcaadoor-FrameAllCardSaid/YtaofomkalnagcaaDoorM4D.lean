/- Of layer 4: OpenPlain, LText, Any1, Must, IfEq, RefGet, CtlW, RefMay, RefPut, RefGetF. -/
import Derived.Test.YtaofomkalnagcaaDoorM4C
import Derived.Test.YtaofomkalnagcaaDoorM4A
import Derived.ProofKit
import Derived.OpenShut
import Derived.ShutString
import Derived.Deep.Fields
import Derived.Recover
import Derived.Defers
import Derived.Tactics2
import Derived.Laws.Pointers
import Derived.Laws.StructEq
import Derived.Laws.Entries
import Derived.Stop.Asserts
import Derived.Lib.AppendStr

set_option linter.all false

/- An argument that is a plain frame, opened: nine cells, of their kinds. -/
namespace Go.Proofs.YtaofomkalnagcaaDoor
open Go.ChangeShapes Go.WideShapes Go.ChangeAt Go.RowKit

theorem nine {cs : List Value} (h : cs.length = 9) : ∃ a0 a1 a2 a3 a4 a5 a6 a7 a8, cs = [a0, a1, a2, a3, a4, a5, a6, a7, a8] := by
  match cs, h with
  | [a0, a1, a2, a3, a4, a5, a6, a7, a8], _ => exact ⟨a0, a1, a2, a3, a4, a5, a6, a7, a8, rfl⟩
theorem eight {α : Type} {cs : List α} (h : cs.length = 8) : ∃ a0 a1 a2 a3 a4 a5 a6 a7, cs = [a0, a1, a2, a3, a4, a5, a6, a7] := by
  match cs, h with
  | [a0, a1, a2, a3, a4, a5, a6, a7], _ => exact ⟨a0, a1, a2, a3, a4, a5, a6, a7, rfl⟩
theorem two {α : Type} {cs : List α} (h : cs.length = 2) : ∃ a0 a1, cs = [a0, a1] := by
  match cs, h with
  | [a0, a1], _ => exact ⟨a0, a1, rfl⟩

section
variable {H : Type} {enc : TypeId × Value → H} {W : World}
/-- A field's cells. -/
theorem fld {P : Program} {fs : Array Field} {cs : List Value} {xs : List (DataW H × List MemPlace)} {n : Nat}
    (hx : ∀ (i : Nat) (f : Field), fs[i]? = some f → DataW.trod enc P W 0 (fun _ => true) true n f.type ((cs.drop f.offset).take (P.cellsOf f.type)) = xs[i]?)
    (i o k : Nat) (t : TypeId) {f : Field} (hf : fs[i]? = some f) (ht : f.type = t) (ho : f.offset = o) (hk : P.cellsOf t = k) : DataW.trod enc P W 0 (fun _ => true) true n t ((cs.drop o).take k) = xs[i]? := by
  subst ht; subst ho; subst hk
  exact hx i f hf

set_option maxRecDepth 100000 in
theorem open_address {n : Nat} {a0 a1 : Value} {y : DataW H × List MemPlace} (h : DataW.trod enc Tryd.prog W 0 (fun _ => true) true n 32 [a0, a1] = some y) :
    ∃ seat count : Int, a0 = .int .i64 seat ∧ a1 = .int .i64 count ∧ (Lit.int .i64 seat).wf = true ∧ (Lit.int .i64 count).wf = true := by
  obtain ⟨xs, m, _, _, _, hn, hx⟩ := DataW.trod_struct Tryd.underlying32 h
  obtain ⟨y0, y1, rfl⟩ := two hn
  have f0 := fld hx 0 0 1 3 rfl rfl rfl (by kernel_rfl)
  have f1 := fld hx 1 1 1 3 rfl rfl rfl (by kernel_rfl)
  change DataW.trod enc Tryd.prog W 0 (fun _ => true) true m 3 [a0] = some y0 at f0
  change DataW.trod enc Tryd.prog W 0 (fun _ => true) true m 3 [a1] = some y1 at f1
  obtain ⟨n0, h0, _, w0⟩ := DataW.trod_int Tryd.underlying3 f0
  obtain ⟨n1, h1, _, w1⟩ := DataW.trod_int Tryd.underlying3 f1
  injection h0 with h0
  injection h1 with h1
  exact ⟨n0, n1, h0, h1, w0, w1⟩

set_option maxRecDepth 100000 in
/-- A plain frame that is handed in, as its parts. -/
theorem open_plain {v : Value} {d : DataW H} {p : List MemPlace}
    (hval : Value.okWide Tryd.prog W .any 0 34 v) (h : DataW.Trod enc Tryd.prog W 0 (fun _ => true) true 34 v d p) :
    ∃ (seat count : Int) (cmd : Bool) (kind sort nr ns : Int) (pf : Bool) (body : ByteArray),
      v = .agg #[.int .i64 seat, .int .i64 count, .bool cmd, .int .i64 kind, .int .i64 sort, .int .i64 nr, .int .i64 ns, .bool pf, .string body] ∧
      (Lit.int .i64 seat).wf = true ∧ (Lit.int .i64 count).wf = true ∧ (Lit.int .i64 kind).wf = true ∧ (Lit.int .i64 sort).wf = true ∧ (Lit.int .i64 nr).wf = true ∧ (Lit.int .i64 ns).wf = true ∧ body.size ≤ maxLen := by
  obtain ⟨cs, rfl, hsz⟩ := okWide_struct Tryd.underlying34 hval
  obtain ⟨l⟩ := cs
  obtain ⟨fuel, hf⟩ := h
  simp only [Value.cells] at hf
  clear hval hsz
  obtain ⟨xs, n, _, _, hl, hn, hx⟩ := DataW.trod_struct Tryd.underlying34 hf
  obtain ⟨a0, a1, a2, a3, a4, a5, a6, a7, a8, rfl⟩ := nine (hl.trans (by kernel_rfl))
  obtain ⟨y0, y1, y2, y3, y4, y5, y6, y7, rfl⟩ := eight hn
  clear hf hl hn
  have f0 := fld hx 0 0 2 32 rfl rfl rfl (by kernel_rfl)
  have f1 := fld hx 1 2 1 4 rfl rfl rfl (by kernel_rfl)
  have f2 := fld hx 2 3 1 3 rfl rfl rfl (by kernel_rfl)
  have f3 := fld hx 3 4 1 3 rfl rfl rfl (by kernel_rfl)
  have f4 := fld hx 4 5 1 3 rfl rfl rfl (by kernel_rfl)
  have f5 := fld hx 5 6 1 3 rfl rfl rfl (by kernel_rfl)
  have f6 := fld hx 6 7 1 4 rfl rfl rfl (by kernel_rfl)
  have f7 := fld hx 7 8 1 9 rfl rfl rfl (by kernel_rfl)
  clear hx
  change DataW.trod enc Tryd.prog W 0 (fun _ => true) true n 32 [a0, a1] = some y0 at f0
  change DataW.trod enc Tryd.prog W 0 (fun _ => true) true n 4 [a2] = some y1 at f1
  change DataW.trod enc Tryd.prog W 0 (fun _ => true) true n 3 [a3] = some y2 at f2
  change DataW.trod enc Tryd.prog W 0 (fun _ => true) true n 3 [a4] = some y3 at f3
  change DataW.trod enc Tryd.prog W 0 (fun _ => true) true n 3 [a5] = some y4 at f4
  change DataW.trod enc Tryd.prog W 0 (fun _ => true) true n 3 [a6] = some y5 at f5
  change DataW.trod enc Tryd.prog W 0 (fun _ => true) true n 4 [a7] = some y6 at f6
  change DataW.trod enc Tryd.prog W 0 (fun _ => true) true n 9 [a8] = some y7 at f7
  obtain ⟨seat, count, rfl, rfl, w0, w1⟩ := open_address f0
  obtain ⟨cmd, h1, _⟩ := DataW.trod_bool Tryd.underlying4 f1
  obtain ⟨kind, h2, _, w2⟩ := DataW.trod_int Tryd.underlying3 f2
  obtain ⟨sort, h3, _, w3⟩ := DataW.trod_int Tryd.underlying3 f3
  obtain ⟨nr, h4, _, w4⟩ := DataW.trod_int Tryd.underlying3 f4
  obtain ⟨ns, h5, _, w5⟩ := DataW.trod_int Tryd.underlying3 f5
  obtain ⟨pf, h6, _⟩ := DataW.trod_bool Tryd.underlying4 f6
  obtain ⟨body, h7, _, w7⟩ := DataW.trod_string Tryd.underlying9 f7
  injection h1 with h1
  injection h2 with h2
  injection h3 with h3
  injection h4 with h4
  injection h5 with h5
  injection h6 with h6
  injection h7 with h7
  subst h1; subst h2; subst h3; subst h4; subst h5; subst h6; subst h7
  exact ⟨seat, count, cmd, kind, sort, nr, ns, pf, body, rfl, w0, w1, w2, w3, w4, w5, w7⟩
end

/-- A plain frame that is handed in. -/
structure PIn where
  seat : Int
  count : Int
  cmd : Bool
  kind : Int
  sort : Int
  nr : Int
  ns : Int
  pf : Bool
  body : ByteArray
abbrev PIn.val (p : PIn) : Value := .agg #[.int .i64 p.seat, .int .i64 p.count, .bool p.cmd, .int .i64 p.kind, .int .i64 p.sort, .int .i64 p.nr, .int .i64 p.ns, .bool p.pf, .string p.body]
def PIn.ok (p : PIn) : Prop := (Lit.int .i64 p.seat).wf = true ∧ (Lit.int .i64 p.count).wf = true ∧ (Lit.int .i64 p.kind).wf = true ∧ (Lit.int .i64 p.sort).wf = true ∧ (Lit.int .i64 p.nr).wf = true ∧ (Lit.int .i64 p.ns).wf = true ∧ p.body.size ≤ maxLen
set_option maxRecDepth 100000 in
theorem open_pin {H : Type} {enc : TypeId × Value → H} {W : World} {v : Value} {d : DataW H} {p : List MemPlace}
    (hval : Value.okWide Tryd.prog W .any 0 34 v) (h : DataW.Trod enc Tryd.prog W 0 (fun _ => true) true 34 v d p) : ∃ a : PIn, v = a.val ∧ a.ok := by
  obtain ⟨seat, count, cmd, kind, sort, nr, ns, pf, body, rfl, hk⟩ := open_plain hval h
  exact ⟨⟨seat, count, cmd, kind, sort, nr, ns, pf, body⟩, rfl, hk⟩
end Go.Proofs.YtaofomkalnagcaaDoor

/- The walk of the laws' Text. -/
namespace Go.Proofs.YtaofomkalnagcaaDoor
open Go.RowKit

theorem rets {a b : ByteArray} (h : a = b) : Ending.returned (.string a) = .returned (.string b) := by rw [h]

set_option maxRecDepth 100000 in
set_option maxHeartbeats 1000000 in
theorem Text_any (s : ByteArray) (n : Nat) (w : World) (hs : s.size ≤ maxLen) (hn : n ≤ 1000000) : Calls Tryd.prog 21 #[.string s, .int .i64 n] w fun e w' => e = .returned (.string (s.extract 0 (min s.size n))) ∧ w = w' := by
  unfold maxLen at hs
  have hmin : (min (s.size : Int) (n : Int)).toNat = min s.size n := by omega
  have HM := Lib.hid hmin
  clear hmin
  go_enter Tryd.func21, Tryd.ntmps21
  go_wp2
  all_goals
    go_ret
    first
      | exact ⟨by rw [← HM.out]; rfl, rfl⟩
      | exact ⟨rets (by rw [Nat.min_eq_right (by omega)]), rfl⟩
      | exact ⟨rets (by rw [Nat.min_eq_left (by omega), ByteArray.extract_zero_size]), rfl⟩
end Go.Proofs.YtaofomkalnagcaaDoor

/- The walks of the laws' any1 and Plain. -/
namespace Go.Proofs.YtaofomkalnagcaaDoor
open Go.RowKit M

/-- The control of a plain frame, as any1 has it. -/
def PIn.c (p : PIn) : Cn := ⟨p.kind, p.sort, p.nr, p.ns, p.pf⟩

set_option maxRecDepth 100000 in
set_option maxHeartbeats 1000000 in
theorem any1_any (p : PIn) (w : World) : Calls Tryd.prog 33 #[p.val] w fun e w' => e = .returned (cv p.c) ∧ Below w.heap.size w w' := by
  obtain ⟨seat, count, cmd, kind, sort, nr, ns, pf, body⟩ := p
  show Calls Tryd.prog 33 #[.agg #[.int .i64 seat, .int .i64 count, .bool cmd, .int .i64 kind, .int .i64 sort, .int .i64 nr, .int .i64 ns, .bool pf, .string body]] w fun e w' => e = .returned (cv ⟨kind, sort, nr, ns, pf⟩) ∧ Below w.heap.size w w'
  by_cases h1 : kind = 1
  · subst h1
    have hv : Hid (cv ⟨1, sort, nr, ns, pf⟩ = iV nr ns pf) := by show _ = _; rfl
    go_enter Tryd.func33, Tryd.ntmps33
    go_wp2
    go_ret
    exact ⟨by rw [hv.out]; rfl, bal (bel0 _) _⟩
  · by_cases h2 : kind = 2
    · subst h2
      have hv : Hid (cv ⟨2, sort, nr, ns, pf⟩ = sV sort nr pf) := by show _ = _; rfl
      go_enter Tryd.func33, Tryd.ntmps33
      go_wp2
      go_ret
      exact ⟨by rw [hv.out]; rfl, bal (bel0 _) _⟩
    · by_cases h3 : kind = 3
      · subst h3
        have hv : Hid (cv ⟨3, sort, nr, ns, pf⟩ = uV sort pf) := by show _ = _; rfl
        go_enter Tryd.func33, Tryd.ntmps33
        go_wp2
        go_ret
        exact ⟨by rw [hv.out]; rfl, bal (bel0 _) _⟩
      · have b1 : (kind == 1) = false := beq_eq_false_iff_ne.2 h1
        have b2 : (kind == 2) = false := beq_eq_false_iff_ne.2 h2
        have b3 : (kind == 3) = false := beq_eq_false_iff_ne.2 h3
        have hv : Hid (cv ⟨kind, sort, nr, ns, pf⟩ = .nilIface) := by show _ = _; unfold cv; rw [if_neg h1, if_neg h2, if_neg h3]
        clear h1 h2 h3
        go_enter Tryd.func33, Tryd.ntmps33
        go_wp2
        go_ret
        exact ⟨by rw [hv.out]; rfl, bal (bel0 _) _⟩

/-- A plain frame, its body cut. -/
def PIn.cut (p : PIn) : PIn := { p with body := p.body.extract 0 (min p.body.size 70) }
theorem PIn.cut_ok {p : PIn} (h : p.ok) : p.cut.ok := by
  obtain ⟨h0, h1, h2, h3, h4, h5, h6⟩ := h
  refine ⟨h0, h1, h2, h3, h4, h5, ?_⟩
  show (p.body.extract 0 (min p.body.size 70)).size ≤ maxLen
  rw [ByteArray.size_extract]
  omega
theorem PIn.cut_len (p : PIn) : p.cut.body.size ≤ 70 := by
  show (p.body.extract 0 (min p.body.size 70)).size ≤ 70
  rw [ByteArray.size_extract]
  omega

set_option maxRecDepth 100000 in
set_option maxHeartbeats 1000000 in
theorem LPlain_any (p : PIn) (hp : p.ok) (w : World) : Calls Tryd.prog 32 #[p.val] w fun e w' => e = .returned p.cut.val ∧ Below w.heap.size w w' := by
  have hb := hp.2.2.2.2.2.2
  obtain ⟨seat, count, cmd, kind, sort, nr, ns, pf, body⟩ := p
  simp only at hb
  have ht := fun w => Text_any body 70 w hb (by omega)
  obtain ⟨t, het⟩ : ∃ t, t = body.extract 0 (min body.size 70) := ⟨_, rfl⟩
  show Calls Tryd.prog 32 #[.agg #[.int .i64 seat, .int .i64 count, .bool cmd, .int .i64 kind, .int .i64 sort, .int .i64 nr, .int .i64 ns, .bool pf, .string body]] w fun e w' => e = .returned (.agg #[.int .i64 seat, .int .i64 count, .bool cmd, .int .i64 kind, .int .i64 sort, .int .i64 nr, .int .i64 ns, .bool pf, .string (body.extract 0 (min body.size 70))]) ∧ Below w.heap.size w w'
  rw [← het] at ht ⊢
  have HT := Lib.hid ht
  clear ht het hp
  go_enter Tryd.func32, Tryd.ntmps32
  go_wp2_with (go_at_call 21; refine (HT.out _).mono ?_; rintro e w' ⟨rfl, rfl⟩)
  exact bodyPost_ret (v := .agg #[.int .i64 seat, .int .i64 count, .bool cmd, .int .i64 kind, .int .i64 sort, .int .i64 nr, .int .i64 ns, .bool pf, .string t]) (by simp [results, Tryd.results32, go_sem]) rfl ⟨rfl, bal (bal (bel0 _) _) _⟩
end Go.Proofs.YtaofomkalnagcaaDoor

/- The walks of package ctl's Must three, and of the law's 'falls'. -/
namespace Go.Proofs.YtaofomkalnagcaaDoor
open Go.RowKit M

/-- A call that panics, by a run-time error. -/
def Falls (w : World) (e : Ending) (w' : World) : Prop := (∃ t u, e = .panicked [{ v := .iface t u, recovered := false }]) ∧ Below w.heap.size w w'
/-- A call that answers r, and makes memory. -/
def Gives (r : Value) (w : World) (e : Ending) (w' : World) : Prop := e = .returned r ∧ Below w.heap.size w w'

theorem bad0_I (W : World) (t : TypeId) : (runtimePanic (α := Value) (.typeAssertion (some 20) (some t) 50 "")).run Tryd.prog W = .halt (.panic (.iface 15 (.pointer (some ⟨W.heap.size, 0, none⟩)))) (W.alloc (.cells #[typeHandle Tryd.prog 20, typeHandle Tryd.prog t, typeHandle Tryd.prog 50, strVal ""] 156)) := by kernel_rfl
theorem bad_I (W : World) (t : TypeId) (v : Value) (h : t ≠ 50) : (Instr.typeAssert (.iface t v) 20 50 false).run Tryd.prog W = .halt (.panic (.iface 15 (.pointer (some ⟨W.heap.size, 0, none⟩)))) (W.alloc (.cells #[typeHandle Tryd.prog 20, typeHandle Tryd.prog t, typeHandle Tryd.prog 50, strVal ""] 156)) := by
  have e : (Instr.typeAssert (.iface t v) 20 50 false).run Tryd.prog W = (if t = 50 then (pure v : Sem Value) else (runtimePanic (.typeAssertion (some 20) (some t) 50 ""))).run Tryd.prog W := by kernel_rfl
  rw [e, if_neg h]
  exact bad0_I W t
theorem nil_I (W : World) : (Instr.typeAssert .nilIface 20 50 false).run Tryd.prog W = .halt (.panic (.iface 15 (.pointer (some ⟨W.heap.size, 0, none⟩)))) (W.alloc (.cells #[typeHandle Tryd.prog 20, .pointer none, typeHandle Tryd.prog 50, strVal ""] 156)) := by kernel_rfl
theorem good_I (W : World) (v : Value) : (Instr.typeAssert (.iface 50 v) 20 50 false).run Tryd.prog W = .ok v W := by kernel_rfl

set_option maxRecDepth 100000 in
theorem mustI_good (nr ns : Int) (pf : Bool) (w : World) : Calls Tryd.prog 78 #[iV nr ns pf] w (Gives (.agg #[.int .i64 nr, .int .i64 ns, .bool pf]) w) := by
  have a := fun W => good_I W (.agg #[.int .i64 nr, .int .i64 ns, .bool pf])
  go_enter Tryd.func78, Tryd.ntmps78
  go_wp2
  exact bodyPost_ret (v := .agg #[.int .i64 nr, .int .i64 ns, .bool pf]) (by simp [results, Tryd.results78, go_sem]) rfl ⟨rfl, bal (bel0 _) _⟩
set_option maxRecDepth 100000 in
theorem mustI_bad (t : TypeId) (v : Value) (h : t ≠ 50) (w : World) : Calls Tryd.prog 78 #[.iface t v] w (Falls w) := by
  have a := fun W => bad_I W t v h
  go_enter Tryd.func78, Tryd.ntmps78
  go_wp2
  exact ⟨rfl, ⟨_, _, rfl⟩, bal (bal (bel0 _) _) _⟩
set_option maxRecDepth 100000 in
theorem mustI_nil (w : World) : Calls Tryd.prog 78 #[.nilIface] w (Falls w) := by
  have a := fun W => nil_I W
  go_enter Tryd.func78, Tryd.ntmps78
  go_wp2
  exact ⟨rfl, ⟨_, _, rfl⟩, bal (bal (bel0 _) _) _⟩
set_option maxRecDepth 100000 in
theorem MustI_good (nr ns : Int) (pf : Bool) (w : World) : Calls Tryd.prog 42 #[iV nr ns pf] w (Gives (.agg #[.int .i64 nr, .int .i64 ns, .bool pf]) w) := by
  go_enter Tryd.func42, Tryd.ntmps42
  go_wp2_with (go_at_call 78; refine (mustI_good nr ns pf _).mono ?_; rintro e w1 ⟨rfl, hb⟩; have HB := Lib.hid ((bal (bel0 w) _).trans (hb.mono (bal (bel0 w) _).size)); have HH := Lib.hid ((hb.block w.heap.size (by simp)).trans (heap_alloc_new w _)); have hz := hb.size; obtain ⟨hcl, hfr⟩ := bcell hb; clear hb)
  have hh := HH.out
  have h2 : ((((w1.setCell ⟨w.heap.size, 0, none⟩ (.int .i64 nr)).setCell ⟨w.heap.size, 1, none⟩ (.int .i64 ns)).setCell ⟨w.heap.size, 2, none⟩ (.bool pf))).heap[w.heap.size]? = some (.cells #[.int .i64 nr, .int .i64 ns, .bool pf] 50 (0, 0)) := by
    simp [World.setCell, Array.getElem?_modify, hh]
  exact ⟨rfl, _, results_cell_row rfl _ _ w.heap.size _ _ _ _ rfl h2 Tryd.underlying50 rfl (by kernel_rfl), rfl, (((HB.out.setCell (p := ⟨w.heap.size, 0, none⟩) (Nat.le_refl _) _).setCell (p := ⟨w.heap.size, 1, none⟩) (Nat.le_refl _) _).setCell (p := ⟨w.heap.size, 2, none⟩) (Nat.le_refl _) _)⟩
set_option maxRecDepth 100000 in
theorem MustI_bad (t : TypeId) (v : Value) (h : t ≠ 50) (w : World) : Calls Tryd.prog 42 #[.iface t v] w (Falls w) := by
  go_enter Tryd.func42, Tryd.ntmps42
  go_wp2_with (go_at_call 78; refine (mustI_bad t v h _).mono ?_; rintro e w1 ⟨⟨t1, u1, rfl⟩, hb⟩; have HB := Lib.hid ((bal (bel0 w) _).trans (hb.mono (bal (bel0 w) _).size)); clear hb)
  exact ⟨rfl, ⟨_, _, rfl⟩, HB.out⟩
set_option maxRecDepth 100000 in
theorem MustI_nil (w : World) : Calls Tryd.prog 42 #[.nilIface] w (Falls w) := by
  go_enter Tryd.func42, Tryd.ntmps42
  go_wp2_with (go_at_call 78; refine (mustI_nil _).mono ?_; rintro e w1 ⟨⟨t1, u1, rfl⟩, hb⟩; have HB := Lib.hid ((bal (bel0 w) _).trans (hb.mono (bal (bel0 w) _).size)); clear hb)
  exact ⟨rfl, ⟨_, _, rfl⟩, HB.out⟩
theorem bad0_S (W : World) (t : TypeId) : (runtimePanic (α := Value) (.typeAssertion (some 20) (some t) 53 "")).run Tryd.prog W = .halt (.panic (.iface 15 (.pointer (some ⟨W.heap.size, 0, none⟩)))) (W.alloc (.cells #[typeHandle Tryd.prog 20, typeHandle Tryd.prog t, typeHandle Tryd.prog 53, strVal ""] 156)) := by kernel_rfl
theorem bad_S (W : World) (t : TypeId) (v : Value) (h : t ≠ 53) : (Instr.typeAssert (.iface t v) 20 53 false).run Tryd.prog W = .halt (.panic (.iface 15 (.pointer (some ⟨W.heap.size, 0, none⟩)))) (W.alloc (.cells #[typeHandle Tryd.prog 20, typeHandle Tryd.prog t, typeHandle Tryd.prog 53, strVal ""] 156)) := by
  have e : (Instr.typeAssert (.iface t v) 20 53 false).run Tryd.prog W = (if t = 53 then (pure v : Sem Value) else (runtimePanic (.typeAssertion (some 20) (some t) 53 ""))).run Tryd.prog W := by kernel_rfl
  rw [e, if_neg h]
  exact bad0_S W t
theorem nil_S (W : World) : (Instr.typeAssert .nilIface 20 53 false).run Tryd.prog W = .halt (.panic (.iface 15 (.pointer (some ⟨W.heap.size, 0, none⟩)))) (W.alloc (.cells #[typeHandle Tryd.prog 20, .pointer none, typeHandle Tryd.prog 53, strVal ""] 156)) := by kernel_rfl
theorem good_S (W : World) (v : Value) : (Instr.typeAssert (.iface 53 v) 20 53 false).run Tryd.prog W = .ok v W := by kernel_rfl

set_option maxRecDepth 100000 in
theorem mustS_good (kind nr : Int) (pf : Bool) (w : World) : Calls Tryd.prog 79 #[sV kind nr pf] w (Gives (.agg #[.int .i64 kind, .int .i64 nr, .bool pf]) w) := by
  have a := fun W => good_S W (.agg #[.int .i64 kind, .int .i64 nr, .bool pf])
  go_enter Tryd.func79, Tryd.ntmps79
  go_wp2
  exact bodyPost_ret (v := .agg #[.int .i64 kind, .int .i64 nr, .bool pf]) (by simp [results, Tryd.results79, go_sem]) rfl ⟨rfl, bal (bel0 _) _⟩
set_option maxRecDepth 100000 in
theorem mustS_bad (t : TypeId) (v : Value) (h : t ≠ 53) (w : World) : Calls Tryd.prog 79 #[.iface t v] w (Falls w) := by
  have a := fun W => bad_S W t v h
  go_enter Tryd.func79, Tryd.ntmps79
  go_wp2
  exact ⟨rfl, ⟨_, _, rfl⟩, bal (bal (bel0 _) _) _⟩
set_option maxRecDepth 100000 in
theorem mustS_nil (w : World) : Calls Tryd.prog 79 #[.nilIface] w (Falls w) := by
  have a := fun W => nil_S W
  go_enter Tryd.func79, Tryd.ntmps79
  go_wp2
  exact ⟨rfl, ⟨_, _, rfl⟩, bal (bal (bel0 _) _) _⟩
set_option maxRecDepth 100000 in
theorem MustS_good (kind nr : Int) (pf : Bool) (w : World) : Calls Tryd.prog 43 #[sV kind nr pf] w (Gives (.agg #[.int .i64 kind, .int .i64 nr, .bool pf]) w) := by
  go_enter Tryd.func43, Tryd.ntmps43
  go_wp2_with (go_at_call 79; refine (mustS_good kind nr pf _).mono ?_; rintro e w1 ⟨rfl, hb⟩; have HB := Lib.hid ((bal (bel0 w) _).trans (hb.mono (bal (bel0 w) _).size)); have HH := Lib.hid ((hb.block w.heap.size (by simp)).trans (heap_alloc_new w _)); have hz := hb.size; obtain ⟨hcl, hfr⟩ := bcell hb; clear hb)
  have hh := HH.out
  have h2 : ((((w1.setCell ⟨w.heap.size, 0, none⟩ (.int .i64 kind)).setCell ⟨w.heap.size, 1, none⟩ (.int .i64 nr)).setCell ⟨w.heap.size, 2, none⟩ (.bool pf))).heap[w.heap.size]? = some (.cells #[.int .i64 kind, .int .i64 nr, .bool pf] 53 (0, 0)) := by
    simp [World.setCell, Array.getElem?_modify, hh]
  exact ⟨rfl, _, results_cell_row rfl _ _ w.heap.size _ _ _ _ rfl h2 Tryd.underlying53 rfl (by kernel_rfl), rfl, (((HB.out.setCell (p := ⟨w.heap.size, 0, none⟩) (Nat.le_refl _) _).setCell (p := ⟨w.heap.size, 1, none⟩) (Nat.le_refl _) _).setCell (p := ⟨w.heap.size, 2, none⟩) (Nat.le_refl _) _)⟩
set_option maxRecDepth 100000 in
theorem MustS_bad (t : TypeId) (v : Value) (h : t ≠ 53) (w : World) : Calls Tryd.prog 43 #[.iface t v] w (Falls w) := by
  go_enter Tryd.func43, Tryd.ntmps43
  go_wp2_with (go_at_call 79; refine (mustS_bad t v h _).mono ?_; rintro e w1 ⟨⟨t1, u1, rfl⟩, hb⟩; have HB := Lib.hid ((bal (bel0 w) _).trans (hb.mono (bal (bel0 w) _).size)); clear hb)
  exact ⟨rfl, ⟨_, _, rfl⟩, HB.out⟩
set_option maxRecDepth 100000 in
theorem MustS_nil (w : World) : Calls Tryd.prog 43 #[.nilIface] w (Falls w) := by
  go_enter Tryd.func43, Tryd.ntmps43
  go_wp2_with (go_at_call 79; refine (mustS_nil _).mono ?_; rintro e w1 ⟨⟨t1, u1, rfl⟩, hb⟩; have HB := Lib.hid ((bal (bel0 w) _).trans (hb.mono (bal (bel0 w) _).size)); clear hb)
  exact ⟨rfl, ⟨_, _, rfl⟩, HB.out⟩
theorem bad0_U (W : World) (t : TypeId) : (runtimePanic (α := Value) (.typeAssertion (some 20) (some t) 56 "")).run Tryd.prog W = .halt (.panic (.iface 15 (.pointer (some ⟨W.heap.size, 0, none⟩)))) (W.alloc (.cells #[typeHandle Tryd.prog 20, typeHandle Tryd.prog t, typeHandle Tryd.prog 56, strVal ""] 156)) := by kernel_rfl
theorem bad_U (W : World) (t : TypeId) (v : Value) (h : t ≠ 56) : (Instr.typeAssert (.iface t v) 20 56 false).run Tryd.prog W = .halt (.panic (.iface 15 (.pointer (some ⟨W.heap.size, 0, none⟩)))) (W.alloc (.cells #[typeHandle Tryd.prog 20, typeHandle Tryd.prog t, typeHandle Tryd.prog 56, strVal ""] 156)) := by
  have e : (Instr.typeAssert (.iface t v) 20 56 false).run Tryd.prog W = (if t = 56 then (pure v : Sem Value) else (runtimePanic (.typeAssertion (some 20) (some t) 56 ""))).run Tryd.prog W := by kernel_rfl
  rw [e, if_neg h]
  exact bad0_U W t
theorem nil_U (W : World) : (Instr.typeAssert .nilIface 20 56 false).run Tryd.prog W = .halt (.panic (.iface 15 (.pointer (some ⟨W.heap.size, 0, none⟩)))) (W.alloc (.cells #[typeHandle Tryd.prog 20, .pointer none, typeHandle Tryd.prog 56, strVal ""] 156)) := by kernel_rfl
theorem good_U (W : World) (v : Value) : (Instr.typeAssert (.iface 56 v) 20 56 false).run Tryd.prog W = .ok v W := by kernel_rfl

set_option maxRecDepth 100000 in
theorem mustU_good (kind : Int) (pf : Bool) (w : World) : Calls Tryd.prog 80 #[uV kind pf] w (Gives (.agg #[.int .i64 kind, .bool pf]) w) := by
  have a := fun W => good_U W (.agg #[.int .i64 kind, .bool pf])
  go_enter Tryd.func80, Tryd.ntmps80
  go_wp2
  exact bodyPost_ret (v := .agg #[.int .i64 kind, .bool pf]) (by simp [results, Tryd.results80, go_sem]) rfl ⟨rfl, bal (bel0 _) _⟩
set_option maxRecDepth 100000 in
theorem mustU_bad (t : TypeId) (v : Value) (h : t ≠ 56) (w : World) : Calls Tryd.prog 80 #[.iface t v] w (Falls w) := by
  have a := fun W => bad_U W t v h
  go_enter Tryd.func80, Tryd.ntmps80
  go_wp2
  exact ⟨rfl, ⟨_, _, rfl⟩, bal (bal (bel0 _) _) _⟩
set_option maxRecDepth 100000 in
theorem mustU_nil (w : World) : Calls Tryd.prog 80 #[.nilIface] w (Falls w) := by
  have a := fun W => nil_U W
  go_enter Tryd.func80, Tryd.ntmps80
  go_wp2
  exact ⟨rfl, ⟨_, _, rfl⟩, bal (bal (bel0 _) _) _⟩
set_option maxRecDepth 100000 in
theorem MustU_good (kind : Int) (pf : Bool) (w : World) : Calls Tryd.prog 44 #[uV kind pf] w (Gives (.agg #[.int .i64 kind, .bool pf]) w) := by
  go_enter Tryd.func44, Tryd.ntmps44
  go_wp2_with (go_at_call 80; refine (mustU_good kind pf _).mono ?_; rintro e w1 ⟨rfl, hb⟩; have HB := Lib.hid ((bal (bel0 w) _).trans (hb.mono (bal (bel0 w) _).size)); have HH := Lib.hid ((hb.block w.heap.size (by simp)).trans (heap_alloc_new w _)); have hz := hb.size; obtain ⟨hcl, hfr⟩ := bcell hb; clear hb)
  have hh := HH.out
  have h2 : (((w1.setCell ⟨w.heap.size, 0, none⟩ (.int .i64 kind)).setCell ⟨w.heap.size, 1, none⟩ (.bool pf))).heap[w.heap.size]? = some (.cells #[.int .i64 kind, .bool pf] 56 (0, 0)) := by
    simp [World.setCell, Array.getElem?_modify, hh]
  exact ⟨rfl, _, results_cell_row rfl _ _ w.heap.size _ _ _ _ rfl h2 Tryd.underlying56 rfl (by kernel_rfl), rfl, ((HB.out.setCell (p := ⟨w.heap.size, 0, none⟩) (Nat.le_refl _) _).setCell (p := ⟨w.heap.size, 1, none⟩) (Nat.le_refl _) _)⟩
set_option maxRecDepth 100000 in
theorem MustU_bad (t : TypeId) (v : Value) (h : t ≠ 56) (w : World) : Calls Tryd.prog 44 #[.iface t v] w (Falls w) := by
  go_enter Tryd.func44, Tryd.ntmps44
  go_wp2_with (go_at_call 80; refine (mustU_bad t v h _).mono ?_; rintro e w1 ⟨⟨t1, u1, rfl⟩, hb⟩; have HB := Lib.hid ((bal (bel0 w) _).trans (hb.mono (bal (bel0 w) _).size)); clear hb)
  exact ⟨rfl, ⟨_, _, rfl⟩, HB.out⟩
set_option maxRecDepth 100000 in
theorem MustU_nil (w : World) : Calls Tryd.prog 44 #[.nilIface] w (Falls w) := by
  go_enter Tryd.func44, Tryd.ntmps44
  go_wp2_with (go_at_call 80; refine (mustU_nil _).mono ?_; rintro e w1 ⟨⟨t1, u1, rfl⟩, hb⟩; have HB := Lib.hid ((bal (bel0 w) _).trans (hb.mono (bal (bel0 w) _).size)); clear hb)
  exact ⟨rfl, ⟨_, _, rfl⟩, HB.out⟩

theorem neq_yes (W : World) (t : TypeId) (u : Value) : (binOp .neq 20 (.iface t u) .nilIface).run Tryd.prog W = .ok (.bool true) W := by kernel_rfl
theorem neq_no (W : World) : (binOp .neq 20 .nilIface .nilIface).run Tryd.prog W = .ok (.bool false) W := by kernel_rfl

set_option maxRecDepth 100000 in
theorem catch_falls (p : Addr) (x : Bool) (t : TypeId) (u : Value) (older : List PanicEntry) (w : World) (hc : w.cell? p = some (.bool x)) (hz : w.frozen? p = false) :
    CallsD Tryd.prog 77 #[.pointer (some p)] (.panicking ({ v := .iface t u, recovered := false } :: older)) w fun e u' w' =>
      e = .returned (.tuple #[]) ∧ u' = .panicking ({ v := .iface t u, recovered := true } :: older) ∧ w' = w.setCell p (.bool true) := by
  have hn := fun W => neq_yes W t u
  refine callsD_of_wpS Tryd.func77 rfl fun c₀ cs hu => ?_
  apply wpS_region
  simp [wpOpsS, go_sem, recoverD, hu, Tryd.ntmps77, Exit.thenS, hc, hz, bodyPostS, results, Tryd.results77, hn]
set_option maxRecDepth 100000 in
theorem catch_idle (p : Addr) (x : Bool) (w : World) (hc : w.cell? p = some (.bool x)) (hz : w.frozen? p = false) :
    CallsD Tryd.prog 77 #[.pointer (some p)] .returning w fun e u' w' => e = .returned (.tuple #[]) ∧ u' = .returning ∧ w' = w.setCell p (.bool false) := by
  have hn := neq_no
  refine callsD_of_wpS Tryd.func77 rfl fun c₀ cs hu => ?_
  apply wpS_region
  simp [wpOpsS, go_sem, recoverD, hu, Tryd.ntmps77, Exit.thenS, hc, hz, bodyPostS, results, Tryd.results77, hn]
  cases c₀
  simp_all

theorem frz_of {w : World} {g : Nat} {cs : Array Value} {t : TypeId} (h : w.heap[g]? = some (.cells cs t (0, 0))) (i : Nat) : w.frozen? ⟨g, i, none⟩ = false := by
  simp [World.frozen?, h]
theorem one_set {w : World} {g : Nat} {v u : Value} {t : TypeId} (h : w.heap[g]? = some (.cells #[v] t (0, 0))) : (w.setCell ⟨g, 0, none⟩ u).heap[g]? = some (.cells #[u] t (0, 0)) := by
  simp [World.setCell, Array.getElem?_modify, h]

set_option maxRecDepth 100000 in
set_option maxHeartbeats 1000000 in
theorem fallsI_good (v r : Value) (h : ∀ w, Calls Tryd.prog 42 #[v] w (Gives r w)) (w : World) : Calls Tryd.prog 40 #[v, .int .i64 1] w (Gives (.bool false) w) := by
  have hmf : ∀ (fn : Fn) (first cap : Array Value) (w : World), (Instr.makeFunc fn first cap).run Tryd.prog w = .ok (.func fn first cap) w := fun _ _ _ _ => rfl
  have H := Lib.hid h
  clear h
  go_enter_defers Tryd.func40, Tryd.ntmps40
  go_wp2_with (go_at_call 42; refine (H.out _).mono ?_; rintro e w1 ⟨rfl, hb⟩; have HB := Lib.hid ((bal (bel0 w) _).trans (hb.mono (bal (bel0 w) _).size)); have HH := Lib.hid ((hb.block w.heap.size (by simp)).trans (heap_alloc_new w _)); have hz := hb.size; obtain ⟨hcl, hfr⟩ := bcell hb; clear hb)
  have h1 := one_set (u := .bool false) HH.out
  refine leaves_cons (f := 77) (args := #[.pointer (some ⟨w.heap.size, 0, none⟩)]) (by simp) (by simp [go_sem]) ?_
  refine (catch_idle ⟨w.heap.size, 0, none⟩ false _ (cell_of h1 0 _ rfl) (frz_of h1 0)).mono ?_
  rintro e u' w2 ⟨rfl, rfl, rfl⟩
  have h2 := cell_of (one_set (u := .bool false) h1) 0 _ rfl
  simp [Leaves, settle, results, Tryd.results40, go_sem, h2]
  exact ⟨rfl, (HB.out.setCell (p := ⟨w.heap.size, 0, none⟩) (Nat.le_refl _) _).setCell (p := ⟨w.heap.size, 0, none⟩) (Nat.le_refl _) _⟩
set_option maxRecDepth 100000 in
set_option maxHeartbeats 1000000 in
theorem fallsI_bad (v : Value) (h : ∀ w, Calls Tryd.prog 42 #[v] w (Falls w)) (w : World) : Calls Tryd.prog 40 #[v, .int .i64 1] w (Gives (.bool true) w) := by
  have hmf : ∀ (fn : Fn) (first cap : Array Value) (w : World), (Instr.makeFunc fn first cap).run Tryd.prog w = .ok (.func fn first cap) w := fun _ _ _ _ => rfl
  have H := Lib.hid h
  clear h
  go_enter_defers Tryd.func40, Tryd.ntmps40
  go_wp2_with (go_at_call 42; refine (H.out _).mono ?_; rintro e w1 ⟨⟨t1, u1, rfl⟩, hb⟩; have HB := Lib.hid ((bal (bel0 w) _).trans (hb.mono (bal (bel0 w) _).size)); have HH := Lib.hid ((hb.block w.heap.size (by simp)).trans (heap_alloc_new w _)); clear hb)
  have h1 := HH.out
  refine leaves_cons (f := 77) (args := #[.pointer (some ⟨w.heap.size, 0, none⟩)]) (by simp) (by simp [go_sem]) ?_
  refine (catch_falls ⟨w.heap.size, 0, none⟩ false t1 u1 [] _ (cell_of h1 0 _ rfl) (frz_of h1 0)).mono ?_
  rintro e u' w2 ⟨rfl, rfl, rfl⟩
  have h2 := cell_of (one_set (u := .bool true) h1) 0 _ rfl
  simp [Leaves, settle, results, Tryd.results40, go_sem, h2]
  exact ⟨rfl, HB.out.setCell (p := ⟨w.heap.size, 0, none⟩) (Nat.le_refl _) _⟩

set_option maxRecDepth 100000 in
set_option maxHeartbeats 1000000 in
theorem fallsS_good (v r : Value) (h : ∀ w, Calls Tryd.prog 43 #[v] w (Gives r w)) (w : World) : Calls Tryd.prog 40 #[v, .int .i64 2] w (Gives (.bool false) w) := by
  have hmf : ∀ (fn : Fn) (first cap : Array Value) (w : World), (Instr.makeFunc fn first cap).run Tryd.prog w = .ok (.func fn first cap) w := fun _ _ _ _ => rfl
  have H := Lib.hid h
  clear h
  go_enter_defers Tryd.func40, Tryd.ntmps40
  go_wp2_with (go_at_call 43; refine (H.out _).mono ?_; rintro e w1 ⟨rfl, hb⟩; have HB := Lib.hid ((bal (bel0 w) _).trans (hb.mono (bal (bel0 w) _).size)); have HH := Lib.hid ((hb.block w.heap.size (by simp)).trans (heap_alloc_new w _)); have hz := hb.size; obtain ⟨hcl, hfr⟩ := bcell hb; clear hb)
  have h1 := one_set (u := .bool false) HH.out
  refine leaves_cons (f := 77) (args := #[.pointer (some ⟨w.heap.size, 0, none⟩)]) (by simp) (by simp [go_sem]) ?_
  refine (catch_idle ⟨w.heap.size, 0, none⟩ false _ (cell_of h1 0 _ rfl) (frz_of h1 0)).mono ?_
  rintro e u' w2 ⟨rfl, rfl, rfl⟩
  have h2 := cell_of (one_set (u := .bool false) h1) 0 _ rfl
  simp [Leaves, settle, results, Tryd.results40, go_sem, h2]
  exact ⟨rfl, (HB.out.setCell (p := ⟨w.heap.size, 0, none⟩) (Nat.le_refl _) _).setCell (p := ⟨w.heap.size, 0, none⟩) (Nat.le_refl _) _⟩
set_option maxRecDepth 100000 in
set_option maxHeartbeats 1000000 in
theorem fallsS_bad (v : Value) (h : ∀ w, Calls Tryd.prog 43 #[v] w (Falls w)) (w : World) : Calls Tryd.prog 40 #[v, .int .i64 2] w (Gives (.bool true) w) := by
  have hmf : ∀ (fn : Fn) (first cap : Array Value) (w : World), (Instr.makeFunc fn first cap).run Tryd.prog w = .ok (.func fn first cap) w := fun _ _ _ _ => rfl
  have H := Lib.hid h
  clear h
  go_enter_defers Tryd.func40, Tryd.ntmps40
  go_wp2_with (go_at_call 43; refine (H.out _).mono ?_; rintro e w1 ⟨⟨t1, u1, rfl⟩, hb⟩; have HB := Lib.hid ((bal (bel0 w) _).trans (hb.mono (bal (bel0 w) _).size)); have HH := Lib.hid ((hb.block w.heap.size (by simp)).trans (heap_alloc_new w _)); clear hb)
  have h1 := HH.out
  refine leaves_cons (f := 77) (args := #[.pointer (some ⟨w.heap.size, 0, none⟩)]) (by simp) (by simp [go_sem]) ?_
  refine (catch_falls ⟨w.heap.size, 0, none⟩ false t1 u1 [] _ (cell_of h1 0 _ rfl) (frz_of h1 0)).mono ?_
  rintro e u' w2 ⟨rfl, rfl, rfl⟩
  have h2 := cell_of (one_set (u := .bool true) h1) 0 _ rfl
  simp [Leaves, settle, results, Tryd.results40, go_sem, h2]
  exact ⟨rfl, HB.out.setCell (p := ⟨w.heap.size, 0, none⟩) (Nat.le_refl _) _⟩

set_option maxRecDepth 100000 in
set_option maxHeartbeats 1000000 in
theorem fallsU_good (v r : Value) (h : ∀ w, Calls Tryd.prog 44 #[v] w (Gives r w)) (w : World) : Calls Tryd.prog 40 #[v, .int .i64 3] w (Gives (.bool false) w) := by
  have hmf : ∀ (fn : Fn) (first cap : Array Value) (w : World), (Instr.makeFunc fn first cap).run Tryd.prog w = .ok (.func fn first cap) w := fun _ _ _ _ => rfl
  have H := Lib.hid h
  clear h
  go_enter_defers Tryd.func40, Tryd.ntmps40
  go_wp2_with (go_at_call 44; refine (H.out _).mono ?_; rintro e w1 ⟨rfl, hb⟩; have HB := Lib.hid ((bal (bel0 w) _).trans (hb.mono (bal (bel0 w) _).size)); have HH := Lib.hid ((hb.block w.heap.size (by simp)).trans (heap_alloc_new w _)); have hz := hb.size; obtain ⟨hcl, hfr⟩ := bcell hb; clear hb)
  have h1 := one_set (u := .bool false) HH.out
  refine leaves_cons (f := 77) (args := #[.pointer (some ⟨w.heap.size, 0, none⟩)]) (by simp) (by simp [go_sem]) ?_
  refine (catch_idle ⟨w.heap.size, 0, none⟩ false _ (cell_of h1 0 _ rfl) (frz_of h1 0)).mono ?_
  rintro e u' w2 ⟨rfl, rfl, rfl⟩
  have h2 := cell_of (one_set (u := .bool false) h1) 0 _ rfl
  simp [Leaves, settle, results, Tryd.results40, go_sem, h2]
  exact ⟨rfl, (HB.out.setCell (p := ⟨w.heap.size, 0, none⟩) (Nat.le_refl _) _).setCell (p := ⟨w.heap.size, 0, none⟩) (Nat.le_refl _) _⟩
set_option maxRecDepth 100000 in
set_option maxHeartbeats 1000000 in
theorem fallsU_bad (v : Value) (h : ∀ w, Calls Tryd.prog 44 #[v] w (Falls w)) (w : World) : Calls Tryd.prog 40 #[v, .int .i64 3] w (Gives (.bool true) w) := by
  have hmf : ∀ (fn : Fn) (first cap : Array Value) (w : World), (Instr.makeFunc fn first cap).run Tryd.prog w = .ok (.func fn first cap) w := fun _ _ _ _ => rfl
  have H := Lib.hid h
  clear h
  go_enter_defers Tryd.func40, Tryd.ntmps40
  go_wp2_with (go_at_call 44; refine (H.out _).mono ?_; rintro e w1 ⟨⟨t1, u1, rfl⟩, hb⟩; have HB := Lib.hid ((bal (bel0 w) _).trans (hb.mono (bal (bel0 w) _).size)); have HH := Lib.hid ((hb.block w.heap.size (by simp)).trans (heap_alloc_new w _)); clear hb)
  have h1 := HH.out
  refine leaves_cons (f := 77) (args := #[.pointer (some ⟨w.heap.size, 0, none⟩)]) (by simp) (by simp [go_sem]) ?_
  refine (catch_falls ⟨w.heap.size, 0, none⟩ false t1 u1 [] _ (cell_of h1 0 _ rfl) (frz_of h1 0)).mono ?_
  rintro e u' w2 ⟨rfl, rfl, rfl⟩
  have h2 := cell_of (one_set (u := .bool true) h1) 0 _ rfl
  simp [Leaves, settle, results, Tryd.results40, go_sem, h2]
  exact ⟨rfl, HB.out.setCell (p := ⟨w.heap.size, 0, none⟩) (Nat.le_refl _) _⟩
end Go.Proofs.YtaofomkalnagcaaDoor

/- When two values of any kind that hold controls are the same. -/
namespace Go.Proofs.YtaofomkalnagcaaDoor
open Go.RowKit M

theorem eqIn_iface {P : Program} (w : World) (d : Nat) {t tx : TypeId} {ms : Array (String × TypeId)} (x y : Value)
    (ht : P.underlying t = some (.interface ms)) (hc : (P.info? tx).map (·.comparable) = some true) : (Op.equalIn (d + 1) t (.iface tx x) (.iface tx y)).run P w = (Op.equalIn d tx x y).run P w := by
  cases hi : P.info? tx with
  | none => simp [hi] at hc
  | some i =>
    have hcc : i.comparable = true := by simpa [hi] using hc
    simp [Op.equalIn, run_underlying ht, typeInfo, hi, hcc]
theorem eql_of {P : Program} {w : World} {t : TypeId} {tx ty : TypeId} {x y : Value} {b : Bool} (h : (Op.equalIn 10000 t (.iface tx x) (.iface ty y)).run P w = .ok b w) : (binOp .eql t (.iface tx x) (.iface ty y)).run P w = .ok (.bool b) w := by
  simp only [binOp]
  simp [Op.equal, Op.maxDepth, h]
theorem neq_of {P : Program} {w : World} {t : TypeId} {tx ty : TypeId} {x y : Value} {b : Bool} (h : (Op.equalIn 10000 t (.iface tx x) (.iface ty y)).run P w = .ok b w) : (binOp .neq t (.iface tx x) (.iface ty y)).run P w = .ok (.bool (!b)) w := by
  simp only [binOp]
  simp [Op.equal, Op.maxDepth, h]

set_option maxRecDepth 100000 in
theorem in_I (a b c d : Int) (p q : Bool) (w : World) : (Op.equalIn 9999 50 (.agg #[.int .i64 a, .int .i64 b, .bool p]) (.agg #[.int .i64 c, .int .i64 d, .bool q])).run Tryd.prog w = .ok (a == c && (b == d && p == q)) w := by
  have u3 := Tryd.underlying3
  have u4 := Tryd.underlying4
  have hS : Tryd.prog.underlying 50 = some (.struct (Tryd.prog.fieldsOf 50)) := by kernel_rfl
  have hp : Tryd.prog.stoodInHeld 50 = false := by kernel_rfl
  rw [show (9999 : Nat) = 9998 + 1 from rfl, run_equalIn_agg w 9998 50 _ _ hS hp]
  simp only [Program.fieldsOf, Tryd.underlying50]
  go_simp
  by_cases h1 : a = c <;> by_cases h2 : b = d <;> by_cases h3 : p = q <;> simp [h1, h2, h3]

set_option maxRecDepth 100000 in
theorem in_S (a b c d : Int) (p q : Bool) (w : World) : (Op.equalIn 9999 53 (.agg #[.int .i64 a, .int .i64 b, .bool p]) (.agg #[.int .i64 c, .int .i64 d, .bool q])).run Tryd.prog w = .ok (a == c && (b == d && p == q)) w := by
  have u3 := Tryd.underlying3
  have u4 := Tryd.underlying4
  have hS : Tryd.prog.underlying 53 = some (.struct (Tryd.prog.fieldsOf 53)) := by kernel_rfl
  have hp : Tryd.prog.stoodInHeld 53 = false := by kernel_rfl
  rw [show (9999 : Nat) = 9998 + 1 from rfl, run_equalIn_agg w 9998 53 _ _ hS hp]
  simp only [Program.fieldsOf, Tryd.underlying53]
  go_simp
  by_cases h1 : a = c <;> by_cases h2 : b = d <;> by_cases h3 : p = q <;> simp [h1, h2, h3]

set_option maxRecDepth 100000 in
theorem in_U (a c : Int) (p q : Bool) (w : World) : (Op.equalIn 9999 56 (.agg #[.int .i64 a, .bool p]) (.agg #[.int .i64 c, .bool q])).run Tryd.prog w = .ok (a == c && p == q) w := by
  have u3 := Tryd.underlying3
  have u4 := Tryd.underlying4
  have hS : Tryd.prog.underlying 56 = some (.struct (Tryd.prog.fieldsOf 56)) := by kernel_rfl
  have hp : Tryd.prog.stoodInHeld 56 = false := by kernel_rfl
  rw [show (9999 : Nat) = 9998 + 1 from rfl, run_equalIn_agg w 9998 56 _ _ hS hp]
  simp only [Program.fieldsOf, Tryd.underlying56]
  go_simp
  by_cases h1 : a = c <;> by_cases h3 : p = q <;> simp [h1, h3]

theorem any_iface : ∃ ms, Tryd.prog.underlying 20 = some (.interface ms) := ⟨_, Tryd.underlying20⟩
theorem cmp_I : (Tryd.prog.info? 50).map (·.comparable) = some true := by kernel_rfl
theorem cmp_S : (Tryd.prog.info? 53).map (·.comparable) = some true := by kernel_rfl
theorem cmp_U : (Tryd.prog.info? 56).map (·.comparable) = some true := by kernel_rfl

theorem ifIn_I (a b c d : Int) (p q : Bool) (w : World) : (Op.equalIn 10000 20 (iV a b p) (iV c d q)).run Tryd.prog w = .ok (a == c && (b == d && p == q)) w := by
  obtain ⟨ms, hu⟩ := any_iface
  rw [show (10000 : Nat) = 9999 + 1 from rfl, eqIn_iface w 9999 _ _ hu cmp_I, in_I]
theorem ifIn_S (a b c d : Int) (p q : Bool) (w : World) : (Op.equalIn 10000 20 (sV a b p) (sV c d q)).run Tryd.prog w = .ok (a == c && (b == d && p == q)) w := by
  obtain ⟨ms, hu⟩ := any_iface
  rw [show (10000 : Nat) = 9999 + 1 from rfl, eqIn_iface w 9999 _ _ hu cmp_S, in_S]
theorem ifIn_U (a c : Int) (p q : Bool) (w : World) : (Op.equalIn 10000 20 (uV a p) (uV c q)).run Tryd.prog w = .ok (a == c && p == q) w := by
  obtain ⟨ms, hu⟩ := any_iface
  rw [show (10000 : Nat) = 9999 + 1 from rfl, eqIn_iface w 9999 _ _ hu cmp_U, in_U]
theorem ifIn_ne {tx ty : TypeId} (h : tx ≠ ty) (x y : Value) (w : World) : (Op.equalIn 10000 20 (.iface tx x) (.iface ty y)).run Tryd.prog w = .ok false w := by
  obtain ⟨ms, hu⟩ := any_iface
  have hd : ∀ d : Nat, (Op.equalIn (d + 1) 20 (.iface tx x) (.iface ty y)).run Tryd.prog w = .ok false w := fun d => by simp [Op.equalIn, run_underlying hu, h]
  exact hd 9999

theorem cv_form {c : Cn} {n : Int} (h : cb c = some n) :
    (c = ⟨1, 0, c.nr, c.ns, c.pf⟩ ∧ cv c = iV c.nr c.ns c.pf) ∨ (c = ⟨2, c.sort, c.nr, 0, c.pf⟩ ∧ cv c = sV c.sort c.nr c.pf) ∨ (c = ⟨3, c.sort, 0, 0, c.pf⟩ ∧ cv c = uV c.sort c.pf) := by
  have hn := nm_of_cb h
  have hk := cb_kind h
  unfold nm at hn
  unfold cv
  rcases hk with ⟨k, _⟩ | ⟨k, _⟩ | ⟨k, _⟩
  · rw [if_pos k] at hn; rw [if_pos k]; exact .inl ⟨hn.symm, rfl⟩
  · rw [if_neg (by omega), if_pos k] at hn; rw [if_neg (by omega), if_pos k]; exact .inr (.inl ⟨hn.symm, rfl⟩)
  · rw [if_neg (by omega), if_neg (by omega), if_pos k] at hn; rw [if_neg (by omega), if_neg (by omega), if_pos k]; exact .inr (.inr ⟨hn.symm, rfl⟩)

/-- Two controls, held as values of any kind, are the same just if they are. -/
theorem ifIn_cv {c d : Cn} {n m : Int} (hc : cb c = some n) (hd : cb d = some m) (w : World) : ∃ tx x ty y, cv c = .iface tx x ∧ cv d = .iface ty y ∧ (Op.equalIn 10000 20 (.iface tx x) (.iface ty y)).run Tryd.prog w = .ok (decide (c = d)) w := by
  have ne : ∀ {c d : Cn}, c.kind ≠ d.kind → decide (c = d) = false := fun h => decide_eq_false (fun e => h (by rw [e]))
  obtain ⟨ck, cs, cr, cn, cp⟩ := c
  obtain ⟨dk, ds, dr, dn, dp⟩ := d
  rcases cv_form hc with ⟨ec, vc⟩ | ⟨ec, vc⟩ | ⟨ec, vc⟩ <;> rcases cv_form hd with ⟨ed, vd⟩ | ⟨ed, vd⟩ | ⟨ed, vd⟩ <;> simp only at ec vc ed vd <;> rw [vc, vd] <;> refine ⟨_, _, _, _, rfl, rfl, ?_⟩ <;> rw [ec, ed]
  · rw [ifIn_I]; congr 1; rw [Bool.eq_iff_iff]; simp
  · rw [ifIn_ne (by decide), ne (by simp)]
  · rw [ifIn_ne (by decide), ne (by simp)]
  · rw [ifIn_ne (by decide), ne (by simp)]
  · rw [ifIn_S]; congr 1; rw [Bool.eq_iff_iff]; simp
  · rw [ifIn_ne (by decide), ne (by simp)]
  · rw [ifIn_ne (by decide), ne (by simp)]
  · rw [ifIn_ne (by decide), ne (by simp)]
  · rw [ifIn_U]; congr 1; rw [Bool.eq_iff_iff]; simp
theorem eql_cv {c d : Cn} {n m : Int} (hc : cb c = some n) (hd : cb d = some m) (w : World) : (binOp .eql 20 (cv c) (cv d)).run Tryd.prog w = .ok (.bool (decide (c = d))) w := by
  obtain ⟨tx, x, ty, y, e1, e2, h⟩ := ifIn_cv hc hd w
  rw [e1, e2]; exact eql_of h
theorem neq_cv {c d : Cn} {n m : Int} (hc : cb c = some n) (hd : cb d = some m) (w : World) : (binOp .neq 20 (cv c) (cv d)).run Tryd.prog w = .ok (.bool (!decide (c = d))) w := by
  obtain ⟨tx, x, ty, y, e1, e2, h⟩ := ifIn_cv hc hd w
  rw [e1, e2]; exact neq_of h
theorem guard_iface (op : BinOp) (t : TypeId) (x y : Operand) {v u : Value} {tx : TypeId} {z : Value} (h : v = .iface tx z) (w : World) : (eqGuard op t x y v u).run Tryd.prog w = .ok () w := by
  subst h
  cases op <;> cases u <;> simp [eqGuard]
theorem guard_cv {c : Cn} {n : Int} (hc : cb c = some n) (op : BinOp) (t : TypeId) (x y : Operand) (u : Value) (w : World) : (eqGuard op t x y (cv c) u).run Tryd.prog w = .ok () w := by
  obtain ⟨tx, z, _, _, e, _, _⟩ := ifIn_cv hc hc w
  exact guard_iface op t x y e w
end Go.Proofs.YtaofomkalnagcaaDoor

/- The walk of the reference's GetCtl: all controls are tried. -/
namespace Go.Proofs.YtaofomkalnagcaaDoor
open Go.RowKit M

def zc : Cn := ⟨0, 0, 0, 0, false⟩
/-- A plain frame of a control alone. -/
abbrev plainV (c : Cn) : Value := .agg #[.int .i64 0, .int .i64 0, .bool false, .int .i64 c.kind, .int .i64 c.sort, .int .i64 c.nr, .int .i64 c.ns, .bool c.pf, .string ⟨#[]⟩]
def GetCtlP (b : Int) (w : World) (e : Ending) (w' : World) : Prop := e = .returned (.tuple #[plainV ((gb b).getD zc), .bool (gb b).isSome]) ∧ Below w.heap.size w w'

theorem nine_set {w : World} {g : Nat} {z0 z1 z2 z3 z4 z5 z6 z7 z8 v0 v1 v2 v3 v4 v5 v6 v7 v8 : Value} {t : TypeId} (h : w.heap[g]? = some (.cells #[z0, z1, z2, z3, z4, z5, z6, z7, z8] t (0, 0))) :
    (((((((((w.setCell ⟨g, 0, none⟩ v0).setCell ⟨g, 1, none⟩ v1).setCell ⟨g, 2, none⟩ v2).setCell ⟨g, 3, none⟩ v3).setCell ⟨g, 4, none⟩ v4).setCell ⟨g, 5, none⟩ v5).setCell ⟨g, 6, none⟩ v6).setCell ⟨g, 7, none⟩ v7).setCell ⟨g, 8, none⟩ v8).heap[g]? = some (.cells #[v0, v1, v2, v3, v4, v5, v6, v7, v8] t (0, 0)) := by
  simp [World.setCell, Array.getElem?_modify, h]

/-- n controls were tried; the result is still nought. -/
def GRel (b : Int) (w : World) (n : Nat) (wr : World) : Prop := Tried b n ∧ Below w.heap.size w wr ∧ w.heap.size < wr.heap.size ∧ wr.heap[w.heap.size]? = some (.cells #[.int .i64 0, .int .i64 0, .bool false, .int .i64 0, .int .i64 0, .int .i64 0, .int .i64 0, .bool false, .string ⟨#[]⟩] 34 (0, 0))

theorem GRel.next {b : Int} {w wr w2 : World} {n : Nat} {o : Obj} (h : GRel b w n wr) (hn : cb (nth b n) ≠ some b) (hb : Below (wr.alloc o).heap.size (wr.alloc o) w2) : GRel b w (n + 1) w2 := by
  obtain ⟨h1, h2, h3, h4⟩ := h
  have hbb := (bal (bel0 wr) o).trans (hb.mono (bal (bel0 wr) o).size)
  exact ⟨h1.succ hn, h2.trans (hbb.mono (Nat.le_of_lt h3)), Nat.lt_of_lt_of_le h3 hbb.size, (hbb.block _ h3).trans h4⟩
theorem nine_below {a w : World} {v0 v1 v2 v3 v4 v5 v6 v7 v8 : Value} (h : Below a.heap.size a w) :
    Below a.heap.size a (((((((((w.setCell ⟨a.heap.size, 0, none⟩ v0).setCell ⟨a.heap.size, 1, none⟩ v1).setCell ⟨a.heap.size, 2, none⟩ v2).setCell ⟨a.heap.size, 3, none⟩ v3).setCell ⟨a.heap.size, 4, none⟩ v4).setCell ⟨a.heap.size, 5, none⟩ v5).setCell ⟨a.heap.size, 6, none⟩ v6).setCell ⟨a.heap.size, 7, none⟩ v7).setCell ⟨a.heap.size, 8, none⟩ v8) := by
  have s : ∀ {x : World} (k : Nat) (v : Value), Below a.heap.size a x → Below a.heap.size a (x.setCell ⟨a.heap.size, k, none⟩ v) := fun k v hx => hx.setCell (p := ⟨a.heap.size, k, none⟩) (Nat.le_refl _) v
  exact s 8 v8 (s 7 v7 (s 6 v6 (s 5 v5 (s 4 v4 (s 3 v3 (s 2 v2 (s 1 v1 (s 0 v0 h))))))))
theorem getCtlP_none {b : Int} {w w' : World} (h : gb b = none) (hb : Below w.heap.size w w') : GetCtlP b w (.returned (.tuple #[plainV zc, .bool false])) w' := by
  unfold GetCtlP; rw [h]; exact ⟨rfl, hb⟩
theorem getCtlP_some {b : Int} {c : Cn} {w w' : World} (h : gb b = some c) (hb : Below w.heap.size w w') : GetCtlP b w (.returned (.tuple #[plainV c, .bool true])) w' := by
  unfold GetCtlP; rw [h]; exact ⟨rfl, hb⟩
theorem results_cell2 {P : Program} {fn : Func} {p q : Tmp} {ty : TypeId} (h : fn.results = #[.cell p ty, .tmp q]) (tmps : Array Value) (w : World) (g : Nat) (t : TypeId) (cs : Array Value) (fr : Nat × Nat) (d : TypeDesc) (v : Value)
    (hp : tmps.getD p undef = .pointer (some ⟨g, 0, none⟩)) (hq : tmps.getD q undef = v) (hg : w.heap[g]? = some (.cells cs t fr))
    (hu : P.underlying ty = some d) (hd : (match d with | .struct _ | .array _ _ => true | _ => false) = true) (hi : (P.info? ty).map (·.size) = some cs.size) :
    (results fn tmps).run P w = .ok (.tuple #[.agg cs, v]) w := by
  have hp' : tmps[p]?.getD undef = .pointer (some ⟨g, 0, none⟩) := by simpa using hp
  have hq' : tmps[q]?.getD undef = v := by simpa using hq
  simp [results, h, hp', hq', asAddr, run_loadVar_row w g t ty cs fr d hg hu hd hi]

set_option maxRecDepth 100000 in
set_option maxHeartbeats 8000000 in
theorem GetCtl_any (b : Int) (h0 : 0 ≤ b ∧ b < 256) (w : World) : Calls Tryd.prog 39 #[.int .u8 b] w (GetCtlP b w) := by
  have H0 := Lib.hid h0
  obtain ⟨hb0, hb1⟩ := h0
  go_enter Tryd.func39, Tryd.ntmps39
  go_wp2
  go_loopw [3, 4] (fun q i wr => q = .bool false ∧ ∃ k : Nat, 1 ≤ k ∧ k ≤ 4 ∧ i = .int .i64 k ∧ GRel b w (16 * (k - 1)) wr) (fun _ i _ => 4 - (intOf i).toNat)
  case atStart => exact ⟨rfl, 1, by omega, by omega, rfl, Tried.zero b, bal (bel0 _) _, by simp, heap_alloc_new w _⟩
  case round =>
    obtain ⟨rfl, k, hk1, hk4, rfl, hR⟩ := hrel
    have HR := Lib.hid hR
    clear hR
    by_cases hlt : k ≤ 3
    · have td1 : decide ((k : Int) ≤ 3) = true := decide_eq_true (by omega)
      go_wp2
      obtain ⟨wo, rfl⟩ : ∃ wo : World, wo = wr := ⟨_, rfl⟩
      go_loopw [3, 5] (fun q i wr => q = .bool false ∧ ∃ s : Nat, s ≤ 8 ∧ i = .int .i64 s ∧ GRel b w (16 * (k - 1) + 2 * s) wr) (fun _ i _ => 8 - (intOf i).toNat)
      case atStart => exact ⟨rfl, 0, by omega, rfl, HR.out⟩
      case round =>
        obtain ⟨rfl, s, hs8, rfl, hR2⟩ := hrel
        have HR2 := Lib.hid hR2
        clear hR2
        by_cases hls : s ≤ 7
        · have td2 : decide ((s : Int) ≤ 7) = true := decide_eq_true (by omega)
          go_wp2
          obtain ⟨wo2, rfl⟩ : ∃ wo2 : World, wo2 = wr := ⟨_, rfl⟩
          go_loopw [3, 6] (fun q i wr => q = .bool false ∧ ∃ f : Nat, f ≤ 2 ∧ i = .int .i64 f ∧ GRel b w (16 * (k - 1) + 2 * s + f) wr) (fun _ i _ => 2 - (intOf i).toNat)
          case atStart => exact ⟨rfl, 0, by omega, rfl, HR2.out⟩
          case round =>
            obtain ⟨rfl, f, hf2, rfl, hR3⟩ := hrel
            have HR3 := Lib.hid hR3
            obtain ⟨-, -, hzr, hhr⟩ := hR3
            have HHR := Lib.hid hhr
            clear hhr
            by_cases hlf : f ≤ 1
            · have td3 : decide ((f : Int) < 2) = true := decide_eq_true (by omega)
              obtain ⟨pf, hpf, hpf2⟩ : ∃ pf, ((f : Int) == 1) = pf ∧ (f == 1) = pf := by
                refine ⟨_, rfl, ?_⟩
                rw [Bool.eq_iff_iff, beq_iff_eq, beq_iff_eq]; omega
              have hnth := nth_at b (k - 1) s f (by omega) (by omega)
              rw [hpf2, show (1 : Int) + ((k - 1 : Nat) : Int) = k by omega] at hnth
              clear hpf2
              rcases (show k = 1 ∨ k = 2 ∨ k = 3 by omega) with hk | hk | hk
              · have hc : nth b (16 * (k - 1) + 2 * s + f) = ⟨k, s, b / 32, b / 2 % 8, pf⟩ := by rw [hnth]; unfold tri; rw [if_pos (show (k : Int) < 3 by omega), if_pos (show (k : Int) = 1 by omega)]
                have hkc := fun w => RefCtl_any 0 0 false k s (b / 32) (b / 2 % 8) pf ⟨#[]⟩ w
                unfold CtlSays at hkc
                have t1 : ((k : Int) == 1) = true := by first | exact beq_iff_eq.2 (by omega) | exact beq_eq_false_iff_ne.2 (by omega)
                have HC := Lib.hid hc
                have hka : 1 ≤ k := by omega
                have hkb : k ≤ 1 := by omega
                clear hnth hc hk1 hk4 hlt hk
                rcases hcb : cb ⟨k, s, b / 32, b / 2 % 8, pf⟩ with _ | n
                · rw [hcb] at hkc
                  simp only [Option.getD_none, Option.isSome_none, Option.getD_some, Option.isSome_some] at hkc
                  have HK := Lib.hid hkc
                  have HN : Hid (cb (nth b (16 * (k - 1) + 2 * s + f)) ≠ some b) := by show _ ≠ _; rw [HC.out, hcb]; exact fun h => by cases h
                  clear hkc hcb
                  go_wp2_with (go_at_call 34; refine (HK.out _).mono ?_; rintro e w2 ⟨rfl, hb⟩; have HB := Lib.hid hb; have hz2 := hb.size; obtain ⟨hcl, hfr⟩ := bcell hb; clear hb)
                  go_roundw
                  case rel => exact ⟨rfl, f + 1, by omega, by go_num, HR3.out.next HN.out HB.out⟩
                  case measure => simp [intOf]; omega
                · rw [hcb] at hkc
                  simp only [Option.getD_none, Option.isSome_none, Option.getD_some, Option.isSome_some] at hkc
                  have HK := Lib.hid hkc
                  rcases hnb : (n == b) with _ | _
                  · have HN : Hid (cb (nth b (16 * (k - 1) + 2 * s + f)) ≠ some b) := by show _ ≠ _; rw [HC.out, hcb]; intro h; injection h with h; exact beq_eq_false_iff_ne.1 hnb h
                    clear hkc hcb
                    go_wp2_with (go_at_call 34; refine (HK.out _).mono ?_; rintro e w2 ⟨rfl, hb⟩; have HB := Lib.hid hb; have hz2 := hb.size; obtain ⟨hcl, hfr⟩ := bcell hb; clear hb)
                    go_roundw
                    case rel => exact ⟨rfl, f + 1, by omega, by go_num, HR3.out.next HN.out HB.out⟩
                    case measure => simp [intOf]; omega
                  · have hne : n = b := beq_iff_eq.1 hnb
                    rw [hne] at hcb
                    have HG := Lib.hid (gb_cb hcb)
                    clear hkc hcb hne
                    have c0 : wr.cell? ⟨w.heap.size, 0, none⟩ = some (.int .i64 0) := cell_of HHR.out 0 _ rfl
                    have c1 : wr.cell? ⟨w.heap.size, 1, none⟩ = some (.int .i64 0) := cell_of HHR.out 1 _ rfl
                    have c2 : wr.cell? ⟨w.heap.size, 2, none⟩ = some (.bool false) := cell_of HHR.out 2 _ rfl
                    have c3 : wr.cell? ⟨w.heap.size, 3, none⟩ = some (.int .i64 0) := cell_of HHR.out 3 _ rfl
                    have c4 : wr.cell? ⟨w.heap.size, 4, none⟩ = some (.int .i64 0) := cell_of HHR.out 4 _ rfl
                    have c5 : wr.cell? ⟨w.heap.size, 5, none⟩ = some (.int .i64 0) := cell_of HHR.out 5 _ rfl
                    have c6 : wr.cell? ⟨w.heap.size, 6, none⟩ = some (.int .i64 0) := cell_of HHR.out 6 _ rfl
                    have c7 : wr.cell? ⟨w.heap.size, 7, none⟩ = some (.bool false) := cell_of HHR.out 7 _ rfl
                    have c8 : wr.cell? ⟨w.heap.size, 8, none⟩ = some (.string ⟨#[]⟩) := cell_of HHR.out 8 _ rfl
                    have cf : ∀ i, wr.frozen? ⟨w.heap.size, i, none⟩ = false := fun i => frz_of HHR.out i
                    go_wp2_with (go_at_call 34; refine (HK.out _).mono ?_; rintro e w2 ⟨rfl, hb⟩; have HB := Lib.hid hb; have hz2 := hb.size; obtain ⟨hcl, hfr⟩ := bcell hb; clear hb)
                    have HBB := (bal (bel0 wr) _).trans (HB.out.mono (bal (bel0 wr) _).size)
                    have hfin := nine_set (v0 := .int .i64 0) (v1 := .int .i64 0) (v2 := .bool false) (v3 := .int .i64 k) (v4 := .int .i64 s) (v5 := .int .i64 (b / 32)) (v6 := .int .i64 (b / 2 % 8)) (v7 := .bool pf) (v8 := .string ⟨#[]⟩) ((HBB.block _ hzr).trans HHR.out)
                    refine ⟨rfl, _, results_cell2 rfl _ _ w.heap.size _ _ _ _ _ rfl rfl hfin Tryd.underlying34 rfl (by kernel_rfl), getCtlP_some HG.out ?_⟩
                    exact nine_below (HR3.out.2.1.trans (HBB.mono (Nat.le_of_lt hzr)))
              · have hc : nth b (16 * (k - 1) + 2 * s + f) = ⟨k, s, b / 32, 0, pf⟩ := by rw [hnth]; unfold tri; rw [if_pos (show (k : Int) < 3 by omega), if_neg (show ¬ (k : Int) = 1 by omega)]
                have hkc := fun w => RefCtl_any 0 0 false k s (b / 32) (0) pf ⟨#[]⟩ w
                unfold CtlSays at hkc
                have t1 : ((k : Int) == 1) = false := by first | exact beq_iff_eq.2 (by omega) | exact beq_eq_false_iff_ne.2 (by omega)
                have HC := Lib.hid hc
                have hka : 2 ≤ k := by omega
                have hkb : k ≤ 2 := by omega
                clear hnth hc hk1 hk4 hlt hk
                rcases hcb : cb ⟨k, s, b / 32, 0, pf⟩ with _ | n
                · rw [hcb] at hkc
                  simp only [Option.getD_none, Option.isSome_none, Option.getD_some, Option.isSome_some] at hkc
                  have HK := Lib.hid hkc
                  have HN : Hid (cb (nth b (16 * (k - 1) + 2 * s + f)) ≠ some b) := by show _ ≠ _; rw [HC.out, hcb]; exact fun h => by cases h
                  clear hkc hcb
                  go_wp2_with (go_at_call 34; refine (HK.out _).mono ?_; rintro e w2 ⟨rfl, hb⟩; have HB := Lib.hid hb; have hz2 := hb.size; obtain ⟨hcl, hfr⟩ := bcell hb; clear hb)
                  go_roundw
                  case rel => exact ⟨rfl, f + 1, by omega, by go_num, HR3.out.next HN.out HB.out⟩
                  case measure => simp [intOf]; omega
                · rw [hcb] at hkc
                  simp only [Option.getD_none, Option.isSome_none, Option.getD_some, Option.isSome_some] at hkc
                  have HK := Lib.hid hkc
                  rcases hnb : (n == b) with _ | _
                  · have HN : Hid (cb (nth b (16 * (k - 1) + 2 * s + f)) ≠ some b) := by show _ ≠ _; rw [HC.out, hcb]; intro h; injection h with h; exact beq_eq_false_iff_ne.1 hnb h
                    clear hkc hcb
                    go_wp2_with (go_at_call 34; refine (HK.out _).mono ?_; rintro e w2 ⟨rfl, hb⟩; have HB := Lib.hid hb; have hz2 := hb.size; obtain ⟨hcl, hfr⟩ := bcell hb; clear hb)
                    go_roundw
                    case rel => exact ⟨rfl, f + 1, by omega, by go_num, HR3.out.next HN.out HB.out⟩
                    case measure => simp [intOf]; omega
                  · have hne : n = b := beq_iff_eq.1 hnb
                    rw [hne] at hcb
                    have HG := Lib.hid (gb_cb hcb)
                    clear hkc hcb hne
                    have c0 : wr.cell? ⟨w.heap.size, 0, none⟩ = some (.int .i64 0) := cell_of HHR.out 0 _ rfl
                    have c1 : wr.cell? ⟨w.heap.size, 1, none⟩ = some (.int .i64 0) := cell_of HHR.out 1 _ rfl
                    have c2 : wr.cell? ⟨w.heap.size, 2, none⟩ = some (.bool false) := cell_of HHR.out 2 _ rfl
                    have c3 : wr.cell? ⟨w.heap.size, 3, none⟩ = some (.int .i64 0) := cell_of HHR.out 3 _ rfl
                    have c4 : wr.cell? ⟨w.heap.size, 4, none⟩ = some (.int .i64 0) := cell_of HHR.out 4 _ rfl
                    have c5 : wr.cell? ⟨w.heap.size, 5, none⟩ = some (.int .i64 0) := cell_of HHR.out 5 _ rfl
                    have c6 : wr.cell? ⟨w.heap.size, 6, none⟩ = some (.int .i64 0) := cell_of HHR.out 6 _ rfl
                    have c7 : wr.cell? ⟨w.heap.size, 7, none⟩ = some (.bool false) := cell_of HHR.out 7 _ rfl
                    have c8 : wr.cell? ⟨w.heap.size, 8, none⟩ = some (.string ⟨#[]⟩) := cell_of HHR.out 8 _ rfl
                    have cf : ∀ i, wr.frozen? ⟨w.heap.size, i, none⟩ = false := fun i => frz_of HHR.out i
                    go_wp2_with (go_at_call 34; refine (HK.out _).mono ?_; rintro e w2 ⟨rfl, hb⟩; have HB := Lib.hid hb; have hz2 := hb.size; obtain ⟨hcl, hfr⟩ := bcell hb; clear hb)
                    have HBB := (bal (bel0 wr) _).trans (HB.out.mono (bal (bel0 wr) _).size)
                    have hfin := nine_set (v0 := .int .i64 0) (v1 := .int .i64 0) (v2 := .bool false) (v3 := .int .i64 k) (v4 := .int .i64 s) (v5 := .int .i64 (b / 32)) (v6 := .int .i64 (0)) (v7 := .bool pf) (v8 := .string ⟨#[]⟩) ((HBB.block _ hzr).trans HHR.out)
                    refine ⟨rfl, _, results_cell2 rfl _ _ w.heap.size _ _ _ _ _ rfl rfl hfin Tryd.underlying34 rfl (by kernel_rfl), getCtlP_some HG.out ?_⟩
                    exact nine_below (HR3.out.2.1.trans (HBB.mono (Nat.le_of_lt hzr)))
              · have hc : nth b (16 * (k - 1) + 2 * s + f) = ⟨k, s, 0, 0, pf⟩ := by rw [hnth]; unfold tri; rw [if_neg (show ¬ (k : Int) < 3 by omega), if_neg (show ¬ (k : Int) = 1 by omega)]
                have hkc := fun w => RefCtl_any 0 0 false k s (0) (0) pf ⟨#[]⟩ w
                unfold CtlSays at hkc
                have t1 : ((k : Int) == 1) = false := by first | exact beq_iff_eq.2 (by omega) | exact beq_eq_false_iff_ne.2 (by omega)
                have HC := Lib.hid hc
                have hka : 3 ≤ k := by omega
                have hkb : k ≤ 3 := by omega
                clear hnth hc hk1 hk4 hlt hk
                rcases hcb : cb ⟨k, s, 0, 0, pf⟩ with _ | n
                · rw [hcb] at hkc
                  simp only [Option.getD_none, Option.isSome_none, Option.getD_some, Option.isSome_some] at hkc
                  have HK := Lib.hid hkc
                  have HN : Hid (cb (nth b (16 * (k - 1) + 2 * s + f)) ≠ some b) := by show _ ≠ _; rw [HC.out, hcb]; exact fun h => by cases h
                  clear hkc hcb
                  go_wp2_with (go_at_call 34; refine (HK.out _).mono ?_; rintro e w2 ⟨rfl, hb⟩; have HB := Lib.hid hb; have hz2 := hb.size; obtain ⟨hcl, hfr⟩ := bcell hb; clear hb)
                  go_roundw
                  case rel => exact ⟨rfl, f + 1, by omega, by go_num, HR3.out.next HN.out HB.out⟩
                  case measure => simp [intOf]; omega
                · rw [hcb] at hkc
                  simp only [Option.getD_none, Option.isSome_none, Option.getD_some, Option.isSome_some] at hkc
                  have HK := Lib.hid hkc
                  rcases hnb : (n == b) with _ | _
                  · have HN : Hid (cb (nth b (16 * (k - 1) + 2 * s + f)) ≠ some b) := by show _ ≠ _; rw [HC.out, hcb]; intro h; injection h with h; exact beq_eq_false_iff_ne.1 hnb h
                    clear hkc hcb
                    go_wp2_with (go_at_call 34; refine (HK.out _).mono ?_; rintro e w2 ⟨rfl, hb⟩; have HB := Lib.hid hb; have hz2 := hb.size; obtain ⟨hcl, hfr⟩ := bcell hb; clear hb)
                    go_roundw
                    case rel => exact ⟨rfl, f + 1, by omega, by go_num, HR3.out.next HN.out HB.out⟩
                    case measure => simp [intOf]; omega
                  · have hne : n = b := beq_iff_eq.1 hnb
                    rw [hne] at hcb
                    have HG := Lib.hid (gb_cb hcb)
                    clear hkc hcb hne
                    have c0 : wr.cell? ⟨w.heap.size, 0, none⟩ = some (.int .i64 0) := cell_of HHR.out 0 _ rfl
                    have c1 : wr.cell? ⟨w.heap.size, 1, none⟩ = some (.int .i64 0) := cell_of HHR.out 1 _ rfl
                    have c2 : wr.cell? ⟨w.heap.size, 2, none⟩ = some (.bool false) := cell_of HHR.out 2 _ rfl
                    have c3 : wr.cell? ⟨w.heap.size, 3, none⟩ = some (.int .i64 0) := cell_of HHR.out 3 _ rfl
                    have c4 : wr.cell? ⟨w.heap.size, 4, none⟩ = some (.int .i64 0) := cell_of HHR.out 4 _ rfl
                    have c5 : wr.cell? ⟨w.heap.size, 5, none⟩ = some (.int .i64 0) := cell_of HHR.out 5 _ rfl
                    have c6 : wr.cell? ⟨w.heap.size, 6, none⟩ = some (.int .i64 0) := cell_of HHR.out 6 _ rfl
                    have c7 : wr.cell? ⟨w.heap.size, 7, none⟩ = some (.bool false) := cell_of HHR.out 7 _ rfl
                    have c8 : wr.cell? ⟨w.heap.size, 8, none⟩ = some (.string ⟨#[]⟩) := cell_of HHR.out 8 _ rfl
                    have cf : ∀ i, wr.frozen? ⟨w.heap.size, i, none⟩ = false := fun i => frz_of HHR.out i
                    go_wp2_with (go_at_call 34; refine (HK.out _).mono ?_; rintro e w2 ⟨rfl, hb⟩; have HB := Lib.hid hb; have hz2 := hb.size; obtain ⟨hcl, hfr⟩ := bcell hb; clear hb)
                    have HBB := (bal (bel0 wr) _).trans (HB.out.mono (bal (bel0 wr) _).size)
                    have hfin := nine_set (v0 := .int .i64 0) (v1 := .int .i64 0) (v2 := .bool false) (v3 := .int .i64 k) (v4 := .int .i64 s) (v5 := .int .i64 (0)) (v6 := .int .i64 (0)) (v7 := .bool pf) (v8 := .string ⟨#[]⟩) ((HBB.block _ hzr).trans HHR.out)
                    refine ⟨rfl, _, results_cell2 rfl _ _ w.heap.size _ _ _ _ _ rfl rfl hfin Tryd.underlying34 rfl (by kernel_rfl), getCtlP_some HG.out ?_⟩
                    exact nine_below (HR3.out.2.1.trans (HBB.mono (Nat.le_of_lt hzr)))
            · obtain rfl : f = 2 := by omega
              go_wp2
              go_roundw
              case rel => exact ⟨rfl, s + 1, by omega, by go_num, HR3.out⟩
              case measure => simp [intOf]; omega
        · obtain rfl : s = 8 := by omega
          have hn : 16 * (k - 1) + 2 * 8 = 16 * (k + 1 - 1) := by omega
          have h3 := HR2.out
          rw [hn] at h3
          have H3 := Lib.hid h3
          clear h3 hn
          go_wp2
          go_roundw
          case rel => exact ⟨rfl, k + 1, by omega, by omega, by go_num, H3.out⟩
          case measure => simp [intOf]; omega
    · obtain rfl : k = 4 := by omega
      have hgn := HR.out.1.none H0.out
      have HG := Lib.hid hgn
      obtain ⟨-, hbb, hzr, hhr⟩ := HR.out
      have HBB := Lib.hid hbb
      have HHR := Lib.hid hhr
      clear hgn hbb hhr
      have c0 : wr.cell? ⟨w.heap.size, 0, none⟩ = some (.int .i64 0) := cell_of HHR.out 0 _ rfl
      have c1 : wr.cell? ⟨w.heap.size, 1, none⟩ = some (.int .i64 0) := cell_of HHR.out 1 _ rfl
      have c2 : wr.cell? ⟨w.heap.size, 2, none⟩ = some (.bool false) := cell_of HHR.out 2 _ rfl
      have c3 : wr.cell? ⟨w.heap.size, 3, none⟩ = some (.int .i64 0) := cell_of HHR.out 3 _ rfl
      have c4 : wr.cell? ⟨w.heap.size, 4, none⟩ = some (.int .i64 0) := cell_of HHR.out 4 _ rfl
      have c5 : wr.cell? ⟨w.heap.size, 5, none⟩ = some (.int .i64 0) := cell_of HHR.out 5 _ rfl
      have c6 : wr.cell? ⟨w.heap.size, 6, none⟩ = some (.int .i64 0) := cell_of HHR.out 6 _ rfl
      have c7 : wr.cell? ⟨w.heap.size, 7, none⟩ = some (.bool false) := cell_of HHR.out 7 _ rfl
      have c8 : wr.cell? ⟨w.heap.size, 8, none⟩ = some (.string ⟨#[]⟩) := cell_of HHR.out 8 _ rfl
      have cf : ∀ i, wr.frozen? ⟨w.heap.size, i, none⟩ = false := fun i => frz_of HHR.out i
      go_wp2
      have hfin := nine_set (v0 := .int .i64 0) (v1 := .int .i64 0) (v2 := .bool false) (v3 := .int .i64 0) (v4 := .int .i64 0) (v5 := .int .i64 0) (v6 := .int .i64 0) (v7 := .bool false) (v8 := .string ⟨#[]⟩) HHR.out
      refine ⟨rfl, _, results_cell2 rfl _ _ w.heap.size _ _ _ _ _ rfl rfl hfin Tryd.underlying34 rfl (by kernel_rfl), getCtlP_none HG.out ?_⟩
      exact nine_below HBB.out
end Go.Proofs.YtaofomkalnagcaaDoor

/- Words for package ctl's functions of controls of which it is known whether they may be; and the reference's. -/
namespace Go.Proofs.YtaofomkalnagcaaDoor
open Go.RowKit M

theorem cv_nm (c : Cn) : cv c = cv (nm c) := by
  obtain ⟨kind, sort, nr, ns, pf⟩ := c
  unfold cv nm
  by_cases h1 : kind = 1
  · rw [if_pos h1, if_pos h1, if_pos rfl]
  · rw [if_neg h1, if_neg h1]
    by_cases h2 : kind = 2
    · rw [if_pos h2, if_pos h2]; rfl
    · rw [if_neg h2, if_neg h2]
      by_cases h3 : kind = 3
      · rw [if_pos h3, if_pos h3]; rfl
      · rw [if_neg h3, if_neg h3]; rfl
/-- Put, of a control of which it is known whether it may be. -/
abbrev PutIs (v : Value) (n : Int) (ok : Bool) : Prop := ∀ w, Codes w → Calls Tryd.prog 35 #[v] w fun e w' => e = .returned (.tuple #[.int .u8 n, .bool ok]) ∧ Below w.heap.size w w'
theorem putIs_none {c : Cn} (h : cb (nm c) = none) : PutIs (cv c) 0 false := fun w hC => by
  have := CPut_any (isAny_cv c) w hC
  unfold CtlSays at this
  rw [h] at this
  exact this
theorem putIs_some {c : Cn} {n : Int} (h : cb (nm c) = some n) : PutIs (cv c) n true := fun w hC => by
  have := CPut_any (isAny_cv c) w hC
  unfold CtlSays at this
  rw [h] at this
  exact this

abbrev MayIs (v : Value) (ok : Bool) : Prop := ∀ w, Calls Tryd.prog 36 #[v] w fun e w' => e = .returned (.bool ok) ∧ Below w.heap.size w w'
theorem mayIs {c : Cn} {ok : Bool} (h : (cb (nm c)).isSome = ok) : MayIs (cv c) ok := fun w => by
  have := CMay_any (isAny_cv c) w
  unfold MayP at this
  rw [h] at this
  exact this
abbrev GetIs (b : Int) (v : Value) (ok : Bool) : Prop := ∀ w, Codes w → Calls Tryd.prog 37 #[.int .u8 b] w fun e w' => e = .returned (.tuple #[v, .bool ok]) ∧ w = w'
theorem getIs_some {b : Int} {c : Cn} (h0 : 0 ≤ b ∧ b < 256) (h : gb b = some c) : GetIs b (cv c) true := fun w hC => by
  have := CGet_any b h0 w hC
  unfold GetP at this
  rw [h] at this
  exact this
theorem getIs_none {b : Int} (h0 : 0 ≤ b ∧ b < 256) (h : gb b = none) : GetIs b .nilIface false := fun w hC => by
  have := CGet_any b h0 w hC
  unfold GetP at this
  rw [h] at this
  exact this
abbrev RefGetIs (b : Int) (c : Cn) (ok : Bool) : Prop := ∀ w, Calls Tryd.prog 39 #[.int .u8 b] w fun e w' => e = .returned (.tuple #[.agg #[.int .i64 0, .int .i64 0, .bool false, .int .i64 c.kind, .int .i64 c.sort, .int .i64 c.nr, .int .i64 c.ns, .bool c.pf, .string ⟨#[]⟩], .bool ok]) ∧ Below w.heap.size w w'
theorem refGetIs_some {b : Int} {c : Cn} (h0 : 0 ≤ b ∧ b < 256) (h : gb b = some c) : RefGetIs b c true := fun w => by
  have := GetCtl_any b h0 w
  unfold GetCtlP at this
  rw [h] at this
  exact this
theorem refGetIs_none {b : Int} (h0 : 0 ≤ b ∧ b < 256) (h : gb b = none) : RefGetIs b zc false := fun w => by
  have := GetCtl_any b h0 w
  unfold GetCtlP at this
  rw [h] at this
  exact this
/-- Ctl, of a plain frame's control. -/
abbrev CtlIs (c : Cn) (n : Int) (ok : Bool) : Prop := ∀ seat count cmd body w, Calls Tryd.prog 34 #[.agg #[.int .i64 seat, .int .i64 count, .bool cmd, .int .i64 c.kind, .int .i64 c.sort, .int .i64 c.nr, .int .i64 c.ns, .bool c.pf, .string body]] w fun e w' => e = .returned (.tuple #[.int .u8 n, .bool ok]) ∧ Below w.heap.size w w'
theorem ctlIs_some {c : Cn} {n : Int} (h : cb c = some n) : CtlIs c n true := fun seat count cmd body w => by
  have := RefCtl_any seat count cmd c.kind c.sort c.nr c.ns c.pf body w
  unfold CtlSays at this
  rw [h] at this
  exact this
theorem ctlIs_none {c : Cn} (h : cb c = none) : CtlIs c 0 false := fun seat count cmd body w => by
  have := RefCtl_any seat count cmd c.kind c.sort c.nr c.ns c.pf body w
  unfold CtlSays at this
  rw [h] at this
  exact this
theorem cb_other {kind sort nr ns : Int} {pf : Bool} (h1 : kind ≠ 1) (h2 : kind ≠ 2) (h3 : kind ≠ 3) : cb ⟨kind, sort, nr, ns, pf⟩ = none :=
  cb_none (fun h => h1 h.1) (fun h => h2 h.1) (fun h => h3 h.1)
theorem any1_lit (seat count : Int) (cmd : Bool) (kind sort nr ns : Int) (pf : Bool) (body : ByteArray) (w : World) : Calls Tryd.prog 33 #[.agg #[.int .i64 seat, .int .i64 count, .bool cmd, .int .i64 kind, .int .i64 sort, .int .i64 nr, .int .i64 ns, .bool pf, .string body]] w fun e w' => e = .returned (cv ⟨kind, sort, nr, ns, pf⟩) ∧ Below w.heap.size w w' :=
  any1_any ⟨seat, count, cmd, kind, sort, nr, ns, pf, body⟩ w
theorem eq_nils (W : World) : (binOp .eql 20 .nilIface .nilIface).run Tryd.prog W = .ok (.bool true) W := by kernel_rfl

end Go.Proofs.YtaofomkalnagcaaDoor

/- The walk of the reference's May, of plain frames. -/
namespace Go.Proofs.YtaofomkalnagcaaDoor
open Go.RowKit M

set_option maxRecDepth 100000 in
set_option maxHeartbeats 2000000 in
theorem RefMayF_any (seat count : Int) (cmd : Bool) (kind sort nr ns : Int) (pf : Bool) (body : ByteArray) (w : World) :
    Calls Tryd.prog 46 #[.agg #[.int .i64 seat, .int .i64 count, .bool cmd, .int .i64 kind, .int .i64 sort, .int .i64 nr, .int .i64 ns, .bool pf, .string body]] w fun e w' =>
      e = .returned (.bool (decide (mayF ⟨seat, count, cmd, ⟨kind, sort, nr, ns, pf⟩, body.data.toList⟩))) ∧ Below w.heap.size w w' := by
  go_enter Tryd.func46, Tryd.ntmps46
  go_wp2_with (with_reducible refine wpList_boxPlain rfl (.tmp 0) rfl rfl ?_)
  intro w1 hbel hlt hh
  have c0 : w1.cell? ⟨w.heap.size, 0, none⟩ = some (.int .i64 seat) := cell_of hh 0 _ rfl
  have c1 : w1.cell? ⟨w.heap.size, 1, none⟩ = some (.int .i64 count) := cell_of hh 1 _ rfl
  have c2 : w1.cell? ⟨w.heap.size, 2, none⟩ = some (.bool cmd) := cell_of hh 2 _ rfl
  have c3 : w1.cell? ⟨w.heap.size, 3, none⟩ = some (.int .i64 kind) := cell_of hh 3 _ rfl
  have c4 : w1.cell? ⟨w.heap.size, 4, none⟩ = some (.int .i64 sort) := cell_of hh 4 _ rfl
  have c5 : w1.cell? ⟨w.heap.size, 5, none⟩ = some (.int .i64 nr) := cell_of hh 5 _ rfl
  have c6 : w1.cell? ⟨w.heap.size, 6, none⟩ = some (.int .i64 ns) := cell_of hh 6 _ rfl
  have c7 : w1.cell? ⟨w.heap.size, 7, none⟩ = some (.bool pf) := cell_of hh 7 _ rfl
  have c8 : w1.cell? ⟨w.heap.size, 8, none⟩ = some (.string body) := cell_of hh 8 _ rfl
  clear hh
  go_wp2_with (go_at_call 34; refine (RefCtl_any seat count cmd kind sort nr ns pf body _).mono ?_)
  rintro e w2 ⟨he, hb2⟩
  unfold CtlSays at he
  subst he
  have hb := hbel.trans (hb2.mono (Nat.le_of_lt hlt))
  have d0 := (hb2.cell (p := ⟨w.heap.size, 0, none⟩) hlt).trans c0
  have d1 := (hb2.cell (p := ⟨w.heap.size, 1, none⟩) hlt).trans c1
  have d3 := (hb2.cell (p := ⟨w.heap.size, 3, none⟩) hlt).trans c3
  have d8 := (hb2.cell (p := ⟨w.heap.size, 8, none⟩) hlt).trans c8
  clear c0 c1 c2 c3 c4 c5 c6 c7 c8
  have hlen : body.data.toList.length = body.size := by rw [Array.length_toList]; rfl
  have hm : mayF ⟨seat, count, cmd, ⟨kind, sort, nr, ns, pf⟩, body.data.toList⟩ ↔ (cb ⟨kind, sort, nr, ns, pf⟩).isSome = true ∧ 0 ≤ seat ∧ seat ≤ 127 ∧ 0 ≤ count ∧ count ≤ 255 ∧ body.size ≤ 64 ∧ (kind ≠ 2 ∨ body.toList.isEmpty = true) := by
    unfold mayF
    rw [hlen, ByteArray.toList_eq, List.isEmpty_iff]
  have HM := Lib.hid hm
  clear hm hlen
  generalize (cb ⟨kind, sort, nr, ns, pf⟩).getD 0 = n at *
  generalize hok : (cb ⟨kind, sort, nr, ns, pf⟩).isSome = ok at *
  have fin : ∀ b : Bool, (b = true ↔ (ok = true ∧ 0 ≤ seat ∧ seat ≤ 127 ∧ 0 ≤ count ∧ count ≤ 255 ∧ body.size ≤ 64 ∧ (kind ≠ 2 ∨ body.toList.isEmpty = true))) → Ending.returned (.bool b) = .returned (.bool (decide (mayF ⟨seat, count, cmd, ⟨kind, sort, nr, ns, pf⟩, body.data.toList⟩))) := by
    intro b h
    rw [← HM.out] at h
    congr 2
    cases b
    · exact (decide_eq_false (fun hh => by cases h.2 hh)).symm
    · exact (decide_eq_true (h.1 rfl)).symm
  have HF := Lib.hid fin
  clear fin HM hok
  cases ok
  · go_wp2
    go_ret
    exact ⟨HF.out _ (by simp), hb⟩
  · go_wp2
    all_goals
      go_ret
      refine ⟨HF.out _ ?_, hb⟩
      clear HF
      generalize body.toList.isEmpty = em
      generalize body.size = len at *
      cases em <;> simp only [true_and, Bool.false_eq_true, reduceCtorEq, or_false, or_true, and_true, ne_eq, iff_true, true_iff, false_iff, iff_false, not_and, not_true_eq_false, not_false_eq_true] <;> omega
end Go.Proofs.YtaofomkalnagcaaDoor

/- The walk of the reference's Put. -/
namespace Go.Proofs.YtaofomkalnagcaaDoor
open Go.RowKit M

/-- What makes the bytes l. -/
def MakesB (l : List UInt8) (w : World) (e : Ending) (w' : World) : Prop := ∃ v, e = .returned v ∧ Own w' w.heap.size v l ∧ Below w.heap.size w w'

theorem strCells_bcs (s : ByteArray) : Lib.strCells s = bcs s.data.toList := rfl
theorem by8_bc {n : Int} (h : 0 ≤ n ∧ n < 256) : bc (by8 n) = .int .u8 n := by unfold bc; rw [by8_nat h]

theorem own_new (w : World) (base : Nat) (xs : List Value) (hb : base ≤ w.heap.size) (hl : xs.length ≤ maxLen) : (w.alloc (.cells xs.toArray 5)).ownsRow base 5 1 (.slice (some ⟨w.heap.size, 0, none⟩) xs.length xs.length) xs.length xs := by
  refine ⟨by simp, .inr ⟨w.heap.size, xs.length, xs.toArray, rfl, hb, heap_alloc_new w _, Nat.le_refl _, hl, by simp, ?_⟩⟩
  simp only [Nat.mul_one]
  exact List.take_of_length_le (by simp)

set_option maxRecDepth 100000 in
set_option maxHeartbeats 2000000 in
theorem RefPut_any (seat count : Int) (cmd : Bool) (kind sort nr ns : Int) (pf : Bool) (body : ByteArray) (w : World) (hm : mayF ⟨seat, count, cmd, ⟨kind, sort, nr, ns, pf⟩, body.data.toList⟩) :
    Calls Tryd.prog 49 #[.agg #[.int .i64 seat, .int .i64 count, .bool cmd, .int .i64 kind, .int .i64 sort, .int .i64 nr, .int .i64 ns, .bool pf, .string body]] w (MakesB (putF ⟨seat, count, cmd, ⟨kind, sort, nr, ns, pf⟩, body.data.toList⟩) w) := by
  obtain ⟨i0, hi0, hz0, hz1, hz2⟩ := info_parts byte_info
  have hlen : body.data.toList.length = body.size := by rw [Array.length_toList]; rfl
  unfold mayF at hm
  simp only [hlen] at hm
  obtain ⟨c1, a1, a2, a3, a4, a5, a6⟩ := hm
  obtain ⟨n, hn⟩ := Option.isSome_iff_exists.1 c1
  have hr := cb_range hn
  have hct := fun w => RefCtl_any seat count cmd kind sort nr ns pf body w
  unfold CtlSays at hct
  rw [hn] at hct
  have HCT : Hid (∀ w, Calls Tryd.prog 34 #[.agg #[.int .i64 seat, .int .i64 count, .bool cmd, .int .i64 kind, .int .i64 sort, .int .i64 nr, .int .i64 ns, .bool pf, .string body]] w fun e w' => e = .returned (.tuple #[.int .u8 n, .bool true]) ∧ Below w.heap.size w w') := hct
  have ho := one_or cmd
  have hcs : bcs (putF ⟨seat, count, cmd, ⟨kind, sort, nr, ns, pf⟩, body.data.toList⟩) = [.int .u8 (seat * 2 + one cmd), .int .u8 count, .int .u8 n] ++ Lib.strCells body := by
    unfold putF
    rw [hn]
    show [bc _, bc _, bc _] ++ bcs body.data.toList = _
    simp only
    rw [strCells_bcs, by8_bc (by omega), by8_bc (by omega), Option.getD_some, by8_bc hr]
  have hpl : (putF ⟨seat, count, cmd, ⟨kind, sort, nr, ns, pf⟩, body.data.toList⟩).length = 3 + body.size := by
    unfold putF
    simp only [List.length_cons, hlen]; omega
  have HCS := Lib.hid hcs
  have HPL := Lib.hid hpl
  clear hct hn c1 a6 hcs hpl hlen
  rcases ho with ⟨o1, rfl⟩ | ⟨o1, rfl⟩
  all_goals
    rw [o1] at HCS
    clear o1
    go_enter Tryd.func49, Tryd.ntmps49
    go_wp2_with (first
      | ((with_reducible refine wpList_boxPlain rfl (.tmp 0) rfl rfl ?_); intro w1 hb1 hlt1 hh1; have HB1 := Lib.hid hb1; have HP1 := Lib.hid hh1; clear hb1 hh1)
      | (with_reducible refine wpList_loadB rfl 34 (.tmp 1) rfl w.heap.size rfl 34 #[.int .i64 seat, .int .i64 count, .bool _, .int .i64 kind, .int .i64 sort, .int .i64 nr, .int .i64 ns, .bool pf, .string body] HP1.out _ Tryd.underlying34 rfl (by kernel_rfl) ?_)
      | (go_at_call 34; ((with_reducible refine (HCT.out _).mono ?_); rintro e w2 ⟨rfl, hb⟩; have HB2 := Lib.hid (bel_trans HB1.out hb); have HP2 := Lib.hid (keep_at HP1.out hb); have c0 := cell_at HP2.out 0 _ rfl; have c1 := cell_at HP2.out 1 _ rfl; have c2 := cell_at HP2.out 2 _ rfl; have c8 := cell_at HP2.out 8 _ rfl; have hl2 := lt_at HP2.out; clear hb))
      | (at_builtin
         refine Lib.wpList_append_own_string _ rfl (.tmp 26) (.tmp 28) 63 9 rfl w.heap.size 5 i0 Tryd.underlying63 Tryd.underlying9 hi0 hz0 hz1 hz2 (.slice (some ⟨w2.heap.size, 0, none⟩) 3 3) 3 _ rfl (own_new w2 w.heap.size [_, _, _] HB2.out.size (by simp [maxLen])) body rfl (by unfold maxLen; omega) (by omega) (bal HB2.out _).size ?_
         intro v w3 hown3 hg3 _hnil))
    go_ret
    refine ⟨v, rfl, ?_, (bal HB2.out _).grown hg3 (bal HB2.out _).size (fun k hk => ?_)⟩
    · unfold Own
      rw [HCS.out, HPL.out]
      first | exact hown3 | (rw [Int.add_zero]; exact hown3)
    · have hk2 : w2.heap.size = k := by simpa [Value.ownBlock] using hk
      rw [← hk2]
      exact HB2.out.size
end Go.Proofs.YtaofomkalnagcaaDoor

/- The walk of the reference's Get, of bytes as plain frames. -/
namespace Go.Proofs.YtaofomkalnagcaaDoor
open Go.RowKit M

/-- A plain frame as a value. -/
abbrev plV (p : Pl) : Value := .agg #[.int .i64 p.seat, .int .i64 p.count, .bool p.cmd, .int .i64 p.c.kind, .int .i64 p.c.sort, .int .i64 p.c.nr, .int .i64 p.c.ns, .bool p.c.pf, .string ⟨p.body.toArray⟩]
def zp : Pl := ⟨0, 0, false, zc, []⟩
def GetFP (l : List UInt8) (w : World) (e : Ending) (w' : World) : Prop := e = .returned (.tuple #[plV ((getF l).getD zp), .bool (getF l).isSome]) ∧ Below w.heap.size w w'
theorem getFP_none {l : List UInt8} {w w' : World} (h : getF l = none) (hb : Below w.heap.size w w') : GetFP l w (.returned (.tuple #[.agg #[.int .i64 0, .int .i64 0, .bool false, .int .i64 0, .int .i64 0, .int .i64 0, .int .i64 0, .bool false, .string ⟨#[]⟩], .bool false])) w' := by
  unfold GetFP; rw [h]; exact ⟨rfl, hb⟩
theorem getFP_some {l : List UInt8} {p : Pl} {w w' : World} (h : getF l = some p) (hb : Below w.heap.size w w') : GetFP l w (.returned (.tuple #[plV p, .bool true])) w' := by
  unfold GetFP; rw [h]; exact ⟨rfl, hb⟩

set_option maxRecDepth 100000 in
set_option maxHeartbeats 2000000 in
theorem RefGetF_short (v : Value) (l : List UInt8) (w : World) (hr : Rds w v l) (hl : l.length < 3) : Calls Tryd.prog 54 #[v] w (GetFP l w) := by
  have hg : getF l = none := by
    match l, hl with
    | [], _ => rfl
    | [_], _ => rfl
    | [_, _], _ => rfl
  have HG := Lib.hid hg
  obtain ⟨A, cap, rfl, -, -, -⟩ := hr
  clear hg
  go_enter Tryd.func54, Tryd.ntmps54
  go_wp2
  refine ⟨rfl, _, results_cell2 rfl _ _ w.heap.size _ _ _ _ _ rfl rfl (heap_alloc_new w _) Tryd.underlying34 rfl (by kernel_rfl), getFP_none HG.out (bal (bel0 _) _)⟩

/-- Bytes cut at the front. -/
theorem Rds.from_ {w : World} {b off n cap : Nat} {l : List UInt8} (h : Rds w (.slice (some ⟨b, off, none⟩) n cap) l) (k : Nat) (hk : k ≤ n) (hn : 0 < n) : Rds w (.slice (if cap = k then some ⟨b, off, none⟩ else some ⟨b, off + k, none⟩) (n - k) (cap - k)) (l.drop k) := by
  obtain ⟨A, cap', he, h1, h2, h3⟩ := h
  injection he with e1 e2 e3
  subst e1; subst e2; subst e3
  refine ⟨_, _, by rw [List.length_drop], by rw [List.length_drop]; omega, by omega, fun h0 => ?_⟩
  rw [List.length_drop] at h0
  obtain ⟨b', off', he, hc⟩ := h3 hn
  injection he with he
  injection he with he1 he2 he3
  subst he1; subst he2
  rw [if_neg (by omega)]
  refine ⟨b, off + k, rfl, fun j hj => ?_⟩
  rw [List.length_drop] at hj
  rw [Nat.add_assoc, hc (k + j) (by omega), List.getD_eq_getElem?_getD, List.getD_eq_getElem?_getD, List.getElem?_drop]

theorem storeAddr (g : Nat) (s c : Int) (w : World) (h0 : ∃ u, w.cell? ⟨g, 0, none⟩ = some u) (h1 : ∃ u, w.cell? ⟨g, 1, none⟩ = some u) (z0 : w.frozen? ⟨g, 0, none⟩ = false) (z1 : w.frozen? ⟨g, 1, none⟩ = false) :
    (Instr.storeAt 32 (.pointer (some ⟨g, 0, none⟩)) (.agg #[.int .i64 s, .int .i64 c])).run Tryd.prog w = .ok () ((w.setCell ⟨g, 0, none⟩ (.int .i64 s)).setCell ⟨g, 1, none⟩ (.int .i64 c)) := by
  obtain ⟨u0, h0⟩ := h0
  obtain ⟨u1, h1⟩ := h1
  go_simp
theorem storeBool (g k : Nat) (x : Bool) (w : World) (h0 : ∃ u, w.cell? ⟨g, k, none⟩ = some u) (z0 : w.frozen? ⟨g, k, none⟩ = false) :
    (Instr.storeAt 4 (.pointer (some ⟨g, k, none⟩)) (.bool x)).run Tryd.prog w = .ok () (w.setCell ⟨g, k, none⟩ (.bool x)) := by
  obtain ⟨u0, h0⟩ := h0
  go_simp
theorem storeStr (g k : Nat) (x : ByteArray) (w : World) (h0 : ∃ u, w.cell? ⟨g, k, none⟩ = some u) (z0 : w.frozen? ⟨g, k, none⟩ = false) :
    (Instr.storeAt 9 (.pointer (some ⟨g, k, none⟩)) (.string x)).run Tryd.prog w = .ok () (w.setCell ⟨g, k, none⟩ (.string x)) := by
  obtain ⟨u0, h0⟩ := h0
  go_simp

set_option maxRecDepth 100000 in
set_option maxHeartbeats 4000000 in
theorem RefGetF_none (bk off n cap : Nat) (x y z : UInt8) (r : List UInt8) (w : World) (hr : Rds w (.slice (some ⟨bk, off, none⟩) n cap) (x :: y :: z :: r)) (c : Cn) (xb : Bool) (hxb : (((x.toNat : Nat) : Int) % 2 == 1) = xb) (hg : RefGetIs z.toNat c false) (hf : getF (x :: y :: z :: r) = none) :
    Calls Tryd.prog 54 #[.slice (some ⟨bk, off, none⟩) n cap] w (GetFP (x :: y :: z :: r) w) := by
  have HRG := Lib.hid hg
  have HF := Lib.hid hf
  have hn : n = r.length + 3 := by obtain ⟨A, cap', he, _⟩ := hr; injection he
  have hcn : n ≤ cap ∧ cap ≤ maxLen := by obtain ⟨A, cap', he, h1, h2, _⟩ := hr; injection he with _ he1 he2; subst he1; subst he2; exact ⟨h1, h2⟩
  have HRD := Lib.hid (hr.from_ 3 (by omega) (by omega))
  have hcell : ∀ j, j < n → w.cell? ⟨bk, off + j, none⟩ = some (bc ((x :: y :: z :: r).getD j 0)) := fun j hj => by
    obtain ⟨b', off', he, hc⟩ := hr.cell (k := j) (by rw [List.length_cons, List.length_cons, List.length_cons]; omega)
    injection he with he
    injection he with h1 h2 h3
    subst h1; subst h2
    exact hc
  have c0 : w.cell? ⟨bk, off, none⟩ = some (bc x) := hcell 0 (by omega)
  have c1 : w.cell? ⟨bk, off + 1, none⟩ = some (bc y) := hcell 1 (by omega)
  have c2 : w.cell? ⟨bk, off + 2, none⟩ = some (bc z) := hcell 2 (by omega)
  have hlt : bk < w.heap.size := World.block_lt_of_cell? w _ c0
  obtain ⟨hcn1, hcn2⟩ := hcn
  unfold maxLen at hcn2
  have hn3 : 3 ≤ n := by omega
  have hn0 : 0 < n := by omega
  have hn1 : 1 < n := by omega
  have hn2 : 2 < n := by omega
  have hi1 : (1 : Int) < (n : Int) := by omega
  have hx2 := x.toNat_lt
  have hy2 := y.toNat_lt
  have q1 : IntKind.i64.wrap (x.toNat : Int) = (x.toNat : Int) := IntWalk.i64_in _ (by omega)
  have q2 : IntKind.i64.wrap (y.toNat : Int) = (y.toNat : Int) := IntWalk.i64_in _ (by omega)
  have q3 : (x.toNat : Int).tdiv 2 = (x.toNat : Int) / 2 := Int.tdiv_eq_ediv_of_nonneg (by omega)
  have q4 : IntKind.i64.wrap ((x.toNat : Int) / 2) = (x.toNat : Int) / 2 := IntWalk.i64_in _ (by omega)
  have q5 : (x.toNat : Int).tmod 2 = (x.toNat : Int) % 2 := Int.tmod_eq_emod_of_nonneg (by omega)
  have q6 : IntKind.u8.wrap ((x.toNat : Int) % 2) = (x.toNat : Int) % 2 := IntWalk.u8_in _ (by omega)
  have hi2 : (2 : Int) < (n : Int) := by omega
  have hi3 : (3 : Int) ≤ (n : Int) := by omega
  have hi4 : (n : Int) ≤ (cap : Int) := by omega
  unfold bc at c0 c1 c2
  clear hg hf hcell hr hn
  go_enter Tryd.func54, Tryd.ntmps54
  go_wp2_with (go_at_call 39; ((with_reducible refine (HRG.out _).mono ?_); rintro e w2 ⟨rfl, hb⟩; have HB2 := Lib.hid ((bal (bel0 w) _).trans (hb.mono (bal (bel0 w) _).size)); have HR2 := Lib.hid (keep_at (heap_alloc_new w _) hb); clear hb))
  obtain ⟨w3, hw3⟩ : ∃ w3, w3 = w2.alloc (.cells #[.int .i64 0, .int .i64 0, .bool false, .int .i64 c.kind, .int .i64 c.sort, .int .i64 c.nr, .int .i64 c.ns, .bool c.pf, .string ⟨#[]⟩] 34) := ⟨_, rfl⟩
  have HB3 : Hid (Below w.heap.size w w3) := by show Below _ _ _; rw [hw3]; exact bal HB2.out _
  have HP3 : Hid (w3.heap[w2.heap.size]? = some (.cells #[.int .i64 0, .int .i64 0, .bool false, .int .i64 c.kind, .int .i64 c.sort, .int .i64 c.nr, .int .i64 c.ns, .bool c.pf, .string ⟨#[]⟩] 34 (0, 0))) := by show _ = _; rw [hw3]; exact heap_alloc_new w2 _
  have HR3 : Hid (w3.heap[w.heap.size]? = some (.cells #[.int .i64 0, .int .i64 0, .bool false, .int .i64 0, .int .i64 0, .int .i64 0, .int .i64 0, .bool false, .string ⟨#[]⟩] 34 (0, 0))) := by show _ = _; rw [hw3]; exact keep_at HR2.out (bal (bel0 w2) _)
  have hne : w.heap.size ≠ w2.heap.size := by have := lt_at HR2.out; omega
  have HZ := Lib.hid HB2.out.size
  rw [← hw3]
  clear hw3
  refine rests_begin (From w) (by kernel_rfl) ?_
  refine rests_take 0 (oi := _) (v := ?_) (by simp only [List.getElem?_toArray, List.getElem?_cons_zero]; rfl) (by kernel_rfl) (by kernel_rfl) (by kernel_rfl) (by exact fun _ _ _ h => h) (HB3.out.drew) (by rfl) ?_ ?_; rotate_left; (· intro W HW; go_simp; try with_reducible rfl)
  simp only [Act.put, List.setIfInBounds_toArray, List.set_cons_zero, List.set_cons_succ]
  refine rests_take 1 (oi := _) (v := ?_) (by simp only [List.getElem?_toArray, List.getElem?_cons_succ, List.getElem?_cons_zero]; rfl) (by kernel_rfl) (by kernel_rfl) (by kernel_rfl) (by exact fun _ _ _ h => h) (HB3.out.drew) (by rfl) ?_ ?_; rotate_left; (· intro W HW; go_simp; try with_reducible rfl)
  simp only [Act.put, List.setIfInBounds_toArray, List.set_cons_zero, List.set_cons_succ]
  refine rests_take 2 (oi := _) (v := ?_) (by simp only [List.getElem?_toArray, List.getElem?_cons_succ, List.getElem?_cons_zero]; rfl) (by kernel_rfl) (by kernel_rfl) (by kernel_rfl) (by exact fun _ _ _ h => h) (HB3.out.drew) (by rfl) ?_ ?_; rotate_left; (· intro W HW; have cw : W.cell? ⟨bk, off, none⟩ = some (bc x) := (HW.cell (p := ⟨bk, off, none⟩) hlt).trans c0; unfold bc at cw; go_simp; try with_reducible rfl)
  simp only [Act.put, List.setIfInBounds_toArray, List.set_cons_zero, List.set_cons_succ]
  refine rests_take 3 (oi := _) (v := ?_) (by simp only [List.getElem?_toArray, List.getElem?_cons_succ, List.getElem?_cons_zero]; rfl) (by kernel_rfl) (by kernel_rfl) (by kernel_rfl) (by exact fun _ _ _ h => h) (HB3.out.drew) (by rfl) ?_ ?_; rotate_left; (· intro W HW; go_simp; try with_reducible rfl)
  simp only [Act.put, List.setIfInBounds_toArray, List.set_cons_zero, List.set_cons_succ]
  refine rests_take 4 (oi := _) (v := ?_) (by simp only [List.getElem?_toArray, List.getElem?_cons_succ, List.getElem?_cons_zero]; rfl) (by kernel_rfl) (by kernel_rfl) (by kernel_rfl) (by exact fun _ _ _ h => h) (HB3.out.drew) (by rfl) ?_ ?_; rotate_left; (· intro W HW; go_simp; try with_reducible rfl)
  simp only [Act.put, List.setIfInBounds_toArray, List.set_cons_zero, List.set_cons_succ]
  refine rests_take 5 (oi := _) (v := ?_) (by simp only [List.getElem?_toArray, List.getElem?_cons_succ, List.getElem?_cons_zero]; rfl) (by kernel_rfl) (by kernel_rfl) (by kernel_rfl) (by exact fun _ _ _ h => h) (HB3.out.drew) (by rfl) ?_ ?_; rotate_left; (· intro W HW; go_simp; try with_reducible rfl)
  simp only [Act.put, List.setIfInBounds_toArray, List.set_cons_zero, List.set_cons_succ]
  refine rests_take 6 (oi := _) (v := ?_) (by simp only [List.getElem?_toArray, List.getElem?_cons_succ, List.getElem?_cons_zero]; rfl) (by kernel_rfl) (by kernel_rfl) (by kernel_rfl) (by exact fun _ _ _ h => h) (HB3.out.drew) (by rfl) ?_ ?_; rotate_left; (· intro W HW; go_simp; try with_reducible rfl)
  simp only [Act.put, List.setIfInBounds_toArray, List.set_cons_zero, List.set_cons_succ]
  refine rests_take 7 (oi := _) (v := ?_) (by simp only [List.getElem?_toArray, List.getElem?_cons_succ, List.getElem?_cons_zero]; rfl) (by kernel_rfl) (by kernel_rfl) (by kernel_rfl) (by exact fun _ _ _ h => h) (HB3.out.drew) (by rfl) ?_ ?_; rotate_left; (· intro W HW; have cw : W.cell? ⟨bk, off + 1, none⟩ = some (bc y) := (HW.cell (p := ⟨bk, off + 1, none⟩) hlt).trans c1; unfold bc at cw; go_simp; try with_reducible rfl)
  simp only [Act.put, List.setIfInBounds_toArray, List.set_cons_zero, List.set_cons_succ]
  refine rests_take 8 (oi := _) (v := ?_) (by simp only [List.getElem?_toArray, List.getElem?_cons_succ, List.getElem?_cons_zero]; rfl) (by kernel_rfl) (by kernel_rfl) (by kernel_rfl) (by exact fun _ _ _ h => h) (HB3.out.drew) (by rfl) ?_ ?_; rotate_left; (· intro W HW; go_simp; try with_reducible rfl)
  simp only [Act.put, List.setIfInBounds_toArray, List.set_cons_zero, List.set_cons_succ]
  refine rests_take 9 (oi := _) (v := ?_) (by simp only [List.getElem?_toArray, List.getElem?_cons_succ, List.getElem?_cons_zero]; rfl) (by kernel_rfl) (by kernel_rfl) (by kernel_rfl) (by exact fun _ _ _ h => h) (HB3.out.drew) (by rfl) ?_ ?_; rotate_left; (· intro W HW; go_simp; try with_reducible rfl)
  simp only [Act.put, List.setIfInBounds_toArray, List.set_cons_zero, List.set_cons_succ]
  refine rests_take 10 (oi := _) (v := ?_) (by simp only [List.getElem?_toArray, List.getElem?_cons_succ, List.getElem?_cons_zero]; rfl) (by kernel_rfl) (by kernel_rfl) (by kernel_rfl) (by exact fun _ _ _ h => h) (HB3.out.drew) (by rfl) ?_ ?_; rotate_left; (· intro W HW; go_simp; try with_reducible rfl)
  simp only [Act.put, List.setIfInBounds_toArray, List.set_cons_zero, List.set_cons_succ]
  refine rests_take 11 (oi := _) (v := ?_) (by simp only [List.getElem?_toArray, List.getElem?_cons_succ, List.getElem?_cons_zero]; rfl) (by kernel_rfl) (by kernel_rfl) (by kernel_rfl) (by exact fun _ _ _ h => h) (HB3.out.drew) (by rfl) ?_ ?_; rotate_left; (· intro W HW; go_simp; try with_reducible rfl)
  simp only [Act.put, List.setIfInBounds_toArray, List.set_cons_zero, List.set_cons_succ]
  refine rests_take 12 (oi := _) (v := ?_) (by simp only [List.getElem?_toArray, List.getElem?_cons_succ, List.getElem?_cons_zero]; rfl) (by kernel_rfl) (by kernel_rfl) (by kernel_rfl) (by exact fun _ _ _ h => h) (HB3.out.drew) (by rfl) ?_ ?_; rotate_left; (· intro W HW; have cw : W.cell? ⟨bk, off, none⟩ = some (bc x) := (HW.cell (p := ⟨bk, off, none⟩) hlt).trans c0; unfold bc at cw; go_simp; try with_reducible rfl)
  simp only [Act.put, List.setIfInBounds_toArray, List.set_cons_zero, List.set_cons_succ]
  refine rests_take 13 (oi := _) (v := ?_) (by simp only [List.getElem?_toArray, List.getElem?_cons_succ, List.getElem?_cons_zero]; rfl) (by kernel_rfl) (by kernel_rfl) (by kernel_rfl) (by exact fun _ _ _ h => h) (HB3.out.drew) (by rfl) ?_ ?_; rotate_left; (· intro W HW; go_simp; try with_reducible rfl)
  simp only [Act.put, List.setIfInBounds_toArray, List.set_cons_zero, List.set_cons_succ]
  refine rests_take 14 (oi := _) (v := ?_) (by simp only [List.getElem?_toArray, List.getElem?_cons_succ, List.getElem?_cons_zero]; rfl) (by kernel_rfl) (by kernel_rfl) (by kernel_rfl) (by exact fun _ _ _ h => h) (HB3.out.drew) (by rfl) ?_ ?_; rotate_left; (· intro W HW; go_simp; try with_reducible rfl)
  simp only [Act.put, List.setIfInBounds_toArray, List.set_cons_zero, List.set_cons_succ]
  refine rests_take 15 (oi := _) (v := ?_) (by simp only [List.getElem?_toArray, List.getElem?_cons_succ, List.getElem?_cons_zero]; rfl) (by kernel_rfl) (by kernel_rfl) (by kernel_rfl) (by exact fun _ _ _ h => h) (HB3.out.drew) (by rfl) ?_ ?_; rotate_left; (· intro W HW; go_simp; try with_reducible rfl)
  simp only [Act.put, List.setIfInBounds_toArray, List.set_cons_zero, List.set_cons_succ]
  refine rests_take 16 (oi := _) (v := ?_) (by simp only [List.getElem?_toArray, List.getElem?_cons_succ, List.getElem?_cons_zero]; rfl) (by kernel_rfl) (by kernel_rfl) (by kernel_rfl) (by exact fun _ _ _ h => h) (HB3.out.drew) (by rfl) ?_ ?_; rotate_left; (· intro W HW; go_simp; try with_reducible rfl)
  simp only [Act.put, List.setIfInBounds_toArray, List.set_cons_zero, List.set_cons_succ]
  refine rests_convT 17 (oi := _) (by simp only [List.getElem?_toArray, List.getElem?_cons_succ, List.getElem?_cons_zero]; rfl) (.tmp 33) _ r (by kernel_rfl) (by kernel_rfl) (by kernel_rfl) (by exact fun _ _ _ h => h) (HB3.out.drew) (by rfl) rfl rfl (fun W HW => (HRD.out.below HW)) ?_
  simp only [Act.put, List.setIfInBounds_toArray, List.set_cons_zero, List.set_cons_succ]
  refine rests_take 18 (oi := _) (v := ?_) (by simp only [List.getElem?_toArray, List.getElem?_cons_succ, List.getElem?_cons_zero]; rfl) (by kernel_rfl) (by kernel_rfl) (by kernel_rfl) (by exact fun _ _ _ h => h) (HB3.out.drew) (by rfl) ?_ ?_; rotate_left; (· intro W HW; go_simp; try with_reducible rfl)
  simp only [Act.put, List.setIfInBounds_toArray, List.set_cons_zero, List.set_cons_succ]
  refine rests_store2 19 (oi := _) (by simp only [List.getElem?_toArray, List.getElem?_cons_succ, List.getElem?_cons_zero]; rfl) (by kernel_rfl) (by rfl) 32 (.tmp 35) (.tmp 26) rfl w2.heap.size (.int .i64 ((x.toNat : Int) / 2)) (.int .i64 y.toNat) rfl rfl 34 _ HP3.out (by simp) (storeAddr w2.heap.size _ _) ?_
  intro w4 hg4 hh4; refine ⟨bel_grown HB3.out.drew hg4 HZ.out, ?_⟩; have HB4 := Lib.hid (bel_grown HB3.out.drew hg4 HZ.out); have HP4 := Lib.hid hh4; have HR4 := Lib.hid (keep_grown (w := w3.drew) HR3.out hg4 hne); clear hg4 hh4
  simp only [Act.put, List.setIfInBounds_toArray, List.set_cons_zero, List.set_cons_succ]
  refine rests_take 20 (oi := _) (v := ?_) (by simp only [List.getElem?_toArray, List.getElem?_cons_succ, List.getElem?_cons_zero]; rfl) (by kernel_rfl) (by kernel_rfl) (by kernel_rfl) (by exact fun _ _ _ h => h) (HB4.out) (by rfl) ?_ ?_; rotate_left; (· intro W HW; go_simp; try with_reducible rfl)
  simp only [Act.put, List.setIfInBounds_toArray, List.set_cons_zero, List.set_cons_succ]
  refine rests_store1 21 (oi := _) (by simp only [List.getElem?_toArray, List.getElem?_cons_succ, List.getElem?_cons_zero]; rfl) (by kernel_rfl) (by rfl) 4 (.tmp 36) (.tmp 31) rfl w2.heap.size 2 (.bool xb) rfl rfl 34 _ HP4.out (by simp) (storeBool w2.heap.size 2 _) ?_
  intro w5 hg5 hh5; refine ⟨bel_grown HB4.out hg5 HZ.out, ?_⟩; have HB5 := Lib.hid (bel_grown HB4.out hg5 HZ.out); have HP5 := Lib.hid hh5; have HR5 := Lib.hid (keep_grown HR4.out hg5 hne); clear hg5 hh5
  simp only [Act.put, List.setIfInBounds_toArray, List.set_cons_zero, List.set_cons_succ]
  refine rests_take 22 (oi := _) (v := ?_) (by simp only [List.getElem?_toArray, List.getElem?_cons_succ, List.getElem?_cons_zero]; rfl) (by kernel_rfl) (by kernel_rfl) (by kernel_rfl) (by exact fun _ _ _ h => h) (HB5.out) (by rfl) ?_ ?_; rotate_left; (· intro W HW; go_simp; try with_reducible rfl)
  simp only [Act.put, List.setIfInBounds_toArray, List.set_cons_zero, List.set_cons_succ]
  refine rests_store1 23 (oi := _) (by simp only [List.getElem?_toArray, List.getElem?_cons_succ, List.getElem?_cons_zero]; rfl) (by kernel_rfl) (by rfl) 9 (.tmp 37) (.tmp 34) rfl w2.heap.size 8 (.string ⟨r.toArray⟩) rfl rfl 34 _ HP5.out (by simp) (storeStr w2.heap.size 8 _) ?_
  intro w6 hg6 hh6; refine ⟨bel_grown HB5.out hg6 HZ.out, ?_⟩; have HB6 := Lib.hid (bel_grown HB5.out hg6 HZ.out); have HP6 := Lib.hid hh6; have HR6 := Lib.hid (keep_grown HR5.out hg6 hne); clear hg6 hh6
  simp only [Act.put, List.setIfInBounds_toArray, List.set_cons_zero, List.set_cons_succ]
  refine rests_done (by kernel_rfl) ?_
  go_wp2_with ((with_reducible refine wpList_storeB rfl 34 (.tmp 2) _ rfl w.heap.size #[.int .i64 0, .int .i64 0, .bool false, .int .i64 0, .int .i64 0, .int .i64 0, .int .i64 0, .bool false, .string ⟨#[]⟩] rfl rfl 34 _ HR6.out (by kernel_rfl) (by kernel_rfl) (by kernel_rfl) ?_); intro w8 hg8 hz8 hh8; have HB8 := Lib.hid (bel_grown HB6.out hg8 (Nat.le_refl _)); have HR8 := Lib.hid hh8; clear hg8 hz8 hh8)
  all_goals exact ⟨rfl, _, results_cell2 rfl _ _ w.heap.size _ _ _ _ (.bool false) rfl rfl HR8.out Tryd.underlying34 rfl (by kernel_rfl), getFP_none HF.out HB8.out⟩

set_option maxRecDepth 100000 in
set_option maxHeartbeats 4000000 in
theorem RefGetF_not (bk off n cap : Nat) (x y z : UInt8) (r : List UInt8) (w : World) (hr : Rds w (.slice (some ⟨bk, off, none⟩) n cap) (x :: y :: z :: r)) (c : Cn) (xb : Bool) (hxb : (((x.toNat : Nat) : Int) % 2 == 1) = xb) (hg : RefGetIs z.toNat c true) (hm : ¬ mayF ⟨(x.toNat : Int) / 2, y.toNat, xb, c, r⟩) (hf : getF (x :: y :: z :: r) = none) :
    Calls Tryd.prog 54 #[.slice (some ⟨bk, off, none⟩) n cap] w (GetFP (x :: y :: z :: r) w) := by
  have HRG := Lib.hid hg
  have HF := Lib.hid hf
  have hn : n = r.length + 3 := by obtain ⟨A, cap', he, _⟩ := hr; injection he
  have hcn : n ≤ cap ∧ cap ≤ maxLen := by obtain ⟨A, cap', he, h1, h2, _⟩ := hr; injection he with _ he1 he2; subst he1; subst he2; exact ⟨h1, h2⟩
  have HRD := Lib.hid (hr.from_ 3 (by omega) (by omega))
  have hcell : ∀ j, j < n → w.cell? ⟨bk, off + j, none⟩ = some (bc ((x :: y :: z :: r).getD j 0)) := fun j hj => by
    obtain ⟨b', off', he, hc⟩ := hr.cell (k := j) (by rw [List.length_cons, List.length_cons, List.length_cons]; omega)
    injection he with he
    injection he with h1 h2 h3
    subst h1; subst h2
    exact hc
  have c0 : w.cell? ⟨bk, off, none⟩ = some (bc x) := hcell 0 (by omega)
  have c1 : w.cell? ⟨bk, off + 1, none⟩ = some (bc y) := hcell 1 (by omega)
  have c2 : w.cell? ⟨bk, off + 2, none⟩ = some (bc z) := hcell 2 (by omega)
  have hlt : bk < w.heap.size := World.block_lt_of_cell? w _ c0
  obtain ⟨hcn1, hcn2⟩ := hcn
  unfold maxLen at hcn2
  have hn3 : 3 ≤ n := by omega
  have hn0 : 0 < n := by omega
  have hn1 : 1 < n := by omega
  have hn2 : 2 < n := by omega
  have hi1 : (1 : Int) < (n : Int) := by omega
  have hx2 := x.toNat_lt
  have hy2 := y.toNat_lt
  have q1 : IntKind.i64.wrap (x.toNat : Int) = (x.toNat : Int) := IntWalk.i64_in _ (by omega)
  have q2 : IntKind.i64.wrap (y.toNat : Int) = (y.toNat : Int) := IntWalk.i64_in _ (by omega)
  have q3 : (x.toNat : Int).tdiv 2 = (x.toNat : Int) / 2 := Int.tdiv_eq_ediv_of_nonneg (by omega)
  have q4 : IntKind.i64.wrap ((x.toNat : Int) / 2) = (x.toNat : Int) / 2 := IntWalk.i64_in _ (by omega)
  have q5 : (x.toNat : Int).tmod 2 = (x.toNat : Int) % 2 := Int.tmod_eq_emod_of_nonneg (by omega)
  have q6 : IntKind.u8.wrap ((x.toNat : Int) % 2) = (x.toNat : Int) % 2 := IntWalk.u8_in _ (by omega)
  have hi2 : (2 : Int) < (n : Int) := by omega
  have hi3 : (3 : Int) ≤ (n : Int) := by omega
  have hi4 : (n : Int) ≤ (cap : Int) := by omega
  have hmy := fun w => RefMayF_any ((x.toNat : Int) / 2) y.toNat xb c.kind c.sort c.nr c.ns c.pf ⟨r.toArray⟩ w
  have hdec : decide (mayF ⟨(x.toNat : Int) / 2, y.toNat, xb, ⟨c.kind, c.sort, c.nr, c.ns, c.pf⟩, (⟨r.toArray⟩ : ByteArray).data.toList⟩) = false := decide_eq_false hm
  rw [hdec] at hmy
  have HMY := Lib.hid hmy
  clear hmy hdec hm
  unfold bc at c0 c1 c2
  clear hg hf hcell hr hn
  go_enter Tryd.func54, Tryd.ntmps54
  go_wp2_with (go_at_call 39; ((with_reducible refine (HRG.out _).mono ?_); rintro e w2 ⟨rfl, hb⟩; have HB2 := Lib.hid ((bal (bel0 w) _).trans (hb.mono (bal (bel0 w) _).size)); have HR2 := Lib.hid (keep_at (heap_alloc_new w _) hb); clear hb))
  obtain ⟨w3, hw3⟩ : ∃ w3, w3 = w2.alloc (.cells #[.int .i64 0, .int .i64 0, .bool false, .int .i64 c.kind, .int .i64 c.sort, .int .i64 c.nr, .int .i64 c.ns, .bool c.pf, .string ⟨#[]⟩] 34) := ⟨_, rfl⟩
  have HB3 : Hid (Below w.heap.size w w3) := by show Below _ _ _; rw [hw3]; exact bal HB2.out _
  have HP3 : Hid (w3.heap[w2.heap.size]? = some (.cells #[.int .i64 0, .int .i64 0, .bool false, .int .i64 c.kind, .int .i64 c.sort, .int .i64 c.nr, .int .i64 c.ns, .bool c.pf, .string ⟨#[]⟩] 34 (0, 0))) := by show _ = _; rw [hw3]; exact heap_alloc_new w2 _
  have HR3 : Hid (w3.heap[w.heap.size]? = some (.cells #[.int .i64 0, .int .i64 0, .bool false, .int .i64 0, .int .i64 0, .int .i64 0, .int .i64 0, .bool false, .string ⟨#[]⟩] 34 (0, 0))) := by show _ = _; rw [hw3]; exact keep_at HR2.out (bal (bel0 w2) _)
  have hne : w.heap.size ≠ w2.heap.size := by have := lt_at HR2.out; omega
  have HZ := Lib.hid HB2.out.size
  rw [← hw3]
  clear hw3
  refine rests_begin (From w) (by kernel_rfl) ?_
  refine rests_take 0 (oi := _) (v := ?_) (by simp only [List.getElem?_toArray, List.getElem?_cons_zero]; rfl) (by kernel_rfl) (by kernel_rfl) (by kernel_rfl) (by exact fun _ _ _ h => h) (HB3.out.drew) (by rfl) ?_ ?_; rotate_left; (· intro W HW; go_simp; try with_reducible rfl)
  simp only [Act.put, List.setIfInBounds_toArray, List.set_cons_zero, List.set_cons_succ]
  refine rests_take 1 (oi := _) (v := ?_) (by simp only [List.getElem?_toArray, List.getElem?_cons_succ, List.getElem?_cons_zero]; rfl) (by kernel_rfl) (by kernel_rfl) (by kernel_rfl) (by exact fun _ _ _ h => h) (HB3.out.drew) (by rfl) ?_ ?_; rotate_left; (· intro W HW; go_simp; try with_reducible rfl)
  simp only [Act.put, List.setIfInBounds_toArray, List.set_cons_zero, List.set_cons_succ]
  refine rests_take 2 (oi := _) (v := ?_) (by simp only [List.getElem?_toArray, List.getElem?_cons_succ, List.getElem?_cons_zero]; rfl) (by kernel_rfl) (by kernel_rfl) (by kernel_rfl) (by exact fun _ _ _ h => h) (HB3.out.drew) (by rfl) ?_ ?_; rotate_left; (· intro W HW; have cw : W.cell? ⟨bk, off, none⟩ = some (bc x) := (HW.cell (p := ⟨bk, off, none⟩) hlt).trans c0; unfold bc at cw; go_simp; try with_reducible rfl)
  simp only [Act.put, List.setIfInBounds_toArray, List.set_cons_zero, List.set_cons_succ]
  refine rests_take 3 (oi := _) (v := ?_) (by simp only [List.getElem?_toArray, List.getElem?_cons_succ, List.getElem?_cons_zero]; rfl) (by kernel_rfl) (by kernel_rfl) (by kernel_rfl) (by exact fun _ _ _ h => h) (HB3.out.drew) (by rfl) ?_ ?_; rotate_left; (· intro W HW; go_simp; try with_reducible rfl)
  simp only [Act.put, List.setIfInBounds_toArray, List.set_cons_zero, List.set_cons_succ]
  refine rests_take 4 (oi := _) (v := ?_) (by simp only [List.getElem?_toArray, List.getElem?_cons_succ, List.getElem?_cons_zero]; rfl) (by kernel_rfl) (by kernel_rfl) (by kernel_rfl) (by exact fun _ _ _ h => h) (HB3.out.drew) (by rfl) ?_ ?_; rotate_left; (· intro W HW; go_simp; try with_reducible rfl)
  simp only [Act.put, List.setIfInBounds_toArray, List.set_cons_zero, List.set_cons_succ]
  refine rests_take 5 (oi := _) (v := ?_) (by simp only [List.getElem?_toArray, List.getElem?_cons_succ, List.getElem?_cons_zero]; rfl) (by kernel_rfl) (by kernel_rfl) (by kernel_rfl) (by exact fun _ _ _ h => h) (HB3.out.drew) (by rfl) ?_ ?_; rotate_left; (· intro W HW; go_simp; try with_reducible rfl)
  simp only [Act.put, List.setIfInBounds_toArray, List.set_cons_zero, List.set_cons_succ]
  refine rests_take 6 (oi := _) (v := ?_) (by simp only [List.getElem?_toArray, List.getElem?_cons_succ, List.getElem?_cons_zero]; rfl) (by kernel_rfl) (by kernel_rfl) (by kernel_rfl) (by exact fun _ _ _ h => h) (HB3.out.drew) (by rfl) ?_ ?_; rotate_left; (· intro W HW; go_simp; try with_reducible rfl)
  simp only [Act.put, List.setIfInBounds_toArray, List.set_cons_zero, List.set_cons_succ]
  refine rests_take 7 (oi := _) (v := ?_) (by simp only [List.getElem?_toArray, List.getElem?_cons_succ, List.getElem?_cons_zero]; rfl) (by kernel_rfl) (by kernel_rfl) (by kernel_rfl) (by exact fun _ _ _ h => h) (HB3.out.drew) (by rfl) ?_ ?_; rotate_left; (· intro W HW; have cw : W.cell? ⟨bk, off + 1, none⟩ = some (bc y) := (HW.cell (p := ⟨bk, off + 1, none⟩) hlt).trans c1; unfold bc at cw; go_simp; try with_reducible rfl)
  simp only [Act.put, List.setIfInBounds_toArray, List.set_cons_zero, List.set_cons_succ]
  refine rests_take 8 (oi := _) (v := ?_) (by simp only [List.getElem?_toArray, List.getElem?_cons_succ, List.getElem?_cons_zero]; rfl) (by kernel_rfl) (by kernel_rfl) (by kernel_rfl) (by exact fun _ _ _ h => h) (HB3.out.drew) (by rfl) ?_ ?_; rotate_left; (· intro W HW; go_simp; try with_reducible rfl)
  simp only [Act.put, List.setIfInBounds_toArray, List.set_cons_zero, List.set_cons_succ]
  refine rests_take 9 (oi := _) (v := ?_) (by simp only [List.getElem?_toArray, List.getElem?_cons_succ, List.getElem?_cons_zero]; rfl) (by kernel_rfl) (by kernel_rfl) (by kernel_rfl) (by exact fun _ _ _ h => h) (HB3.out.drew) (by rfl) ?_ ?_; rotate_left; (· intro W HW; go_simp; try with_reducible rfl)
  simp only [Act.put, List.setIfInBounds_toArray, List.set_cons_zero, List.set_cons_succ]
  refine rests_take 10 (oi := _) (v := ?_) (by simp only [List.getElem?_toArray, List.getElem?_cons_succ, List.getElem?_cons_zero]; rfl) (by kernel_rfl) (by kernel_rfl) (by kernel_rfl) (by exact fun _ _ _ h => h) (HB3.out.drew) (by rfl) ?_ ?_; rotate_left; (· intro W HW; go_simp; try with_reducible rfl)
  simp only [Act.put, List.setIfInBounds_toArray, List.set_cons_zero, List.set_cons_succ]
  refine rests_take 11 (oi := _) (v := ?_) (by simp only [List.getElem?_toArray, List.getElem?_cons_succ, List.getElem?_cons_zero]; rfl) (by kernel_rfl) (by kernel_rfl) (by kernel_rfl) (by exact fun _ _ _ h => h) (HB3.out.drew) (by rfl) ?_ ?_; rotate_left; (· intro W HW; go_simp; try with_reducible rfl)
  simp only [Act.put, List.setIfInBounds_toArray, List.set_cons_zero, List.set_cons_succ]
  refine rests_take 12 (oi := _) (v := ?_) (by simp only [List.getElem?_toArray, List.getElem?_cons_succ, List.getElem?_cons_zero]; rfl) (by kernel_rfl) (by kernel_rfl) (by kernel_rfl) (by exact fun _ _ _ h => h) (HB3.out.drew) (by rfl) ?_ ?_; rotate_left; (· intro W HW; have cw : W.cell? ⟨bk, off, none⟩ = some (bc x) := (HW.cell (p := ⟨bk, off, none⟩) hlt).trans c0; unfold bc at cw; go_simp; try with_reducible rfl)
  simp only [Act.put, List.setIfInBounds_toArray, List.set_cons_zero, List.set_cons_succ]
  refine rests_take 13 (oi := _) (v := ?_) (by simp only [List.getElem?_toArray, List.getElem?_cons_succ, List.getElem?_cons_zero]; rfl) (by kernel_rfl) (by kernel_rfl) (by kernel_rfl) (by exact fun _ _ _ h => h) (HB3.out.drew) (by rfl) ?_ ?_; rotate_left; (· intro W HW; go_simp; try with_reducible rfl)
  simp only [Act.put, List.setIfInBounds_toArray, List.set_cons_zero, List.set_cons_succ]
  refine rests_take 14 (oi := _) (v := ?_) (by simp only [List.getElem?_toArray, List.getElem?_cons_succ, List.getElem?_cons_zero]; rfl) (by kernel_rfl) (by kernel_rfl) (by kernel_rfl) (by exact fun _ _ _ h => h) (HB3.out.drew) (by rfl) ?_ ?_; rotate_left; (· intro W HW; go_simp; try with_reducible rfl)
  simp only [Act.put, List.setIfInBounds_toArray, List.set_cons_zero, List.set_cons_succ]
  refine rests_take 15 (oi := _) (v := ?_) (by simp only [List.getElem?_toArray, List.getElem?_cons_succ, List.getElem?_cons_zero]; rfl) (by kernel_rfl) (by kernel_rfl) (by kernel_rfl) (by exact fun _ _ _ h => h) (HB3.out.drew) (by rfl) ?_ ?_; rotate_left; (· intro W HW; go_simp; try with_reducible rfl)
  simp only [Act.put, List.setIfInBounds_toArray, List.set_cons_zero, List.set_cons_succ]
  refine rests_take 16 (oi := _) (v := ?_) (by simp only [List.getElem?_toArray, List.getElem?_cons_succ, List.getElem?_cons_zero]; rfl) (by kernel_rfl) (by kernel_rfl) (by kernel_rfl) (by exact fun _ _ _ h => h) (HB3.out.drew) (by rfl) ?_ ?_; rotate_left; (· intro W HW; go_simp; try with_reducible rfl)
  simp only [Act.put, List.setIfInBounds_toArray, List.set_cons_zero, List.set_cons_succ]
  refine rests_convT 17 (oi := _) (by simp only [List.getElem?_toArray, List.getElem?_cons_succ, List.getElem?_cons_zero]; rfl) (.tmp 33) _ r (by kernel_rfl) (by kernel_rfl) (by kernel_rfl) (by exact fun _ _ _ h => h) (HB3.out.drew) (by rfl) rfl rfl (fun W HW => (HRD.out.below HW)) ?_
  simp only [Act.put, List.setIfInBounds_toArray, List.set_cons_zero, List.set_cons_succ]
  refine rests_take 18 (oi := _) (v := ?_) (by simp only [List.getElem?_toArray, List.getElem?_cons_succ, List.getElem?_cons_zero]; rfl) (by kernel_rfl) (by kernel_rfl) (by kernel_rfl) (by exact fun _ _ _ h => h) (HB3.out.drew) (by rfl) ?_ ?_; rotate_left; (· intro W HW; go_simp; try with_reducible rfl)
  simp only [Act.put, List.setIfInBounds_toArray, List.set_cons_zero, List.set_cons_succ]
  refine rests_store2 19 (oi := _) (by simp only [List.getElem?_toArray, List.getElem?_cons_succ, List.getElem?_cons_zero]; rfl) (by kernel_rfl) (by rfl) 32 (.tmp 35) (.tmp 26) rfl w2.heap.size (.int .i64 ((x.toNat : Int) / 2)) (.int .i64 y.toNat) rfl rfl 34 _ HP3.out (by simp) (storeAddr w2.heap.size _ _) ?_
  intro w4 hg4 hh4; refine ⟨bel_grown HB3.out.drew hg4 HZ.out, ?_⟩; have HB4 := Lib.hid (bel_grown HB3.out.drew hg4 HZ.out); have HP4 := Lib.hid hh4; have HR4 := Lib.hid (keep_grown (w := w3.drew) HR3.out hg4 hne); clear hg4 hh4
  simp only [Act.put, List.setIfInBounds_toArray, List.set_cons_zero, List.set_cons_succ]
  refine rests_take 20 (oi := _) (v := ?_) (by simp only [List.getElem?_toArray, List.getElem?_cons_succ, List.getElem?_cons_zero]; rfl) (by kernel_rfl) (by kernel_rfl) (by kernel_rfl) (by exact fun _ _ _ h => h) (HB4.out) (by rfl) ?_ ?_; rotate_left; (· intro W HW; go_simp; try with_reducible rfl)
  simp only [Act.put, List.setIfInBounds_toArray, List.set_cons_zero, List.set_cons_succ]
  refine rests_store1 21 (oi := _) (by simp only [List.getElem?_toArray, List.getElem?_cons_succ, List.getElem?_cons_zero]; rfl) (by kernel_rfl) (by rfl) 4 (.tmp 36) (.tmp 31) rfl w2.heap.size 2 (.bool xb) rfl rfl 34 _ HP4.out (by simp) (storeBool w2.heap.size 2 _) ?_
  intro w5 hg5 hh5; refine ⟨bel_grown HB4.out hg5 HZ.out, ?_⟩; have HB5 := Lib.hid (bel_grown HB4.out hg5 HZ.out); have HP5 := Lib.hid hh5; have HR5 := Lib.hid (keep_grown HR4.out hg5 hne); clear hg5 hh5
  simp only [Act.put, List.setIfInBounds_toArray, List.set_cons_zero, List.set_cons_succ]
  refine rests_take 22 (oi := _) (v := ?_) (by simp only [List.getElem?_toArray, List.getElem?_cons_succ, List.getElem?_cons_zero]; rfl) (by kernel_rfl) (by kernel_rfl) (by kernel_rfl) (by exact fun _ _ _ h => h) (HB5.out) (by rfl) ?_ ?_; rotate_left; (· intro W HW; go_simp; try with_reducible rfl)
  simp only [Act.put, List.setIfInBounds_toArray, List.set_cons_zero, List.set_cons_succ]
  refine rests_store1 23 (oi := _) (by simp only [List.getElem?_toArray, List.getElem?_cons_succ, List.getElem?_cons_zero]; rfl) (by kernel_rfl) (by rfl) 9 (.tmp 37) (.tmp 34) rfl w2.heap.size 8 (.string ⟨r.toArray⟩) rfl rfl 34 _ HP5.out (by simp) (storeStr w2.heap.size 8 _) ?_
  intro w6 hg6 hh6; refine ⟨bel_grown HB5.out hg6 HZ.out, ?_⟩; have HB6 := Lib.hid (bel_grown HB5.out hg6 HZ.out); have HP6 := Lib.hid hh6; have HR6 := Lib.hid (keep_grown HR5.out hg6 hne); clear hg6 hh6
  simp only [Act.put, List.setIfInBounds_toArray, List.set_cons_zero, List.set_cons_succ]
  refine rests_done (by kernel_rfl) ?_
  have HN6 : Hid (w6.heap[w2.heap.size]? = some (.cells #[.int .i64 ((x.toNat : Int) / 2), .int .i64 y.toNat, .bool xb, .int .i64 c.kind, .int .i64 c.sort, .int .i64 c.nr, .int .i64 c.ns, .bool c.pf, .string ⟨r.toArray⟩] 34 (0, 0))) := HP6.out
  have d0 := cell_at HN6.out 0 _ rfl
  have d1 := cell_at HN6.out 1 _ rfl
  have d2 := cell_at HN6.out 2 _ rfl
  have d3 := cell_at HN6.out 3 _ rfl
  have d4 := cell_at HN6.out 4 _ rfl
  have d5 := cell_at HN6.out 5 _ rfl
  have d6 := cell_at HN6.out 6 _ rfl
  have d7 := cell_at HN6.out 7 _ rfl
  have d8 := cell_at HN6.out 8 _ rfl
  go_wp2_with (first
    | (go_at_call 46; ((with_reducible refine (HMY.out _).mono ?_); rintro e w7 ⟨rfl, hb⟩; have HB7 := Lib.hid (bel_trans HB6.out hb); have HP7 := Lib.hid (keep_at HN6.out hb); have HR7 := Lib.hid (keep_at HR6.out hb); clear hb))
    | ((with_reducible refine wpList_storeB rfl 34 (.tmp 2) _ rfl w.heap.size #[.int .i64 0, .int .i64 0, .bool false, .int .i64 0, .int .i64 0, .int .i64 0, .int .i64 0, .bool false, .string ⟨#[]⟩] rfl rfl 34 _ HR7.out (by kernel_rfl) (by kernel_rfl) (by kernel_rfl) ?_); intro w8 hg8 hz8 hh8; have HB8 := Lib.hid (bel_grown HB7.out hg8 (Nat.le_refl _)); have HR8 := Lib.hid hh8; clear hg8 hz8 hh8))
  all_goals exact ⟨rfl, _, results_cell2 rfl _ _ w.heap.size _ _ _ _ (.bool false) rfl rfl HR8.out Tryd.underlying34 rfl (by kernel_rfl), getFP_none HF.out HB8.out⟩

set_option maxRecDepth 100000 in
set_option maxHeartbeats 4000000 in
theorem RefGetF_some (bk off n cap : Nat) (x y z : UInt8) (r : List UInt8) (w : World) (hr : Rds w (.slice (some ⟨bk, off, none⟩) n cap) (x :: y :: z :: r)) (c : Cn) (xb : Bool) (hxb : (((x.toNat : Nat) : Int) % 2 == 1) = xb) (hg : RefGetIs z.toNat c true) (hm : mayF ⟨(x.toNat : Int) / 2, y.toNat, xb, c, r⟩) (hf : getF (x :: y :: z :: r) = some ⟨(x.toNat : Int) / 2, y.toNat, xb, c, r⟩) :
    Calls Tryd.prog 54 #[.slice (some ⟨bk, off, none⟩) n cap] w (GetFP (x :: y :: z :: r) w) := by
  have HRG := Lib.hid hg
  have HF := Lib.hid hf
  have hn : n = r.length + 3 := by obtain ⟨A, cap', he, _⟩ := hr; injection he
  have hcn : n ≤ cap ∧ cap ≤ maxLen := by obtain ⟨A, cap', he, h1, h2, _⟩ := hr; injection he with _ he1 he2; subst he1; subst he2; exact ⟨h1, h2⟩
  have HRD := Lib.hid (hr.from_ 3 (by omega) (by omega))
  have hcell : ∀ j, j < n → w.cell? ⟨bk, off + j, none⟩ = some (bc ((x :: y :: z :: r).getD j 0)) := fun j hj => by
    obtain ⟨b', off', he, hc⟩ := hr.cell (k := j) (by rw [List.length_cons, List.length_cons, List.length_cons]; omega)
    injection he with he
    injection he with h1 h2 h3
    subst h1; subst h2
    exact hc
  have c0 : w.cell? ⟨bk, off, none⟩ = some (bc x) := hcell 0 (by omega)
  have c1 : w.cell? ⟨bk, off + 1, none⟩ = some (bc y) := hcell 1 (by omega)
  have c2 : w.cell? ⟨bk, off + 2, none⟩ = some (bc z) := hcell 2 (by omega)
  have hlt : bk < w.heap.size := World.block_lt_of_cell? w _ c0
  obtain ⟨hcn1, hcn2⟩ := hcn
  unfold maxLen at hcn2
  have hn3 : 3 ≤ n := by omega
  have hn0 : 0 < n := by omega
  have hn1 : 1 < n := by omega
  have hn2 : 2 < n := by omega
  have hi1 : (1 : Int) < (n : Int) := by omega
  have hx2 := x.toNat_lt
  have hy2 := y.toNat_lt
  have q1 : IntKind.i64.wrap (x.toNat : Int) = (x.toNat : Int) := IntWalk.i64_in _ (by omega)
  have q2 : IntKind.i64.wrap (y.toNat : Int) = (y.toNat : Int) := IntWalk.i64_in _ (by omega)
  have q3 : (x.toNat : Int).tdiv 2 = (x.toNat : Int) / 2 := Int.tdiv_eq_ediv_of_nonneg (by omega)
  have q4 : IntKind.i64.wrap ((x.toNat : Int) / 2) = (x.toNat : Int) / 2 := IntWalk.i64_in _ (by omega)
  have q5 : (x.toNat : Int).tmod 2 = (x.toNat : Int) % 2 := Int.tmod_eq_emod_of_nonneg (by omega)
  have q6 : IntKind.u8.wrap ((x.toNat : Int) % 2) = (x.toNat : Int) % 2 := IntWalk.u8_in _ (by omega)
  have hi2 : (2 : Int) < (n : Int) := by omega
  have hi3 : (3 : Int) ≤ (n : Int) := by omega
  have hi4 : (n : Int) ≤ (cap : Int) := by omega
  have hmy := fun w => RefMayF_any ((x.toNat : Int) / 2) y.toNat xb c.kind c.sort c.nr c.ns c.pf ⟨r.toArray⟩ w
  have hdec : decide (mayF ⟨(x.toNat : Int) / 2, y.toNat, xb, ⟨c.kind, c.sort, c.nr, c.ns, c.pf⟩, (⟨r.toArray⟩ : ByteArray).data.toList⟩) = true := decide_eq_true hm
  rw [hdec] at hmy
  have HMY := Lib.hid hmy
  clear hmy hdec hm
  unfold bc at c0 c1 c2
  clear hg hf hcell hr hn
  go_enter Tryd.func54, Tryd.ntmps54
  go_wp2_with (go_at_call 39; ((with_reducible refine (HRG.out _).mono ?_); rintro e w2 ⟨rfl, hb⟩; have HB2 := Lib.hid ((bal (bel0 w) _).trans (hb.mono (bal (bel0 w) _).size)); have HR2 := Lib.hid (keep_at (heap_alloc_new w _) hb); clear hb))
  obtain ⟨w3, hw3⟩ : ∃ w3, w3 = w2.alloc (.cells #[.int .i64 0, .int .i64 0, .bool false, .int .i64 c.kind, .int .i64 c.sort, .int .i64 c.nr, .int .i64 c.ns, .bool c.pf, .string ⟨#[]⟩] 34) := ⟨_, rfl⟩
  have HB3 : Hid (Below w.heap.size w w3) := by show Below _ _ _; rw [hw3]; exact bal HB2.out _
  have HP3 : Hid (w3.heap[w2.heap.size]? = some (.cells #[.int .i64 0, .int .i64 0, .bool false, .int .i64 c.kind, .int .i64 c.sort, .int .i64 c.nr, .int .i64 c.ns, .bool c.pf, .string ⟨#[]⟩] 34 (0, 0))) := by show _ = _; rw [hw3]; exact heap_alloc_new w2 _
  have HR3 : Hid (w3.heap[w.heap.size]? = some (.cells #[.int .i64 0, .int .i64 0, .bool false, .int .i64 0, .int .i64 0, .int .i64 0, .int .i64 0, .bool false, .string ⟨#[]⟩] 34 (0, 0))) := by show _ = _; rw [hw3]; exact keep_at HR2.out (bal (bel0 w2) _)
  have hne : w.heap.size ≠ w2.heap.size := by have := lt_at HR2.out; omega
  have HZ := Lib.hid HB2.out.size
  rw [← hw3]
  clear hw3
  refine rests_begin (From w) (by kernel_rfl) ?_
  refine rests_take 0 (oi := _) (v := ?_) (by simp only [List.getElem?_toArray, List.getElem?_cons_zero]; rfl) (by kernel_rfl) (by kernel_rfl) (by kernel_rfl) (by exact fun _ _ _ h => h) (HB3.out.drew) (by rfl) ?_ ?_; rotate_left; (· intro W HW; go_simp; try with_reducible rfl)
  simp only [Act.put, List.setIfInBounds_toArray, List.set_cons_zero, List.set_cons_succ]
  refine rests_take 1 (oi := _) (v := ?_) (by simp only [List.getElem?_toArray, List.getElem?_cons_succ, List.getElem?_cons_zero]; rfl) (by kernel_rfl) (by kernel_rfl) (by kernel_rfl) (by exact fun _ _ _ h => h) (HB3.out.drew) (by rfl) ?_ ?_; rotate_left; (· intro W HW; go_simp; try with_reducible rfl)
  simp only [Act.put, List.setIfInBounds_toArray, List.set_cons_zero, List.set_cons_succ]
  refine rests_take 2 (oi := _) (v := ?_) (by simp only [List.getElem?_toArray, List.getElem?_cons_succ, List.getElem?_cons_zero]; rfl) (by kernel_rfl) (by kernel_rfl) (by kernel_rfl) (by exact fun _ _ _ h => h) (HB3.out.drew) (by rfl) ?_ ?_; rotate_left; (· intro W HW; have cw : W.cell? ⟨bk, off, none⟩ = some (bc x) := (HW.cell (p := ⟨bk, off, none⟩) hlt).trans c0; unfold bc at cw; go_simp; try with_reducible rfl)
  simp only [Act.put, List.setIfInBounds_toArray, List.set_cons_zero, List.set_cons_succ]
  refine rests_take 3 (oi := _) (v := ?_) (by simp only [List.getElem?_toArray, List.getElem?_cons_succ, List.getElem?_cons_zero]; rfl) (by kernel_rfl) (by kernel_rfl) (by kernel_rfl) (by exact fun _ _ _ h => h) (HB3.out.drew) (by rfl) ?_ ?_; rotate_left; (· intro W HW; go_simp; try with_reducible rfl)
  simp only [Act.put, List.setIfInBounds_toArray, List.set_cons_zero, List.set_cons_succ]
  refine rests_take 4 (oi := _) (v := ?_) (by simp only [List.getElem?_toArray, List.getElem?_cons_succ, List.getElem?_cons_zero]; rfl) (by kernel_rfl) (by kernel_rfl) (by kernel_rfl) (by exact fun _ _ _ h => h) (HB3.out.drew) (by rfl) ?_ ?_; rotate_left; (· intro W HW; go_simp; try with_reducible rfl)
  simp only [Act.put, List.setIfInBounds_toArray, List.set_cons_zero, List.set_cons_succ]
  refine rests_take 5 (oi := _) (v := ?_) (by simp only [List.getElem?_toArray, List.getElem?_cons_succ, List.getElem?_cons_zero]; rfl) (by kernel_rfl) (by kernel_rfl) (by kernel_rfl) (by exact fun _ _ _ h => h) (HB3.out.drew) (by rfl) ?_ ?_; rotate_left; (· intro W HW; go_simp; try with_reducible rfl)
  simp only [Act.put, List.setIfInBounds_toArray, List.set_cons_zero, List.set_cons_succ]
  refine rests_take 6 (oi := _) (v := ?_) (by simp only [List.getElem?_toArray, List.getElem?_cons_succ, List.getElem?_cons_zero]; rfl) (by kernel_rfl) (by kernel_rfl) (by kernel_rfl) (by exact fun _ _ _ h => h) (HB3.out.drew) (by rfl) ?_ ?_; rotate_left; (· intro W HW; go_simp; try with_reducible rfl)
  simp only [Act.put, List.setIfInBounds_toArray, List.set_cons_zero, List.set_cons_succ]
  refine rests_take 7 (oi := _) (v := ?_) (by simp only [List.getElem?_toArray, List.getElem?_cons_succ, List.getElem?_cons_zero]; rfl) (by kernel_rfl) (by kernel_rfl) (by kernel_rfl) (by exact fun _ _ _ h => h) (HB3.out.drew) (by rfl) ?_ ?_; rotate_left; (· intro W HW; have cw : W.cell? ⟨bk, off + 1, none⟩ = some (bc y) := (HW.cell (p := ⟨bk, off + 1, none⟩) hlt).trans c1; unfold bc at cw; go_simp; try with_reducible rfl)
  simp only [Act.put, List.setIfInBounds_toArray, List.set_cons_zero, List.set_cons_succ]
  refine rests_take 8 (oi := _) (v := ?_) (by simp only [List.getElem?_toArray, List.getElem?_cons_succ, List.getElem?_cons_zero]; rfl) (by kernel_rfl) (by kernel_rfl) (by kernel_rfl) (by exact fun _ _ _ h => h) (HB3.out.drew) (by rfl) ?_ ?_; rotate_left; (· intro W HW; go_simp; try with_reducible rfl)
  simp only [Act.put, List.setIfInBounds_toArray, List.set_cons_zero, List.set_cons_succ]
  refine rests_take 9 (oi := _) (v := ?_) (by simp only [List.getElem?_toArray, List.getElem?_cons_succ, List.getElem?_cons_zero]; rfl) (by kernel_rfl) (by kernel_rfl) (by kernel_rfl) (by exact fun _ _ _ h => h) (HB3.out.drew) (by rfl) ?_ ?_; rotate_left; (· intro W HW; go_simp; try with_reducible rfl)
  simp only [Act.put, List.setIfInBounds_toArray, List.set_cons_zero, List.set_cons_succ]
  refine rests_take 10 (oi := _) (v := ?_) (by simp only [List.getElem?_toArray, List.getElem?_cons_succ, List.getElem?_cons_zero]; rfl) (by kernel_rfl) (by kernel_rfl) (by kernel_rfl) (by exact fun _ _ _ h => h) (HB3.out.drew) (by rfl) ?_ ?_; rotate_left; (· intro W HW; go_simp; try with_reducible rfl)
  simp only [Act.put, List.setIfInBounds_toArray, List.set_cons_zero, List.set_cons_succ]
  refine rests_take 11 (oi := _) (v := ?_) (by simp only [List.getElem?_toArray, List.getElem?_cons_succ, List.getElem?_cons_zero]; rfl) (by kernel_rfl) (by kernel_rfl) (by kernel_rfl) (by exact fun _ _ _ h => h) (HB3.out.drew) (by rfl) ?_ ?_; rotate_left; (· intro W HW; go_simp; try with_reducible rfl)
  simp only [Act.put, List.setIfInBounds_toArray, List.set_cons_zero, List.set_cons_succ]
  refine rests_take 12 (oi := _) (v := ?_) (by simp only [List.getElem?_toArray, List.getElem?_cons_succ, List.getElem?_cons_zero]; rfl) (by kernel_rfl) (by kernel_rfl) (by kernel_rfl) (by exact fun _ _ _ h => h) (HB3.out.drew) (by rfl) ?_ ?_; rotate_left; (· intro W HW; have cw : W.cell? ⟨bk, off, none⟩ = some (bc x) := (HW.cell (p := ⟨bk, off, none⟩) hlt).trans c0; unfold bc at cw; go_simp; try with_reducible rfl)
  simp only [Act.put, List.setIfInBounds_toArray, List.set_cons_zero, List.set_cons_succ]
  refine rests_take 13 (oi := _) (v := ?_) (by simp only [List.getElem?_toArray, List.getElem?_cons_succ, List.getElem?_cons_zero]; rfl) (by kernel_rfl) (by kernel_rfl) (by kernel_rfl) (by exact fun _ _ _ h => h) (HB3.out.drew) (by rfl) ?_ ?_; rotate_left; (· intro W HW; go_simp; try with_reducible rfl)
  simp only [Act.put, List.setIfInBounds_toArray, List.set_cons_zero, List.set_cons_succ]
  refine rests_take 14 (oi := _) (v := ?_) (by simp only [List.getElem?_toArray, List.getElem?_cons_succ, List.getElem?_cons_zero]; rfl) (by kernel_rfl) (by kernel_rfl) (by kernel_rfl) (by exact fun _ _ _ h => h) (HB3.out.drew) (by rfl) ?_ ?_; rotate_left; (· intro W HW; go_simp; try with_reducible rfl)
  simp only [Act.put, List.setIfInBounds_toArray, List.set_cons_zero, List.set_cons_succ]
  refine rests_take 15 (oi := _) (v := ?_) (by simp only [List.getElem?_toArray, List.getElem?_cons_succ, List.getElem?_cons_zero]; rfl) (by kernel_rfl) (by kernel_rfl) (by kernel_rfl) (by exact fun _ _ _ h => h) (HB3.out.drew) (by rfl) ?_ ?_; rotate_left; (· intro W HW; go_simp; try with_reducible rfl)
  simp only [Act.put, List.setIfInBounds_toArray, List.set_cons_zero, List.set_cons_succ]
  refine rests_take 16 (oi := _) (v := ?_) (by simp only [List.getElem?_toArray, List.getElem?_cons_succ, List.getElem?_cons_zero]; rfl) (by kernel_rfl) (by kernel_rfl) (by kernel_rfl) (by exact fun _ _ _ h => h) (HB3.out.drew) (by rfl) ?_ ?_; rotate_left; (· intro W HW; go_simp; try with_reducible rfl)
  simp only [Act.put, List.setIfInBounds_toArray, List.set_cons_zero, List.set_cons_succ]
  refine rests_convT 17 (oi := _) (by simp only [List.getElem?_toArray, List.getElem?_cons_succ, List.getElem?_cons_zero]; rfl) (.tmp 33) _ r (by kernel_rfl) (by kernel_rfl) (by kernel_rfl) (by exact fun _ _ _ h => h) (HB3.out.drew) (by rfl) rfl rfl (fun W HW => (HRD.out.below HW)) ?_
  simp only [Act.put, List.setIfInBounds_toArray, List.set_cons_zero, List.set_cons_succ]
  refine rests_take 18 (oi := _) (v := ?_) (by simp only [List.getElem?_toArray, List.getElem?_cons_succ, List.getElem?_cons_zero]; rfl) (by kernel_rfl) (by kernel_rfl) (by kernel_rfl) (by exact fun _ _ _ h => h) (HB3.out.drew) (by rfl) ?_ ?_; rotate_left; (· intro W HW; go_simp; try with_reducible rfl)
  simp only [Act.put, List.setIfInBounds_toArray, List.set_cons_zero, List.set_cons_succ]
  refine rests_store2 19 (oi := _) (by simp only [List.getElem?_toArray, List.getElem?_cons_succ, List.getElem?_cons_zero]; rfl) (by kernel_rfl) (by rfl) 32 (.tmp 35) (.tmp 26) rfl w2.heap.size (.int .i64 ((x.toNat : Int) / 2)) (.int .i64 y.toNat) rfl rfl 34 _ HP3.out (by simp) (storeAddr w2.heap.size _ _) ?_
  intro w4 hg4 hh4; refine ⟨bel_grown HB3.out.drew hg4 HZ.out, ?_⟩; have HB4 := Lib.hid (bel_grown HB3.out.drew hg4 HZ.out); have HP4 := Lib.hid hh4; have HR4 := Lib.hid (keep_grown (w := w3.drew) HR3.out hg4 hne); clear hg4 hh4
  simp only [Act.put, List.setIfInBounds_toArray, List.set_cons_zero, List.set_cons_succ]
  refine rests_take 20 (oi := _) (v := ?_) (by simp only [List.getElem?_toArray, List.getElem?_cons_succ, List.getElem?_cons_zero]; rfl) (by kernel_rfl) (by kernel_rfl) (by kernel_rfl) (by exact fun _ _ _ h => h) (HB4.out) (by rfl) ?_ ?_; rotate_left; (· intro W HW; go_simp; try with_reducible rfl)
  simp only [Act.put, List.setIfInBounds_toArray, List.set_cons_zero, List.set_cons_succ]
  refine rests_store1 21 (oi := _) (by simp only [List.getElem?_toArray, List.getElem?_cons_succ, List.getElem?_cons_zero]; rfl) (by kernel_rfl) (by rfl) 4 (.tmp 36) (.tmp 31) rfl w2.heap.size 2 (.bool xb) rfl rfl 34 _ HP4.out (by simp) (storeBool w2.heap.size 2 _) ?_
  intro w5 hg5 hh5; refine ⟨bel_grown HB4.out hg5 HZ.out, ?_⟩; have HB5 := Lib.hid (bel_grown HB4.out hg5 HZ.out); have HP5 := Lib.hid hh5; have HR5 := Lib.hid (keep_grown HR4.out hg5 hne); clear hg5 hh5
  simp only [Act.put, List.setIfInBounds_toArray, List.set_cons_zero, List.set_cons_succ]
  refine rests_take 22 (oi := _) (v := ?_) (by simp only [List.getElem?_toArray, List.getElem?_cons_succ, List.getElem?_cons_zero]; rfl) (by kernel_rfl) (by kernel_rfl) (by kernel_rfl) (by exact fun _ _ _ h => h) (HB5.out) (by rfl) ?_ ?_; rotate_left; (· intro W HW; go_simp; try with_reducible rfl)
  simp only [Act.put, List.setIfInBounds_toArray, List.set_cons_zero, List.set_cons_succ]
  refine rests_store1 23 (oi := _) (by simp only [List.getElem?_toArray, List.getElem?_cons_succ, List.getElem?_cons_zero]; rfl) (by kernel_rfl) (by rfl) 9 (.tmp 37) (.tmp 34) rfl w2.heap.size 8 (.string ⟨r.toArray⟩) rfl rfl 34 _ HP5.out (by simp) (storeStr w2.heap.size 8 _) ?_
  intro w6 hg6 hh6; refine ⟨bel_grown HB5.out hg6 HZ.out, ?_⟩; have HB6 := Lib.hid (bel_grown HB5.out hg6 HZ.out); have HP6 := Lib.hid hh6; have HR6 := Lib.hid (keep_grown HR5.out hg6 hne); clear hg6 hh6
  simp only [Act.put, List.setIfInBounds_toArray, List.set_cons_zero, List.set_cons_succ]
  refine rests_done (by kernel_rfl) ?_
  have HN6 : Hid (w6.heap[w2.heap.size]? = some (.cells #[.int .i64 ((x.toNat : Int) / 2), .int .i64 y.toNat, .bool xb, .int .i64 c.kind, .int .i64 c.sort, .int .i64 c.nr, .int .i64 c.ns, .bool c.pf, .string ⟨r.toArray⟩] 34 (0, 0))) := HP6.out
  have d0 := cell_at HN6.out 0 _ rfl
  have d1 := cell_at HN6.out 1 _ rfl
  have d2 := cell_at HN6.out 2 _ rfl
  have d3 := cell_at HN6.out 3 _ rfl
  have d4 := cell_at HN6.out 4 _ rfl
  have d5 := cell_at HN6.out 5 _ rfl
  have d6 := cell_at HN6.out 6 _ rfl
  have d7 := cell_at HN6.out 7 _ rfl
  have d8 := cell_at HN6.out 8 _ rfl
  go_wp2_with (first
    | (go_at_call 46; ((with_reducible refine (HMY.out _).mono ?_); rintro e w7 ⟨rfl, hb⟩; have HB7 := Lib.hid (bel_trans HB6.out hb); have HP7 := Lib.hid (keep_at HN6.out hb); have HR7 := Lib.hid (keep_at HR6.out hb); clear hb))
    | (with_reducible refine wpList_loadB rfl 34 (.tmp 4) rfl w2.heap.size rfl 34 #[.int .i64 ((x.toNat : Int) / 2), .int .i64 y.toNat, .bool xb, .int .i64 c.kind, .int .i64 c.sort, .int .i64 c.nr, .int .i64 c.ns, .bool c.pf, .string ⟨r.toArray⟩] HP7.out _ Tryd.underlying34 rfl (by kernel_rfl) ?_)
    | ((with_reducible refine wpList_storeB rfl 34 (.tmp 2) _ rfl w.heap.size #[.int .i64 ((x.toNat : Int) / 2), .int .i64 y.toNat, .bool xb, .int .i64 c.kind, .int .i64 c.sort, .int .i64 c.nr, .int .i64 c.ns, .bool c.pf, .string ⟨r.toArray⟩] rfl rfl 34 _ HR7.out (by kernel_rfl) (by kernel_rfl) (by kernel_rfl) ?_); intro w8 hg8 hz8 hh8; have HB8 := Lib.hid (bel_grown HB7.out hg8 (Nat.le_refl _)); have HR8 := Lib.hid hh8; clear hg8 hz8 hh8))
  all_goals exact ⟨rfl, _, results_cell2 rfl _ _ w.heap.size _ _ _ _ (.bool true) rfl rfl HR8.out Tryd.underlying34 rfl (by kernel_rfl), getFP_some HF.out HB8.out⟩

/-- P6.1: the reference's Get, of any bytes. -/
theorem RefGetF_any (v : Value) (l : List UInt8) (w : World) (hr : Rds w v l) : Calls Tryd.prog 54 #[v] w (GetFP l w) := by
  rcases Nat.lt_or_ge l.length 3 with hl | hl
  · exact RefGetF_short v l w hr hl
  · match l, hl, hr with
    | x :: y :: z :: r, _, hr =>
      have hr2 := hr
      obtain ⟨A, cap, rfl, h1, h2, h3⟩ := hr2
      obtain ⟨bk, off, rfl, _⟩ := h3 (by simp)
      have hz := z.toNat_lt
      have hxb : (((x.toNat : Nat) : Int) % 2 == 1) = decide (x.toNat % 2 = 1) := by rw [Bool.eq_iff_iff, beq_iff_eq, decide_eq_true_iff]; omega
      rcases hg : gb (z.toNat : Int) with _ | c
      · exact RefGetF_none bk off _ cap x y z r w hr zc _ hxb (refGetIs_none (by omega) hg) (by unfold getF; simp only [hg])
      · by_cases hm : mayF ⟨(x.toNat : Int) / 2, y.toNat, decide (x.toNat % 2 = 1), c, r⟩
        · exact RefGetF_some bk off _ cap x y z r w hr c _ hxb (refGetIs_some (by omega) hg) hm (by unfold getF; simp only [hg]; rw [if_pos hm])
        · exact RefGetF_not bk off _ cap x y z r w hr c _ hxb (refGetIs_some (by omega) hg) hm (by unfold getF; simp only [hg]; rw [if_neg hm])
end Go.Proofs.YtaofomkalnagcaaDoor
