/- A region that draws its order and makes memory: what reads old memory is taken first, then the one call that is left; behind it all that the call has made counts as old. -/
import Derived.Test.YtameiegmeicnoaaWords
import Derived.Deep.RegionHeld
namespace Go.Proofs.Ytameiegmeicnoaa
open Go.RowKit

/-- w' is w with new blocks (and draws). -/
def Ext (w w' : World) : Prop := Below w.heap.size w w'
theorem Ext.refl (w : World) : Ext w w := Below.refl _ _
theorem Ext.trans {a b c : World} (h : Ext a b) (k : Ext b c) : Ext a c := Below.trans h (k.mono h.size)
theorem Ext.drew (w : World) : Ext w w.drew := (Below.refl _ _).drew

section
variable {P : Program} {ops : Array Oper} {Q : Exit → Act → World → Prop} {md : Region.Mode} {S S' : World → Prop}

theorem wpAnyH_mono (hS : ∀ w, S' w → S w) : ∀ (fuel : Nat) (listed : Array Bool) (a : Act) (w : World), wpAnyH P md ops Q S' fuel listed a w → wpAnyH P md ops Q S fuel listed a w
  | 0, _, _, _, h => h
  | fuel + 1, _, _, _, h => ⟨h.1, fun i hi => wpOp_mono (fun a' w' h' => ⟨hS _ h'.1, wpAnyH_mono hS fuel _ a' w' h'.2⟩) (h.2 i hi)⟩

/-- The rest of a region, at a world w that may have been extended. -/
def Rest (P : Program) (ops : Array Oper) (Q : Exit → Act → World → Prop) (fuel : Nat) (listed : Array Bool) (a : Act) (w : World) : Prop := wpAnyH P .any ops Q (Ext w) fuel listed a w

theorem rest_begin {id : Nat} {a : Act} {w : World} (hm : P.follows .mixedOrders = true) (h : Rest P ops Q ops.size (Array.replicate ops.size false) a w.drew) : (Code.region id ops true).wp P Q a w :=
  wp_region_held (S := Ext w.drew) hm h

theorem rest_take {fuel : Nat} {listed : Array Bool} {a : Act} {w : World} (i : Nat) {oi : Oper} {v : Value} (hi : ops[i]? = some oi)
    (hs : Region.noSelect ops = true) (hf : Region.free .any ops listed i = true) (hr : (Region.ready .any ops listed).contains i = true)
    (hQ : ∀ c a w, Q (.panic c) (a.put oi.dst v) w → Q (.panic c) a w) (hw : Region.wanted oi (yielded ops a.tmps) = true) (hy : ∀ w', Ext w w' → (execOp a.eval oi).run P w' = .ok (.value v) w')
    (h : Rest P ops Q fuel (listed.setIfInBounds i true) (a.put oi.dst v) w) : Rest P ops Q (fuel + 1) listed a w :=
  wpAnyH_take hi hs hf hr hQ (.inl ⟨hw, hy⟩) (Ext.refl w) h

theorem rest_skip {fuel : Nat} {listed : Array Bool} {a : Act} {w : World} (i : Nat) {oi : Oper} (hi : ops[i]? = some oi)
    (hs : Region.noSelect ops = true) (hf : Region.free .any ops listed i = true) (hr : (Region.ready .any ops listed).contains i = true)
    (hQ : ∀ c a w, Q (.panic c) (a.put oi.dst undef) w → Q (.panic c) a w) (hw : Region.wanted oi (yielded ops a.tmps) = false)
    (h : Rest P ops Q fuel (listed.setIfInBounds i true) (a.put oi.dst undef) w) : Rest P ops Q (fuel + 1) listed a w :=
  wpAnyH_take hi hs hf hr hQ (.inr ⟨hw, rfl⟩) (Ext.refl w) h

theorem rest_done {fuel : Nat} {listed : Array Bool} {a : Act} {w : World} (hr : Region.ready .any ops listed = []) (h : Q .normal a w) : Rest P ops Q fuel listed a w := wpAnyH_done hr h fuel

/-- The one operation that may come up. -/
theorem rest_step {fuel : Nat} {listed : Array Bool} {a : Act} {w : World} (i : Nat) {oi : Oper} (hi : ops[i]? = some oi)
    (hr : Region.ready .any ops listed = [i]) (hw : Region.wanted oi (yielded ops a.tmps) = true)
    (h : oi.wp P a w (fun a' w' => Ext w w' ∧ Rest P ops Q fuel (listed.setIfInBounds i true) a' w') Q) : Rest P ops Q (fuel + 1) listed a w := by
  refine wpAnyH_all hr (by simp) fun j hj => ?_
  obtain rfl : j = i := by simpa using hj
  unfold wpOp
  simp only [hi, hw, if_true]
  exact .inl (Oper.wp_mono (fun a' w' ⟨h1, h2⟩ => ⟨h1, wpAnyH_mono (fun w'' h3 => Ext.trans h1 h3) _ _ _ _ h2⟩) h)

theorem rest_call {fuel : Nat} {listed : Array Bool} {a : Act} {w : World} (i : Nat) {oi : Oper} (hi : ops[i]? = some oi) (f : FuncId) (args : Array Value) (R : Ending → World → Prop)
    (hr : Region.ready .any ops listed = [i]) (hw : Region.wanted oi (yielded ops a.tmps) = true)
    (he : (execOp a.eval oi).run P w = .ok (.enter f args) w) (hc : Calls P f args w R)
    (h : ∀ e w', R e w' → ∃ v, e = .returned v ∧ Ext w w' ∧ Rest P ops Q fuel (listed.setIfInBounds i true) (a.put oi.dst v) w') : Rest P ops Q (fuel + 1) listed a w := by
  refine rest_step i hi hr hw ?_
  unfold Oper.wp
  rw [he, Oper.upon_enter]
  refine hc.mono fun e w' hR => ?_
  obtain ⟨v, rfl, h1, h2⟩ := h e w' hR
  exact ⟨h1, h2⟩
end

/-- 'string(b)', taken first. -/
theorem rest_conv {ops : Array Oper} {Q : Exit → Act → World → Prop} {fuel : Nat} {listed : Array Bool} {a : Act} {w : World} (i : Nat) {oi : Oper} (hi : ops[i]? = some oi) (x : Operand) (u : Value) (m : List UInt8)
    (hs : Region.noSelect ops = true) (hf : Region.free .any ops listed i = true) (hr : (Region.ready .any ops listed).contains i = true)
    (hQ : ∀ c a w, Q (.panic c) (a.put oi.dst (.string ⟨m.toArray⟩)) w → Q (.panic c) a w) (hw : Region.wanted oi (yielded ops a.tmps) = true)
    (ho : oi.op = .convert 22 9 x) (hx : a.eval x = u) (hu : Rds w u m)
    (h : Rest Try.prog ops Q fuel (listed.setIfInBounds i true) (a.put oi.dst (.string ⟨m.toArray⟩)) w) : Rest Try.prog ops Q (fuel + 1) listed a w := by
  refine rest_take i hi hs hf hr hQ hw (fun w' hw' => ?_) h
  simp only [execOp, ho, hx, Sem.run_bind, run_str (hu.below hw'), Result.andThen_ok, Sem.run_pure]

/-- The rest of a region, under one condition on the worlds. -/
def RestS (S : World → Prop) (P : Program) (ops : Array Oper) (Q : Exit → Act → World → Prop) (fuel : Nat) (listed : Array Bool) (a : Act) (w : World) : Prop := wpAnyH P .any ops Q S fuel listed a w
section
variable {P : Program} {ops : Array Oper} {Q : Exit → Act → World → Prop} {S : World → Prop}
theorem rests_of {fuel : Nat} {listed : Array Bool} {a : Act} {w : World} (h : RestS (Ext w) P ops Q fuel listed a w) : Rest P ops Q fuel listed a w := h
theorem rests_take {fuel : Nat} {listed : Array Bool} {a : Act} {w : World} (i : Nat) {oi : Oper} {v : Value} (hi : ops[i]? = some oi)
    (hs : Region.noSelect ops = true) (hf : Region.free .any ops listed i = true) (hr : (Region.ready .any ops listed).contains i = true)
    (hQ : ∀ c a w, Q (.panic c) (a.put oi.dst v) w → Q (.panic c) a w) (hS : S w) (hw : Region.wanted oi (yielded ops a.tmps) = true) (hy : ∀ w', S w' → (execOp a.eval oi).run P w' = .ok (.value v) w')
    (h : RestS S P ops Q fuel (listed.setIfInBounds i true) (a.put oi.dst v) w) : RestS S P ops Q (fuel + 1) listed a w :=
  wpAnyH_take hi hs hf hr hQ (.inl ⟨hw, hy⟩) hS h
theorem rests_done {fuel : Nat} {listed : Array Bool} {a : Act} {w : World} (hr : Region.ready .any ops listed = []) (h : Q .normal a w) : RestS S P ops Q fuel listed a w := wpAnyH_done hr h fuel
theorem rests_step {fuel : Nat} {listed : Array Bool} {a : Act} {w : World} (i : Nat) {oi : Oper} (hi : ops[i]? = some oi)
    (hr : Region.ready .any ops listed = [i]) (hw : Region.wanted oi (yielded ops a.tmps) = true)
    (h : oi.wp P a w (fun a' w' => S w' ∧ RestS S P ops Q fuel (listed.setIfInBounds i true) a' w') Q) : RestS S P ops Q (fuel + 1) listed a w := by
  refine wpAnyH_all hr (by simp) fun j hj => ?_
  obtain rfl : j = i := by simpa using hj
  unfold wpOp
  simp only [hi, hw, if_true]
  exact .inl h
theorem rests_call {fuel : Nat} {listed : Array Bool} {a : Act} {w : World} (i : Nat) {oi : Oper} (hi : ops[i]? = some oi) (f : FuncId) (args : Array Value) (R : Ending → World → Prop)
    (hr : Region.ready .any ops listed = [i]) (hw : Region.wanted oi (yielded ops a.tmps) = true)
    (he : (execOp a.eval oi).run P w = .ok (.enter f args) w) (hc : Calls P f args w R)
    (h : ∀ e w', R e w' → ∃ v, e = .returned v ∧ S w' ∧ RestS S P ops Q fuel (listed.setIfInBounds i true) (a.put oi.dst v) w') : RestS S P ops Q (fuel + 1) listed a w := by
  refine rests_step i hi hr hw ?_
  unfold Oper.wp
  rw [he, Oper.upon_enter]
  refine hc.mono fun e w' hR => ?_
  obtain ⟨v, rfl, h1, h2⟩ := h e w' hR
  exact ⟨h1, h2⟩
end
section
variable {ops : Array Oper} {Q : Exit → Act → World → Prop} {S : World → Prop}
/-- 'string(b)', where nothing else may come up. -/
theorem rests_conv {fuel : Nat} {listed : Array Bool} {a : Act} {w : World} (i : Nat) {oi : Oper} (hi : ops[i]? = some oi) (x : Operand) (u : Value) (m : List UInt8)
    (hr : Region.ready .any ops listed = [i]) (hw : Region.wanted oi (yielded ops a.tmps) = true) (hS : S w)
    (ho : oi.op = .convert 22 9 x) (hx : a.eval x = u) (hu : Rds w u m)
    (h : RestS S Try.prog ops Q fuel (listed.setIfInBounds i true) (a.put oi.dst (.string ⟨m.toArray⟩)) w) : RestS S Try.prog ops Q (fuel + 1) listed a w := by
  refine rests_step i hi hr hw ?_
  have hrun : (execOp a.eval oi).run Try.prog w = .ok (.value (.string ⟨m.toArray⟩)) w := by
    simp only [execOp, ho, hx, Sem.run_bind, run_str hu, Result.andThen_ok, Sem.run_pure]
  unfold Oper.wp
  rw [hrun, Oper.upon_value]
  exact ⟨hS, h⟩
/-- append of bytes onto bytes of the call's own, where nothing else may come up. -/
theorem rests_app {fuel : Nat} {listed : Array Bool} {a : Act} {w : World} (i : Nat) {oi : Oper} (hi : ops[i]? = some oi) (s x : Operand)
    (hr : Region.ready .any ops listed = [i]) (hw : Region.wanted oi (yielded ops a.tmps) = true)
    (ho : oi.op = .call { callee := .builtin .append, args := #[s, x], argTypes := #[22, 22] })
    (base : Nat) (v u : Value) (l m : List UInt8) (hs : a.eval s = v) (hx : a.eval x = u) (hown : Own w base v l) (hrd : Rds w u m) (hlen : l.length + m.length ≤ 140737488355328) (hbase : base ≤ w.heap.size)
    (h : ∀ v' w', Own w' base v' (l ++ m) → w.grownBy w' v.ownBlock → (v'.ownBlock = v.ownBlock ∨ v'.ownBlock = some w.heap.size) → S w' ∧ RestS S Try.prog ops Q fuel (listed.setIfInBounds i true) (a.put oi.dst v') w') : RestS S Try.prog ops Q (fuel + 1) listed a w := by
  refine rests_step i hi hr hw ?_
  obtain ⟨i0, hi0, hz0, hz1, hz2⟩ := info_parts byte_info
  obtain ⟨A, cap, rfl, hreads⟩ := hrd.reads
  refine wp_append_any w s x 22 ho base 5 i0 _ 1 1 Try.underlying22 hi0 hz0 hz1 hz2 rfl (by omega) v l.length (bcs l) hs hown w.heap.size A m.length cap (bcs m) hx hreads (bcs_one m) (by simp only [maxLen]; omega) (by omega) hbase ?_
  intro v' w' h1 h2 h3
  exact h v' w' (by unfold Own; rw [List.length_append, bcs_append]; exact h1) h2 h3
end
end Go.Proofs.Ytameiegmeicnoaa
