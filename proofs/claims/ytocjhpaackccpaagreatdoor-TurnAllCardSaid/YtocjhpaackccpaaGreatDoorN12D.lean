/- Of layer 12: L12b, L12c, TurnL. -/
import Derived.Test.YtocjhpaackccpaaGreatDoorL12a
import Derived.Test.YtocjhpaackccpaaGreatDoorN12C
import Derived.Test.YtocjhpaackccpaaGreatDoorN12B
import Derived.Test.YtocjhpaackccpaaGreatDoorN12A
import Derived.Deep.MidRow

set_option linter.all false

namespace Go.Proofs.YtocjhpaackccpaaGreatDoor
open Go.RowKit M

end Go.Proofs.YtocjhpaackccpaaGreatDoor

namespace Go.Proofs.YtocjhpaackccpaaGreatDoor
open Go.RowKit M

section
variable {w0 w : World} {v : Value} {r : Nat} {o : Bool} {s : ByteArray}
end
end Go.Proofs.YtocjhpaackccpaaGreatDoor

namespace Go.Proofs.YtocjhpaackccpaaGreatDoor
open Go.RowKit M

theorem exec_load_mid {P : Program} {oi : Oper} {a : Act} {W : World} (ty : TypeId) (x : Operand) (ho : oi.op = .load ty x) (b o : Nat) (hx : a.eval x = .pointer (some ⟨b, o, none⟩)) (cs : List Value) (d : TypeDesc) (hc : W.rangeAt b o cs)
    (hu : P.underlying ty = some d) (hd : d.isRow = true) (hi : (P.info? ty).map (·.size) = some cs.length) : (execOp a.eval oi).run P W = .ok (.value (.agg cs.toArray)) W := by
  unfold execOp
  simp only [ho, hx, Instr.loadAt, Instr.sureAddr, Sem.run_bind, Sem.run_pure, Result.andThen_ok, run_loadVar_mid W b o ty cs d hc hu hd hi]
/-- The i-th plain frame of a slice. -/
theorem SlW.plain {n c b off i : Nat} {l : List PIn} {F : List Nat} {w : World} (h : SlW 9 (.slice (some ⟨b, off, none⟩) n c) n (plcs l) w F) {p : PIn} (hp : l[i]? = some p) : w.rangeAt b (off + i * 9) (pcs p) := by
  intro j u hu
  rw [Nat.add_assoc]
  refine h.cell ?_
  have hi := (List.getElem?_eq_some_iff.1 hp)
  have hj : j < 9 := (List.getElem?_eq_some_iff.1 hu).1
  unfold plcs
  rw [flat_at (f := pcs) (k := 9) (fun _ => rfl) l i j hi.1 hj, hi.2]
  exact hu
theorem range_below {w w' : World} {b o : Nat} {cs : List Value} (h : w.rangeAt b o cs) (hb : Below w.heap.size w w') : w'.rangeAt b o cs := fun j v hv => (hb.cell (p := ⟨b, o + j, none⟩) (World.block_lt_of_cell? _ _ (h j v hv))).trans (h j v hv)
section
variable {w0 w : World} {v : Value} {m m' : TurnM} {C : Obj → Obj}
end
end Go.Proofs.YtocjhpaackccpaaGreatDoor
