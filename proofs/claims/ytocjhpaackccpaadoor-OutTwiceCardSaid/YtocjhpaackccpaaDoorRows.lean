/-
  NARROWER THAN 'FOR EVERY INPUT', by the rows' own cells (each row's printed sentence says how): ModRound: laid · OutFull: laid · OutForeign: laid · OutTwice: laid.
  DERIVED. THE GIVEN ROWS OF THIS SEAT. 4 by the template 'for every input the law returns true; each argument reads behind the call as it read before'; 0 by the template 'total and deterministic' (their statements: YtocjhpaackccpaaDoorTotals.lean).
  GIVEN WITH THE SEED: the statements are not yours to turn. If you find one false, say at which input.
  Laid BY PROGRAM, IN A SANDBOX (cutbox-rows.mjs): the forced cells as the released guide's own fill.sh prints them over the translation d82dfaec5fd096c7… (all of the seat's roots in one cut). By AI agents, Wed Nov 11 2026. No macro, syntax, notation, axiom, sorry.
-/
import Derived.Test.YtocjhpaackccpaaDoorChecked
import GoSem.Claim
import GoSem.ClaimJoined
import GoSem.ClaimMapViews
import Derived.JoinedTies
import Derived.KernelRfl
namespace Go.Proofs.YtocjhpaackccpaaDoor
/- THE CELL 'sum', in the pinned program and in every row, IS THE sha256 OF THE DUMP (.gsa) THAT YtocjhpaackccpaaDoorProg.lean LOADS. Nothing in Lean hashes anything: it is a label: what it is worth is what the hold of that sum in a sandbox is worth. -/
noncomputable def Tryd.pinned : Pinned := { name := "ytocjhpaackccpaadoor", sum := "d82dfaec5fd096c7cbbe20c01cba6b1c6de3eba25dd50e5942040bb7809b5032", checked := Tryd.checked }
namespace Rows
def none {H : Type} : Left H := { results := [], args := [] }

/- WHAT THE LISTED PACKAGE-LEVEL VARIABLES READ AS WHEN THE CALL BEGINS. Each datum BY PROGRAM (the guide's laid-datum.mjs) off the statement by which the dump's own 'gosem.cut.vars' lays the variable. In a bare row this is a premise. The card (YtocjhpaackccpaaDoorCards.lean) ties it to the program's text. -/
def laid_glowworm_ctl_codes {H : Type} : DataW H := .agg [.lit (.int .u8 0), .lit (.int .u8 47), .lit (.int .u8 131), .lit (.int .u8 99), .lit (.int .u8 15), .lit (.int .u8 67), .lit (.int .u8 139), .lit (.int .u8 143)]

/-- 'glowwormlaw12.ModRound': WHATEVER THE INPUT: true; the input reads as it did. -/
def modRoundSpec : ChangeSpec := { name := "modRound", fn := fun _ => fun
  | [d1, d2, d3] => { results := [.lit (.bool true)], args := [d1, d2, d3] }
  | _ => none }
def modRoundRow : OpenClaim := { program := "ytocjhpaackccpaadoor", sum := "d82dfaec5fd096c7cbbe20c01cba6b1c6de3eba25dd50e5942040bb7809b5032", func := "glowworm/glowwormlaw12.ModRound", spec := "modRound", inPlace := ["internal/abi.NoEscape"], named := ["glowworm/ctl.codes"], apart := false, laid := [("glowworm/ctl.codes", laid_glowworm_ctl_codes)] }
def ModRoundSaid : Prop := modRoundRow.holds Tryd.pinned (OpenSpec.ofChange modRoundSpec)

/-- ITS FALSE NEIGHBOUR: 'it returns false'. Refute it at one input. -/
def modRoundWrong : ChangeSpec := { name := "modRound", fn := fun _ => fun
  | [d1, d2, d3] => { results := [.lit (.bool false)], args := [d1, d2, d3] }
  | _ => none }
def ModRoundWrongFalsely : Prop := modRoundRow.holds Tryd.pinned (OpenSpec.ofChange modRoundWrong)

/-- 'glowwormlaw12.OutFull': WHATEVER THE INPUT: true; the input reads as it did. -/
def outFullSpec : ChangeSpec := { name := "outFull", fn := fun _ => fun
  | [d1, d2] => { results := [.lit (.bool true)], args := [d1, d2] }
  | _ => none }
def outFullRow : OpenClaim := { program := "ytocjhpaackccpaadoor", sum := "d82dfaec5fd096c7cbbe20c01cba6b1c6de3eba25dd50e5942040bb7809b5032", func := "glowworm/glowwormlaw12.OutFull", spec := "outFull", inPlace := ["internal/abi.NoEscape"], named := ["glowworm/ctl.codes"], apart := false, laid := [("glowworm/ctl.codes", laid_glowworm_ctl_codes)] }
def OutFullSaid : Prop := outFullRow.holds Tryd.pinned (OpenSpec.ofChange outFullSpec)

/-- ITS FALSE NEIGHBOUR: 'it returns false'. Refute it at one input. -/
def outFullWrong : ChangeSpec := { name := "outFull", fn := fun _ => fun
  | [d1, d2] => { results := [.lit (.bool false)], args := [d1, d2] }
  | _ => none }
def OutFullWrongFalsely : Prop := outFullRow.holds Tryd.pinned (OpenSpec.ofChange outFullWrong)

/-- 'glowwormlaw12.OutForeign': WHATEVER THE INPUT: true; the input reads as it did. -/
def outForeignSpec : ChangeSpec := { name := "outForeign", fn := fun _ => fun
  | [d1, d2, d3, d4] => { results := [.lit (.bool true)], args := [d1, d2, d3, d4] }
  | _ => none }
def outForeignRow : OpenClaim := { program := "ytocjhpaackccpaadoor", sum := "d82dfaec5fd096c7cbbe20c01cba6b1c6de3eba25dd50e5942040bb7809b5032", func := "glowworm/glowwormlaw12.OutForeign", spec := "outForeign", inPlace := ["internal/abi.NoEscape"], named := ["glowworm/ctl.codes"], apart := false, laid := [("glowworm/ctl.codes", laid_glowworm_ctl_codes)] }
def OutForeignSaid : Prop := outForeignRow.holds Tryd.pinned (OpenSpec.ofChange outForeignSpec)

/-- ITS FALSE NEIGHBOUR: 'it returns false'. Refute it at one input. -/
def outForeignWrong : ChangeSpec := { name := "outForeign", fn := fun _ => fun
  | [d1, d2, d3, d4] => { results := [.lit (.bool false)], args := [d1, d2, d3, d4] }
  | _ => none }
def OutForeignWrongFalsely : Prop := outForeignRow.holds Tryd.pinned (OpenSpec.ofChange outForeignWrong)

/-- 'glowwormlaw12.OutTwice': WHATEVER THE INPUT: true; the input reads as it did. -/
def outTwiceSpec : ChangeSpec := { name := "outTwice", fn := fun _ => fun
  | [d1, d2, d3] => { results := [.lit (.bool true)], args := [d1, d2, d3] }
  | _ => none }
def outTwiceRow : OpenClaim := { program := "ytocjhpaackccpaadoor", sum := "d82dfaec5fd096c7cbbe20c01cba6b1c6de3eba25dd50e5942040bb7809b5032", func := "glowworm/glowwormlaw12.OutTwice", spec := "outTwice", inPlace := ["internal/abi.NoEscape"], named := ["glowworm/ctl.codes"], apart := false, laid := [("glowworm/ctl.codes", laid_glowworm_ctl_codes)] }
def OutTwiceSaid : Prop := outTwiceRow.holds Tryd.pinned (OpenSpec.ofChange outTwiceSpec)

/-- ITS FALSE NEIGHBOUR: 'it returns false'. Refute it at one input. -/
def outTwiceWrong : ChangeSpec := { name := "outTwice", fn := fun _ => fun
  | [d1, d2, d3] => { results := [.lit (.bool false)], args := [d1, d2, d3] }
  | _ => none }
def OutTwiceWrongFalsely : Prop := outTwiceRow.holds Tryd.pinned (OpenSpec.ofChange outTwiceWrong)

/- THE SECOND FORM. 'bulk': how many values and letters a reading holds, each counted each time it is reached (what is shared counts as often as it is met; a slice's spare places count too). A statement '..UptoSaid' is the law's where the arguments, and the package variables that the reading takes, are together of bulk at most 1048576: NARROWER than '..Said'. Prove '..Said' where nothing that the law and all that it calls make is longer than what came in: it says more and counts as full. Else prove '..UptoSaid'. A law counts once. -/
mutual
def uptoBulk {H : Type} : DataW H → Nat
  | .lit (.string bytes) => bytes.length + 1
  | .lit _ => 1
  | .nil => 1
  | .ptr d => uptoBulk d + 1
  | .slice elems spare => uptoBulkAll elems + uptoBulkAll spare + 1
  | .agg parts => uptoBulkAll parts + 1
  | .iface _ d => uptoBulk d + 1
  | .map entries => uptoBulkEntries entries + 1
  | .held _ => 1
def uptoBulkAll {H : Type} : List (DataW H) → Nat
  | [] => 0
  | d :: r => uptoBulk d + uptoBulkAll r
def uptoBulkEntries {H : Type} : List (Lit × DataW H) → Nat
  | [] => 0
  | x :: r => uptoBulkEntry x + uptoBulkEntries r
def uptoBulkEntry {H : Type} : Lit × DataW H → Nat
  | (.string bytes, d) => bytes.length + uptoBulk d + 1
  | (_, d) => uptoBulk d + 1
 end
def uptoSmall : (H : Type) → List (DataW H) → Bool := fun _ ds => decide (uptoBulkAll ds ≤ 1048576)
def OpenSpec.upto (s : _root_.Go.ChangeSpec) : _root_.Go.OpenSpec := { _root_.Go.OpenSpec.ofChange s with cond := some uptoSmall }

/-- 'glowwormlaw12.ModRound', WHERE WHAT IT READS IS OF BULK AT MOST 1048576: true; the input reads as it did. -/
def modRoundUptoRow : OpenClaim := { program := "ytocjhpaackccpaadoor", sum := "d82dfaec5fd096c7cbbe20c01cba6b1c6de3eba25dd50e5942040bb7809b5032", func := "glowworm/glowwormlaw12.ModRound", spec := "modRound", inPlace := ["internal/abi.NoEscape"], named := ["glowworm/ctl.codes"], apart := false, laid := [("glowworm/ctl.codes", laid_glowworm_ctl_codes)], narrowed := true }
def ModRoundUptoSaid : Prop := modRoundUptoRow.holds Tryd.pinned (OpenSpec.upto modRoundSpec)

/-- 'glowwormlaw12.OutFull', WHERE WHAT IT READS IS OF BULK AT MOST 1048576: true; the input reads as it did. -/
def outFullUptoRow : OpenClaim := { program := "ytocjhpaackccpaadoor", sum := "d82dfaec5fd096c7cbbe20c01cba6b1c6de3eba25dd50e5942040bb7809b5032", func := "glowworm/glowwormlaw12.OutFull", spec := "outFull", inPlace := ["internal/abi.NoEscape"], named := ["glowworm/ctl.codes"], apart := false, laid := [("glowworm/ctl.codes", laid_glowworm_ctl_codes)], narrowed := true }
def OutFullUptoSaid : Prop := outFullUptoRow.holds Tryd.pinned (OpenSpec.upto outFullSpec)

/-- 'glowwormlaw12.OutForeign', WHERE WHAT IT READS IS OF BULK AT MOST 1048576: true; the input reads as it did. -/
def outForeignUptoRow : OpenClaim := { program := "ytocjhpaackccpaadoor", sum := "d82dfaec5fd096c7cbbe20c01cba6b1c6de3eba25dd50e5942040bb7809b5032", func := "glowworm/glowwormlaw12.OutForeign", spec := "outForeign", inPlace := ["internal/abi.NoEscape"], named := ["glowworm/ctl.codes"], apart := false, laid := [("glowworm/ctl.codes", laid_glowworm_ctl_codes)], narrowed := true }
def OutForeignUptoSaid : Prop := outForeignUptoRow.holds Tryd.pinned (OpenSpec.upto outForeignSpec)

/-- 'glowwormlaw12.OutTwice', WHERE WHAT IT READS IS OF BULK AT MOST 1048576: true; the input reads as it did. -/
def outTwiceUptoRow : OpenClaim := { program := "ytocjhpaackccpaadoor", sum := "d82dfaec5fd096c7cbbe20c01cba6b1c6de3eba25dd50e5942040bb7809b5032", func := "glowworm/glowwormlaw12.OutTwice", spec := "outTwice", inPlace := ["internal/abi.NoEscape"], named := ["glowworm/ctl.codes"], apart := false, laid := [("glowworm/ctl.codes", laid_glowworm_ctl_codes)], narrowed := true }
def OutTwiceUptoSaid : Prop := outTwiceUptoRow.holds Tryd.pinned (OpenSpec.upto outTwiceSpec)

end Rows
end Go.Proofs.YtocjhpaackccpaaDoor
