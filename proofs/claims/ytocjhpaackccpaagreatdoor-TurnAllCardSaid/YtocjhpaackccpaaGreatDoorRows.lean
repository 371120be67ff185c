/-
  NARROWER THAN 'FOR EVERY INPUT', by the rows' own cells (each row's printed sentence says how): ModAll: laid · InAll: laid · TurnAll: laid · TwoComplete: laid · TurnNone: laid · OutWindow: laid · InOrder: laid · TurnGo: laid · TurnSize: laid · TurnSwap: laid · TurnReject: laid · OutAgain: laid · TurnAck: laid · TurnOther: laid.
  DERIVED. THE GIVEN ROWS OF THIS SEAT. 14 by the template 'for every input the law returns true; each argument reads behind the call as it read before'; 0 by the template 'total and deterministic' (their statements: YtocjhpaackccpaaGreatDoorTotals.lean).
  GIVEN WITH THE SEED: the statements are not yours to turn. If you find one false, say at which input.
  Laid BY PROGRAM, IN A SANDBOX (cutbox-rows.mjs): the forced cells as the released guide's own fill.sh prints them over the translation c268c3eff2b407a9… (all of the seat's roots in one cut). By AI agents, Wed Nov 11 2026. No macro, syntax, notation, axiom, sorry.
-/
import Derived.Test.YtocjhpaackccpaaGreatDoorChecked
import GoSem.Claim
import GoSem.ClaimJoined
import GoSem.ClaimMapViews
import Derived.JoinedTies
import Derived.KernelRfl
namespace Go.Proofs.YtocjhpaackccpaaGreatDoor
/- THE CELL 'sum', in the pinned program and in every row, IS THE sha256 OF THE DUMP (.gsa) THAT YtocjhpaackccpaaGreatDoorProg.lean LOADS. Nothing in Lean hashes anything: it is a label: what it is worth is what the hold of that sum in a sandbox is worth. -/
noncomputable def Tryz.pinned : Pinned := { name := "ytocjhpaackccpaagreatdoor", sum := "c268c3eff2b407a99a646e44cafdf646c90002d7282afbbcc87e3308b18b7c4a", checked := Tryz.checked }
namespace Rows
def none {H : Type} : Left H := { results := [], args := [] }

/- WHAT THE LISTED PACKAGE-LEVEL VARIABLES READ AS WHEN THE CALL BEGINS. Each datum BY PROGRAM (the guide's laid-datum.mjs) off the statement by which the dump's own 'gosem.cut.vars' lays the variable. In a bare row this is a premise. The card (YtocjhpaackccpaaGreatDoorCards.lean) ties it to the program's text. -/
def laid_glowworm_ctl_codes {H : Type} : DataW H := .agg [.lit (.int .u8 0), .lit (.int .u8 47), .lit (.int .u8 131), .lit (.int .u8 99), .lit (.int .u8 15), .lit (.int .u8 67), .lit (.int .u8 139), .lit (.int .u8 143)]

/-- 'glowwormlaw12.ModAll': WHATEVER THE INPUT: true; the input reads as it did. -/
def modAllSpec : ChangeSpec := { name := "modAll", fn := fun _ => fun
  | [d1, d2, d3] => { results := [.lit (.bool true)], args := [d1, d2, d3] }
  | _ => none }
def modAllRow : OpenClaim := { program := "ytocjhpaackccpaagreatdoor", sum := "c268c3eff2b407a99a646e44cafdf646c90002d7282afbbcc87e3308b18b7c4a", func := "glowworm/glowwormlaw12.ModAll", spec := "modAll", inPlace := ["internal/abi.NoEscape"], named := ["glowworm/ctl.codes"], apart := false, laid := [("glowworm/ctl.codes", laid_glowworm_ctl_codes)] }
def ModAllSaid : Prop := modAllRow.holds Tryz.pinned (OpenSpec.ofChange modAllSpec)

/-- ITS FALSE NEIGHBOUR: 'it returns false'. Refute it at one input. -/
def modAllWrong : ChangeSpec := { name := "modAll", fn := fun _ => fun
  | [d1, d2, d3] => { results := [.lit (.bool false)], args := [d1, d2, d3] }
  | _ => none }
def ModAllWrongFalsely : Prop := modAllRow.holds Tryz.pinned (OpenSpec.ofChange modAllWrong)

/-- 'glowwormlaw12.InAll': WHATEVER THE INPUT: true; the input reads as it did. -/
def inAllSpec : ChangeSpec := { name := "inAll", fn := fun _ => fun
  | [d] => { results := [.lit (.bool true)], args := [d] }
  | _ => none }
def inAllRow : OpenClaim := { program := "ytocjhpaackccpaagreatdoor", sum := "c268c3eff2b407a99a646e44cafdf646c90002d7282afbbcc87e3308b18b7c4a", func := "glowworm/glowwormlaw12.InAll", spec := "inAll", inPlace := ["internal/abi.NoEscape"], named := ["glowworm/ctl.codes"], apart := false, laid := [("glowworm/ctl.codes", laid_glowworm_ctl_codes)] }
def InAllSaid : Prop := inAllRow.holds Tryz.pinned (OpenSpec.ofChange inAllSpec)

/-- ITS FALSE NEIGHBOUR: 'it returns false'. Refute it at one input. -/
def inAllWrong : ChangeSpec := { name := "inAll", fn := fun _ => fun
  | [d] => { results := [.lit (.bool false)], args := [d] }
  | _ => none }
def InAllWrongFalsely : Prop := inAllRow.holds Tryz.pinned (OpenSpec.ofChange inAllWrong)

/-- 'glowwormlaw12.TurnAll': WHATEVER THE INPUT: true; the input reads as it did. -/
def turnAllSpec : ChangeSpec := { name := "turnAll", fn := fun _ => fun
  | [d1, d2, d3] => { results := [.lit (.bool true)], args := [d1, d2, d3] }
  | _ => none }
def turnAllRow : OpenClaim := { program := "ytocjhpaackccpaagreatdoor", sum := "c268c3eff2b407a99a646e44cafdf646c90002d7282afbbcc87e3308b18b7c4a", func := "glowworm/glowwormlaw12.TurnAll", spec := "turnAll", inPlace := ["internal/abi.NoEscape"], named := ["glowworm/ctl.codes"], apart := false, laid := [("glowworm/ctl.codes", laid_glowworm_ctl_codes)] }
def TurnAllSaid : Prop := turnAllRow.holds Tryz.pinned (OpenSpec.ofChange turnAllSpec)

/-- ITS FALSE NEIGHBOUR: 'it returns false'. Refute it at one input. -/
def turnAllWrong : ChangeSpec := { name := "turnAll", fn := fun _ => fun
  | [d1, d2, d3] => { results := [.lit (.bool false)], args := [d1, d2, d3] }
  | _ => none }
def TurnAllWrongFalsely : Prop := turnAllRow.holds Tryz.pinned (OpenSpec.ofChange turnAllWrong)

/-- 'glowwormlaw12.TwoComplete': WHATEVER THE INPUT: true; the input reads as it did. -/
def twoCompleteSpec : ChangeSpec := { name := "twoComplete", fn := fun _ => fun
  | [d1, d2, d3] => { results := [.lit (.bool true)], args := [d1, d2, d3] }
  | _ => none }
def twoCompleteRow : OpenClaim := { program := "ytocjhpaackccpaagreatdoor", sum := "c268c3eff2b407a99a646e44cafdf646c90002d7282afbbcc87e3308b18b7c4a", func := "glowworm/glowwormlaw12.TwoComplete", spec := "twoComplete", inPlace := ["internal/abi.NoEscape"], named := ["glowworm/ctl.codes"], apart := false, laid := [("glowworm/ctl.codes", laid_glowworm_ctl_codes)] }
def TwoCompleteSaid : Prop := twoCompleteRow.holds Tryz.pinned (OpenSpec.ofChange twoCompleteSpec)

/-- ITS FALSE NEIGHBOUR: 'it returns false'. Refute it at one input. -/
def twoCompleteWrong : ChangeSpec := { name := "twoComplete", fn := fun _ => fun
  | [d1, d2, d3] => { results := [.lit (.bool false)], args := [d1, d2, d3] }
  | _ => none }
def TwoCompleteWrongFalsely : Prop := twoCompleteRow.holds Tryz.pinned (OpenSpec.ofChange twoCompleteWrong)

/-- 'glowwormlaw12.TurnNone': WHATEVER THE INPUT: true; the input reads as it did. -/
def turnNoneSpec : ChangeSpec := { name := "turnNone", fn := fun _ => fun
  | [] => { results := [.lit (.bool true)], args := [] }
  | _ => none }
def turnNoneRow : OpenClaim := { program := "ytocjhpaackccpaagreatdoor", sum := "c268c3eff2b407a99a646e44cafdf646c90002d7282afbbcc87e3308b18b7c4a", func := "glowworm/glowwormlaw12.TurnNone", spec := "turnNone", inPlace := ["internal/abi.NoEscape"], named := ["glowworm/ctl.codes"], apart := false, laid := [("glowworm/ctl.codes", laid_glowworm_ctl_codes)] }
def TurnNoneSaid : Prop := turnNoneRow.holds Tryz.pinned (OpenSpec.ofChange turnNoneSpec)

/-- ITS FALSE NEIGHBOUR: 'it returns false'. Refute it at one input. -/
def turnNoneWrong : ChangeSpec := { name := "turnNone", fn := fun _ => fun
  | [] => { results := [.lit (.bool false)], args := [] }
  | _ => none }
def TurnNoneWrongFalsely : Prop := turnNoneRow.holds Tryz.pinned (OpenSpec.ofChange turnNoneWrong)

/-- 'glowwormlaw12.OutWindow': WHATEVER THE INPUT: true; the input reads as it did. -/
def outWindowSpec : ChangeSpec := { name := "outWindow", fn := fun _ => fun
  | [d1, d2, d3] => { results := [.lit (.bool true)], args := [d1, d2, d3] }
  | _ => none }
def outWindowRow : OpenClaim := { program := "ytocjhpaackccpaagreatdoor", sum := "c268c3eff2b407a99a646e44cafdf646c90002d7282afbbcc87e3308b18b7c4a", func := "glowworm/glowwormlaw12.OutWindow", spec := "outWindow", inPlace := ["internal/abi.NoEscape"], named := ["glowworm/ctl.codes"], apart := false, laid := [("glowworm/ctl.codes", laid_glowworm_ctl_codes)] }
def OutWindowSaid : Prop := outWindowRow.holds Tryz.pinned (OpenSpec.ofChange outWindowSpec)

/-- ITS FALSE NEIGHBOUR: 'it returns false'. Refute it at one input. -/
def outWindowWrong : ChangeSpec := { name := "outWindow", fn := fun _ => fun
  | [d1, d2, d3] => { results := [.lit (.bool false)], args := [d1, d2, d3] }
  | _ => none }
def OutWindowWrongFalsely : Prop := outWindowRow.holds Tryz.pinned (OpenSpec.ofChange outWindowWrong)

/-- 'glowwormlaw12.InOrder': WHATEVER THE INPUT: true; the input reads as it did. -/
def inOrderSpec : ChangeSpec := { name := "inOrder", fn := fun _ => fun
  | [d] => { results := [.lit (.bool true)], args := [d] }
  | _ => none }
def inOrderRow : OpenClaim := { program := "ytocjhpaackccpaagreatdoor", sum := "c268c3eff2b407a99a646e44cafdf646c90002d7282afbbcc87e3308b18b7c4a", func := "glowworm/glowwormlaw12.InOrder", spec := "inOrder", inPlace := ["internal/abi.NoEscape"], named := ["glowworm/ctl.codes"], apart := false, laid := [("glowworm/ctl.codes", laid_glowworm_ctl_codes)] }
def InOrderSaid : Prop := inOrderRow.holds Tryz.pinned (OpenSpec.ofChange inOrderSpec)

/-- ITS FALSE NEIGHBOUR: 'it returns false'. Refute it at one input. -/
def inOrderWrong : ChangeSpec := { name := "inOrder", fn := fun _ => fun
  | [d] => { results := [.lit (.bool false)], args := [d] }
  | _ => none }
def InOrderWrongFalsely : Prop := inOrderRow.holds Tryz.pinned (OpenSpec.ofChange inOrderWrong)

/-- 'glowwormlaw12.TurnGo': WHATEVER THE INPUT: true; the input reads as it did. -/
def turnGoSpec : ChangeSpec := { name := "turnGo", fn := fun _ => fun
  | [d1, d2, d3] => { results := [.lit (.bool true)], args := [d1, d2, d3] }
  | _ => none }
def turnGoRow : OpenClaim := { program := "ytocjhpaackccpaagreatdoor", sum := "c268c3eff2b407a99a646e44cafdf646c90002d7282afbbcc87e3308b18b7c4a", func := "glowworm/glowwormlaw12.TurnGo", spec := "turnGo", inPlace := ["internal/abi.NoEscape"], named := ["glowworm/ctl.codes"], apart := false, laid := [("glowworm/ctl.codes", laid_glowworm_ctl_codes)] }
def TurnGoSaid : Prop := turnGoRow.holds Tryz.pinned (OpenSpec.ofChange turnGoSpec)

/-- ITS FALSE NEIGHBOUR: 'it returns false'. Refute it at one input. -/
def turnGoWrong : ChangeSpec := { name := "turnGo", fn := fun _ => fun
  | [d1, d2, d3] => { results := [.lit (.bool false)], args := [d1, d2, d3] }
  | _ => none }
def TurnGoWrongFalsely : Prop := turnGoRow.holds Tryz.pinned (OpenSpec.ofChange turnGoWrong)

/-- 'glowwormlaw12.TurnSize': WHATEVER THE INPUT: true; the input reads as it did. -/
def turnSizeSpec : ChangeSpec := { name := "turnSize", fn := fun _ => fun
  | [d1, d2] => { results := [.lit (.bool true)], args := [d1, d2] }
  | _ => none }
def turnSizeRow : OpenClaim := { program := "ytocjhpaackccpaagreatdoor", sum := "c268c3eff2b407a99a646e44cafdf646c90002d7282afbbcc87e3308b18b7c4a", func := "glowworm/glowwormlaw12.TurnSize", spec := "turnSize", inPlace := ["internal/abi.NoEscape"], named := ["glowworm/ctl.codes"], apart := false, laid := [("glowworm/ctl.codes", laid_glowworm_ctl_codes)] }
def TurnSizeSaid : Prop := turnSizeRow.holds Tryz.pinned (OpenSpec.ofChange turnSizeSpec)

/-- ITS FALSE NEIGHBOUR: 'it returns false'. Refute it at one input. -/
def turnSizeWrong : ChangeSpec := { name := "turnSize", fn := fun _ => fun
  | [d1, d2] => { results := [.lit (.bool false)], args := [d1, d2] }
  | _ => none }
def TurnSizeWrongFalsely : Prop := turnSizeRow.holds Tryz.pinned (OpenSpec.ofChange turnSizeWrong)

/-- 'glowwormlaw12.TurnSwap': WHATEVER THE INPUT: true; the input reads as it did. -/
def turnSwapSpec : ChangeSpec := { name := "turnSwap", fn := fun _ => fun
  | [d1, d2] => { results := [.lit (.bool true)], args := [d1, d2] }
  | _ => none }
def turnSwapRow : OpenClaim := { program := "ytocjhpaackccpaagreatdoor", sum := "c268c3eff2b407a99a646e44cafdf646c90002d7282afbbcc87e3308b18b7c4a", func := "glowworm/glowwormlaw12.TurnSwap", spec := "turnSwap", inPlace := ["internal/abi.NoEscape"], named := ["glowworm/ctl.codes"], apart := false, laid := [("glowworm/ctl.codes", laid_glowworm_ctl_codes)] }
def TurnSwapSaid : Prop := turnSwapRow.holds Tryz.pinned (OpenSpec.ofChange turnSwapSpec)

/-- ITS FALSE NEIGHBOUR: 'it returns false'. Refute it at one input. -/
def turnSwapWrong : ChangeSpec := { name := "turnSwap", fn := fun _ => fun
  | [d1, d2] => { results := [.lit (.bool false)], args := [d1, d2] }
  | _ => none }
def TurnSwapWrongFalsely : Prop := turnSwapRow.holds Tryz.pinned (OpenSpec.ofChange turnSwapWrong)

/-- 'glowwormlaw12.TurnReject': WHATEVER THE INPUT: true; the input reads as it did. -/
def turnRejectSpec : ChangeSpec := { name := "turnReject", fn := fun _ => fun
  | [d] => { results := [.lit (.bool true)], args := [d] }
  | _ => none }
def turnRejectRow : OpenClaim := { program := "ytocjhpaackccpaagreatdoor", sum := "c268c3eff2b407a99a646e44cafdf646c90002d7282afbbcc87e3308b18b7c4a", func := "glowworm/glowwormlaw12.TurnReject", spec := "turnReject", inPlace := ["internal/abi.NoEscape"], named := ["glowworm/ctl.codes"], apart := false, laid := [("glowworm/ctl.codes", laid_glowworm_ctl_codes)] }
def TurnRejectSaid : Prop := turnRejectRow.holds Tryz.pinned (OpenSpec.ofChange turnRejectSpec)

/-- ITS FALSE NEIGHBOUR: 'it returns false'. Refute it at one input. -/
def turnRejectWrong : ChangeSpec := { name := "turnReject", fn := fun _ => fun
  | [d] => { results := [.lit (.bool false)], args := [d] }
  | _ => none }
def TurnRejectWrongFalsely : Prop := turnRejectRow.holds Tryz.pinned (OpenSpec.ofChange turnRejectWrong)

/-- 'glowwormlaw12.OutAgain': WHATEVER THE INPUT: true; the input reads as it did. -/
def outAgainSpec : ChangeSpec := { name := "outAgain", fn := fun _ => fun
  | [d1, d2, d3] => { results := [.lit (.bool true)], args := [d1, d2, d3] }
  | _ => none }
def outAgainRow : OpenClaim := { program := "ytocjhpaackccpaagreatdoor", sum := "c268c3eff2b407a99a646e44cafdf646c90002d7282afbbcc87e3308b18b7c4a", func := "glowworm/glowwormlaw12.OutAgain", spec := "outAgain", inPlace := ["internal/abi.NoEscape"], named := ["glowworm/ctl.codes"], apart := false, laid := [("glowworm/ctl.codes", laid_glowworm_ctl_codes)] }
def OutAgainSaid : Prop := outAgainRow.holds Tryz.pinned (OpenSpec.ofChange outAgainSpec)

/-- ITS FALSE NEIGHBOUR: 'it returns false'. Refute it at one input. -/
def outAgainWrong : ChangeSpec := { name := "outAgain", fn := fun _ => fun
  | [d1, d2, d3] => { results := [.lit (.bool false)], args := [d1, d2, d3] }
  | _ => none }
def OutAgainWrongFalsely : Prop := outAgainRow.holds Tryz.pinned (OpenSpec.ofChange outAgainWrong)

/-- 'glowwormlaw12.TurnAck': WHATEVER THE INPUT: true; the input reads as it did. -/
def turnAckSpec : ChangeSpec := { name := "turnAck", fn := fun _ => fun
  | [d1, d2, d3, d4] => { results := [.lit (.bool true)], args := [d1, d2, d3, d4] }
  | _ => none }
def turnAckRow : OpenClaim := { program := "ytocjhpaackccpaagreatdoor", sum := "c268c3eff2b407a99a646e44cafdf646c90002d7282afbbcc87e3308b18b7c4a", func := "glowworm/glowwormlaw12.TurnAck", spec := "turnAck", inPlace := ["internal/abi.NoEscape"], named := ["glowworm/ctl.codes"], apart := false, laid := [("glowworm/ctl.codes", laid_glowworm_ctl_codes)] }
def TurnAckSaid : Prop := turnAckRow.holds Tryz.pinned (OpenSpec.ofChange turnAckSpec)

/-- ITS FALSE NEIGHBOUR: 'it returns false'. Refute it at one input. -/
def turnAckWrong : ChangeSpec := { name := "turnAck", fn := fun _ => fun
  | [d1, d2, d3, d4] => { results := [.lit (.bool false)], args := [d1, d2, d3, d4] }
  | _ => none }
def TurnAckWrongFalsely : Prop := turnAckRow.holds Tryz.pinned (OpenSpec.ofChange turnAckWrong)

/-- 'glowwormlaw12.TurnOther': WHATEVER THE INPUT: true; the input reads as it did. -/
def turnOtherSpec : ChangeSpec := { name := "turnOther", fn := fun _ => fun
  | [d1, d2, d3] => { results := [.lit (.bool true)], args := [d1, d2, d3] }
  | _ => none }
def turnOtherRow : OpenClaim := { program := "ytocjhpaackccpaagreatdoor", sum := "c268c3eff2b407a99a646e44cafdf646c90002d7282afbbcc87e3308b18b7c4a", func := "glowworm/glowwormlaw12.TurnOther", spec := "turnOther", inPlace := ["internal/abi.NoEscape"], named := ["glowworm/ctl.codes"], apart := false, laid := [("glowworm/ctl.codes", laid_glowworm_ctl_codes)] }
def TurnOtherSaid : Prop := turnOtherRow.holds Tryz.pinned (OpenSpec.ofChange turnOtherSpec)

/-- ITS FALSE NEIGHBOUR: 'it returns false'. Refute it at one input. -/
def turnOtherWrong : ChangeSpec := { name := "turnOther", fn := fun _ => fun
  | [d1, d2, d3] => { results := [.lit (.bool false)], args := [d1, d2, d3] }
  | _ => none }
def TurnOtherWrongFalsely : Prop := turnOtherRow.holds Tryz.pinned (OpenSpec.ofChange turnOtherWrong)

/- THE SECOND FORM. 'bulk': how many values and letters a reading holds, each counted each time it is reached (what is shared counts as often as it is met; a slice's spare places count too). A statement '..UptoSaid' is the law's where the arguments, and the package variables that the reading takes, are together of bulk at most 1048576: NARROWER than '..Said'. Prove '..Said' where nothing that the law and all that it calls make is longer than what came in: it says more and counts as full. Else prove '..UptoSaid'. A law counts once. -/
mutual
def uptoBulk {H : Type} : DataW H → Nat
  | .lit (.string bytes) => bytes.length + 1
  | .lit _ => 1
  | .nil => 1
  | .ptr d => uptoBulk d + 1
  | .slice elems spare => uptoBulkAll elems + uptoBulkAll spare + 1
  | .agg parts => uptoBulkAll parts + 1
  | .iface _ d => uptoBulk d + 1
  | .map entries => uptoBulkEntries entries + 1
  | .held _ => 1
def uptoBulkAll {H : Type} : List (DataW H) → Nat
  | [] => 0
  | d :: r => uptoBulk d + uptoBulkAll r
def uptoBulkEntries {H : Type} : List (Lit × DataW H) → Nat
  | [] => 0
  | x :: r => uptoBulkEntry x + uptoBulkEntries r
def uptoBulkEntry {H : Type} : Lit × DataW H → Nat
  | (.string bytes, d) => bytes.length + uptoBulk d + 1
  | (_, d) => uptoBulk d + 1
 end
def uptoSmall : (H : Type) → List (DataW H) → Bool := fun _ ds => decide (uptoBulkAll ds ≤ 1048576)
def OpenSpec.upto (s : _root_.Go.ChangeSpec) : _root_.Go.OpenSpec := { _root_.Go.OpenSpec.ofChange s with cond := some uptoSmall }

/-- 'glowwormlaw12.ModAll', WHERE WHAT IT READS IS OF BULK AT MOST 1048576: true; the input reads as it did. -/
def modAllUptoRow : OpenClaim := { program := "ytocjhpaackccpaagreatdoor", sum := "c268c3eff2b407a99a646e44cafdf646c90002d7282afbbcc87e3308b18b7c4a", func := "glowworm/glowwormlaw12.ModAll", spec := "modAll", inPlace := ["internal/abi.NoEscape"], named := ["glowworm/ctl.codes"], apart := false, laid := [("glowworm/ctl.codes", laid_glowworm_ctl_codes)], narrowed := true }
def ModAllUptoSaid : Prop := modAllUptoRow.holds Tryz.pinned (OpenSpec.upto modAllSpec)

/-- 'glowwormlaw12.InAll', WHERE WHAT IT READS IS OF BULK AT MOST 1048576: true; the input reads as it did. -/
def inAllUptoRow : OpenClaim := { program := "ytocjhpaackccpaagreatdoor", sum := "c268c3eff2b407a99a646e44cafdf646c90002d7282afbbcc87e3308b18b7c4a", func := "glowworm/glowwormlaw12.InAll", spec := "inAll", inPlace := ["internal/abi.NoEscape"], named := ["glowworm/ctl.codes"], apart := false, laid := [("glowworm/ctl.codes", laid_glowworm_ctl_codes)], narrowed := true }
def InAllUptoSaid : Prop := inAllUptoRow.holds Tryz.pinned (OpenSpec.upto inAllSpec)

/-- 'glowwormlaw12.TurnAll', WHERE WHAT IT READS IS OF BULK AT MOST 1048576: true; the input reads as it did. -/
def turnAllUptoRow : OpenClaim := { program := "ytocjhpaackccpaagreatdoor", sum := "c268c3eff2b407a99a646e44cafdf646c90002d7282afbbcc87e3308b18b7c4a", func := "glowworm/glowwormlaw12.TurnAll", spec := "turnAll", inPlace := ["internal/abi.NoEscape"], named := ["glowworm/ctl.codes"], apart := false, laid := [("glowworm/ctl.codes", laid_glowworm_ctl_codes)], narrowed := true }
def TurnAllUptoSaid : Prop := turnAllUptoRow.holds Tryz.pinned (OpenSpec.upto turnAllSpec)

/-- 'glowwormlaw12.TwoComplete', WHERE WHAT IT READS IS OF BULK AT MOST 1048576: true; the input reads as it did. -/
def twoCompleteUptoRow : OpenClaim := { program := "ytocjhpaackccpaagreatdoor", sum := "c268c3eff2b407a99a646e44cafdf646c90002d7282afbbcc87e3308b18b7c4a", func := "glowworm/glowwormlaw12.TwoComplete", spec := "twoComplete", inPlace := ["internal/abi.NoEscape"], named := ["glowworm/ctl.codes"], apart := false, laid := [("glowworm/ctl.codes", laid_glowworm_ctl_codes)], narrowed := true }
def TwoCompleteUptoSaid : Prop := twoCompleteUptoRow.holds Tryz.pinned (OpenSpec.upto twoCompleteSpec)

/-- 'glowwormlaw12.TurnNone', WHERE WHAT IT READS IS OF BULK AT MOST 1048576: true; the input reads as it did. -/
def turnNoneUptoRow : OpenClaim := { program := "ytocjhpaackccpaagreatdoor", sum := "c268c3eff2b407a99a646e44cafdf646c90002d7282afbbcc87e3308b18b7c4a", func := "glowworm/glowwormlaw12.TurnNone", spec := "turnNone", inPlace := ["internal/abi.NoEscape"], named := ["glowworm/ctl.codes"], apart := false, laid := [("glowworm/ctl.codes", laid_glowworm_ctl_codes)], narrowed := true }
def TurnNoneUptoSaid : Prop := turnNoneUptoRow.holds Tryz.pinned (OpenSpec.upto turnNoneSpec)

/-- 'glowwormlaw12.OutWindow', WHERE WHAT IT READS IS OF BULK AT MOST 1048576: true; the input reads as it did. -/
def outWindowUptoRow : OpenClaim := { program := "ytocjhpaackccpaagreatdoor", sum := "c268c3eff2b407a99a646e44cafdf646c90002d7282afbbcc87e3308b18b7c4a", func := "glowworm/glowwormlaw12.OutWindow", spec := "outWindow", inPlace := ["internal/abi.NoEscape"], named := ["glowworm/ctl.codes"], apart := false, laid := [("glowworm/ctl.codes", laid_glowworm_ctl_codes)], narrowed := true }
def OutWindowUptoSaid : Prop := outWindowUptoRow.holds Tryz.pinned (OpenSpec.upto outWindowSpec)

/-- 'glowwormlaw12.InOrder', WHERE WHAT IT READS IS OF BULK AT MOST 1048576: true; the input reads as it did. -/
def inOrderUptoRow : OpenClaim := { program := "ytocjhpaackccpaagreatdoor", sum := "c268c3eff2b407a99a646e44cafdf646c90002d7282afbbcc87e3308b18b7c4a", func := "glowworm/glowwormlaw12.InOrder", spec := "inOrder", inPlace := ["internal/abi.NoEscape"], named := ["glowworm/ctl.codes"], apart := false, laid := [("glowworm/ctl.codes", laid_glowworm_ctl_codes)], narrowed := true }
def InOrderUptoSaid : Prop := inOrderUptoRow.holds Tryz.pinned (OpenSpec.upto inOrderSpec)

/-- 'glowwormlaw12.TurnGo', WHERE WHAT IT READS IS OF BULK AT MOST 1048576: true; the input reads as it did. -/
def turnGoUptoRow : OpenClaim := { program := "ytocjhpaackccpaagreatdoor", sum := "c268c3eff2b407a99a646e44cafdf646c90002d7282afbbcc87e3308b18b7c4a", func := "glowworm/glowwormlaw12.TurnGo", spec := "turnGo", inPlace := ["internal/abi.NoEscape"], named := ["glowworm/ctl.codes"], apart := false, laid := [("glowworm/ctl.codes", laid_glowworm_ctl_codes)], narrowed := true }
def TurnGoUptoSaid : Prop := turnGoUptoRow.holds Tryz.pinned (OpenSpec.upto turnGoSpec)

/-- 'glowwormlaw12.TurnSize', WHERE WHAT IT READS IS OF BULK AT MOST 1048576: true; the input reads as it did. -/
def turnSizeUptoRow : OpenClaim := { program := "ytocjhpaackccpaagreatdoor", sum := "c268c3eff2b407a99a646e44cafdf646c90002d7282afbbcc87e3308b18b7c4a", func := "glowworm/glowwormlaw12.TurnSize", spec := "turnSize", inPlace := ["internal/abi.NoEscape"], named := ["glowworm/ctl.codes"], apart := false, laid := [("glowworm/ctl.codes", laid_glowworm_ctl_codes)], narrowed := true }
def TurnSizeUptoSaid : Prop := turnSizeUptoRow.holds Tryz.pinned (OpenSpec.upto turnSizeSpec)

/-- 'glowwormlaw12.TurnSwap', WHERE WHAT IT READS IS OF BULK AT MOST 1048576: true; the input reads as it did. -/
def turnSwapUptoRow : OpenClaim := { program := "ytocjhpaackccpaagreatdoor", sum := "c268c3eff2b407a99a646e44cafdf646c90002d7282afbbcc87e3308b18b7c4a", func := "glowworm/glowwormlaw12.TurnSwap", spec := "turnSwap", inPlace := ["internal/abi.NoEscape"], named := ["glowworm/ctl.codes"], apart := false, laid := [("glowworm/ctl.codes", laid_glowworm_ctl_codes)], narrowed := true }
def TurnSwapUptoSaid : Prop := turnSwapUptoRow.holds Tryz.pinned (OpenSpec.upto turnSwapSpec)

/-- 'glowwormlaw12.TurnReject', WHERE WHAT IT READS IS OF BULK AT MOST 1048576: true; the input reads as it did. -/
def turnRejectUptoRow : OpenClaim := { program := "ytocjhpaackccpaagreatdoor", sum := "c268c3eff2b407a99a646e44cafdf646c90002d7282afbbcc87e3308b18b7c4a", func := "glowworm/glowwormlaw12.TurnReject", spec := "turnReject", inPlace := ["internal/abi.NoEscape"], named := ["glowworm/ctl.codes"], apart := false, laid := [("glowworm/ctl.codes", laid_glowworm_ctl_codes)], narrowed := true }
def TurnRejectUptoSaid : Prop := turnRejectUptoRow.holds Tryz.pinned (OpenSpec.upto turnRejectSpec)

/-- 'glowwormlaw12.OutAgain', WHERE WHAT IT READS IS OF BULK AT MOST 1048576: true; the input reads as it did. -/
def outAgainUptoRow : OpenClaim := { program := "ytocjhpaackccpaagreatdoor", sum := "c268c3eff2b407a99a646e44cafdf646c90002d7282afbbcc87e3308b18b7c4a", func := "glowworm/glowwormlaw12.OutAgain", spec := "outAgain", inPlace := ["internal/abi.NoEscape"], named := ["glowworm/ctl.codes"], apart := false, laid := [("glowworm/ctl.codes", laid_glowworm_ctl_codes)], narrowed := true }
def OutAgainUptoSaid : Prop := outAgainUptoRow.holds Tryz.pinned (OpenSpec.upto outAgainSpec)

/-- 'glowwormlaw12.TurnAck', WHERE WHAT IT READS IS OF BULK AT MOST 1048576: true; the input reads as it did. -/
def turnAckUptoRow : OpenClaim := { program := "ytocjhpaackccpaagreatdoor", sum := "c268c3eff2b407a99a646e44cafdf646c90002d7282afbbcc87e3308b18b7c4a", func := "glowworm/glowwormlaw12.TurnAck", spec := "turnAck", inPlace := ["internal/abi.NoEscape"], named := ["glowworm/ctl.codes"], apart := false, laid := [("glowworm/ctl.codes", laid_glowworm_ctl_codes)], narrowed := true }
def TurnAckUptoSaid : Prop := turnAckUptoRow.holds Tryz.pinned (OpenSpec.upto turnAckSpec)

/-- 'glowwormlaw12.TurnOther', WHERE WHAT IT READS IS OF BULK AT MOST 1048576: true; the input reads as it did. -/
def turnOtherUptoRow : OpenClaim := { program := "ytocjhpaackccpaagreatdoor", sum := "c268c3eff2b407a99a646e44cafdf646c90002d7282afbbcc87e3308b18b7c4a", func := "glowworm/glowwormlaw12.TurnOther", spec := "turnOther", inPlace := ["internal/abi.NoEscape"], named := ["glowworm/ctl.codes"], apart := false, laid := [("glowworm/ctl.codes", laid_glowworm_ctl_codes)], narrowed := true }
def TurnOtherUptoSaid : Prop := turnOtherUptoRow.holds Tryz.pinned (OpenSpec.upto turnOtherSpec)

end Rows
end Go.Proofs.YtocjhpaackccpaaGreatDoor
