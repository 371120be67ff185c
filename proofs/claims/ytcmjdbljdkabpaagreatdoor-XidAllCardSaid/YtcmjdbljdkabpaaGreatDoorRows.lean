/-
  NARROWER THAN 'FOR EVERY INPUT', by the rows' own cells (each row's printed sentence says how): QosAll: laid · QosMore: laid · MeetAll: laid · MeetBoth: laid · XidAll: laid · SetupAll: laid · SetupNone: laid · QosTurn: laid · QosBits: laid · QosTicks: laid · MeetBest: laid · MeetMine: laid · XidTurn: laid · XidFresh: laid · SetupMore: laid · QosCut: laid · MeetLeast: laid · SetupUnlike: laid.
  DERIVED. THE GIVEN ROWS OF THIS SEAT. 18 by the template 'for every input the law returns true; each argument reads behind the call as it read before'; 0 by the template 'total and deterministic' (their statements: YtcmjdbljdkabpaaGreatDoorTotals.lean).
  GIVEN WITH THE SEED: the statements are not yours to turn. If you find one false, say at which input.
  Laid BY PROGRAM, IN A SANDBOX (cutbox-rows.mjs): the forced cells as the released guide's own fill.sh prints them over the translation 82932f6bfd866fc9… (all of the seat's roots in one cut). By AI agents, Wed Nov 11 2026. No macro, syntax, notation, axiom, sorry.
-/
import Derived.Test.YtcmjdbljdkabpaaGreatDoorChecked
import GoSem.Claim
import GoSem.ClaimJoined
import GoSem.ClaimMapViews
import Derived.JoinedTies
import Derived.KernelRfl
namespace Go.Proofs.YtcmjdbljdkabpaaGreatDoor
/- THE CELL 'sum', in the pinned program and in every row, IS THE sha256 OF THE DUMP (.gsa) THAT YtcmjdbljdkabpaaGreatDoorProg.lean LOADS. Nothing in Lean hashes anything: it is a label: what it is worth is what the hold of that sum in a sandbox is worth. -/
noncomputable def Tryz.pinned : Pinned := { name := "ytcmjdbljdkabpaagreatdoor", sum := "82932f6bfd866fc9f17b3faa2ebfa5b61e015231e6894b09fb19555513440ca2", checked := Tryz.checked }
namespace Rows
def none {H : Type} : Left H := { results := [], args := [] }

/- WHAT THE LISTED PACKAGE-LEVEL VARIABLES READ AS WHEN THE CALL BEGINS. Each datum BY PROGRAM (the guide's laid-datum.mjs) off the statement by which the dump's own 'gosem.cut.vars' lays the variable. In a bare row this is a premise. The card (YtcmjdbljdkabpaaGreatDoorCards.lean) ties it to the program's text. -/
def laid_glowworm_ctl_codes {H : Type} : DataW H := .agg [.lit (.int .u8 0), .lit (.int .u8 47), .lit (.int .u8 131), .lit (.int .u8 99), .lit (.int .u8 15), .lit (.int .u8 67), .lit (.int .u8 139), .lit (.int .u8 143)]

/-- 'glowwormlaw8.QosAll': WHATEVER THE INPUT: true; the input reads as it did. -/
def qosAllSpec : ChangeSpec := { name := "qosAll", fn := fun _ => fun
  | [d1, d2, d3, d4, d5, d6] => { results := [.lit (.bool true)], args := [d1, d2, d3, d4, d5, d6] }
  | _ => none }
def qosAllRow : OpenClaim := { program := "ytcmjdbljdkabpaagreatdoor", sum := "82932f6bfd866fc9f17b3faa2ebfa5b61e015231e6894b09fb19555513440ca2", func := "glowworm/glowwormlaw8.QosAll", spec := "qosAll", inPlace := ["internal/abi.NoEscape"], unfollowed := true, recurses := true, named := ["math/bits.divideError", "math/bits.overflowError", "glowworm/ctl.codes"], apart := false, laid := [("glowworm/ctl.codes", laid_glowworm_ctl_codes)] }
def QosAllSaid : Prop := qosAllRow.holds Tryz.pinned (OpenSpec.ofChange qosAllSpec)

/-- ITS FALSE NEIGHBOUR: 'it returns false'. Refute it at one input. -/
def qosAllWrong : ChangeSpec := { name := "qosAll", fn := fun _ => fun
  | [d1, d2, d3, d4, d5, d6] => { results := [.lit (.bool false)], args := [d1, d2, d3, d4, d5, d6] }
  | _ => none }
def QosAllWrongFalsely : Prop := qosAllRow.holds Tryz.pinned (OpenSpec.ofChange qosAllWrong)

/-- 'glowwormlaw8.QosMore': WHATEVER THE INPUT: true; the input reads as it did. -/
def qosMoreSpec : ChangeSpec := { name := "qosMore", fn := fun _ => fun
  | [d1, d2, d3] => { results := [.lit (.bool true)], args := [d1, d2, d3] }
  | _ => none }
def qosMoreRow : OpenClaim := { program := "ytcmjdbljdkabpaagreatdoor", sum := "82932f6bfd866fc9f17b3faa2ebfa5b61e015231e6894b09fb19555513440ca2", func := "glowworm/glowwormlaw8.QosMore", spec := "qosMore", inPlace := ["internal/abi.NoEscape"], unfollowed := true, recurses := true, named := ["math/bits.divideError", "math/bits.overflowError", "glowworm/ctl.codes"], apart := false, laid := [("glowworm/ctl.codes", laid_glowworm_ctl_codes)] }
def QosMoreSaid : Prop := qosMoreRow.holds Tryz.pinned (OpenSpec.ofChange qosMoreSpec)

/-- ITS FALSE NEIGHBOUR: 'it returns false'. Refute it at one input. -/
def qosMoreWrong : ChangeSpec := { name := "qosMore", fn := fun _ => fun
  | [d1, d2, d3] => { results := [.lit (.bool false)], args := [d1, d2, d3] }
  | _ => none }
def QosMoreWrongFalsely : Prop := qosMoreRow.holds Tryz.pinned (OpenSpec.ofChange qosMoreWrong)

/-- 'glowwormlaw8.MeetAll': WHATEVER THE INPUT: true; the input reads as it did. -/
def meetAllSpec : ChangeSpec := { name := "meetAll", fn := fun _ => fun
  | [d1, d2, d3, d4] => { results := [.lit (.bool true)], args := [d1, d2, d3, d4] }
  | _ => none }
def meetAllRow : OpenClaim := { program := "ytcmjdbljdkabpaagreatdoor", sum := "82932f6bfd866fc9f17b3faa2ebfa5b61e015231e6894b09fb19555513440ca2", func := "glowworm/glowwormlaw8.MeetAll", spec := "meetAll", inPlace := ["internal/abi.NoEscape"], unfollowed := true, recurses := true, named := ["math/bits.divideError", "math/bits.overflowError", "glowworm/ctl.codes"], apart := false, laid := [("glowworm/ctl.codes", laid_glowworm_ctl_codes)] }
def MeetAllSaid : Prop := meetAllRow.holds Tryz.pinned (OpenSpec.ofChange meetAllSpec)

/-- ITS FALSE NEIGHBOUR: 'it returns false'. Refute it at one input. -/
def meetAllWrong : ChangeSpec := { name := "meetAll", fn := fun _ => fun
  | [d1, d2, d3, d4] => { results := [.lit (.bool false)], args := [d1, d2, d3, d4] }
  | _ => none }
def MeetAllWrongFalsely : Prop := meetAllRow.holds Tryz.pinned (OpenSpec.ofChange meetAllWrong)

/-- 'glowwormlaw8.MeetBoth': WHATEVER THE INPUT: true; the input reads as it did. -/
def meetBothSpec : ChangeSpec := { name := "meetBoth", fn := fun _ => fun
  | [d1, d2, d3] => { results := [.lit (.bool true)], args := [d1, d2, d3] }
  | _ => none }
def meetBothRow : OpenClaim := { program := "ytcmjdbljdkabpaagreatdoor", sum := "82932f6bfd866fc9f17b3faa2ebfa5b61e015231e6894b09fb19555513440ca2", func := "glowworm/glowwormlaw8.MeetBoth", spec := "meetBoth", inPlace := ["internal/abi.NoEscape"], unfollowed := true, recurses := true, named := ["math/bits.divideError", "math/bits.overflowError", "glowworm/ctl.codes"], apart := false, laid := [("glowworm/ctl.codes", laid_glowworm_ctl_codes)] }
def MeetBothSaid : Prop := meetBothRow.holds Tryz.pinned (OpenSpec.ofChange meetBothSpec)

/-- ITS FALSE NEIGHBOUR: 'it returns false'. Refute it at one input. -/
def meetBothWrong : ChangeSpec := { name := "meetBoth", fn := fun _ => fun
  | [d1, d2, d3] => { results := [.lit (.bool false)], args := [d1, d2, d3] }
  | _ => none }
def MeetBothWrongFalsely : Prop := meetBothRow.holds Tryz.pinned (OpenSpec.ofChange meetBothWrong)

/-- 'glowwormlaw8.XidAll': WHATEVER THE INPUT: true; the input reads as it did. -/
def xidAllSpec : ChangeSpec := { name := "xidAll", fn := fun _ => fun
  | [d1, d2, d3, d4] => { results := [.lit (.bool true)], args := [d1, d2, d3, d4] }
  | _ => none }
def xidAllRow : OpenClaim := { program := "ytcmjdbljdkabpaagreatdoor", sum := "82932f6bfd866fc9f17b3faa2ebfa5b61e015231e6894b09fb19555513440ca2", func := "glowworm/glowwormlaw8.XidAll", spec := "xidAll", inPlace := ["internal/abi.NoEscape"], unfollowed := true, recurses := true, named := ["math/bits.divideError", "math/bits.overflowError", "glowworm/ctl.codes"], apart := false, laid := [("glowworm/ctl.codes", laid_glowworm_ctl_codes)] }
def XidAllSaid : Prop := xidAllRow.holds Tryz.pinned (OpenSpec.ofChange xidAllSpec)

/-- ITS FALSE NEIGHBOUR: 'it returns false'. Refute it at one input. -/
def xidAllWrong : ChangeSpec := { name := "xidAll", fn := fun _ => fun
  | [d1, d2, d3, d4] => { results := [.lit (.bool false)], args := [d1, d2, d3, d4] }
  | _ => none }
def XidAllWrongFalsely : Prop := xidAllRow.holds Tryz.pinned (OpenSpec.ofChange xidAllWrong)

/-- 'glowwormlaw8.SetupAll': WHATEVER THE INPUT: true; the input reads as it did. -/
def setupAllSpec : ChangeSpec := { name := "setupAll", fn := fun _ => fun
  | [d1, d2, d3, d4] => { results := [.lit (.bool true)], args := [d1, d2, d3, d4] }
  | _ => none }
def setupAllRow : OpenClaim := { program := "ytcmjdbljdkabpaagreatdoor", sum := "82932f6bfd866fc9f17b3faa2ebfa5b61e015231e6894b09fb19555513440ca2", func := "glowworm/glowwormlaw8.SetupAll", spec := "setupAll", inPlace := ["internal/abi.NoEscape"], unfollowed := true, recurses := true, named := ["math/bits.divideError", "math/bits.overflowError", "glowworm/ctl.codes"], apart := false, laid := [("glowworm/ctl.codes", laid_glowworm_ctl_codes)] }
def SetupAllSaid : Prop := setupAllRow.holds Tryz.pinned (OpenSpec.ofChange setupAllSpec)

/-- ITS FALSE NEIGHBOUR: 'it returns false'. Refute it at one input. -/
def setupAllWrong : ChangeSpec := { name := "setupAll", fn := fun _ => fun
  | [d1, d2, d3, d4] => { results := [.lit (.bool false)], args := [d1, d2, d3, d4] }
  | _ => none }
def SetupAllWrongFalsely : Prop := setupAllRow.holds Tryz.pinned (OpenSpec.ofChange setupAllWrong)

/-- 'glowwormlaw8.SetupNone': WHATEVER THE INPUT: true; the input reads as it did. -/
def setupNoneSpec : ChangeSpec := { name := "setupNone", fn := fun _ => fun
  | [] => { results := [.lit (.bool true)], args := [] }
  | _ => none }
def setupNoneRow : OpenClaim := { program := "ytcmjdbljdkabpaagreatdoor", sum := "82932f6bfd866fc9f17b3faa2ebfa5b61e015231e6894b09fb19555513440ca2", func := "glowworm/glowwormlaw8.SetupNone", spec := "setupNone", inPlace := ["internal/abi.NoEscape"], unfollowed := true, recurses := true, named := ["math/bits.divideError", "math/bits.overflowError", "glowworm/ctl.codes"], apart := false, laid := [("glowworm/ctl.codes", laid_glowworm_ctl_codes)] }
def SetupNoneSaid : Prop := setupNoneRow.holds Tryz.pinned (OpenSpec.ofChange setupNoneSpec)

/-- ITS FALSE NEIGHBOUR: 'it returns false'. Refute it at one input. -/
def setupNoneWrong : ChangeSpec := { name := "setupNone", fn := fun _ => fun
  | [] => { results := [.lit (.bool false)], args := [] }
  | _ => none }
def SetupNoneWrongFalsely : Prop := setupNoneRow.holds Tryz.pinned (OpenSpec.ofChange setupNoneWrong)

/-- 'glowwormlaw8.QosTurn': WHATEVER THE INPUT: true; the input reads as it did. -/
def qosTurnSpec : ChangeSpec := { name := "qosTurn", fn := fun _ => fun
  | [d1, d2, d3] => { results := [.lit (.bool true)], args := [d1, d2, d3] }
  | _ => none }
def qosTurnRow : OpenClaim := { program := "ytcmjdbljdkabpaagreatdoor", sum := "82932f6bfd866fc9f17b3faa2ebfa5b61e015231e6894b09fb19555513440ca2", func := "glowworm/glowwormlaw8.QosTurn", spec := "qosTurn", inPlace := ["internal/abi.NoEscape"], unfollowed := true, recurses := true, named := ["math/bits.divideError", "math/bits.overflowError", "glowworm/ctl.codes"], apart := false, laid := [("glowworm/ctl.codes", laid_glowworm_ctl_codes)] }
def QosTurnSaid : Prop := qosTurnRow.holds Tryz.pinned (OpenSpec.ofChange qosTurnSpec)

/-- ITS FALSE NEIGHBOUR: 'it returns false'. Refute it at one input. -/
def qosTurnWrong : ChangeSpec := { name := "qosTurn", fn := fun _ => fun
  | [d1, d2, d3] => { results := [.lit (.bool false)], args := [d1, d2, d3] }
  | _ => none }
def QosTurnWrongFalsely : Prop := qosTurnRow.holds Tryz.pinned (OpenSpec.ofChange qosTurnWrong)

/-- 'glowwormlaw8.QosBits': WHATEVER THE INPUT: true; the input reads as it did. -/
def qosBitsSpec : ChangeSpec := { name := "qosBits", fn := fun _ => fun
  | [d] => { results := [.lit (.bool true)], args := [d] }
  | _ => none }
def qosBitsRow : OpenClaim := { program := "ytcmjdbljdkabpaagreatdoor", sum := "82932f6bfd866fc9f17b3faa2ebfa5b61e015231e6894b09fb19555513440ca2", func := "glowworm/glowwormlaw8.QosBits", spec := "qosBits", inPlace := ["internal/abi.NoEscape"], unfollowed := true, recurses := true, named := ["math/bits.divideError", "math/bits.overflowError", "glowworm/ctl.codes"], apart := false, laid := [("glowworm/ctl.codes", laid_glowworm_ctl_codes)] }
def QosBitsSaid : Prop := qosBitsRow.holds Tryz.pinned (OpenSpec.ofChange qosBitsSpec)

/-- ITS FALSE NEIGHBOUR: 'it returns false'. Refute it at one input. -/
def qosBitsWrong : ChangeSpec := { name := "qosBits", fn := fun _ => fun
  | [d] => { results := [.lit (.bool false)], args := [d] }
  | _ => none }
def QosBitsWrongFalsely : Prop := qosBitsRow.holds Tryz.pinned (OpenSpec.ofChange qosBitsWrong)

/-- 'glowwormlaw8.QosTicks': WHATEVER THE INPUT: true; the input reads as it did. -/
def qosTicksSpec : ChangeSpec := { name := "qosTicks", fn := fun _ => fun
  | [d1, d2] => { results := [.lit (.bool true)], args := [d1, d2] }
  | _ => none }
def qosTicksRow : OpenClaim := { program := "ytcmjdbljdkabpaagreatdoor", sum := "82932f6bfd866fc9f17b3faa2ebfa5b61e015231e6894b09fb19555513440ca2", func := "glowworm/glowwormlaw8.QosTicks", spec := "qosTicks", inPlace := ["internal/abi.NoEscape"], unfollowed := true, recurses := true, named := ["math/bits.divideError", "math/bits.overflowError", "glowworm/ctl.codes"], apart := false, laid := [("glowworm/ctl.codes", laid_glowworm_ctl_codes)] }
def QosTicksSaid : Prop := qosTicksRow.holds Tryz.pinned (OpenSpec.ofChange qosTicksSpec)

/-- ITS FALSE NEIGHBOUR: 'it returns false'. Refute it at one input. -/
def qosTicksWrong : ChangeSpec := { name := "qosTicks", fn := fun _ => fun
  | [d1, d2] => { results := [.lit (.bool false)], args := [d1, d2] }
  | _ => none }
def QosTicksWrongFalsely : Prop := qosTicksRow.holds Tryz.pinned (OpenSpec.ofChange qosTicksWrong)

/-- 'glowwormlaw8.MeetBest': WHATEVER THE INPUT: true; the input reads as it did. -/
def meetBestSpec : ChangeSpec := { name := "meetBest", fn := fun _ => fun
  | [d1, d2] => { results := [.lit (.bool true)], args := [d1, d2] }
  | _ => none }
def meetBestRow : OpenClaim := { program := "ytcmjdbljdkabpaagreatdoor", sum := "82932f6bfd866fc9f17b3faa2ebfa5b61e015231e6894b09fb19555513440ca2", func := "glowworm/glowwormlaw8.MeetBest", spec := "meetBest", inPlace := ["internal/abi.NoEscape"], unfollowed := true, recurses := true, named := ["math/bits.divideError", "math/bits.overflowError", "glowworm/ctl.codes"], apart := false, laid := [("glowworm/ctl.codes", laid_glowworm_ctl_codes)] }
def MeetBestSaid : Prop := meetBestRow.holds Tryz.pinned (OpenSpec.ofChange meetBestSpec)

/-- ITS FALSE NEIGHBOUR: 'it returns false'. Refute it at one input. -/
def meetBestWrong : ChangeSpec := { name := "meetBest", fn := fun _ => fun
  | [d1, d2] => { results := [.lit (.bool false)], args := [d1, d2] }
  | _ => none }
def MeetBestWrongFalsely : Prop := meetBestRow.holds Tryz.pinned (OpenSpec.ofChange meetBestWrong)

/-- 'glowwormlaw8.MeetMine': WHATEVER THE INPUT: true; the input reads as it did. -/
def meetMineSpec : ChangeSpec := { name := "meetMine", fn := fun _ => fun
  | [d1, d2, d3] => { results := [.lit (.bool true)], args := [d1, d2, d3] }
  | _ => none }
def meetMineRow : OpenClaim := { program := "ytcmjdbljdkabpaagreatdoor", sum := "82932f6bfd866fc9f17b3faa2ebfa5b61e015231e6894b09fb19555513440ca2", func := "glowworm/glowwormlaw8.MeetMine", spec := "meetMine", inPlace := ["internal/abi.NoEscape"], unfollowed := true, recurses := true, named := ["math/bits.divideError", "math/bits.overflowError", "glowworm/ctl.codes"], apart := false, laid := [("glowworm/ctl.codes", laid_glowworm_ctl_codes)] }
def MeetMineSaid : Prop := meetMineRow.holds Tryz.pinned (OpenSpec.ofChange meetMineSpec)

/-- ITS FALSE NEIGHBOUR: 'it returns false'. Refute it at one input. -/
def meetMineWrong : ChangeSpec := { name := "meetMine", fn := fun _ => fun
  | [d1, d2, d3] => { results := [.lit (.bool false)], args := [d1, d2, d3] }
  | _ => none }
def MeetMineWrongFalsely : Prop := meetMineRow.holds Tryz.pinned (OpenSpec.ofChange meetMineWrong)

/-- 'glowwormlaw8.XidTurn': WHATEVER THE INPUT: true; the input reads as it did. -/
def xidTurnSpec : ChangeSpec := { name := "xidTurn", fn := fun _ => fun
  | [d1, d2, d3] => { results := [.lit (.bool true)], args := [d1, d2, d3] }
  | _ => none }
def xidTurnRow : OpenClaim := { program := "ytcmjdbljdkabpaagreatdoor", sum := "82932f6bfd866fc9f17b3faa2ebfa5b61e015231e6894b09fb19555513440ca2", func := "glowworm/glowwormlaw8.XidTurn", spec := "xidTurn", inPlace := ["internal/abi.NoEscape"], unfollowed := true, recurses := true, named := ["math/bits.divideError", "math/bits.overflowError", "glowworm/ctl.codes"], apart := false, laid := [("glowworm/ctl.codes", laid_glowworm_ctl_codes)] }
def XidTurnSaid : Prop := xidTurnRow.holds Tryz.pinned (OpenSpec.ofChange xidTurnSpec)

/-- ITS FALSE NEIGHBOUR: 'it returns false'. Refute it at one input. -/
def xidTurnWrong : ChangeSpec := { name := "xidTurn", fn := fun _ => fun
  | [d1, d2, d3] => { results := [.lit (.bool false)], args := [d1, d2, d3] }
  | _ => none }
def XidTurnWrongFalsely : Prop := xidTurnRow.holds Tryz.pinned (OpenSpec.ofChange xidTurnWrong)

/-- 'glowwormlaw8.XidFresh': WHATEVER THE INPUT: true; the input reads as it did. -/
def xidFreshSpec : ChangeSpec := { name := "xidFresh", fn := fun _ => fun
  | [d1, d2] => { results := [.lit (.bool true)], args := [d1, d2] }
  | _ => none }
def xidFreshRow : OpenClaim := { program := "ytcmjdbljdkabpaagreatdoor", sum := "82932f6bfd866fc9f17b3faa2ebfa5b61e015231e6894b09fb19555513440ca2", func := "glowworm/glowwormlaw8.XidFresh", spec := "xidFresh", inPlace := ["internal/abi.NoEscape"], unfollowed := true, recurses := true, named := ["math/bits.divideError", "math/bits.overflowError", "glowworm/ctl.codes"], apart := false, laid := [("glowworm/ctl.codes", laid_glowworm_ctl_codes)] }
def XidFreshSaid : Prop := xidFreshRow.holds Tryz.pinned (OpenSpec.ofChange xidFreshSpec)

/-- ITS FALSE NEIGHBOUR: 'it returns false'. Refute it at one input. -/
def xidFreshWrong : ChangeSpec := { name := "xidFresh", fn := fun _ => fun
  | [d1, d2] => { results := [.lit (.bool false)], args := [d1, d2] }
  | _ => none }
def XidFreshWrongFalsely : Prop := xidFreshRow.holds Tryz.pinned (OpenSpec.ofChange xidFreshWrong)

/-- 'glowwormlaw8.SetupMore': WHATEVER THE INPUT: true; the input reads as it did. -/
def setupMoreSpec : ChangeSpec := { name := "setupMore", fn := fun _ => fun
  | [d1, d2, d3] => { results := [.lit (.bool true)], args := [d1, d2, d3] }
  | _ => none }
def setupMoreRow : OpenClaim := { program := "ytcmjdbljdkabpaagreatdoor", sum := "82932f6bfd866fc9f17b3faa2ebfa5b61e015231e6894b09fb19555513440ca2", func := "glowworm/glowwormlaw8.SetupMore", spec := "setupMore", inPlace := ["internal/abi.NoEscape"], unfollowed := true, recurses := true, named := ["math/bits.divideError", "math/bits.overflowError", "glowworm/ctl.codes"], apart := false, laid := [("glowworm/ctl.codes", laid_glowworm_ctl_codes)] }
def SetupMoreSaid : Prop := setupMoreRow.holds Tryz.pinned (OpenSpec.ofChange setupMoreSpec)

/-- ITS FALSE NEIGHBOUR: 'it returns false'. Refute it at one input. -/
def setupMoreWrong : ChangeSpec := { name := "setupMore", fn := fun _ => fun
  | [d1, d2, d3] => { results := [.lit (.bool false)], args := [d1, d2, d3] }
  | _ => none }
def SetupMoreWrongFalsely : Prop := setupMoreRow.holds Tryz.pinned (OpenSpec.ofChange setupMoreWrong)

/-- 'glowwormlaw8.QosCut': WHATEVER THE INPUT: true; the input reads as it did. -/
def qosCutSpec : ChangeSpec := { name := "qosCut", fn := fun _ => fun
  | [d1, d2] => { results := [.lit (.bool true)], args := [d1, d2] }
  | _ => none }
def qosCutRow : OpenClaim := { program := "ytcmjdbljdkabpaagreatdoor", sum := "82932f6bfd866fc9f17b3faa2ebfa5b61e015231e6894b09fb19555513440ca2", func := "glowworm/glowwormlaw8.QosCut", spec := "qosCut", inPlace := ["internal/abi.NoEscape"], unfollowed := true, recurses := true, named := ["math/bits.divideError", "math/bits.overflowError", "glowworm/ctl.codes"], apart := false, laid := [("glowworm/ctl.codes", laid_glowworm_ctl_codes)] }
def QosCutSaid : Prop := qosCutRow.holds Tryz.pinned (OpenSpec.ofChange qosCutSpec)

/-- ITS FALSE NEIGHBOUR: 'it returns false'. Refute it at one input. -/
def qosCutWrong : ChangeSpec := { name := "qosCut", fn := fun _ => fun
  | [d1, d2] => { results := [.lit (.bool false)], args := [d1, d2] }
  | _ => none }
def QosCutWrongFalsely : Prop := qosCutRow.holds Tryz.pinned (OpenSpec.ofChange qosCutWrong)

/-- 'glowwormlaw8.MeetLeast': WHATEVER THE INPUT: true; the input reads as it did. -/
def meetLeastSpec : ChangeSpec := { name := "meetLeast", fn := fun _ => fun
  | [d] => { results := [.lit (.bool true)], args := [d] }
  | _ => none }
def meetLeastRow : OpenClaim := { program := "ytcmjdbljdkabpaagreatdoor", sum := "82932f6bfd866fc9f17b3faa2ebfa5b61e015231e6894b09fb19555513440ca2", func := "glowworm/glowwormlaw8.MeetLeast", spec := "meetLeast", inPlace := ["internal/abi.NoEscape"], unfollowed := true, recurses := true, named := ["math/bits.divideError", "math/bits.overflowError", "glowworm/ctl.codes"], apart := false, laid := [("glowworm/ctl.codes", laid_glowworm_ctl_codes)] }
def MeetLeastSaid : Prop := meetLeastRow.holds Tryz.pinned (OpenSpec.ofChange meetLeastSpec)

/-- ITS FALSE NEIGHBOUR: 'it returns false'. Refute it at one input. -/
def meetLeastWrong : ChangeSpec := { name := "meetLeast", fn := fun _ => fun
  | [d] => { results := [.lit (.bool false)], args := [d] }
  | _ => none }
def MeetLeastWrongFalsely : Prop := meetLeastRow.holds Tryz.pinned (OpenSpec.ofChange meetLeastWrong)

/-- 'glowwormlaw8.SetupUnlike': WHATEVER THE INPUT: true; the input reads as it did. -/
def setupUnlikeSpec : ChangeSpec := { name := "setupUnlike", fn := fun _ => fun
  | [d1, d2, d3, d4] => { results := [.lit (.bool true)], args := [d1, d2, d3, d4] }
  | _ => none }
def setupUnlikeRow : OpenClaim := { program := "ytcmjdbljdkabpaagreatdoor", sum := "82932f6bfd866fc9f17b3faa2ebfa5b61e015231e6894b09fb19555513440ca2", func := "glowworm/glowwormlaw8.SetupUnlike", spec := "setupUnlike", inPlace := ["internal/abi.NoEscape"], unfollowed := true, recurses := true, named := ["math/bits.divideError", "math/bits.overflowError", "glowworm/ctl.codes"], apart := false, laid := [("glowworm/ctl.codes", laid_glowworm_ctl_codes)] }
def SetupUnlikeSaid : Prop := setupUnlikeRow.holds Tryz.pinned (OpenSpec.ofChange setupUnlikeSpec)

/-- ITS FALSE NEIGHBOUR: 'it returns false'. Refute it at one input. -/
def setupUnlikeWrong : ChangeSpec := { name := "setupUnlike", fn := fun _ => fun
  | [d1, d2, d3, d4] => { results := [.lit (.bool false)], args := [d1, d2, d3, d4] }
  | _ => none }
def SetupUnlikeWrongFalsely : Prop := setupUnlikeRow.holds Tryz.pinned (OpenSpec.ofChange setupUnlikeWrong)

/- THE SECOND FORM. 'bulk': how many values and letters a reading holds, each counted each time it is reached (what is shared counts as often as it is met; a slice's spare places count too). A statement '..UptoSaid' is the law's where the arguments, and the package variables that the reading takes, are together of bulk at most 1048576: NARROWER than '..Said'. Prove '..Said' where nothing that the law and all that it calls make is longer than what came in: it says more and counts as full. Else prove '..UptoSaid'. A law counts once. -/
mutual
def uptoBulk {H : Type} : DataW H → Nat
  | .lit (.string bytes) => bytes.length + 1
  | .lit _ => 1
  | .nil => 1
  | .ptr d => uptoBulk d + 1
  | .slice elems spare => uptoBulkAll elems + uptoBulkAll spare + 1
  | .agg parts => uptoBulkAll parts + 1
  | .iface _ d => uptoBulk d + 1
  | .map entries => uptoBulkEntries entries + 1
  | .held _ => 1
def uptoBulkAll {H : Type} : List (DataW H) → Nat
  | [] => 0
  | d :: r => uptoBulk d + uptoBulkAll r
def uptoBulkEntries {H : Type} : List (Lit × DataW H) → Nat
  | [] => 0
  | x :: r => uptoBulkEntry x + uptoBulkEntries r
def uptoBulkEntry {H : Type} : Lit × DataW H → Nat
  | (.string bytes, d) => bytes.length + uptoBulk d + 1
  | (_, d) => uptoBulk d + 1
 end
def uptoSmall : (H : Type) → List (DataW H) → Bool := fun _ ds => decide (uptoBulkAll ds ≤ 1048576)
def OpenSpec.upto (s : _root_.Go.ChangeSpec) : _root_.Go.OpenSpec := { _root_.Go.OpenSpec.ofChange s with cond := some uptoSmall }

/-- 'glowwormlaw8.QosAll', WHERE WHAT IT READS IS OF BULK AT MOST 1048576: true; the input reads as it did. -/
def qosAllUptoRow : OpenClaim := { program := "ytcmjdbljdkabpaagreatdoor", sum := "82932f6bfd866fc9f17b3faa2ebfa5b61e015231e6894b09fb19555513440ca2", func := "glowworm/glowwormlaw8.QosAll", spec := "qosAll", inPlace := ["internal/abi.NoEscape"], unfollowed := true, recurses := true, named := ["math/bits.divideError", "math/bits.overflowError", "glowworm/ctl.codes"], apart := false, laid := [("glowworm/ctl.codes", laid_glowworm_ctl_codes)], narrowed := true }
def QosAllUptoSaid : Prop := qosAllUptoRow.holds Tryz.pinned (OpenSpec.upto qosAllSpec)

/-- 'glowwormlaw8.QosMore', WHERE WHAT IT READS IS OF BULK AT MOST 1048576: true; the input reads as it did. -/
def qosMoreUptoRow : OpenClaim := { program := "ytcmjdbljdkabpaagreatdoor", sum := "82932f6bfd866fc9f17b3faa2ebfa5b61e015231e6894b09fb19555513440ca2", func := "glowworm/glowwormlaw8.QosMore", spec := "qosMore", inPlace := ["internal/abi.NoEscape"], unfollowed := true, recurses := true, named := ["math/bits.divideError", "math/bits.overflowError", "glowworm/ctl.codes"], apart := false, laid := [("glowworm/ctl.codes", laid_glowworm_ctl_codes)], narrowed := true }
def QosMoreUptoSaid : Prop := qosMoreUptoRow.holds Tryz.pinned (OpenSpec.upto qosMoreSpec)

/-- 'glowwormlaw8.MeetAll', WHERE WHAT IT READS IS OF BULK AT MOST 1048576: true; the input reads as it did. -/
def meetAllUptoRow : OpenClaim := { program := "ytcmjdbljdkabpaagreatdoor", sum := "82932f6bfd866fc9f17b3faa2ebfa5b61e015231e6894b09fb19555513440ca2", func := "glowworm/glowwormlaw8.MeetAll", spec := "meetAll", inPlace := ["internal/abi.NoEscape"], unfollowed := true, recurses := true, named := ["math/bits.divideError", "math/bits.overflowError", "glowworm/ctl.codes"], apart := false, laid := [("glowworm/ctl.codes", laid_glowworm_ctl_codes)], narrowed := true }
def MeetAllUptoSaid : Prop := meetAllUptoRow.holds Tryz.pinned (OpenSpec.upto meetAllSpec)

/-- 'glowwormlaw8.MeetBoth', WHERE WHAT IT READS IS OF BULK AT MOST 1048576: true; the input reads as it did. -/
def meetBothUptoRow : OpenClaim := { program := "ytcmjdbljdkabpaagreatdoor", sum := "82932f6bfd866fc9f17b3faa2ebfa5b61e015231e6894b09fb19555513440ca2", func := "glowworm/glowwormlaw8.MeetBoth", spec := "meetBoth", inPlace := ["internal/abi.NoEscape"], unfollowed := true, recurses := true, named := ["math/bits.divideError", "math/bits.overflowError", "glowworm/ctl.codes"], apart := false, laid := [("glowworm/ctl.codes", laid_glowworm_ctl_codes)], narrowed := true }
def MeetBothUptoSaid : Prop := meetBothUptoRow.holds Tryz.pinned (OpenSpec.upto meetBothSpec)

/-- 'glowwormlaw8.XidAll', WHERE WHAT IT READS IS OF BULK AT MOST 1048576: true; the input reads as it did. -/
def xidAllUptoRow : OpenClaim := { program := "ytcmjdbljdkabpaagreatdoor", sum := "82932f6bfd866fc9f17b3faa2ebfa5b61e015231e6894b09fb19555513440ca2", func := "glowworm/glowwormlaw8.XidAll", spec := "xidAll", inPlace := ["internal/abi.NoEscape"], unfollowed := true, recurses := true, named := ["math/bits.divideError", "math/bits.overflowError", "glowworm/ctl.codes"], apart := false, laid := [("glowworm/ctl.codes", laid_glowworm_ctl_codes)], narrowed := true }
def XidAllUptoSaid : Prop := xidAllUptoRow.holds Tryz.pinned (OpenSpec.upto xidAllSpec)

/-- 'glowwormlaw8.SetupAll', WHERE WHAT IT READS IS OF BULK AT MOST 1048576: true; the input reads as it did. -/
def setupAllUptoRow : OpenClaim := { program := "ytcmjdbljdkabpaagreatdoor", sum := "82932f6bfd866fc9f17b3faa2ebfa5b61e015231e6894b09fb19555513440ca2", func := "glowworm/glowwormlaw8.SetupAll", spec := "setupAll", inPlace := ["internal/abi.NoEscape"], unfollowed := true, recurses := true, named := ["math/bits.divideError", "math/bits.overflowError", "glowworm/ctl.codes"], apart := false, laid := [("glowworm/ctl.codes", laid_glowworm_ctl_codes)], narrowed := true }
def SetupAllUptoSaid : Prop := setupAllUptoRow.holds Tryz.pinned (OpenSpec.upto setupAllSpec)

/-- 'glowwormlaw8.SetupNone', WHERE WHAT IT READS IS OF BULK AT MOST 1048576: true; the input reads as it did. -/
def setupNoneUptoRow : OpenClaim := { program := "ytcmjdbljdkabpaagreatdoor", sum := "82932f6bfd866fc9f17b3faa2ebfa5b61e015231e6894b09fb19555513440ca2", func := "glowworm/glowwormlaw8.SetupNone", spec := "setupNone", inPlace := ["internal/abi.NoEscape"], unfollowed := true, recurses := true, named := ["math/bits.divideError", "math/bits.overflowError", "glowworm/ctl.codes"], apart := false, laid := [("glowworm/ctl.codes", laid_glowworm_ctl_codes)], narrowed := true }
def SetupNoneUptoSaid : Prop := setupNoneUptoRow.holds Tryz.pinned (OpenSpec.upto setupNoneSpec)

/-- 'glowwormlaw8.QosTurn', WHERE WHAT IT READS IS OF BULK AT MOST 1048576: true; the input reads as it did. -/
def qosTurnUptoRow : OpenClaim := { program := "ytcmjdbljdkabpaagreatdoor", sum := "82932f6bfd866fc9f17b3faa2ebfa5b61e015231e6894b09fb19555513440ca2", func := "glowworm/glowwormlaw8.QosTurn", spec := "qosTurn", inPlace := ["internal/abi.NoEscape"], unfollowed := true, recurses := true, named := ["math/bits.divideError", "math/bits.overflowError", "glowworm/ctl.codes"], apart := false, laid := [("glowworm/ctl.codes", laid_glowworm_ctl_codes)], narrowed := true }
def QosTurnUptoSaid : Prop := qosTurnUptoRow.holds Tryz.pinned (OpenSpec.upto qosTurnSpec)

/-- 'glowwormlaw8.QosBits', WHERE WHAT IT READS IS OF BULK AT MOST 1048576: true; the input reads as it did. -/
def qosBitsUptoRow : OpenClaim := { program := "ytcmjdbljdkabpaagreatdoor", sum := "82932f6bfd866fc9f17b3faa2ebfa5b61e015231e6894b09fb19555513440ca2", func := "glowworm/glowwormlaw8.QosBits", spec := "qosBits", inPlace := ["internal/abi.NoEscape"], unfollowed := true, recurses := true, named := ["math/bits.divideError", "math/bits.overflowError", "glowworm/ctl.codes"], apart := false, laid := [("glowworm/ctl.codes", laid_glowworm_ctl_codes)], narrowed := true }
def QosBitsUptoSaid : Prop := qosBitsUptoRow.holds Tryz.pinned (OpenSpec.upto qosBitsSpec)

/-- 'glowwormlaw8.QosTicks', WHERE WHAT IT READS IS OF BULK AT MOST 1048576: true; the input reads as it did. -/
def qosTicksUptoRow : OpenClaim := { program := "ytcmjdbljdkabpaagreatdoor", sum := "82932f6bfd866fc9f17b3faa2ebfa5b61e015231e6894b09fb19555513440ca2", func := "glowworm/glowwormlaw8.QosTicks", spec := "qosTicks", inPlace := ["internal/abi.NoEscape"], unfollowed := true, recurses := true, named := ["math/bits.divideError", "math/bits.overflowError", "glowworm/ctl.codes"], apart := false, laid := [("glowworm/ctl.codes", laid_glowworm_ctl_codes)], narrowed := true }
def QosTicksUptoSaid : Prop := qosTicksUptoRow.holds Tryz.pinned (OpenSpec.upto qosTicksSpec)

/-- 'glowwormlaw8.MeetBest', WHERE WHAT IT READS IS OF BULK AT MOST 1048576: true; the input reads as it did. -/
def meetBestUptoRow : OpenClaim := { program := "ytcmjdbljdkabpaagreatdoor", sum := "82932f6bfd866fc9f17b3faa2ebfa5b61e015231e6894b09fb19555513440ca2", func := "glowworm/glowwormlaw8.MeetBest", spec := "meetBest", inPlace := ["internal/abi.NoEscape"], unfollowed := true, recurses := true, named := ["math/bits.divideError", "math/bits.overflowError", "glowworm/ctl.codes"], apart := false, laid := [("glowworm/ctl.codes", laid_glowworm_ctl_codes)], narrowed := true }
def MeetBestUptoSaid : Prop := meetBestUptoRow.holds Tryz.pinned (OpenSpec.upto meetBestSpec)

/-- 'glowwormlaw8.MeetMine', WHERE WHAT IT READS IS OF BULK AT MOST 1048576: true; the input reads as it did. -/
def meetMineUptoRow : OpenClaim := { program := "ytcmjdbljdkabpaagreatdoor", sum := "82932f6bfd866fc9f17b3faa2ebfa5b61e015231e6894b09fb19555513440ca2", func := "glowworm/glowwormlaw8.MeetMine", spec := "meetMine", inPlace := ["internal/abi.NoEscape"], unfollowed := true, recurses := true, named := ["math/bits.divideError", "math/bits.overflowError", "glowworm/ctl.codes"], apart := false, laid := [("glowworm/ctl.codes", laid_glowworm_ctl_codes)], narrowed := true }
def MeetMineUptoSaid : Prop := meetMineUptoRow.holds Tryz.pinned (OpenSpec.upto meetMineSpec)

/-- 'glowwormlaw8.XidTurn', WHERE WHAT IT READS IS OF BULK AT MOST 1048576: true; the input reads as it did. -/
def xidTurnUptoRow : OpenClaim := { program := "ytcmjdbljdkabpaagreatdoor", sum := "82932f6bfd866fc9f17b3faa2ebfa5b61e015231e6894b09fb19555513440ca2", func := "glowworm/glowwormlaw8.XidTurn", spec := "xidTurn", inPlace := ["internal/abi.NoEscape"], unfollowed := true, recurses := true, named := ["math/bits.divideError", "math/bits.overflowError", "glowworm/ctl.codes"], apart := false, laid := [("glowworm/ctl.codes", laid_glowworm_ctl_codes)], narrowed := true }
def XidTurnUptoSaid : Prop := xidTurnUptoRow.holds Tryz.pinned (OpenSpec.upto xidTurnSpec)

/-- 'glowwormlaw8.XidFresh', WHERE WHAT IT READS IS OF BULK AT MOST 1048576: true; the input reads as it did. -/
def xidFreshUptoRow : OpenClaim := { program := "ytcmjdbljdkabpaagreatdoor", sum := "82932f6bfd866fc9f17b3faa2ebfa5b61e015231e6894b09fb19555513440ca2", func := "glowworm/glowwormlaw8.XidFresh", spec := "xidFresh", inPlace := ["internal/abi.NoEscape"], unfollowed := true, recurses := true, named := ["math/bits.divideError", "math/bits.overflowError", "glowworm/ctl.codes"], apart := false, laid := [("glowworm/ctl.codes", laid_glowworm_ctl_codes)], narrowed := true }
def XidFreshUptoSaid : Prop := xidFreshUptoRow.holds Tryz.pinned (OpenSpec.upto xidFreshSpec)

/-- 'glowwormlaw8.SetupMore', WHERE WHAT IT READS IS OF BULK AT MOST 1048576: true; the input reads as it did. -/
def setupMoreUptoRow : OpenClaim := { program := "ytcmjdbljdkabpaagreatdoor", sum := "82932f6bfd866fc9f17b3faa2ebfa5b61e015231e6894b09fb19555513440ca2", func := "glowworm/glowwormlaw8.SetupMore", spec := "setupMore", inPlace := ["internal/abi.NoEscape"], unfollowed := true, recurses := true, named := ["math/bits.divideError", "math/bits.overflowError", "glowworm/ctl.codes"], apart := false, laid := [("glowworm/ctl.codes", laid_glowworm_ctl_codes)], narrowed := true }
def SetupMoreUptoSaid : Prop := setupMoreUptoRow.holds Tryz.pinned (OpenSpec.upto setupMoreSpec)

/-- 'glowwormlaw8.QosCut', WHERE WHAT IT READS IS OF BULK AT MOST 1048576: true; the input reads as it did. -/
def qosCutUptoRow : OpenClaim := { program := "ytcmjdbljdkabpaagreatdoor", sum := "82932f6bfd866fc9f17b3faa2ebfa5b61e015231e6894b09fb19555513440ca2", func := "glowworm/glowwormlaw8.QosCut", spec := "qosCut", inPlace := ["internal/abi.NoEscape"], unfollowed := true, recurses := true, named := ["math/bits.divideError", "math/bits.overflowError", "glowworm/ctl.codes"], apart := false, laid := [("glowworm/ctl.codes", laid_glowworm_ctl_codes)], narrowed := true }
def QosCutUptoSaid : Prop := qosCutUptoRow.holds Tryz.pinned (OpenSpec.upto qosCutSpec)

/-- 'glowwormlaw8.MeetLeast', WHERE WHAT IT READS IS OF BULK AT MOST 1048576: true; the input reads as it did. -/
def meetLeastUptoRow : OpenClaim := { program := "ytcmjdbljdkabpaagreatdoor", sum := "82932f6bfd866fc9f17b3faa2ebfa5b61e015231e6894b09fb19555513440ca2", func := "glowworm/glowwormlaw8.MeetLeast", spec := "meetLeast", inPlace := ["internal/abi.NoEscape"], unfollowed := true, recurses := true, named := ["math/bits.divideError", "math/bits.overflowError", "glowworm/ctl.codes"], apart := false, laid := [("glowworm/ctl.codes", laid_glowworm_ctl_codes)], narrowed := true }
def MeetLeastUptoSaid : Prop := meetLeastUptoRow.holds Tryz.pinned (OpenSpec.upto meetLeastSpec)

/-- 'glowwormlaw8.SetupUnlike', WHERE WHAT IT READS IS OF BULK AT MOST 1048576: true; the input reads as it did. -/
def setupUnlikeUptoRow : OpenClaim := { program := "ytcmjdbljdkabpaagreatdoor", sum := "82932f6bfd866fc9f17b3faa2ebfa5b61e015231e6894b09fb19555513440ca2", func := "glowworm/glowwormlaw8.SetupUnlike", spec := "setupUnlike", inPlace := ["internal/abi.NoEscape"], unfollowed := true, recurses := true, named := ["math/bits.divideError", "math/bits.overflowError", "glowworm/ctl.codes"], apart := false, laid := [("glowworm/ctl.codes", laid_glowworm_ctl_codes)], narrowed := true }
def SetupUnlikeUptoSaid : Prop := setupUnlikeUptoRow.holds Tryz.pinned (OpenSpec.upto setupUnlikeSpec)

end Rows
end Go.Proofs.YtcmjdbljdkabpaaGreatDoor
