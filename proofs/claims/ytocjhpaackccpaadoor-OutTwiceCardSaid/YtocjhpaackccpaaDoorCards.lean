/-
  DERIVED. GIVEN WITH THE SEED: THE CARDS: each row of YtocjhpaackccpaaDoorRows.lean that lists a variable, with what it lists TIED to the program's text (the seventh form; the later family's looks); each row that meets fmt, with fmt's text TOLD by the authors' own Lean function (tested against real Go, not proved from fmt's source: count such statements apart). THE CARD IS WHAT COUNTS. Prove the row's statement (the work); the ties are given (YtocjhpaackccpaaDoorTie.lean); close each card by the builder's one call (the guide's Derived/Test/ToyasCard.lean, 'card_holds'). Laid BY PROGRAM, IN A SANDBOX (cutbox-door.mjs). By AI agents, Wed Nov 11 2026. No macro, syntax, notation, axiom, sorry.
-/
import Derived.Test.YtocjhpaackccpaaDoorRows
import GoSem.ClaimSeven
namespace Go.Proofs.YtocjhpaackccpaaDoor
namespace Rows

/-- THE TIED CARD OF 'glowwormlaw12.ModRound'. -/
def modRoundCard : Claim7 := { stood := { row := modRoundRow, standIns := [], harness := (true, "067b4c8a4d32a41d1eee4c88fbea97b11d7c32871069c699deaadf0c2718f814"), looks := true }, kinds := [], alts := [], laidByText := true, laidKinds := [.data], laidTests := true, laidLooks := .later }
def ModRoundCardSaid : Prop := Claim7.holds Tryd.pinned (.plain (OpenSpec.ofChange modRoundSpec)) modRoundCard

/-- THE TIED CARD OF 'glowwormlaw12.OutFull'. -/
def outFullCard : Claim7 := { stood := { row := outFullRow, standIns := [], harness := (true, "067b4c8a4d32a41d1eee4c88fbea97b11d7c32871069c699deaadf0c2718f814"), looks := true }, kinds := [], alts := [], laidByText := true, laidKinds := [.data], laidTests := true, laidLooks := .later }
def OutFullCardSaid : Prop := Claim7.holds Tryd.pinned (.plain (OpenSpec.ofChange outFullSpec)) outFullCard

/-- THE TIED CARD OF 'glowwormlaw12.OutForeign'. -/
def outForeignCard : Claim7 := { stood := { row := outForeignRow, standIns := [], harness := (true, "067b4c8a4d32a41d1eee4c88fbea97b11d7c32871069c699deaadf0c2718f814"), looks := true }, kinds := [], alts := [], laidByText := true, laidKinds := [.data], laidTests := true, laidLooks := .later }
def OutForeignCardSaid : Prop := Claim7.holds Tryd.pinned (.plain (OpenSpec.ofChange outForeignSpec)) outForeignCard

/-- THE TIED CARD OF 'glowwormlaw12.OutTwice'. -/
def outTwiceCard : Claim7 := { stood := { row := outTwiceRow, standIns := [], harness := (true, "067b4c8a4d32a41d1eee4c88fbea97b11d7c32871069c699deaadf0c2718f814"), looks := true }, kinds := [], alts := [], laidByText := true, laidKinds := [.data], laidTests := true, laidLooks := .later }
def OutTwiceCardSaid : Prop := Claim7.holds Tryd.pinned (.plain (OpenSpec.ofChange outTwiceSpec)) outTwiceCard

/-- THE SECOND FORM's CARD OF 'glowwormlaw12.ModRound'. -/
def modRoundUptoCard : Claim7 := { stood := { row := modRoundUptoRow, standIns := [], harness := (true, "067b4c8a4d32a41d1eee4c88fbea97b11d7c32871069c699deaadf0c2718f814"), looks := true }, kinds := [], alts := [], laidByText := true, laidKinds := [.data], laidTests := true, laidLooks := .later }
def ModRoundUptoCardSaid : Prop := Claim7.holds Tryd.pinned (.plain (OpenSpec.upto modRoundSpec)) modRoundUptoCard

/-- THE SECOND FORM's CARD OF 'glowwormlaw12.OutFull'. -/
def outFullUptoCard : Claim7 := { stood := { row := outFullUptoRow, standIns := [], harness := (true, "067b4c8a4d32a41d1eee4c88fbea97b11d7c32871069c699deaadf0c2718f814"), looks := true }, kinds := [], alts := [], laidByText := true, laidKinds := [.data], laidTests := true, laidLooks := .later }
def OutFullUptoCardSaid : Prop := Claim7.holds Tryd.pinned (.plain (OpenSpec.upto outFullSpec)) outFullUptoCard

/-- THE SECOND FORM's CARD OF 'glowwormlaw12.OutForeign'. -/
def outForeignUptoCard : Claim7 := { stood := { row := outForeignUptoRow, standIns := [], harness := (true, "067b4c8a4d32a41d1eee4c88fbea97b11d7c32871069c699deaadf0c2718f814"), looks := true }, kinds := [], alts := [], laidByText := true, laidKinds := [.data], laidTests := true, laidLooks := .later }
def OutForeignUptoCardSaid : Prop := Claim7.holds Tryd.pinned (.plain (OpenSpec.upto outForeignSpec)) outForeignUptoCard

/-- THE SECOND FORM's CARD OF 'glowwormlaw12.OutTwice'. -/
def outTwiceUptoCard : Claim7 := { stood := { row := outTwiceUptoRow, standIns := [], harness := (true, "067b4c8a4d32a41d1eee4c88fbea97b11d7c32871069c699deaadf0c2718f814"), looks := true }, kinds := [], alts := [], laidByText := true, laidKinds := [.data], laidTests := true, laidLooks := .later }
def OutTwiceUptoCardSaid : Prop := Claim7.holds Tryd.pinned (.plain (OpenSpec.upto outTwiceSpec)) outTwiceUptoCard
end Rows
end Go.Proofs.YtocjhpaackccpaaDoor
