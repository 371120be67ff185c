/- Of layer 4: Ref4, Ref4b, Ref4c, Ref4d, Nick7, Nick8, Begun4n. -/
import Derived.Test.YtocjhpaackccpaaGreatDoorM4E
import Derived.Test.YtocjhpaackccpaaGreatDoorM4D

set_option linter.all false

namespace Go.Proofs.YtocjhpaackccpaaGreatDoor
open Go.RowKit M

end Go.Proofs.YtocjhpaackccpaaGreatDoor

/- The walk of the reference's rune1: two and three bytes. -/
namespace Go.Proofs.YtocjhpaackccpaaGreatDoor
open Go.RowKit M

end Go.Proofs.YtocjhpaackccpaaGreatDoor

/- The walk of the reference's rune1: four bytes. -/
namespace Go.Proofs.YtocjhpaackccpaaGreatDoor
open Go.RowKit M

end Go.Proofs.YtocjhpaackccpaaGreatDoor

/- The walk of the reference's rune1. -/
namespace Go.Proofs.YtocjhpaackccpaaGreatDoor
open Go.RowKit M

end Go.Proofs.YtocjhpaackccpaaGreatDoor

/- The walks of the reference's Len and MayNick. -/
namespace Go.Proofs.YtocjhpaackccpaaGreatDoor
open Go.RowKit M

end Go.Proofs.YtocjhpaackccpaaGreatDoor

/- The walks of the reference's Cut and PlainNick. -/
namespace Go.Proofs.YtocjhpaackccpaaGreatDoor
open Go.RowKit M

end Go.Proofs.YtocjhpaackccpaaGreatDoor

/- What begun of layers 4 to 7 asks of package nick. -/
namespace Go.Proofs.YtocjhpaackccpaaGreatDoor
open Go.RowKit M

theorem ret_bool {a b : Bool} {P : Prop} {e : Ending} (h : e = .returned (.bool a) ∧ P) (hab : a = b) : e = .returned (.bool b) ∧ P := by rw [← hab]; exact h
theorem nb1 (w : World) : Calls Tryz.prog 85 #[.string ⟨#[104, 195, 169]⟩] w fun e w' => e = .returned (.bool true) ∧ Below w.heap.size w w' :=
  (May_any ⟨#[104, 195, 169]⟩ w).mono fun _ _ h => ret_bool h (by decide +kernel)
theorem nb2 (w : World) : Calls Tryz.prog 86 #[.string ⟨#[104, 195, 169]⟩] w fun e w' => e = .returned (.int .i64 2) ∧ Below w.heap.size w w' := by
  have h := Len_any ⟨#[104, 195, 169]⟩ w (by decide)
  rw [show (rs (bl ⟨#[104, 195, 169]⟩)).length = 2 by decide +kernel] at h
  exact h
theorem nb3 (w : World) : Calls Tryz.prog 87 #[.string ⟨#[104, 195, 169]⟩] w fun e w' => e = .returned (.string ⟨#[104, 63]⟩) ∧ Below w.heap.size w w' := by
  have h := Plain_any ⟨#[104, 195, 169]⟩ w (by decide)
  rw [show plainL (bl ⟨#[104, 195, 169]⟩) = [104, 63] by decide +kernel] at h
  exact h
theorem nb4 (w : World) : Calls Tryz.prog 88 #[.string ⟨#[104, 195, 169]⟩, .int .i64 2] w fun e w' => e = .returned (.string ⟨#[104]⟩) ∧ Below w.heap.size w w' := by
  have h := Cut_any ⟨#[104, 195, 169]⟩ 2 w (by decide) (by decide)
  rw [show (ByteArray.extract ⟨#[104, 195, 169]⟩ 0 (cutL (bl ⟨#[104, 195, 169]⟩) 2)) = ⟨#[104]⟩ by decide +kernel] at h
  exact h
theorem nb5 (w : World) : Calls Tryz.prog 89 #[.int .i32 55] w fun e w' => e = .returned (.int .i64 2) ∧ w = w' := by
  have h := Kind_any 55 w
  rw [show kind 55 = 2 by decide +kernel] at h
  exact h
end Go.Proofs.YtocjhpaackccpaaGreatDoor
