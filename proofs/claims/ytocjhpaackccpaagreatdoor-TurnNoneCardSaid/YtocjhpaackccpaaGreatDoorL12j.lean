/- The law TurnNone. -/
import Derived.Test.YtocjhpaackccpaaGreatDoorN12D

set_option linter.all false

namespace Go.Proofs.YtocjhpaackccpaaGreatDoor
open Go.RowKit M

set_option maxRecDepth 100000 in
set_option maxHeartbeats 8000000 in
theorem TurnNone_law (w : World) (hC : Codes w) : Calls Tryz.prog 7 #[] w fun e w' => e = .returned (.bool true) ∧ Below w.heap.size w w' := by
  have HC := Lib.hid hC
  have h1 := fun w => MAdd_any 0 0 w (by decide) (by decide)
  have h2 := fun w => MIn_any 0 0 0 w (by decide) (by decide) (by decide)
  rw [show m8 (0 + 0) = 0 by rfl] at h1
  rw [show inM 0 0 0 = false by decide] at h2
  have H1 := Lib.hid h1
  have H2 := Lib.hid h2
  clear hC h1 h2
  go_enter Tryz.func7, Tryz.ntmps7
  go_wp2_with (first
    | (go_at_call 47; ((with_reducible refine (OBurst_nil _).mono ?_); rintro e w1 ⟨A, c, B, d, rfl, hb⟩; have HB1 := Lib.hid hb; clear hb))
    | (go_at_call 48; ((with_reducible refine (OAck_nil 0 _).mono ?_); rintro e w2 ⟨rfl, hb⟩; have HB2 := Lib.hid (bel_trans HB1.out hb); clear hb))
    | (go_at_call 24; ((with_reducible refine (ITake_nil 0 ⟨#[120]⟩ _).mono ?_); rintro e w3 ⟨rfl, hb⟩; have HB3 := Lib.hid (bel_trans HB2.out hb); clear hb))
    | (go_at_call 37; ((with_reducible refine (TnTake_nil ⟨0, 0, false, 1, 0, 0, 0, false, ⟨#[]⟩⟩ _).mono ?_); rintro e w4 ⟨rfl, hb⟩; have HB4 := Lib.hid (bel_trans HB3.out hb); clear hb))
    | (go_at_call 41; ((with_reducible refine (TnSwap_nil _).mono ?_); rintro e w5 ⟨rfl, hb⟩; have HB5 := Lib.hid (bel_trans HB4.out hb); clear hb))
    | (go_at_call 17; ((with_reducible refine (begun12_any _ (HC.out.below HB5.out)).mono ?_); rintro e w6 ⟨rfl, hb⟩; have HB6 := Lib.hid (bel_trans HB5.out hb); clear hb))
    | (go_at_call 49; ((with_reducible refine (OPut_nil ⟨#[120]⟩ _).mono ?_); rintro e w7 ⟨rfl, hb⟩; have HB7 := Lib.hid (bel_trans HB6.out hb); clear hb))
    | (go_at_call 50; ((with_reducible refine (OLen_nil _).mono ?_); rintro e w8 ⟨rfl, hb⟩; have HB8 := Lib.hid (bel_trans HB7.out hb); clear hb))
    | (go_at_call 51; ((with_reducible refine (OFirst_nil _).mono ?_); rintro e w9 ⟨rfl, hb⟩; have HB9 := Lib.hid (bel_trans HB8.out hb); clear hb))
    | (go_at_call 52; ((with_reducible refine (OWin_nil _).mono ?_); rintro e w10 ⟨rfl, hb⟩; have HB10 := Lib.hid (bel_trans HB9.out hb); clear hb))
    | (go_at_call 26; ((with_reducible refine (INext_nil _).mono ?_); rintro e w11 ⟨rfl, hb⟩; have HB11 := Lib.hid (bel_trans HB10.out hb); clear hb))
    | (go_at_call 27; ((with_reducible refine (IOdd_nil _).mono ?_); rintro e w12 ⟨rfl, hb⟩; have HB12 := Lib.hid (bel_trans HB11.out hb); clear hb))
    | (go_at_call 31; ((with_reducible refine (TnPut_nil ⟨#[120]⟩ _).mono ?_); rintro e w13 ⟨rfl, hb⟩; have HB13 := Lib.hid (bel_trans HB12.out hb); clear hb))
    | (go_at_call 43; ((with_reducible refine (TnMine_nil _).mono ?_); rintro e w14 ⟨rfl, hb⟩; have HB14 := Lib.hid (bel_trans HB13.out hb); clear hb))
    | (go_at_call 34; ((with_reducible refine (TnGo_nil _).mono ?_); rintro e w15 ⟨A2, c2, rfl, hb⟩; have HB15 := Lib.hid (bel_trans HB14.out hb); clear hb))
    | (go_at_call 39; ((with_reducible refine (TnLate_nil _).mono ?_); rintro e w16 ⟨rfl, hb⟩; have HB16 := Lib.hid (bel_trans HB15.out hb); clear hb))
    | (go_at_call 44; ((with_reducible refine (TnRole_nil _).mono ?_); rintro e w17 ⟨rfl, hb⟩; have HB17 := Lib.hid (bel_trans HB16.out hb); clear hb))
    | (go_at_call 45; ((with_reducible refine (TnLeft_nil _).mono ?_); rintro e w18 ⟨rfl, hb⟩; have HB18 := Lib.hid (bel_trans HB17.out hb); clear hb))
    | (go_at_call 18; ((with_reducible refine (H1.out _).mono ?_); rintro e w19 ⟨rfl, hb⟩; have HB19 := Lib.hid (bel_trans HB18.out hb); clear hb))
    | (go_at_call 21; ((with_reducible refine (H2.out _).mono ?_); rintro e w20 ⟨rfl, hb⟩; have HB20 := Lib.hid (bel_trans HB19.out hb); clear hb)))
  go_ret
  exact ⟨by simp, HB20.out⟩
end Go.Proofs.YtocjhpaackccpaaGreatDoor
