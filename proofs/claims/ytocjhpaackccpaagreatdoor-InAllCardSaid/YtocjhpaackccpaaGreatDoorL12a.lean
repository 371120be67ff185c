/- The laws ModAll, ModRound. -/
import Derived.Test.YtocjhpaackccpaaGreatDoorBegun12
import Derived.Test.YtocjhpaackccpaaGreatDoorN12C
import Derived.Test.YtocjhpaackccpaaGreatDoorN12B

set_option linter.all false

namespace Go.Proofs.YtocjhpaackccpaaGreatDoor
open Go.RowKit M

theorem m8_wf (n : Int) : (Lit.int .i64 (m8 n)).wf = true := by
  have := m8_bound n
  exact w64 (by omega)
set_option maxRecDepth 100000 in
set_option maxHeartbeats 4000000 in
theorem ModAll_law (a b n : Int) (w : World) (hn : (Lit.int .i64 n).wf = true) (hC : Codes w) : Calls Tryz.prog 3 #[.int .i64 a, .int .i64 b, .int .i64 n] w fun e w' => e = .returned (.bool true) ∧ Below w.heap.size w w' := by
  obtain ⟨A, hA⟩ : ∃ A, a.tmod 1099511627776 = A := ⟨_, rfl⟩
  obtain ⟨B, hB⟩ : ∃ B, b.tmod 1099511627776 = B := ⟨_, rfl⟩
  have a1 := Int.lt_tmod_of_pos a (show (0 : Int) < 1099511627776 by decide)
  have a2 := Int.tmod_lt_of_pos a (show (0 : Int) < 1099511627776 by decide)
  have b1 := Int.lt_tmod_of_pos b (show (0 : Int) < 1099511627776 by decide)
  have b2 := Int.tmod_lt_of_pos b (show (0 : Int) < 1099511627776 by decide)
  rw [hA] at a1 a2
  rw [hB] at b1 b2
  have eA : IntKind.i64.wrap A = A := IntWalk.i64_in _ (by omega)
  have eB : IntKind.i64.wrap B = B := IntWalk.i64_in _ (by omega)
  have ep : IntKind.i64.wrap (A + B) = A + B := IntWalk.i64_in _ (by omega)
  have em : IntKind.i64.wrap (A - B) = A - B := IntWalk.i64_in _ (by omega)
  have h1 := fun w => MAdd_any A B w (w64 (by omega)) (w64 (by omega))
  have h2 := fun w => RMod_any (A + B) w
  have h3 := fun w => MDiff_any A B w (w64 (by omega)) (w64 (by omega))
  have h4 := fun w => RMod_any (A - B) w
  have h5 := fun w => MAdd_any (m8 (A - B)) B w (m8_wf _) (w64 (by omega))
  have h6 := fun w => RMod_any A w
  have h7 := fun w => MIn_any A B n w (w64 (by omega)) (w64 (by omega)) hn
  have h8 := fun w => RIn_any A B n w
  rw [show m8 (m8 (A - B) + B) = m8 A by unfold m8; omega] at h5
  generalize m8 (A + B) = x1 at h1 h2
  generalize m8 (A - B) = x2 at h3 h4 h5
  generalize m8 A = x3 at h5 h6
  generalize inM A B n = x4 at h7 h8
  have H1 := Lib.hid h1
  have H2 := Lib.hid h2
  have H3 := Lib.hid h3
  have H4 := Lib.hid h4
  have H5 := Lib.hid h5
  have H6 := Lib.hid h6
  have H7 := Lib.hid h7
  have H8 := Lib.hid h8
  have HC := Lib.hid hC
  clear h1 h2 h3 h4 h5 h6 h7 h8 hC a1 a2 b1 b2 hn
  go_enter Tryz.func3, Tryz.ntmps3
  go_wp2_with (first
    | (go_at_call 17; ((with_reducible refine (begun12_any _ HC.out).mono ?_); rintro e w1 ⟨rfl, hb⟩; have HB1 := Lib.hid (hb); clear hb))
    | (go_at_call 18; first
      | ((with_reducible refine (H1.out _).mono ?_); rintro e w2 ⟨rfl, hb⟩; have HB2 := Lib.hid (bel_trans HB1.out hb); clear hb)
      | ((with_reducible refine (H5.out _).mono ?_); rintro e w5 ⟨rfl, hb⟩; have HB5 := Lib.hid (bel_trans HB4.out hb); clear hb))
    | (go_at_call 19; first
      | ((with_reducible refine (H2.out _).mono ?_); rintro e w' ⟨rfl, hw'⟩; rw [hw']; clear hw')
      | ((with_reducible refine (H4.out _).mono ?_); rintro e w' ⟨rfl, hw'⟩; rw [hw']; clear hw')
      | ((with_reducible refine (H6.out _).mono ?_); rintro e w' ⟨rfl, hw'⟩; rw [hw']; clear hw'))
    | (go_at_call 20; first
      | ((with_reducible refine (H3.out _).mono ?_); rintro e w3 ⟨rfl, hb⟩; have HB3 := Lib.hid (bel_trans HB2.out hb); clear hb)
      | ((with_reducible refine (H3.out _).mono ?_); rintro e w4 ⟨rfl, hb⟩; have HB4 := Lib.hid (bel_trans HB3.out hb); clear hb))
    | (go_at_call 21; ((with_reducible refine (H7.out _).mono ?_); rintro e w6 ⟨rfl, hb⟩; have HB6 := Lib.hid (bel_trans HB5.out hb); clear hb))
    | (go_at_call 22; ((with_reducible refine (H8.out _).mono ?_); rintro e w' ⟨rfl, hw'⟩; rw [hw']; clear hw')))
  go_ret
  exact ⟨by simp, HB6.out⟩
end Go.Proofs.YtocjhpaackccpaaGreatDoor
