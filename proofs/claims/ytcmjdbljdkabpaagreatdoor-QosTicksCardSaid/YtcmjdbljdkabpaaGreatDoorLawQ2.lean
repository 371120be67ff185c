/- The law QosTicks. -/
import Derived.Test.YtcmjdbljdkabpaaGreatDoorQ8S
import Derived.Test.YtcmjdbljdkabpaaGreatDoorBegun8

set_option linter.all false

namespace Go.Proofs.YtcmjdbljdkabpaaGreatDoor
open Go.RowKit M

set_option maxRecDepth 100000 in
set_option maxHeartbeats 4000000 in
theorem QosTicks_law (b d : Int) (w : World) (hb : (Lit.int .i64 b).wf = true) (hd : (Lit.int .i64 d).wf = true) (hC : Codes w) : Calls Tryz.prog 12 #[.int .i64 b, .int .i64 d] w (Holds8 w) := by
  have HC := Lib.hid hC
  have e1 := i64_and65535 b
  have e2 := i64_and255 d
  obtain ⟨x, hx⟩ : ∃ x, b % 65536 = x := ⟨_, rfl⟩
  obtain ⟨y, hy⟩ : ∃ y, d % 256 = y := ⟨_, rfl⟩
  have bx : 0 ≤ x ∧ x < 65536 := by omega
  have dy : 0 ≤ y ∧ y < 256 := by omega
  rw [hx] at e1
  rw [hy] at e2
  clear hb hd hx hy hC
  obtain ⟨X, hX⟩ : ∃ X, 1 + x = X := ⟨_, rfl⟩
  obtain ⟨Y, hY⟩ : ∃ Y, 1 + y = Y := ⟨_, rfl⟩
  have v1 : IntKind.i64.wrap (1 + x) = X := by rw [← hX]; exact IntWalk.i64_in _ (by omega)
  have v2 : IntKind.i64.wrap (1 + y) = Y := by rw [← hY]; exact IntWalk.i64_in _ (by omega)
  have hX1 : 1 ≤ X ∧ X ≤ 65536 := by omega
  have hY1 : 1 ≤ Y ∧ Y ≤ 256 := by omega
  clear hX hY bx dy
  obtain ⟨t1, t2⟩ := ticks_holds hX1.1 hY1.1
  have t3 := ticks_pos hX1.1 hY1.1
  have t4 := ticks_twice hX1.1 hY1.1
  have t5 := ticks_mono hX1.1 hY1.1 (show X ≤ X + 1 by omega)
  have c1 := fun w => QTicks_any X Y w (wf64 (by omega)) (wf64 (by omega))
  have c2 := fun w => QTicks_any X (2 * Y) w (wf64 (by omega)) (wf64 (by omega))
  have c3 := fun w => QTicks_any (X + 1) Y w (wf64 (by omega)) (wf64 (by omega))
  generalize ticks X Y = t at *
  generalize ticks X (2 * Y) = u at *
  generalize ticks (X + 1) Y = z at *
  have t6 : (t - 1) * Y = t * Y - Y := by rw [Int.sub_mul]; omega
  have hp : 0 ≤ t * Y := Int.mul_nonneg (by omega) (by omega)
  have htX : t ≤ 65536 := by
    have : (t - 1) * 1 ≤ (t - 1) * Y := Int.mul_le_mul_of_nonneg_left hY1.1 (by omega)
    omega
  have v3 : IntKind.i64.wrap (t * Y) = t * Y := IntWalk.i64_in _ (by omega)
  have v4 : IntKind.i64.wrap (t - 1) = t - 1 := IntWalk.i64_in _ (by omega)
  have v5 : IntKind.i64.wrap ((t - 1) * Y) = (t - 1) * Y := IntWalk.i64_in _ (by omega)
  have v6 : IntKind.i64.wrap (2 * Y) = 2 * Y := IntWalk.i64_in _ (by omega)
  have v7 : IntKind.i64.wrap (X + 1) = X + 1 := IntWalk.i64_in _ (by omega)
  have d1 : decide (1 ≤ t) = true := decide_eq_true t3
  have d2 : decide (X ≤ t * Y) = true := decide_eq_true t1
  have d3 : decide ((t - 1) * Y < X) = true := decide_eq_true t2
  have d4 : decide (u ≤ t) = true := decide_eq_true t4
  have d5 : decide (t ≤ z) = true := decide_eq_true t5
  have C1 := Lib.hid c1
  have C2 := Lib.hid c2
  have C3 := Lib.hid c3
  clear t6 hp htX c1 c2 c3 hX1 hY1 t1 t2 t3 t4 t5
  go_enter Tryz.func12, Tryz.ntmps12
  go_wp2_with (first
    | (go_at_call 21; (with_reducible refine (begun8_any _ HC.out).mono ?_); rintro e w2 ⟨rfl, hb⟩; have HB2 := Lib.hid hb; clear hb)
    | (go_at_call 36; first
      | ((with_reducible refine (C1.out _).mono ?_); rintro e w3 ⟨rfl, hb⟩; have HB3 := Lib.hid (bel_trans HB2.out hb); clear hb)
      | ((with_reducible refine (C2.out _).mono ?_); rintro e w4 ⟨rfl, hb⟩; have HB4 := Lib.hid (bel_trans HB3.out hb); clear hb)
      | ((with_reducible refine (C3.out _).mono ?_); rintro e w5 ⟨rfl, hb⟩; have HB5 := Lib.hid (bel_trans HB4.out hb); clear hb)))
  go_ret
  exact ⟨rfl, HB5.out⟩
end Go.Proofs.YtcmjdbljdkabpaaGreatDoor
