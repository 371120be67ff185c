/- The law QosBits. -/
import Derived.Test.YtcmjdbljdkabpaaGreatDoorQ8S
import Derived.Test.YtcmjdbljdkabpaaGreatDoorBegun8

set_option linter.all false

namespace Go.Proofs.YtcmjdbljdkabpaaGreatDoor
open Go.RowKit M

set_option maxRecDepth 100000 in
set_option maxHeartbeats 4000000 in
theorem QosBits_law (n : Int) (w : World) (hn : (Lit.int .i64 n).wf = true) (hC : Codes w) : Calls Tryz.prog 11 #[.int .i64 n] w (Holds8 w) := by
  have HC := Lib.hid hC
  have e1 := i64_and65535 n
  obtain ⟨x, hx⟩ : ∃ x, n % 65536 = x := ⟨_, rfl⟩
  have bx : 0 ≤ x ∧ x < 65536 := by omega
  rw [hx] at e1
  clear hn hx hC
  have c1 := fun w => QHigh_any x w (wf64 (by omega))
  have c2 := fun w => QLow_any x w (wf64 (by omega))
  by_cases h0 : x = 0
  · subst h0
    rw [show high 0 = -1 by decide +kernel] at c1
    rw [show low 0 = -1 by decide +kernel] at c2
    have C1 := Lib.hid c1
    have C2 := Lib.hid c2
    clear c1 c2 bx
    go_enter Tryz.func11, Tryz.ntmps11
    go_wp2_with (first
      | (go_at_call 21; (with_reducible refine (begun8_any _ HC.out).mono ?_); rintro e w2 ⟨rfl, hb⟩; have HB2 := Lib.hid hb; clear hb)
      | (go_at_call 26; (with_reducible refine (C1.out _).mono ?_); rintro e w3 ⟨rfl, hb⟩; have HB3 := Lib.hid (bel_trans HB2.out hb); clear hb)
      | (go_at_call 28; (with_reducible refine (C2.out _).mono ?_); rintro e w4 ⟨rfl, hb⟩; have HB4 := Lib.hid (bel_trans HB3.out hb); clear hb))
    go_ret
    exact ⟨rfl, HB4.out⟩
  · obtain ⟨s1, s2, s3, s4, s5, s6⟩ := bits_set (n := x) (by omega) bx.2
    obtain ⟨H, hH⟩ : ∃ H : Nat, high x = (H : Int) := ⟨(high x).toNat, by omega⟩
    obtain ⟨L, hL⟩ : ∃ L : Nat, low x = (L : Int) := ⟨(low x).toNat, by omega⟩
    rw [hH] at s2 s3 s4 c1
    rw [hL] at s1 s2 s5 s6 c2
    rw [Int.toNat_natCast] at s4 s5 s6
    have hH15 : H ≤ 15 := by omega
    have hL15 : L ≤ 15 := by omega
    have m1 : min H 64 = H := by omega
    have m2 : min L 64 = L := by omega
    have a1 : bits .and .i64 (x / 2 ^ L) 1 = 1 := by rw [i64_and1]; exact s5
    have a2 : bits .and .i64 x (2 ^ L - 1) = 0 := by rw [i64_and_mask L (by omega)]; exact s6
    have hpw : (2 : Int) ^ L ≤ 32768 := by
      have h1 : (2 : Nat) ^ L ≤ 2 ^ 15 := Nat.pow_le_pow_right (by decide) hL15
      have h2 : (((2 : Nat) ^ L : Nat) : Int) ≤ ((2 ^ 15 : Nat) : Int) := Int.ofNat_le.2 h1
      rw [Int.natCast_pow] at h2
      exact h2
    have hpp : (0 : Int) < 2 ^ L := Int.pow_pos (by decide)
    have v1 : IntKind.i64.wrap (2 ^ L) = 2 ^ L := IntWalk.i64_in _ (by omega)
    have v2 : IntKind.i64.wrap (2 ^ L - 1) = 2 ^ L - 1 := IntWalk.i64_in _ (by omega)
    have d0 : (x == 0) = false := by rw [beq_eq_false_iff_ne]; exact h0
    have hLH : L ≤ H := by omega
    have d1 : decide ((L : Int) ≤ (H : Int)) = true := decide_eq_true (by omega)
    have d2 : decide ((H : Int) ≤ 15) = true := decide_eq_true (by omega)
    have d3 : decide ((0 : Int) ≤ (L : Int)) = true := decide_eq_true (by omega)
    have C1 := Lib.hid c1
    have C2 := Lib.hid c2
    clear c1 c2 bx s1 s2 s3 s5 s6 hH hL h0 hpw hpp hL15
    go_enter Tryz.func11, Tryz.ntmps11
    go_wp2_with (first
      | (go_at_call 21; (with_reducible refine (begun8_any _ HC.out).mono ?_); rintro e w2 ⟨rfl, hb⟩; have HB2 := Lib.hid hb; clear hb)
      | (go_at_call 26; (with_reducible refine (C1.out _).mono ?_); rintro e w3 ⟨rfl, hb⟩; have HB3 := Lib.hid (bel_trans HB2.out hb); clear hb)
      | (go_at_call 28; (with_reducible refine (C2.out _).mono ?_); rintro e w4 ⟨rfl, hb⟩; have HB4 := Lib.hid (bel_trans HB3.out hb); clear hb))
    go_ret
    exact ⟨rfl, HB4.out⟩
end Go.Proofs.YtcmjdbljdkabpaaGreatDoor
