/- The law SirLong. -/
import Derived.Test.YtameiegmeicnoaaLaw2
namespace Go.Proofs.Ytameiegmeicnoaa
open Go.RowKit M

theorem cwrap_length (l : List UInt8) (e : Int) : (cwrap l e).length = extras e + (cesc (cput l)).length + 2 := by
  simp [cwrap]; omega

set_option maxRecDepth 100000 in
set_option maxHeartbeats 1000000 in
theorem SirLong_law (va : Value) (extra : Int) (la : List UInt8) (w : World) (ha : Rds w va la) (he : (Lit.int .i64 extra).wf = true) : Calls Try.prog 13 #[va, .int .i64 extra] w (Holds w) := by
  have hbx := bounds_i64 he
  have HA := Lib.hid ha
  have h1 : (la.take 100).length ≤ 100 := short_len _ _
  obtain ⟨a, hea⟩ : ∃ a, a = la.take 100 := ⟨_, rfl⟩
  rw [← hea] at h1
  have HEA := Lib.hid hea
  have hm1 : -10 ≤ extra.tmod 11 := by
    have := Int.lt_tmod_of_pos extra (show (0 : Int) < 11 by decide); omega
  have hm2 : extra.tmod 11 ≤ 10 := by
    have := Int.tmod_lt_of_pos extra (show (0 : Int) < 11 by decide); omega
  obtain ⟨x, hx⟩ : ∃ x : Nat, (extra.tmod 11 + 11) % 11 = (x : Int) := ⟨((extra.tmod 11 + 11) % 11).toNat, by omega⟩
  have hx2 : extra.tmod 11 % 11 = (x : Int) := by omega
  have hx10 : x ≤ 10 := by omega
  have hc := cesc_length (cput a)
  have hpl := cput_length a
  rw [hpl] at hc
  have w1 := cwrap_length a (x : Int)
  have w2 := cwrap_length a (-5)
  have w3 := cwrap_length a 0
  have w4 := cwrap_length a 99
  have w5 := cwrap_length a 10
  rw [show extras (x : Int) = x by unfold extras; omega] at w1
  rw [show extras (-5) = 0 by decide] at w2
  rw [show extras 0 = 0 by decide] at w3
  rw [show extras 99 = 10 by decide] at w4
  rw [show extras 10 = 10 by decide] at w5
  have hc2 := (cesc_length a).1
  have t1 : decide ((x : Int) + (a.length : Int) + 4 ≤ ((cwrap a (x : Int)).length : Int)) = true := by rw [decide_eq_true_iff]; omega
  have t2 : decide (((cwrap a (x : Int)).length : Int) ≤ (x : Int) + 2 * ((a.length : Int) + 2) + 2) = true := by rw [decide_eq_true_iff]; omega
  have t3 : decide ((a.length : Int) ≤ ((cesc a).length : Int)) = true := by rw [decide_eq_true_iff]; omega
  have t4 : (((cwrap a (-5)).length : Int) == ((cwrap a 0).length : Int)) = true := by rw [beq_iff_eq]; omega
  have t5 : (((cwrap a 99).length : Int) == ((cwrap a 10).length : Int)) = true := by rw [beq_iff_eq]; omega
  have t3' : decide (a.length ≤ (cesc a).length) = true := by rw [decide_eq_true_iff]; omega
  have t3'' : a.length ≤ (cesc a).length := hc2
  have t4' : ((cwrap a (-5)).length == (cwrap a 0).length) = true := by rw [beq_iff_eq]; omega
  have t5' : ((cwrap a 99).length == (cwrap a 10).length) = true := by rw [beq_iff_eq]; omega
  clear w1 w2 w3 w4 w5 hc hpl hc2
  clear ha hea he
  go_enter Try.func13, Try.ntmps13
  go_wp2_with (first
    | (go_at_call 18; refine (begun_any _).mono ?_; rintro e w1 ⟨rfl, hb1⟩; have HB1 := Lib.hid hb1; have hz1 := hb1.size; clear hb1)
    | (go_at_call 19; refine (Short_to va la a 100 _ (HA.out.below HB1.out) (by omega) (by omega) HEA.out).mono ?_; rintro e w2 ⟨v2, rfl, ho2, hb2⟩; have HB2 := Lib.hid (HB1.out.trans (hb2.mono hz1)); have hz2 := HB2.out.size; obtain ⟨A2, n2, rfl, _, _, _⟩ := ho2.rds; have HO2 := Lib.hid ho2; clear ho2 hb2))
  go_wp2_with (go_at_call 28; (refine (Wrap_any _ a _ _ HO2.out.rds (by omega)).mono ?_; rintro e w3 ⟨v3, rfl, ho3, hb3⟩; have HB3 := Lib.hid (HB2.out.trans (hb3.mono hz2)); have hz3 := HB3.out.size; obtain ⟨A3, n3, rfl, _, _, _⟩ := ho3.rds; have HO23 := Lib.hid (HO2.out.below hb3); clear ho3 hb3))
  go_wp2_with (go_at_call 30; (refine (Escape_any _ a _ HO23.out.rds (by omega)).mono ?_; rintro e w4 ⟨v4, rfl, ho4, hb4⟩; have HB4 := Lib.hid (HB3.out.trans (hb4.mono hz3)); have hz4 := HB4.out.size; obtain ⟨A4, n4, rfl, _, _, _⟩ := ho4.rds; have HO24 := Lib.hid (HO23.out.below hb4); clear ho4 hb4))
  go_wp2_with (go_at_call 28; ((with_reducible refine (Wrap_any _ a (-5) _ HO24.out.rds (by omega)).mono ?_); rintro e w5 ⟨v5, rfl, ho5, hb5⟩; have HB5 := Lib.hid (HB4.out.trans (hb5.mono hz4)); have hz5 := HB5.out.size; obtain ⟨A5, n5, rfl, _, _, _⟩ := ho5.rds; have HO25 := Lib.hid (HO24.out.below hb5); clear ho5 hb5))
  go_wp2_with (go_at_call_of 28 (Value.int IntKind.i64 0); (refine (Wrap_any _ a _ _ HO25.out.rds (by omega)).mono ?_; rintro e w6 ⟨v6, rfl, ho6, hb6⟩; have HB6 := Lib.hid (HB5.out.trans (hb6.mono hz5)); have hz6 := HB6.out.size; obtain ⟨A6, n6, rfl, _, _, _⟩ := ho6.rds; have HO26 := Lib.hid (HO25.out.below hb6); clear ho6 hb6))
  go_wp2_with (go_at_call_of 28 (Value.int IntKind.i64 99); (refine (Wrap_any _ a _ _ HO26.out.rds (by omega)).mono ?_; rintro e w7 ⟨v7, rfl, ho7, hb7⟩; have HB7 := Lib.hid (HB6.out.trans (hb7.mono hz6)); have hz7 := HB7.out.size; obtain ⟨A7, n7, rfl, _, _, _⟩ := ho7.rds; have HO27 := Lib.hid (HO26.out.below hb7); clear ho7 hb7))
  go_wp2_with (go_at_call_of 28 (Value.int IntKind.i64 10); (refine (Wrap_any _ a _ _ HO27.out.rds (by omega)).mono ?_; rintro e w8 ⟨v8, rfl, ho8, hb8⟩; have HB8 := Lib.hid (HB7.out.trans (hb8.mono hz7)); obtain ⟨A8, n8, rfl, _, _, _⟩ := ho8.rds; clear ho8 hb8))
  go_ret
  exact ⟨rfl, HB8.out⟩
end Go.Proofs.Ytameiegmeicnoaa
