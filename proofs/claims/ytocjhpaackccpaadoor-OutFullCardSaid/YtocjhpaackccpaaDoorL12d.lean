/- The law OutFull. -/
import Derived.Test.YtocjhpaackccpaaDoorN12D

set_option linter.all false

namespace Go.Proofs.YtocjhpaackccpaaDoor
open Go.RowKit M

set_option maxRecDepth 100000 in
set_option maxHeartbeats 8000000 in
theorem OutFull_law (win n : Int) (w : World) (hC : Codes w) : Calls Tryd.prog 4 #[.int .i64 win, .int .i64 n] w fun e w' => e = .returned (.bool true) ∧ Below w.heap.size w w' := by
  have HC := Lib.hid hC
  clear hC
  have a1_q := Int.lt_tmod_of_pos win (show (0 : Int) < 7 by decide)
  have a2_q := Int.tmod_lt_of_pos win (show (0 : Int) < 7 by decide)
  obtain ⟨t_q, ht_q⟩ : ∃ t, win.tmod 7 = t := ⟨_, rfl⟩
  rw [ht_q] at a1_q a2_q
  have e1_q : IntKind.i64.wrap t_q = t_q := IntWalk.i64_in _ (by omega)
  have e2_q : IntKind.i64.wrap (t_q + 7) = t_q + 7 := IntWalk.i64_in _ (by omega)
  obtain ⟨q, h_q⟩ : ∃ q : Nat, t_q % 7 = (q : Int) := ⟨(t_q % 7).toNat, by omega⟩
  have e3_q : (t_q + 7).tmod 7 = (q : Int) := by rw [Int.tmod_eq_emod_of_nonneg (by omega)]; omega
  have e4_q : IntKind.i64.wrap (q : Int) = (q : Int) := IntWalk.i64_in _ (by omega)
  have b_q : q < 7 := by omega
  clear a1_q a2_q
  obtain ⟨W, hW⟩ : ∃ W : Nat, W = q + 1 := ⟨_, rfl⟩
  have eW : IntKind.i64.wrap (1 + (q : Int)) = (W : Int) := by rw [IntWalk.i64_in _ (by omega)]; omega
  have HW : Hid (1 ≤ W ∧ W ≤ 7) := by show _ ∧ _; omega
  clear hW b_q
  have a1_N := Int.lt_tmod_of_pos n (show (0 : Int) < 14 by decide)
  have a2_N := Int.tmod_lt_of_pos n (show (0 : Int) < 14 by decide)
  obtain ⟨t_N, ht_N⟩ : ∃ t, n.tmod 14 = t := ⟨_, rfl⟩
  rw [ht_N] at a1_N a2_N
  have e1_N : IntKind.i64.wrap t_N = t_N := IntWalk.i64_in _ (by omega)
  have e2_N : IntKind.i64.wrap (t_N + 14) = t_N + 14 := IntWalk.i64_in _ (by omega)
  obtain ⟨N, h_N⟩ : ∃ q : Nat, t_N % 14 = (q : Int) := ⟨(t_N % 14).toNat, by omega⟩
  have e3_N : (t_N + 14).tmod 14 = (N : Int) := by rw [Int.tmod_eq_emod_of_nonneg (by omega)]; omega
  have e4_N : IntKind.i64.wrap (N : Int) = (N : Int) := IntWalk.i64_in _ (by omega)
  have b_N : N < 14 := by omega
  clear a1_N a2_N
  go_enter Tryd.func4, Tryd.ntmps4
  go_wp2_with (first
    | (go_at_call 7; ((with_reducible refine (begun12_any _ HC.out).mono ?_); rintro e w1 ⟨rfl, hb⟩; have HB1 := Lib.hid (hb); clear hb))
    | (go_at_call 11; ((with_reducible refine (ONew_S rfl HW.out HB1.out).mono ?_); rintro e w2 ⟨v, rfl, hs⟩; have HS2 := Lib.hid hs; clear hs)))
  go_loopw [7] (fun iv wr => ∃ i : Nat, i ≤ N ∧ iv = .int .i64 (i : Int) ∧ Sd w (OutW v (repO W ⟨#[120]⟩ (min i 8) 0)) wr) (fun iv _ => (14 - intOf iv).toNat)
  case atStart => exact ⟨0, by omega, rfl, HS2.out⟩
  case round =>
    clear HS2 HB1
    obtain ⟨i, hiN, rfl, hs⟩ := hrel
    have HS2 := Lib.hid hs
    clear hs
    by_cases hlt : i < N
    · have t1 : decide ((i : Int) < (N : Int)) = true := decide_eq_true (by omega)
      have e5 : IntKind.i64.wrap ((i : Int) + 1) = (i : Int) + 1 := IntWalk.i64_in _ (by omega)
      by_cases h8 : i < 8
      · have t2 : decide ((i : Int) < 8) = true := decide_eq_true (by omega)
        have e6 : min i 8 = i := by omega
        have e7 : min (i + 1) 8 = i + 1 := by omega
        rw [e6] at HS2
        obtain ⟨k1, k2⟩ := repO_put (W := W) (s := ⟨#[120]⟩) h8
        have HPM := Lib.hid k1
        have HPE := Lib.hid k2
        have HE7 := Lib.hid e7
        clear k1 k2 e6 e7
        go_wp2_with (first
          | (go_at_call 12; ((with_reducible refine (OPut_S (by decide) HPE.out HPM.out HS2.out).mono ?_); rintro e w3 ⟨rfl, hs⟩; have HS3 := Lib.hid hs; clear hs)))
        go_roundw
        case rel => exact ⟨i + 1, by omega, by go_num, by rw [HE7.out]; exact HS3.out⟩
        case measure => simp [intOf] <;> omega
      · have t2 : decide ((i : Int) < 8) = false := decide_eq_false (by omega)
        have e6 : min i 8 = 8 := by omega
        have e7 : min (i + 1) 8 = 8 := by omega
        rw [e6] at HS2
        obtain ⟨k1, k2⟩ := repO_full (W := W) (s := ⟨#[120]⟩) (i := 8) (by omega)
        have HPM := Lib.hid k1
        have HPE := Lib.hid k2
        have HE7 := Lib.hid e7
        clear k1 k2 e6 e7
        go_wp2_with (first
          | (go_at_call 12; ((with_reducible refine (OPut_S (by decide) HPE.out HPM.out HS2.out).mono ?_); rintro e w3 ⟨rfl, hs⟩; have HS3 := Lib.hid hs; clear hs)))
        go_roundw
        case rel => exact ⟨i + 1, by omega, by go_num, by rw [HE7.out]; exact HS3.out⟩
        case measure => simp [intOf] <;> omega
    · have t1 : decide ((i : Int) < (N : Int)) = false := decide_eq_false (by omega)
      obtain rfl : i = N := by omega
      by_cases h0 : i = 0
      · have t2 : ((i : Int) == 0) = true := by rw [h0]; rfl
        have HLZ : Hid ((0 : Int) = ((repO W ⟨#[120]⟩ (min i 8) 0).l.length : Int)) := by show _ = _; rw [repO_len, h0]; rfl
        clear h0
        go_wp2_with (first
          | (go_at_call 13; ((with_reducible refine (OLen_S HLZ.out HS2.out).mono ?_); rintro e w3 ⟨rfl, hs⟩; have HS3 := Lib.hid hs; clear hs)))
        go_ret
        exact ⟨by simp, HS3.out.bel0⟩
      · have t2 : ((i : Int) == 0) = false := beq_eq_false_iff_ne.2 (by omega)
        obtain ⟨M, hM⟩ : ∃ M, M = min i 8 := ⟨_, rfl⟩
        rw [← hM] at HS2
        have hw := HW.out
        have e6 : min (i : Int) 8 = (M : Int) := by omega
        have e7 : IntKind.i64.wrap ((M : Int) - 1) = (M : Int) - 1 := IntWalk.i64_in _ (by omega)
        obtain ⟨k1, k2⟩ := repO_burst W M ⟨#[120]⟩
        have j : true = (repO W ⟨#[120]⟩ M (min W M)).acks (1 : Int) ∧ (1 : Int) = ((repO W ⟨#[120]⟩ M (min W M)).ackN (1 : Int) : Int) ∧ repA W ⟨#[120]⟩ M (min W M) 1 = (repO W ⟨#[120]⟩ M (min W M)).ack (1 : Int) := repO_ack (r := 1) (by omega) (by omega)
        obtain ⟨j1, j2, j3⟩ := j
        have HBK := Lib.hid k1
        have HBM := Lib.hid k2
        have HAO := Lib.hid j1
        have HAN := Lib.hid j2
        have HAM := Lib.hid j3
        have HLN : Hid ((M : Int) - 1 = ((repA W ⟨#[120]⟩ M (min W M) 1).l.length : Int)) := by show _ = _; rw [repA_len]; omega
        have hyf : (repA W ⟨#[120]⟩ M (min W M) 1).full = false := by unfold OutM.full; rw [repA_len]; exact decide_eq_false (by omega)
        have HYE : Hid ((0 : Int) = if (repA W ⟨#[120]⟩ M (min W M) 1).full then 3 else 0) := by show _ = _; rw [hyf]; rfl
        clear k1 k2 j1 j2 j3 hyf hM hw h0
        go_wp2_with (first
          | (go_at_call 14; ((with_reducible refine (OBurst_len HBK.out HBM.out HS2.out).mono ?_); rintro e w3 ⟨A, c, A2, c2, rfl, hs⟩; have HS3 := Lib.hid hs; clear hs))
          | (go_at_call 15; ((with_reducible refine (OAck_S (by decide) HAN.out HAO.out HAM.out HS3.out).mono ?_); rintro e w4 ⟨rfl, hs⟩; have HS4 := Lib.hid hs; clear hs))
          | (go_at_call 13; ((with_reducible refine (OLen_S HLN.out HS4.out).mono ?_); rintro e w5 ⟨rfl, hs⟩; have HS5 := Lib.hid hs; clear hs))
          | (go_at_call 12; ((with_reducible refine (OPut_S (by decide) HYE.out rfl HS5.out).mono ?_); rintro e w6 ⟨rfl, hs⟩; have HS6 := Lib.hid hs; clear hs)))
        go_ret
        exact ⟨by simp, HS6.out.bel0⟩
end Go.Proofs.YtocjhpaackccpaaDoor
