/- The law OutForeign. -/
import Derived.Test.YtocjhpaackccpaaDoorN12D

set_option linter.all false

namespace Go.Proofs.YtocjhpaackccpaaDoor
open Go.RowKit M

set_option maxRecDepth 100000 in
set_option maxHeartbeats 8000000 in
theorem OutForeign_law (win n sent nr : Int) (w : World) (hC : Codes w) : Calls Tryd.prog 5 #[.int .i64 win, .int .i64 n, .int .i64 sent, .int .i64 nr] w fun e w' => e = .returned (.bool true) ∧ Below w.heap.size w w' := by
  have HC := Lib.hid hC
  clear hC
  have a1_q := Int.lt_tmod_of_pos win (show (0 : Int) < 7 by decide)
  have a2_q := Int.tmod_lt_of_pos win (show (0 : Int) < 7 by decide)
  obtain ⟨t_q, ht_q⟩ : ∃ t, win.tmod 7 = t := ⟨_, rfl⟩
  rw [ht_q] at a1_q a2_q
  have e1_q : IntKind.i64.wrap t_q = t_q := IntWalk.i64_in _ (by omega)
  have e2_q : IntKind.i64.wrap (t_q + 7) = t_q + 7 := IntWalk.i64_in _ (by omega)
  obtain ⟨q, h_q⟩ : ∃ q : Nat, t_q % 7 = (q : Int) := ⟨(t_q % 7).toNat, by omega⟩
  have e3_q : (t_q + 7).tmod 7 = (q : Int) := by rw [Int.tmod_eq_emod_of_nonneg (by omega)]; omega
  have e4_q : IntKind.i64.wrap (q : Int) = (q : Int) := IntWalk.i64_in _ (by omega)
  have b_q : q < 7 := by omega
  clear a1_q a2_q
  obtain ⟨W, hW⟩ : ∃ W : Nat, W = q + 1 := ⟨_, rfl⟩
  have eW : IntKind.i64.wrap (1 + (q : Int)) = (W : Int) := by rw [IntWalk.i64_in _ (by omega)]; omega
  have HW : Hid (1 ≤ W ∧ W ≤ 7) := by show _ ∧ _; omega
  clear hW b_q
  have a1_N := Int.lt_tmod_of_pos n (show (0 : Int) < 9 by decide)
  have a2_N := Int.tmod_lt_of_pos n (show (0 : Int) < 9 by decide)
  obtain ⟨t_N, ht_N⟩ : ∃ t, n.tmod 9 = t := ⟨_, rfl⟩
  rw [ht_N] at a1_N a2_N
  have e1_N : IntKind.i64.wrap t_N = t_N := IntWalk.i64_in _ (by omega)
  have e2_N : IntKind.i64.wrap (t_N + 9) = t_N + 9 := IntWalk.i64_in _ (by omega)
  obtain ⟨N, h_N⟩ : ∃ q : Nat, t_N % 9 = (q : Int) := ⟨(t_N % 9).toNat, by omega⟩
  have e3_N : (t_N + 9).tmod 9 = (N : Int) := by rw [Int.tmod_eq_emod_of_nonneg (by omega)]; omega
  have e4_N : IntKind.i64.wrap (N : Int) = (N : Int) := IntWalk.i64_in _ (by omega)
  have b_N : N < 9 := by omega
  clear a1_N a2_N
  have a1_nr8 := Int.lt_tmod_of_pos nr (show (0 : Int) < 8 by decide)
  have a2_nr8 := Int.tmod_lt_of_pos nr (show (0 : Int) < 8 by decide)
  obtain ⟨t_nr8, ht_nr8⟩ : ∃ t, nr.tmod 8 = t := ⟨_, rfl⟩
  rw [ht_nr8] at a1_nr8 a2_nr8
  have e1_nr8 : IntKind.i64.wrap t_nr8 = t_nr8 := IntWalk.i64_in _ (by omega)
  have e2_nr8 : IntKind.i64.wrap (t_nr8 + 8) = t_nr8 + 8 := IntWalk.i64_in _ (by omega)
  obtain ⟨nr8, h_nr8⟩ : ∃ q : Nat, t_nr8 % 8 = (q : Int) := ⟨(t_nr8 % 8).toNat, by omega⟩
  have e3_nr8 : (t_nr8 + 8).tmod 8 = (nr8 : Int) := by rw [Int.tmod_eq_emod_of_nonneg (by omega)]; omega
  have e4_nr8 : IntKind.i64.wrap (nr8 : Int) = (nr8 : Int) := IntWalk.i64_in _ (by omega)
  have b_nr8 : nr8 < 8 := by omega
  clear a1_nr8 a2_nr8
  go_enter Tryd.func5, Tryd.ntmps5
  go_wp2_with (first
    | (go_at_call 7; ((with_reducible refine (begun12_any _ HC.out).mono ?_); rintro e w1 ⟨rfl, hb⟩; have HB1 := Lib.hid (hb); clear hb))
    | (go_at_call 11; ((with_reducible refine (ONew_S rfl HW.out HB1.out).mono ?_); rintro e w2 ⟨v, rfl, hs⟩; have HS2 := Lib.hid hs; clear hs)))
  go_loopw [11] (fun iv wr => ∃ i : Nat, i ≤ N ∧ iv = .int .i64 (i : Int) ∧ Sd w (OutW v (repO W ⟨#[120]⟩ i 0)) wr) (fun iv _ => (9 - intOf iv).toNat)
  case atStart => exact ⟨0, by omega, rfl, HS2.out⟩
  case round =>
    clear HS2 HB1
    obtain ⟨i, hiN, rfl, hs⟩ := hrel
    have HS2 := Lib.hid hs
    clear hs
    by_cases hlt : i < N
    · have t1 : decide ((i : Int) < (N : Int)) = true := decide_eq_true (by omega)
      have e5 : IntKind.i64.wrap ((i : Int) + 1) = (i : Int) + 1 := IntWalk.i64_in _ (by omega)
      obtain ⟨k1, k2⟩ := repO_put (W := W) (i := i) (s := ⟨#[120]⟩) (by omega)
      have HPM := Lib.hid k1
      have HPE := Lib.hid k2
      clear k1 k2
      go_wp2_with (first
        | (go_at_call 12; ((with_reducible refine (OPut_S (by decide) HPE.out HPM.out HS2.out).mono ?_); rintro e w3 ⟨rfl, hs⟩; have HS3 := Lib.hid hs; clear hs)))
      go_roundw
      case rel => exact ⟨i + 1, by omega, by go_num, HS3.out⟩
      case measure => simp [intOf] <;> omega
    · have t1 : decide ((i : Int) < (N : Int)) = false := decide_eq_false (by omega)
      obtain rfl : i = N := by omega
      have hw := HW.out
      have m1 : bits .and .i64 sent 1 = sent % 2 := i64_and1 sent
      obtain ⟨sb, hsb⟩ : ∃ b, sent % 2 = b := ⟨_, rfl⟩
      rw [hsb] at m1
      by_cases hs1 : sb = 1
      · subst hs1
        by_cases hgood : nr8 ≤ min W i
        · obtain ⟨k1, k2⟩ := repO_burst W i ⟨#[120]⟩
          have HBK := Lib.hid k1
          have HBM := Lib.hid k2
          obtain ⟨K, hK⟩ : ∃ K, K = min W i := ⟨_, rfl⟩
          rw [← hK] at HBK HBM
          have t4 : decide ((nr8 : Int) ≤ (K : Int)) = true := decide_eq_true (by omega)
          have t4n : decide (nr8 ≤ K) = true := decide_eq_true (by omega)
          have t4p :  nr8 ≤ K := by omega
          have t4q : ¬ K < nr8 := by omega
          obtain ⟨j1, j2, j3⟩ := repO_ack (W := W) (i := i) (k := K) (r := nr8) (s := ⟨#[120]⟩) (by omega) (by omega)
          have HAO := Lib.hid j1
          have HAN := Lib.hid j2
          have HAM := Lib.hid j3
          have HRW : Hid ((Lit.int .i64 (nr8 : Int)).wf = true) := w64 (by omega)
          have HLN : Hid ((i : Int) - (nr8 : Int) = ((repA W ⟨#[120]⟩ i K nr8).l.length : Int)) := by show _ = _; rw [repA_len]; omega
          have e8 : IntKind.i64.wrap ((i : Int) - (nr8 : Int)) = (i : Int) - (nr8 : Int) := IntWalk.i64_in _ (by omega)
          clear k1 k2 hK j1 j2 j3 hgood
          go_wp2_with (first
            | (go_at_call 14; ((with_reducible refine (OBurst_len HBK.out HBM.out HS2.out).mono ?_); rintro e w3 ⟨A, c, A2, c2, rfl, hs⟩; have HS3 := Lib.hid hs; clear hs))
            | (go_at_call 15; ((with_reducible refine (OAck_S HRW.out HAN.out HAO.out HAM.out HS3.out).mono ?_); rintro e w4 ⟨rfl, hs⟩; have HS4 := Lib.hid hs; clear hs))
            | (go_at_call 13; ((with_reducible refine (OLen_S HLN.out HS4.out).mono ?_); rintro e w5 ⟨rfl, hs⟩; have HS5 := Lib.hid hs; clear hs)))
          go_ret
          exact ⟨by simp, HS5.out.bel0⟩
        · obtain ⟨k1, k2⟩ := repO_burst W i ⟨#[120]⟩
          have HBK := Lib.hid k1
          have HBM := Lib.hid k2
          obtain ⟨K, hK⟩ : ∃ K, K = min W i := ⟨_, rfl⟩
          rw [← hK] at HBK HBM
          have t4 : decide ((nr8 : Int) ≤ (K : Int)) = false := decide_eq_false (by omega)
          have t4n : decide (nr8 ≤ K) = false := decide_eq_false (by omega)
          have t4p : ¬ nr8 ≤ K := by omega
          have t4q : K < nr8 := by omega
          obtain ⟨j1, j2, j3⟩ := repO_nack (W := W) (i := i) (k := K) (r := nr8) (s := ⟨#[120]⟩) (by omega) (by omega)
          have HAO := Lib.hid j1
          have HAN := Lib.hid j2
          have HAM := Lib.hid j3
          have HRW : Hid ((Lit.int .i64 (nr8 : Int)).wf = true) := w64 (by omega)
          have HLN : Hid ((i : Int) = ((repO W ⟨#[120]⟩ i K).l.length : Int)) := by show _ = _; rw [repO_len]
          clear k1 k2 hK j1 j2 j3 hgood
          go_wp2_with (first
            | (go_at_call 14; ((with_reducible refine (OBurst_len HBK.out HBM.out HS2.out).mono ?_); rintro e w3 ⟨A, c, A2, c2, rfl, hs⟩; have HS3 := Lib.hid hs; clear hs))
            | (go_at_call 15; ((with_reducible refine (OAck_S HRW.out HAN.out HAO.out HAM.out HS3.out).mono ?_); rintro e w4 ⟨rfl, hs⟩; have HS4 := Lib.hid hs; clear hs))
            | (go_at_call 13; ((with_reducible refine (OLen_S HLN.out HS4.out).mono ?_); rintro e w5 ⟨rfl, hs⟩; have HS5 := Lib.hid hs; clear hs)))
          go_ret
          exact ⟨by simp, HS5.out.bel0⟩
      · have t5 : (sb == 1) = false := beq_eq_false_iff_ne.2 hs1
        by_cases hgood : nr8 ≤ 0
        · have t4 : decide ((nr8 : Int) ≤ 0) = true := decide_eq_true (by omega)
          have t4n : decide (nr8 = 0) = true := decide_eq_true (by omega)
          have t4q : (nr8 == 0) = true := by simp; omega
          obtain ⟨j1, j2, j3⟩ := repO_ack (W := W) (i := i) (k := 0) (r := nr8) (s := ⟨#[120]⟩) (by omega) (by omega)
          have HAO := Lib.hid j1
          have HAN := Lib.hid j2
          have HAM := Lib.hid j3
          have HRW : Hid ((Lit.int .i64 (nr8 : Int)).wf = true) := w64 (by omega)
          have HLN : Hid ((i : Int) - (nr8 : Int) = ((repA W ⟨#[120]⟩ i 0 nr8).l.length : Int)) := by show _ = _; rw [repA_len]; omega
          have e8 : IntKind.i64.wrap ((i : Int) - (nr8 : Int)) = (i : Int) - (nr8 : Int) := IntWalk.i64_in _ (by omega)
          clear j1 j2 j3 hgood
          go_wp2_with (first
            | (go_at_call 15; ((with_reducible refine (OAck_S HRW.out HAN.out HAO.out HAM.out HS2.out).mono ?_); rintro e w3 ⟨rfl, hs⟩; have HS3 := Lib.hid hs; clear hs))
            | (go_at_call 13; ((with_reducible refine (OLen_S HLN.out HS3.out).mono ?_); rintro e w4 ⟨rfl, hs⟩; have HS4 := Lib.hid hs; clear hs)))
          go_ret
          exact ⟨by simp, HS4.out.bel0⟩
        · have t4 : decide ((nr8 : Int) ≤ 0) = false := decide_eq_false (by omega)
          have t4n : decide (nr8 = 0) = false := decide_eq_false (by omega)
          have t4q : (nr8 == 0) = false := by simp; omega
          have t4p : ¬ nr8 = 0 := by omega
          obtain ⟨j1, j2, j3⟩ := repO_nack (W := W) (i := i) (k := 0) (r := nr8) (s := ⟨#[120]⟩) (by omega) (by omega)
          have HAO := Lib.hid j1
          have HAN := Lib.hid j2
          have HAM := Lib.hid j3
          have HRW : Hid ((Lit.int .i64 (nr8 : Int)).wf = true) := w64 (by omega)
          have HLN : Hid ((i : Int) = ((repO W ⟨#[120]⟩ i 0).l.length : Int)) := by show _ = _; rw [repO_len]
          clear j1 j2 j3 hgood
          go_wp2_with (first
            | (go_at_call 15; ((with_reducible refine (OAck_S HRW.out HAN.out HAO.out HAM.out HS2.out).mono ?_); rintro e w3 ⟨rfl, hs⟩; have HS3 := Lib.hid hs; clear hs))
            | (go_at_call 13; ((with_reducible refine (OLen_S HLN.out HS3.out).mono ?_); rintro e w4 ⟨rfl, hs⟩; have HS4 := Lib.hid hs; clear hs)))
          go_ret
          exact ⟨by simp, HS4.out.bel0⟩
end Go.Proofs.YtocjhpaackccpaaDoor
