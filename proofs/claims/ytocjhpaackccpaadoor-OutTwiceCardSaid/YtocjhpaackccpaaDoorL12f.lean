/- The law OutTwice. -/
import Derived.Test.YtocjhpaackccpaaDoorN12D

set_option linter.all false

namespace Go.Proofs.YtocjhpaackccpaaDoor
open Go.RowKit M

set_option maxRecDepth 100000 in
set_option maxHeartbeats 8000000 in
theorem OutTwice_law (win n nr : Int) (w : World) (hC : Codes w) : Calls Tryd.prog 6 #[.int .i64 win, .int .i64 n, .int .i64 nr] w fun e w' => e = .returned (.bool true) ∧ Below w.heap.size w w' := by
  have HC := Lib.hid hC
  clear hC
  have a1_q := Int.lt_tmod_of_pos win (show (0 : Int) < 7 by decide)
  have a2_q := Int.tmod_lt_of_pos win (show (0 : Int) < 7 by decide)
  obtain ⟨t_q, ht_q⟩ : ∃ t, win.tmod 7 = t := ⟨_, rfl⟩
  rw [ht_q] at a1_q a2_q
  have e1_q : IntKind.i64.wrap t_q = t_q := IntWalk.i64_in _ (by omega)
  have e2_q : IntKind.i64.wrap (t_q + 7) = t_q + 7 := IntWalk.i64_in _ (by omega)
  obtain ⟨q, h_q⟩ : ∃ q : Nat, t_q % 7 = (q : Int) := ⟨(t_q % 7).toNat, by omega⟩
  have e3_q : (t_q + 7).tmod 7 = (q : Int) := by rw [Int.tmod_eq_emod_of_nonneg (by omega)]; omega
  have e4_q : IntKind.i64.wrap (q : Int) = (q : Int) := IntWalk.i64_in _ (by omega)
  have b_q : q < 7 := by omega
  clear a1_q a2_q
  obtain ⟨W, hW⟩ : ∃ W : Nat, W = q + 1 := ⟨_, rfl⟩
  have eW : IntKind.i64.wrap (1 + (q : Int)) = (W : Int) := by rw [IntWalk.i64_in _ (by omega)]; omega
  have HW : Hid (1 ≤ W ∧ W ≤ 7) := by show _ ∧ _; omega
  clear hW b_q
  have a1_N := Int.lt_tmod_of_pos n (show (0 : Int) < 9 by decide)
  have a2_N := Int.tmod_lt_of_pos n (show (0 : Int) < 9 by decide)
  obtain ⟨t_N, ht_N⟩ : ∃ t, n.tmod 9 = t := ⟨_, rfl⟩
  rw [ht_N] at a1_N a2_N
  have e1_N : IntKind.i64.wrap t_N = t_N := IntWalk.i64_in _ (by omega)
  have e2_N : IntKind.i64.wrap (t_N + 9) = t_N + 9 := IntWalk.i64_in _ (by omega)
  obtain ⟨N, h_N⟩ : ∃ q : Nat, t_N % 9 = (q : Int) := ⟨(t_N % 9).toNat, by omega⟩
  have e3_N : (t_N + 9).tmod 9 = (N : Int) := by rw [Int.tmod_eq_emod_of_nonneg (by omega)]; omega
  have e4_N : IntKind.i64.wrap (N : Int) = (N : Int) := IntWalk.i64_in _ (by omega)
  have b_N : N < 9 := by omega
  clear a1_N a2_N
  go_enter Tryd.func6, Tryd.ntmps6
  go_wp2_with (first
    | (go_at_call 7; ((with_reducible refine (begun12_any _ HC.out).mono ?_); rintro e w1 ⟨rfl, hb⟩; have HB1 := Lib.hid (hb); clear hb))
    | (go_at_call 11; ((with_reducible refine (ONew_S rfl HW.out HB1.out).mono ?_); rintro e w2 ⟨v, rfl, hs⟩; have HS2 := Lib.hid hs; clear hs)))
  go_loopw [9] (fun iv wr => ∃ i : Nat, i ≤ N ∧ iv = .int .i64 (i : Int) ∧ Sd w (OutW v (repO W ⟨#[120]⟩ i 0)) wr) (fun iv _ => (9 - intOf iv).toNat)
  case atStart => exact ⟨0, by omega, rfl, HS2.out⟩
  case round =>
    clear HS2 HB1
    obtain ⟨i, hiN, rfl, hs⟩ := hrel
    have HS2 := Lib.hid hs
    clear hs
    by_cases hlt : i < N
    · have t1 : decide ((i : Int) < (N : Int)) = true := decide_eq_true (by omega)
      have e5 : IntKind.i64.wrap ((i : Int) + 1) = (i : Int) + 1 := IntWalk.i64_in _ (by omega)
      obtain ⟨k1, k2⟩ := repO_put (W := W) (i := i) (s := ⟨#[120]⟩) (by omega)
      have HPM := Lib.hid k1
      have HPE := Lib.hid k2
      clear k1 k2
      go_wp2_with (first
        | (go_at_call 12; ((with_reducible refine (OPut_S (by decide) HPE.out HPM.out HS2.out).mono ?_); rintro e w3 ⟨rfl, hs⟩; have HS3 := Lib.hid hs; clear hs)))
      go_roundw
      case rel => exact ⟨i + 1, by omega, by go_num, HS3.out⟩
      case measure => simp [intOf] <;> omega
    · have t1 : decide ((i : Int) < (N : Int)) = false := decide_eq_false (by omega)
      obtain rfl : i = N := by omega
      have hw := HW.out
      obtain ⟨k1, k2⟩ := repO_burst W i ⟨#[120]⟩
      have HBK := Lib.hid k1
      have HBM := Lib.hid k2
      obtain ⟨K, hK⟩ : ∃ K, K = min W i := ⟨_, rfl⟩
      rw [← hK] at HBK HBM
      have c0 : ((K : Int) + 1 == 0) = false := beq_eq_false_iff_ne.2 (by omega)
      have c1 : IntKind.i64.wrap ((K : Int) + 1) = (K : Int) + 1 := IntWalk.i64_in _ (by omega)
      have a1 := Int.lt_tmod_of_pos nr (show (0 : Int) < (K : Int) + 1 by omega)
      have a2 := Int.tmod_lt_of_pos nr (show (0 : Int) < (K : Int) + 1 by omega)
      obtain ⟨t, ht⟩ : ∃ t, nr.tmod ((K : Int) + 1) = t := ⟨_, rfl⟩
      rw [ht] at a1 a2
      have c2 : IntKind.i64.wrap t = t := IntWalk.i64_in _ (by omega)
      have c3 : IntKind.i64.wrap (t + (K : Int)) = t + (K : Int) := IntWalk.i64_in _ (by omega)
      have c4 : IntKind.i64.wrap (t + (K : Int) + 1) = t + (K : Int) + 1 := IntWalk.i64_in _ (by omega)
      obtain ⟨r, hr⟩ : ∃ r : Nat, (t + (K : Int) + 1) % ((K : Int) + 1) = (r : Int) := ⟨((t + (K : Int) + 1) % ((K : Int) + 1)).toNat, by have := Int.emod_nonneg (t + (K : Int) + 1) (show (K : Int) + 1 ≠ 0 by omega); omega⟩
      have hr2 := Int.emod_lt_of_pos (t + (K : Int) + 1) (show (0 : Int) < (K : Int) + 1 by omega)
      rw [hr] at hr2
      have c5 : (t + (K : Int) + 1).tmod ((K : Int) + 1) = (r : Int) := by rw [Int.tmod_eq_emod_of_nonneg (by omega)]; exact hr
      have c6 : IntKind.i64.wrap (r : Int) = (r : Int) := IntWalk.i64_in _ (by omega)
      obtain ⟨j1, j2, j3⟩ := repO_ack (W := W) (i := i) (k := K) (r := r) (s := ⟨#[120]⟩) (by omega) (by omega)
      have HAO := Lib.hid j1
      have HAN := Lib.hid j2
      have HAM := Lib.hid j3
      obtain ⟨g1, g2, g3⟩ := repA_again (W := W) (i := i) (k := K) (r := r) (s := ⟨#[120]⟩) (by omega)
      have HCO := Lib.hid g1
      have HCN := Lib.hid g2
      have HCM := Lib.hid g3
      have HRW : Hid ((Lit.int .i64 (r : Int)).wf = true) := w64 (by omega)
      have HLN : Hid ((i : Int) - (r : Int) = ((repA W ⟨#[120]⟩ i K r).l.length : Int)) := by show _ = _; rw [repA_len]; omega
      have e8 : IntKind.i64.wrap ((i : Int) - (r : Int)) = (i : Int) - (r : Int) := IntWalk.i64_in _ (by omega)
      have c7 : ¬ ((K : Int) + 1 = 0) := by omega
      clear k1 k2 hK j1 j2 j3 g1 g2 g3 a1 a2 hw hr2
      go_wp2_with (first
        | (go_at_call 14; ((with_reducible refine (OBurst_len HBK.out HBM.out HS2.out).mono ?_); rintro e w3 ⟨A, c, A2, c2, rfl, hs⟩; have HS3 := Lib.hid hs; clear hs))
        | (go_at_call 15; first
          | ((with_reducible refine (OAck_S HRW.out HAN.out HAO.out HAM.out HS3.out).mono ?_); rintro e w4 ⟨rfl, hs⟩; have HS4 := Lib.hid hs; clear hs)
          | ((with_reducible refine (OAck_S HRW.out HCN.out HCO.out HCM.out HS4.out).mono ?_); rintro e w5 ⟨rfl, hs⟩; have HS5 := Lib.hid hs; clear hs))
        | (go_at_call 13; ((with_reducible refine (OLen_S HLN.out HS5.out).mono ?_); rintro e w6 ⟨rfl, hs⟩; have HS6 := Lib.hid hs; clear hs)))
      go_ret
      exact ⟨by simp, HS6.out.bel0⟩
end Go.Proofs.YtocjhpaackccpaaDoor
