/- The law OutWindow. -/
import Derived.Test.YtocjhpaackccpaaGreatDoorN12D
import Derived.Test.YtocjhpaackccpaaGreatDoorN12A
import Derived.BigQuiet
import Derived.Deep.QuietTactic

set_option linter.all false

namespace Go.Proofs.YtocjhpaackccpaaGreatDoor
open Go.RowKit M

set_option maxRecDepth 100000 in
set_option maxHeartbeats 16000000 in
theorem OutWindow_law (win n : Int) (a : Value) (l : List Int) (w : World) (ha : RdG 1 w a l.length (ints l)) (hC : Codes w) : Calls Tryz.prog 8 #[.int .i64 win, .int .i64 n, a] w fun e w' => e = .returned (.bool true) ∧ Below w.heap.size w w' := by
  have HC := Lib.hid hC
  obtain ⟨A, cap, rfl, hcap, hmax⟩ := ha.shape
  have HA := Lib.hid ha
  obtain ⟨L, hL⟩ : ∃ L, L = l.length := ⟨_, rfl⟩
  rw [← hL] at hcap ⊢
  have HL := Lib.hid hL
  have HCAP := Lib.hid hcap
  have HMAX := Lib.hid hmax
  clear ha hC hL hcap hmax
  have a1_q := Int.lt_tmod_of_pos win (show (0 : Int) < 7 by decide)
  have a2_q := Int.tmod_lt_of_pos win (show (0 : Int) < 7 by decide)
  obtain ⟨t_q, ht_q⟩ : ∃ t, win.tmod 7 = t := ⟨_, rfl⟩
  rw [ht_q] at a1_q a2_q
  have e1_q : IntKind.i64.wrap t_q = t_q := IntWalk.i64_in _ (by omega)
  have e2_q : IntKind.i64.wrap (t_q + 7) = t_q + 7 := IntWalk.i64_in _ (by omega)
  obtain ⟨q, h_q⟩ : ∃ q : Nat, t_q % 7 = (q : Int) := ⟨(t_q % 7).toNat, by omega⟩
  have e3_q : (t_q + 7).tmod 7 = (q : Int) := by rw [Int.tmod_eq_emod_of_nonneg (by omega)]; omega
  have e4_q : IntKind.i64.wrap (q : Int) = (q : Int) := IntWalk.i64_in _ (by omega)
  have b_q : q < 7 := by omega
  clear a1_q a2_q
  obtain ⟨W, hW⟩ : ∃ W : Nat, W = q + 1 := ⟨_, rfl⟩
  have eW : IntKind.i64.wrap (1 + (q : Int)) = (W : Int) := by rw [IntWalk.i64_in _ (by omega)]; omega
  have HW : Hid (1 ≤ W ∧ W ≤ 7) := by show _ ∧ _; omega
  clear hW b_q
  have a1_N := Int.lt_tmod_of_pos n (show (0 : Int) < 9 by decide)
  have a2_N := Int.tmod_lt_of_pos n (show (0 : Int) < 9 by decide)
  obtain ⟨t_N, ht_N⟩ : ∃ t, n.tmod 9 = t := ⟨_, rfl⟩
  rw [ht_N] at a1_N a2_N
  have e1_N : IntKind.i64.wrap t_N = t_N := IntWalk.i64_in _ (by omega)
  have e2_N : IntKind.i64.wrap (t_N + 9) = t_N + 9 := IntWalk.i64_in _ (by omega)
  obtain ⟨N, h_N⟩ : ∃ q : Nat, t_N % 9 = (q : Int) := ⟨(t_N % 9).toNat, by omega⟩
  have e3_N : (t_N + 9).tmod 9 = (N : Int) := by rw [Int.tmod_eq_emod_of_nonneg (by omega)]; omega
  have e4_N : IntKind.i64.wrap (N : Int) = (N : Int) := IntWalk.i64_in _ (by omega)
  have b_N : N < 9 := by omega
  clear a1_N a2_N
  go_enter Tryz.func8, Tryz.ntmps8
  go_wp2_with (first
    | (go_at_call 17; ((with_reducible refine (begun12_any _ HC.out).mono ?_); rintro e w1 ⟨rfl, hb⟩; have HB1 := Lib.hid (hb); clear hb))
    | (go_at_call 53; ((with_reducible refine (ONew_S rfl HW.out HB1.out).mono ?_); rintro e w2 ⟨v, rfl, hs⟩; have HS2 := Lib.hid hs; clear hs)))
  go_loopw [9] (fun iv wr => ∃ i : Nat, i ≤ N ∧ iv = .int .i64 (i : Int) ∧ Sd w (OutW v (bodO W i 0 0)) wr) (fun iv _ => (9 - intOf iv).toNat)
  case atStart => exact ⟨0, by omega, rfl, HS2.out⟩
  case round =>
    clear HS2 HB1
    obtain ⟨i, hiN, rfl, hs⟩ := hrel
    have HS2 := Lib.hid hs
    clear hs
    by_cases hlt : i < N
    · have t1 : decide ((i : Int) < (N : Int)) = true := decide_eq_true (by omega)
      have e5 : IntKind.i64.wrap ((i : Int) + 1) = (i : Int) + 1 := IntWalk.i64_in _ (by omega)
      obtain ⟨k1, k2⟩ := bodO_put (W := W) (n := i) (done := 0) (k := 0) (by omega) (by omega)
      have HPM := Lib.hid k1
      have HPE := Lib.hid k2
      have HBO := Lib.hid (Body_any i)
      have HBZ : Hid ((bodyM i).size ≤ 1000000) := by show (1 : Nat) ≤ 1000000; decide
      clear k1 k2
      generalize bodyM i = bi at HBO HPM HBZ
      go_wp2_with (first
        | (go_at_call 54; ((with_reducible refine (HBO.out _).mono ?_); rintro e w3 ⟨rfl, hb⟩; have HS3 := Lib.hid (HS2.out.keep (OutW.stab _ _) hb); clear hb))
        | (go_at_call 49; ((with_reducible refine (OPut_C (C := fun X => X) Fr.id_ HBZ.out HPE.out HPM.out HS3.out).mono ?_); rintro e w4 ⟨rfl, hs⟩; have HS4 := Lib.hid hs; clear hs)))
      go_roundw
      case rel => exact ⟨i + 1, by omega, by go_num, HS4.out⟩
      case measure => simp [intOf] <;> omega
    · have t1 : decide ((i : Int) < (N : Int)) = false := decide_eq_false (by omega)
      obtain rfl : i = N := by omega
      go_wp2
      go_loopw [10, 11] (fun dv jv wr => ∃ j done sent : Nat, j ≤ 20 ∧ j ≤ L ∧ done ≤ i ∧ sent ≤ min W (i - done) ∧ jv = .int .i64 (j : Int) ∧ dv = .int .i64 (done : Int) ∧ Sd w (OutW v (bodO W i (done) sent)) wr) (fun _ jv _ => (20 - intOf jv).toNat)
      case atStart => exact ⟨0, 0, 0, by omega, by omega, by omega, by omega, rfl, rfl, HS2.out⟩
      case round =>
        clear HS2
        obtain ⟨j, done, sent, hj20, hjL, hdN, hsent, rfl, rfl, hs⟩ := hrel
        have HS2 := Lib.hid hs
        clear hs
        by_cases hltL : j < L
        · have t2 : decide ((j : Int) < (L : Int)) = true := decide_eq_true (by omega)
          by_cases h20 : j < 20
          · have t3 : decide ((j : Int) < 20) = true := decide_eq_true (by omega)
            have hw := HW.out
            obtain ⟨K1, hK1⟩ : ∃ K, K = min W (i - done) := ⟨_, rfl⟩
            obtain ⟨k1, k2⟩ := bodO_burst (W := W) (n := i) (done := done) (k := sent) hK1 (by omega)
            have HBK := Lib.hid k1
            have HBM := Lib.hid k2
            have HK1 := Lib.hid hK1
            have e6 : IntKind.i64.wrap ((i : Int) - (done : Int)) = (i : Int) - (done : Int) := IntWalk.i64_in _ (by omega)
            have em : min (W : Int) ((i : Int) - (done : Int)) = (K1 : Int) := by omega
            clear k1 k2 hK1
            go_wp2_with (first
              | (go_at_call 47; ((with_reducible refine (OBurst_C (C := fun X => X) Fr.id_ HBK.out rfl rfl HBM.out HS2.out).mono ?_); rintro e w3 ⟨A1, c1, B1, d1, rfl, hc1, hd1, hs⟩; have HS3 := Lib.hid hs; clear hs)))
            go_loopw [74] (fun iv wr => ∃ q : Nat, q ≤ K1 ∧ iv = .int .i64 (q : Int) ∧ Sd w (Star (OutW v (bodO W i (done) K1)) (Star (SlW 1 (.slice A1 K1 c1) K1 (ints (bodO W i (done) sent).ns)) (SlW 1 (.slice B1 K1 d1) K1 (strg (bodO W i (done) sent).bs)))) wr) (fun iv _ => (9 - intOf iv).toNat)
            case atStart => exact ⟨0, by omega, rfl, HS3.out⟩
            case round =>
              clear HS2 HS3
              obtain ⟨q, hqK, rfl, hs⟩ := hrel
              have HS2 := Lib.hid hs
              have hk1 := HK1.out
              have HK9 : Hid (K1 ≤ 7) := by show K1 ≤ 7; omega
              by_cases hlt3 : q < K1
              · have t6 : decide ((q : Int) < (K1 : Int)) = true := decide_eq_true (by omega)
                have t7 : (q : Int) < (K1 : Int) := by omega
                have e7 : IntKind.i64.wrap ((q : Int) + 1) = (q : Int) + 1 := IntWalk.i64_in _ (by omega)
                have e8 : IntKind.i64.wrap ((done : Int) + (q : Int)) = (done : Int) + (q : Int) := IntWalk.i64_in _ (by omega)
                obtain ⟨_, g1⟩ := hs.get (C := fun X => Star (OutW v (bodO W i (done) K1)) (Star X (SlW 1 (.slice B1 K1 d1) K1 (strg (bodO W i (done) sent).bs)))) (Fr.r (OutW.stab _ _) (Fr.l Fr.id_ (SlW.stab _ _ _ _)))
                obtain ⟨_, g2⟩ := hs.get (C := fun X => Star (OutW v (bodO W i (done) K1)) (Star (SlW 1 (.slice A1 K1 c1) K1 (ints (bodO W i (done) sent).ns)) X)) (Fr.r (OutW.stab _ _) (Fr.r (SlW.stab _ _ _ _) Fr.id_))
                obtain ⟨x1, y1, rfl⟩ := g1.addr0 (by omega)
                obtain ⟨x2, y2, rfl⟩ := g2.addr0 (by omega)
                have c1' := g1.cell (bodO_ns (j := q) (by omega))
                have c2' := g2.cell (bodO_bs (j := q) (by omega))
                have hbo := Body_any (done + q)
                rw [Int.natCast_add] at hbo
                have e9 : ((done : Int) + (q : Int)).tmod 8 = (((done + q) % 8 : Nat) : Int) := by rw [Int.tmod_eq_emod_of_nonneg (by omega)]; omega
                have e10 : ((done : Int) + (q : Int)) % 8 = (((done + q) % 8 : Nat) : Int) := by omega
                have e11 : IntKind.i64.wrap (((done + q) % 8 : Nat) : Int) = (((done + q) % 8 : Nat) : Int) := IntWalk.i64_in _ (by omega)
                generalize (done + q) % 8 = z at c1' e9 e10 e11
                generalize bodyM (done + q) = bq at c2' hbo
                have HBO := Lib.hid hbo
                have HC1 := Lib.hid c1'
                have HC2 := Lib.hid c2'
                clear g1 g2 hs hk1 c1' c2' hbo
                go_wp2
                refine regq (fun W => Below wr.heap.size wr W) (by kernel_rfl) (by kernel_rfl) ((Below.refl _ _).drew) ?_
                refine q_take (v := ?_) (by rfl) ?_ ?_; rotate_left; (· intro W HW; go_simp; try with_reducible rfl)
                simp only [Act.put, List.setIfInBounds_toArray, List.set_cons_zero, List.set_cons_succ]
                refine q_take (v := ?_) (by rfl) ?_ ?_; rotate_left; (· intro W HW; go_simp; try with_reducible rfl)
                simp only [Act.put, List.setIfInBounds_toArray, List.set_cons_zero, List.set_cons_succ]
                refine q_take (v := ?_) (by rfl) ?_ ?_; rotate_left; (· intro W HW; go_simp; try with_reducible rfl)
                simp only [Act.put, List.setIfInBounds_toArray, List.set_cons_zero, List.set_cons_succ]
                refine q_take (v := ?_) (by rfl) ?_ ?_; rotate_left; (· intro W HW; have c1w : W.cell? ⟨x1, y1 + q, none⟩ = some (.int .i64 (z : Int)) := (HW.cell (p := ⟨x1, y1 + q, none⟩) (World.block_lt_of_cell? _ _ HC1.out)).trans HC1.out; go_simp; try with_reducible rfl)
                simp only [Act.put, List.setIfInBounds_toArray, List.set_cons_zero, List.set_cons_succ]
                refine q_take (v := ?_) (by rfl) ?_ ?_; rotate_left; (· intro W HW; go_simp; try with_reducible rfl)
                simp only [Act.put, List.setIfInBounds_toArray, List.set_cons_zero, List.set_cons_succ]
                refine q_take (v := ?_) (by rfl) ?_ ?_; rotate_left; (· intro W HW; go_simp; try with_reducible rfl)
                simp only [Act.put, List.setIfInBounds_toArray, List.set_cons_zero, List.set_cons_succ]
                refine q_take (v := ?_) (by rfl) ?_ ?_; rotate_left; (· intro W HW; go_simp; try with_reducible rfl)
                simp only [Act.put, List.setIfInBounds_toArray, List.set_cons_zero, List.set_cons_succ]
                refine q_take (v := ?_) (by rfl) ?_ ?_; rotate_left; (· intro W HW; go_simp; try with_reducible rfl)
                simp only [Act.put, List.setIfInBounds_toArray, List.set_cons_zero, List.set_cons_succ]
                refine q_take (v := ?_) (by rfl) ?_ ?_; rotate_left; (· intro W HW; go_simp; try with_reducible rfl)
                simp only [Act.put, List.setIfInBounds_toArray, List.set_cons_zero, List.set_cons_succ]
                refine q_take (v := ?_) (by rfl) ?_ ?_; rotate_left; (· intro W HW; go_simp; try with_reducible rfl)
                simp only [Act.put, List.setIfInBounds_toArray, List.set_cons_zero, List.set_cons_succ]
                refine q_take (v := ?_) (by rfl) ?_ ?_; rotate_left; (· intro W HW; go_simp; try with_reducible rfl)
                simp only [Act.put, List.setIfInBounds_toArray, List.set_cons_zero, List.set_cons_succ]
                refine q_take (v := ?_) (by rfl) ?_ ?_; rotate_left; (· intro W HW; go_simp; try with_reducible rfl)
                simp only [Act.put, List.setIfInBounds_toArray, List.set_cons_zero, List.set_cons_succ]
                refine q_take (v := ?_) (by rfl) ?_ ?_; rotate_left; (· intro W HW; go_simp; try with_reducible rfl)
                simp only [Act.put, List.setIfInBounds_toArray, List.set_cons_zero, List.set_cons_succ]
                refine q_take (v := ?_) (by rfl) ?_ ?_; rotate_left; (· intro W HW; have c2w : W.cell? ⟨x2, y2 + q, none⟩ = some (.string bq) := (HW.cell (p := ⟨x2, y2 + q, none⟩) (World.block_lt_of_cell? _ _ HC2.out)).trans HC2.out; go_simp; try with_reducible rfl)
                simp only [Act.put, List.setIfInBounds_toArray, List.set_cons_zero, List.set_cons_succ]
                refine q_take (v := ?_) (by rfl) ?_ ?_; rotate_left; (· intro W HW; go_simp; try with_reducible rfl)
                simp only [Act.put, List.setIfInBounds_toArray, List.set_cons_zero, List.set_cons_succ]
                refine q_take (v := ?_) (by rfl) ?_ ?_; rotate_left; (· intro W HW; go_simp; try with_reducible rfl)
                simp only [Act.put, List.setIfInBounds_toArray, List.set_cons_zero, List.set_cons_succ]
                refine q_take (v := ?_) (by rfl) ?_ ?_; rotate_left; (· intro W HW; go_simp; try with_reducible rfl)
                simp only [Act.put, List.setIfInBounds_toArray, List.set_cons_zero, List.set_cons_succ]
                refine q_call 54 #[.int .i64 ((done : Int) + (q : Int))] (by rfl) (by intro W HW; go_simp) (from_call HBO.out) ?_
                simp only [Act.put, List.setIfInBounds_toArray, List.set_cons_zero, List.set_cons_succ]
                refine q_take (v := ?_) (by rfl) ?_ ?_; rotate_left; (· intro W HW; go_simp; try with_reducible rfl)
                simp only [Act.put, List.setIfInBounds_toArray, List.set_cons_zero, List.set_cons_succ]
                refine q_take (v := ?_) (by rfl) ?_ ?_; rotate_left; (· intro W HW; go_simp; try with_reducible rfl)
                simp only [Act.put, List.setIfInBounds_toArray, List.set_cons_zero, List.set_cons_succ]
                refine q_done ?_
                intro w5 hb5
                have HS5 := Lib.hid (HS2.out.keep ((OutW.stab _ _).star ((SlW.stab _ _ _ _).star (SlW.stab _ _ _ _))) hb5)
                clear hb5
                go_wp2
                go_roundw
                case rel => exact ⟨q + 1, by omega, by go_num, HS5.out⟩
                case measure => have := HK9.out; simp [intOf] <;> omega
              · have t6 : decide ((q : Int) < (K1 : Int)) = false := decide_eq_false (by omega)
                obtain ⟨x, hx⟩ : ∃ x, l[j]'(by rw [← HL.out]; exact hltL) = x := ⟨_, rfl⟩
                obtain ⟨b, off, rfl, hc⟩ := (HA.out.below hs.bel0).one (i := j) (u := .int .i64 x) (by unfold ints; simp [← hx]) (by rw [← HL.out]; exact hltL)
                have t3' : (j : Int) < (L : Int) := by omega
                have e4 : IntKind.i64.wrap ((j : Int) + 1) = (j : Int) + 1 := IntWalk.i64_in _ (by omega)
                have c1' : IntKind.i64.wrap ((K1 : Int) + 1) = (K1 : Int) + 1 := IntWalk.i64_in _ (by omega)
                have c0 : ((K1 : Int) + 1 == 0) = false := beq_eq_false_iff_ne.2 (by omega)
                have c7 : ¬ ((K1 : Int) + 1 = 0) := by omega
                have a1 := Int.lt_tmod_of_pos x (show (0 : Int) < (K1 : Int) + 1 by omega)
                have a2 := Int.tmod_lt_of_pos x (show (0 : Int) < (K1 : Int) + 1 by omega)
                obtain ⟨t, ht⟩ : ∃ t, x.tmod ((K1 : Int) + 1) = t := ⟨_, rfl⟩
                rw [ht] at a1 a2
                have c2' : IntKind.i64.wrap t = t := IntWalk.i64_in _ (by omega)
                have c3 : IntKind.i64.wrap (t + (K1 : Int)) = t + (K1 : Int) := IntWalk.i64_in _ (by omega)
                have c4 : IntKind.i64.wrap (t + (K1 : Int) + 1) = t + (K1 : Int) + 1 := IntWalk.i64_in _ (by omega)
                obtain ⟨r, hr⟩ : ∃ r : Nat, (t + (K1 : Int) + 1) % ((K1 : Int) + 1) = (r : Int) := ⟨((t + (K1 : Int) + 1) % ((K1 : Int) + 1)).toNat, by have := Int.emod_nonneg (t + (K1 : Int) + 1) (show (K1 : Int) + 1 ≠ 0 by omega); omega⟩
                have hr2 := Int.emod_lt_of_pos (t + (K1 : Int) + 1) (show (0 : Int) < (K1 : Int) + 1 by omega)
                rw [hr] at hr2
                have c5 : (t + (K1 : Int) + 1).tmod ((K1 : Int) + 1) = (r : Int) := by rw [Int.tmod_eq_emod_of_nonneg (by omega)]; exact hr
                have c6 : IntKind.i64.wrap (r : Int) = (r : Int) := IntWalk.i64_in _ (by omega)
                obtain ⟨j1, j2, j3⟩ := bodO_ack (W := W) (n := i) (done := done) (k := K1) (r := r) (by omega) (by omega) (by omega)
                have HFI : Hid ((((done + r) % 8 : Nat) : Int) = ((bodO W i (done + r) (K1 - r)).first : Int)) := by show _ = _; rfl
                have e8 : IntKind.i64.wrap ((done : Int) + (r : Int)) = (done : Int) + (r : Int) := IntWalk.i64_in _ (by omega)
                have e9 : ((done : Int) + (r : Int)).tmod 8 = (((done + r) % 8 : Nat) : Int) := by rw [Int.tmod_eq_emod_of_nonneg (by omega)]; omega
                have e10 : ((done : Int) + (r : Int)) % 8 = (((done + r) % 8 : Nat) : Int) := by omega
                have e11 : IntKind.i64.wrap (((done + r) % 8 : Nat) : Int) = (((done + r) % 8 : Nat) : Int) := IntWalk.i64_in _ (by omega)
                have HRW : Hid ((Lit.int .i64 (((done + r) % 8 : Nat) : Int)).wf = true) := w64 (by omega)
                have e12 : IntKind.i64.wrap ((i : Int) - ((done : Int) + (r : Int))) = (i : Int) - ((done : Int) + (r : Int)) := IntWalk.i64_in _ (by omega)
                have HLN : Hid ((i : Int) - ((done : Int) + (r : Int)) = ((bodO W i (done + r) (K1 - r)).l.length : Int)) := by show _ = _; rw [bodO_len]; omega
                have HREL : Hid (done + r ≤ i ∧ K1 - r ≤ min W (i - (done + r))) := by show _ ∧ _; omega
                generalize (done + r) % 8 = z at j1 j2 j3 HFI e9 e10 e11 HRW
                have HAO := Lib.hid j1
                have HAN := Lib.hid j2
                have HAM := Lib.hid j3
                clear hs hk1 j1 j2 j3 a1 a2 hx hr2
                go_wp2_with (first
                  | (go_at_call 48; ((with_reducible refine (OAck_C (C := fun X => Star X (Star (SlW 1 (.slice A1 K1 c1) K1 (ints (bodO W i (done) sent).ns)) (SlW 1 (.slice B1 K1 d1) K1 (strg (bodO W i (done) sent).bs)))) (Fr.l Fr.id_ ((SlW.stab _ _ _ _).star (SlW.stab _ _ _ _))) HRW.out HAN.out HAO.out HAM.out HS2.out).mono ?_); rintro e w3 ⟨rfl, hs⟩; have HS3 := Lib.hid hs; clear hs))
                  | (go_at_call 50; ((with_reducible refine (OLen_C (C := fun X => Star X (Star (SlW 1 (.slice A1 K1 c1) K1 (ints (bodO W i (done) sent).ns)) (SlW 1 (.slice B1 K1 d1) K1 (strg (bodO W i (done) sent).bs)))) (Fr.l Fr.id_ ((SlW.stab _ _ _ _).star (SlW.stab _ _ _ _))) ((OutW.stab _ _).star ((SlW.stab _ _ _ _).star (SlW.stab _ _ _ _))) HLN.out HS3.out).mono ?_); rintro e w4 ⟨rfl, hs⟩; have HS4 := Lib.hid hs; clear hs))
                  | (go_at_call 51; ((with_reducible refine (OFirst_C (C := fun X => Star X (Star (SlW 1 (.slice A1 K1 c1) K1 (ints (bodO W i (done) sent).ns)) (SlW 1 (.slice B1 K1 d1) K1 (strg (bodO W i (done) sent).bs)))) (Fr.l Fr.id_ ((SlW.stab _ _ _ _).star (SlW.stab _ _ _ _))) ((OutW.stab _ _).star ((SlW.stab _ _ _ _).star (SlW.stab _ _ _ _))) HFI.out HS4.out).mono ?_); rintro e w5 ⟨rfl, hs⟩; have HS5 := Lib.hid hs; clear hs)))
                go_roundw
                case rel => exact ⟨j + 1, done + r, K1 - r, by omega, by omega, HREL.out.1, HREL.out.2, by go_num, by go_num, HS5.out.drop⟩
                case measure => simp [intOf] <;> omega
          · have t3 : decide ((j : Int) < 20) = false := decide_eq_false (by omega)
            go_wp2
            go_ret
            exact ⟨by simp, HS2.out.bel0⟩
        · have t2 : decide ((j : Int) < (L : Int)) = false := decide_eq_false (by omega)
          go_wp2
          go_ret
          exact ⟨by simp, HS2.out.bel0⟩
end Go.Proofs.YtocjhpaackccpaaGreatDoor
