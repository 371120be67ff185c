/- The law OutAgain. -/
import Derived.Test.YtocjhpaackccpaaGreatDoorN12D
import Derived.BigQuiet
import Derived.Deep.QuietTactic

set_option linter.all false

namespace Go.Proofs.YtocjhpaackccpaaGreatDoor
open Go.RowKit M

set_option maxRecDepth 100000 in
set_option maxHeartbeats 8000000 in
theorem OutAgain_law (win n more : Int) (w : World) (hC : Codes w) : Calls Tryz.prog 14 #[.int .i64 win, .int .i64 n, .int .i64 more] w fun e w' => e = .returned (.bool true) ∧ Below w.heap.size w w' := by
  have HC := Lib.hid hC
  clear hC
  have a1_q := Int.lt_tmod_of_pos win (show (0 : Int) < 7 by decide)
  have a2_q := Int.tmod_lt_of_pos win (show (0 : Int) < 7 by decide)
  obtain ⟨t_q, ht_q⟩ : ∃ t, win.tmod 7 = t := ⟨_, rfl⟩
  rw [ht_q] at a1_q a2_q
  have e1_q : IntKind.i64.wrap t_q = t_q := IntWalk.i64_in _ (by omega)
  have e2_q : IntKind.i64.wrap (t_q + 7) = t_q + 7 := IntWalk.i64_in _ (by omega)
  obtain ⟨q, h_q⟩ : ∃ q : Nat, t_q % 7 = (q : Int) := ⟨(t_q % 7).toNat, by omega⟩
  have e3_q : (t_q + 7).tmod 7 = (q : Int) := by rw [Int.tmod_eq_emod_of_nonneg (by omega)]; omega
  have e4_q : IntKind.i64.wrap (q : Int) = (q : Int) := IntWalk.i64_in _ (by omega)
  have b_q : q < 7 := by omega
  clear a1_q a2_q
  obtain ⟨W, hW⟩ : ∃ W : Nat, W = q + 1 := ⟨_, rfl⟩
  have eW : IntKind.i64.wrap (1 + (q : Int)) = (W : Int) := by rw [IntWalk.i64_in _ (by omega)]; omega
  have HW : Hid (1 ≤ W ∧ W ≤ 7) := by show _ ∧ _; omega
  clear hW b_q
  have a1_N := Int.lt_tmod_of_pos n (show (0 : Int) < 6 by decide)
  have a2_N := Int.tmod_lt_of_pos n (show (0 : Int) < 6 by decide)
  obtain ⟨t_N, ht_N⟩ : ∃ t, n.tmod 6 = t := ⟨_, rfl⟩
  rw [ht_N] at a1_N a2_N
  have e1_N : IntKind.i64.wrap t_N = t_N := IntWalk.i64_in _ (by omega)
  have e2_N : IntKind.i64.wrap (t_N + 6) = t_N + 6 := IntWalk.i64_in _ (by omega)
  obtain ⟨N, h_N⟩ : ∃ q : Nat, t_N % 6 = (q : Int) := ⟨(t_N % 6).toNat, by omega⟩
  have e3_N : (t_N + 6).tmod 6 = (N : Int) := by rw [Int.tmod_eq_emod_of_nonneg (by omega)]; omega
  have e4_N : IntKind.i64.wrap (N : Int) = (N : Int) := IntWalk.i64_in _ (by omega)
  have b_N : N < 6 := by omega
  clear a1_N a2_N
  have a1_Mo := Int.lt_tmod_of_pos more (show (0 : Int) < 3 by decide)
  have a2_Mo := Int.tmod_lt_of_pos more (show (0 : Int) < 3 by decide)
  obtain ⟨t_Mo, ht_Mo⟩ : ∃ t, more.tmod 3 = t := ⟨_, rfl⟩
  rw [ht_Mo] at a1_Mo a2_Mo
  have e1_Mo : IntKind.i64.wrap t_Mo = t_Mo := IntWalk.i64_in _ (by omega)
  have e2_Mo : IntKind.i64.wrap (t_Mo + 3) = t_Mo + 3 := IntWalk.i64_in _ (by omega)
  obtain ⟨Mo, h_Mo⟩ : ∃ q : Nat, t_Mo % 3 = (q : Int) := ⟨(t_Mo % 3).toNat, by omega⟩
  have e3_Mo : (t_Mo + 3).tmod 3 = (Mo : Int) := by rw [Int.tmod_eq_emod_of_nonneg (by omega)]; omega
  have e4_Mo : IntKind.i64.wrap (Mo : Int) = (Mo : Int) := IntWalk.i64_in _ (by omega)
  have b_Mo : Mo < 3 := by omega
  clear a1_Mo a2_Mo
  go_enter Tryz.func14, Tryz.ntmps14
  go_wp2_with (first
    | (go_at_call 17; ((with_reducible refine (begun12_any _ HC.out).mono ?_); rintro e w1 ⟨rfl, hb⟩; have HB1 := Lib.hid (hb); clear hb))
    | (go_at_call 53; ((with_reducible refine (ONew_S rfl HW.out HB1.out).mono ?_); rintro e w2 ⟨v, rfl, hs⟩; have HS2 := Lib.hid hs; clear hs)))
  go_loopw [9] (fun iv wr => ∃ i : Nat, i ≤ N ∧ iv = .int .i64 (i : Int) ∧ Sd w (OutW v (bodO W i 0 0)) wr) (fun iv _ => (9 - intOf iv).toNat)
  case atStart => exact ⟨0, by omega, rfl, HS2.out⟩
  case round =>
    clear HS2 HB1
    obtain ⟨i, hiN, rfl, hs⟩ := hrel
    have HS2 := Lib.hid hs
    clear hs
    by_cases hlt : i < N
    · have t1 : decide ((i : Int) < (N : Int)) = true := decide_eq_true (by omega)
      have e5 : IntKind.i64.wrap ((i : Int) + 1) = (i : Int) + 1 := IntWalk.i64_in _ (by omega)
      obtain ⟨k1, k2⟩ := bodO_put (W := W) (n := i) (done := 0) (k := 0) (by omega) (by omega)
      have HPM := Lib.hid k1
      have HPE := Lib.hid k2
      have HBO := Lib.hid (Body_any i)
      have HBZ : Hid ((bodyM i).size ≤ 1000000) := by show (1 : Nat) ≤ 1000000; decide
      clear k1 k2
      generalize bodyM i = bi at HBO HPM HBZ
      go_wp2_with (first
        | (go_at_call 54; ((with_reducible refine (HBO.out _).mono ?_); rintro e w3 ⟨rfl, hb⟩; have HS3 := Lib.hid (HS2.out.keep (OutW.stab _ _) hb); clear hb))
        | (go_at_call 49; ((with_reducible refine (OPut_C (C := fun X => X) Fr.id_ HBZ.out HPE.out HPM.out HS3.out).mono ?_); rintro e w4 ⟨rfl, hs⟩; have HS4 := Lib.hid hs; clear hs)))
      go_roundw
      case rel => exact ⟨i + 1, by omega, by go_num, HS4.out⟩
      case measure => simp [intOf] <;> omega
    · have t1 : decide ((i : Int) < (N : Int)) = false := decide_eq_false (by omega)
      obtain rfl : i = N := by omega
      have hw := HW.out
      obtain ⟨K1, hK1⟩ : ∃ K, K = min W (i - 0) := ⟨_, rfl⟩
      obtain ⟨k1, k2⟩ := bodO_burst (W := W) (n := i) (done := 0) (k := 0) hK1 (by omega)
      have HBK := Lib.hid k1
      have HBM := Lib.hid k2
      have HK1 := Lib.hid hK1
      clear k1 k2 hK1
      go_wp2_with (first
        | (go_at_call 47; ((with_reducible refine (OBurst_C (C := fun X => X) Fr.id_ HBK.out rfl rfl HBM.out HS2.out).mono ?_); rintro e w3 ⟨A1, c1, B1, d1, rfl, hc1, hd1, hs⟩; have HS3 := Lib.hid hs; clear hs)))
      go_loopw [12] (fun iv wr => ∃ j : Nat, j ≤ Mo ∧ iv = .int .i64 (j : Int) ∧ Sd w (Star (OutW v (bodO W (i + j) 0 K1)) (Star (SlW 1 (.slice A1 K1 c1) K1 (ints (bodO W (i) 0 0).ns)) (SlW 1 (.slice B1 K1 d1) K1 (strg (bodO W (i) 0 0).bs)))) wr) (fun iv _ => (9 - intOf iv).toNat)
      case atStart => exact ⟨0, by omega, rfl, HS3.out⟩
      case round =>
        clear HS2 HS3
        obtain ⟨j, hjM, rfl, hs⟩ := hrel
        have HS2 := Lib.hid hs
        clear hs
        by_cases hlt2 : j < Mo
        · have t2 : decide ((j : Int) < (Mo : Int)) = true := decide_eq_true (by omega)
          have e5 : IntKind.i64.wrap ((j : Int) + 1) = (j : Int) + 1 := IntWalk.i64_in _ (by omega)
          have e6 : IntKind.i64.wrap ((i : Int) + (j : Int)) = (i : Int) + (j : Int) := IntWalk.i64_in _ (by omega)
          obtain ⟨k1, k2⟩ := bodO_put (W := W) (n := i + j) (done := 0) (k := K1) (by omega) (by omega)
          have HPM := Lib.hid k1
          have HPE := Lib.hid k2
          have hbo := Body_any (i + j)
          rw [Int.natCast_add] at hbo
          have HBO := Lib.hid hbo
          have HBZ : Hid ((bodyM (i + j)).size ≤ 1000000) := by show (1 : Nat) ≤ 1000000; decide
          clear k1 k2 hbo
          generalize bodyM (i + j) = bi at HBO HPM HBZ
          go_wp2_with (first
            | (go_at_call 54; ((with_reducible refine (HBO.out _).mono ?_); rintro e w3 ⟨rfl, hb⟩; have HS3 := Lib.hid (HS2.out.keep ((OutW.stab _ _).star ((SlW.stab _ _ _ _).star (SlW.stab _ _ _ _))) hb); clear hb))
            | (go_at_call 49; ((with_reducible refine (OPut_C (C := fun X => Star X (Star (SlW 1 (.slice A1 K1 c1) K1 (ints (bodO W (i) 0 0).ns)) (SlW 1 (.slice B1 K1 d1) K1 (strg (bodO W (i) 0 0).bs)))) (Fr.l Fr.id_ ((SlW.stab _ _ _ _).star (SlW.stab _ _ _ _))) HBZ.out HPE.out HPM.out HS3.out).mono ?_); rintro e w4 ⟨rfl, hs⟩; have HS4 := Lib.hid hs; clear hs)))
          go_roundw
          case rel => exact ⟨j + 1, by omega, by go_num, HS4.out⟩
          case measure => simp [intOf] <;> omega
        · have t2 : decide ((j : Int) < (Mo : Int)) = false := decide_eq_false (by omega)
          obtain rfl : j = Mo := by omega
          have hk := HK1.out
          obtain ⟨K2, hK2⟩ : ∃ K, K = min W (i + j - 0) := ⟨_, rfl⟩
          obtain ⟨k1, k2⟩ := bodO_burst (W := W) (n := i + j) (done := 0) (k := K1) hK2 (by omega)
          have HBK := Lib.hid k1
          have HBM := Lib.hid k2
          have HK2 := Lib.hid hK2
          have em : min (W : Int) ((i : Int) + (j : Int)) = (K2 : Int) := by omega
          have e6 : IntKind.i64.wrap ((i : Int) + (j : Int)) = (i : Int) + (j : Int) := IntWalk.i64_in _ (by omega)
          have t3 : decide ((K2 : Int) < (K1 : Int)) = false := decide_eq_false (by omega)
          have t4 : ¬ K2 < K1 := by omega
          have t5 : K1 ≤ K2 := by omega
          clear k1 k2 hK2 hk
          go_wp2_with (first
            | (go_at_call 47; ((with_reducible refine (OBurst_C (C := fun X => Star X (Star (SlW 1 (.slice A1 K1 c1) K1 (ints (bodO W (i) 0 0).ns)) (SlW 1 (.slice B1 K1 d1) K1 (strg (bodO W (i) 0 0).bs)))) (Fr.l Fr.id_ ((SlW.stab _ _ _ _).star (SlW.stab _ _ _ _))) HBK.out rfl rfl HBM.out HS2.out).mono ?_); rintro e w3 ⟨A2, c2, B2, d2, rfl, hc2, hd2, hs⟩; have HS3 := Lib.hid hs; clear hs)))
          go_loopw [81] (fun iv wr => ∃ q : Nat, q ≤ K1 ∧ iv = .int .i64 (q : Int) ∧ Sd w (Star (Star (OutW v (bodO W (i + j) 0 K2)) (Star (SlW 1 (.slice A2 K2 c2) K2 (ints (bodO W (i + j) 0 K1).ns)) (SlW 1 (.slice B2 K2 d2) K2 (strg (bodO W (i + j) 0 K1).bs)))) (Star (SlW 1 (.slice A1 K1 c1) K1 (ints (bodO W (i) 0 0).ns)) (SlW 1 (.slice B1 K1 d1) K1 (strg (bodO W (i) 0 0).bs)))) wr) (fun iv _ => (9 - intOf iv).toNat)
          case atStart => exact ⟨0, by omega, rfl, HS3.out⟩
          case round =>
            clear HS2 HS3
            obtain ⟨q, hqK, rfl, hs⟩ := hrel
            have HS2 := Lib.hid hs
            have hk1 := HK1.out
            have hk2 := HK2.out
            have HK9 : Hid (K1 ≤ 7) := by show K1 ≤ 7; omega
            by_cases hlt3 : q < K1
            · have t6 : decide ((q : Int) < (K1 : Int)) = true := decide_eq_true (by omega)
              have t7 : (q : Int) < (K1 : Int) := by omega
              have t8 : (q : Int) < (K2 : Int) := by omega
              have e7 : IntKind.i64.wrap ((q : Int) + 1) = (q : Int) + 1 := IntWalk.i64_in _ (by omega)
              obtain ⟨_, g1⟩ := hs.get (C := fun X => Star (Star (OutW v (bodO W (i + j) 0 K2)) (Star (SlW 1 (.slice A2 K2 c2) K2 (ints (bodO W (i + j) 0 K1).ns)) (SlW 1 (.slice B2 K2 d2) K2 (strg (bodO W (i + j) 0 K1).bs)))) (Star X (SlW 1 (.slice B1 K1 d1) K1 (strg (bodO W (i) 0 0).bs)))) (Fr.r ((OutW.stab _ _).star ((SlW.stab _ _ _ _).star (SlW.stab _ _ _ _))) (Fr.l Fr.id_ (SlW.stab _ _ _ _)))
              obtain ⟨_, g2⟩ := hs.get (C := fun X => Star (Star (OutW v (bodO W (i + j) 0 K2)) (Star (SlW 1 (.slice A2 K2 c2) K2 (ints (bodO W (i + j) 0 K1).ns)) (SlW 1 (.slice B2 K2 d2) K2 (strg (bodO W (i + j) 0 K1).bs)))) (Star (SlW 1 (.slice A1 K1 c1) K1 (ints (bodO W (i) 0 0).ns)) X)) (Fr.r ((OutW.stab _ _).star ((SlW.stab _ _ _ _).star (SlW.stab _ _ _ _))) (Fr.r (SlW.stab _ _ _ _) Fr.id_))
              obtain ⟨_, g3⟩ := hs.get (C := fun X => Star (Star (OutW v (bodO W (i + j) 0 K2)) (Star X (SlW 1 (.slice B2 K2 d2) K2 (strg (bodO W (i + j) 0 K1).bs)))) (Star (SlW 1 (.slice A1 K1 c1) K1 (ints (bodO W (i) 0 0).ns)) (SlW 1 (.slice B1 K1 d1) K1 (strg (bodO W (i) 0 0).bs)))) (Fr.l (Fr.r (OutW.stab _ _) (Fr.l Fr.id_ (SlW.stab _ _ _ _))) ((SlW.stab _ _ _ _).star (SlW.stab _ _ _ _)))
              obtain ⟨_, g4⟩ := hs.get (C := fun X => Star (Star (OutW v (bodO W (i + j) 0 K2)) (Star (SlW 1 (.slice A2 K2 c2) K2 (ints (bodO W (i + j) 0 K1).ns)) X)) (Star (SlW 1 (.slice A1 K1 c1) K1 (ints (bodO W (i) 0 0).ns)) (SlW 1 (.slice B1 K1 d1) K1 (strg (bodO W (i) 0 0).bs)))) (Fr.l (Fr.r (OutW.stab _ _) (Fr.r (SlW.stab _ _ _ _) Fr.id_)) ((SlW.stab _ _ _ _).star (SlW.stab _ _ _ _)))
              obtain ⟨x1, y1, rfl⟩ := g1.addr0 (by omega)
              obtain ⟨x2, y2, rfl⟩ := g2.addr0 (by omega)
              obtain ⟨x3, y3, rfl⟩ := g3.addr0 (by omega)
              obtain ⟨x4, y4, rfl⟩ := g4.addr0 (by omega)
              have c1' := g1.cell (bodO_ns (j := q) (by omega))
              have c2' := g2.cell (bodO_bs (j := q) (by omega))
              have c3' := g3.cell (bodO_ns (j := q) (by omega))
              have c4' := g4.cell (bodO_bs (j := q) (by omega))
              generalize (((0 + q) % 8 : Nat) : Int) = z1 at c1' c3'
              generalize bodyM (0 + q) = z2 at c2' c4'
              clear g1 g2 g3 g4 hs hk1 hk2
              go_wp2
              go_quiet (fail)
              go_wp2
              go_roundw
              case rel => exact ⟨q + 1, by omega, by go_num, HS2.out.drewN (((OutW.stab _ _).star ((SlW.stab _ _ _ _).star (SlW.stab _ _ _ _))).star ((SlW.stab _ _ _ _).star (SlW.stab _ _ _ _))) _⟩
              case measure => have := HK9.out; simp [intOf] <;> omega
            · have t6 : decide ((q : Int) < (K1 : Int)) = false := decide_eq_false (by omega)
              have HFI : Hid ((0 : Int) = ((bodO W (i + j) 0 K2).first : Int)) := by show _ = _; rfl
              have HWI : Hid ((W : Int) = ((bodO W (i + j) 0 K2).win : Int)) := by show _ = _; rfl
              clear hs hk1 hk2
              go_wp2_with (first
                | (go_at_call 51; ((with_reducible refine (OFirst_C (C := fun X => Star (Star X (Star (SlW 1 (.slice A2 K2 c2) K2 (ints (bodO W (i + j) 0 K1).ns)) (SlW 1 (.slice B2 K2 d2) K2 (strg (bodO W (i + j) 0 K1).bs)))) (Star (SlW 1 (.slice A1 K1 c1) K1 (ints (bodO W (i) 0 0).ns)) (SlW 1 (.slice B1 K1 d1) K1 (strg (bodO W (i) 0 0).bs)))) (Fr.l (Fr.l Fr.id_ ((SlW.stab _ _ _ _).star (SlW.stab _ _ _ _))) ((SlW.stab _ _ _ _).star (SlW.stab _ _ _ _))) (((OutW.stab _ _).star ((SlW.stab _ _ _ _).star (SlW.stab _ _ _ _))).star ((SlW.stab _ _ _ _).star (SlW.stab _ _ _ _))) HFI.out HS2.out).mono ?_); rintro e w3 ⟨rfl, hs⟩; have HS3 := Lib.hid hs; clear hs))
                | (go_at_call 52; ((with_reducible refine (OWin_C (C := fun X => Star (Star X (Star (SlW 1 (.slice A2 K2 c2) K2 (ints (bodO W (i + j) 0 K1).ns)) (SlW 1 (.slice B2 K2 d2) K2 (strg (bodO W (i + j) 0 K1).bs)))) (Star (SlW 1 (.slice A1 K1 c1) K1 (ints (bodO W (i) 0 0).ns)) (SlW 1 (.slice B1 K1 d1) K1 (strg (bodO W (i) 0 0).bs)))) (Fr.l (Fr.l Fr.id_ ((SlW.stab _ _ _ _).star (SlW.stab _ _ _ _))) ((SlW.stab _ _ _ _).star (SlW.stab _ _ _ _))) (((OutW.stab _ _).star ((SlW.stab _ _ _ _).star (SlW.stab _ _ _ _))).star ((SlW.stab _ _ _ _).star (SlW.stab _ _ _ _))) HWI.out HS3.out).mono ?_); rintro e w4 ⟨rfl, hs⟩; have HS4 := Lib.hid hs; clear hs)))
              go_ret
              exact ⟨by simp, HS4.out.bel0⟩
end Go.Proofs.YtocjhpaackccpaaGreatDoor
