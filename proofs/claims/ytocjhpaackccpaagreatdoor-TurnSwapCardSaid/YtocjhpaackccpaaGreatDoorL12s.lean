/- The law TurnSwap. -/
import Derived.Test.YtocjhpaackccpaaGreatDoorN12D

set_option linter.all false

namespace Go.Proofs.YtocjhpaackccpaaGreatDoor
open Go.RowKit M

set_option maxRecDepth 100000 in
set_option maxHeartbeats 64000000 in
theorem TurnSwap_law (d : De5In) (n : Int) (w : World) (hd : d.ok) (hC : Codes w) : Calls Tryz.prog 12 #[d.val, .int .i64 n] w fun e w' => e = .returned (.bool true) ∧ Below w.heap.size w w' := by
  have HC := Lib.hid hC
  have HDW := Lib.hid hd.2.2.1
  obtain ⟨W, hW⟩ : ∃ W : Nat, (max 1 (min d.wi 7)).toNat = W := ⟨_, rfl⟩
  have HW : Hid (1 ≤ W ∧ W ≤ 7) := by show _ ∧ _; omega
  have a1 := Int.lt_tmod_of_pos n (show (0 : Int) < 8 by decide)
  have a2 := Int.tmod_lt_of_pos n (show (0 : Int) < 8 by decide)
  obtain ⟨t, ht⟩ : ∃ t, n.tmod 8 = t := ⟨_, rfl⟩
  rw [ht] at a1 a2
  have f1 : IntKind.i64.wrap t = t := IntWalk.i64_in _ (by omega)
  have f2 : IntKind.i64.wrap (t + 8) = t + 8 := IntWalk.i64_in _ (by omega)
  obtain ⟨N, hN⟩ : ∃ N : Nat, t % 8 = (N : Int) := ⟨(t % 8).toNat, by omega⟩
  have f3 : (t + 8).tmod 8 = (N : Int) := by rw [Int.tmod_eq_emod_of_nonneg (by omega)]; omega
  have f4 : IntKind.i64.wrap (N : Int) = (N : Int) := IntWalk.i64_in _ (by omega)
  have hN8 : N < 8 := by omega
  clear a1 a2 hN
  have HS0 : Hid (Sd w (CellW w.heap.size #[.int .i64 d.b, .int .i64 d.s, .int .i64 d.wi, .int .i64 d.z, .int .i64 d.wa] 43) (w.alloc (.cells #[.int .i64 d.b, .int .i64 d.s, .int .i64 d.wi, .int .i64 d.z, .int .i64 d.wa] 43))) := by show Sd _ _ _; exact Sd.first (Below.refl _ _) (CellW.new w _ _)
  have HNW0 : Hid ((sT 1 true W []) = TurnM.new 1 d.wi 10) := by show _ = _; exact (sT_new (R := 1) hW).symm
  have HNW1 : Hid ((sT 2 false W []) = TurnM.new 2 d.wi 10) := by show _ = _; exact (sT_new (R := 2) hW).symm
  clear hW hC hd
  go_enter Tryz.func12, Tryz.ntmps12
  go_wp2_with (first
    | ((with_reducible refine wpList_storeSd (C := fun X => X) Fr.id_ HS1.out rfl 3 (.tmp 23) (.const (.int .i64 10)) rfl 3 (.int .i64 10) rfl rfl (by simp) (run_storeI 10 _ _) ?_); intro w2 hs; have HS2 : Hid (Sd w (CellW w.heap.size #[.int .i64 d.b, .int .i64 d.s, .int .i64 d.wi, .int .i64 10, .int .i64 d.wa] 43) w2) := (by show Sd _ _ _; exact hs); clear hs)
    | (go_at_call 17; ((with_reducible refine (calls_keep (CellW.stab _ _ _) HS0.out (begun12_any _ (HC.out.below HS0.out.bel0))).mono ?_); rintro e w1 ⟨rfl, hs⟩; have HS1 := Lib.hid hs; clear hs)))
  have HS2d := Lib.hid (HS2.out.drew (CellW.stab _ _ _))
  have HE2 : Hid ((fun X => X.heap[w.heap.size]? = some (.cells #[.int .i64 d.b, .int .i64 d.s, .int .i64 d.wi, .int .i64 10, .int .i64 d.wa] 43 (0, 0))) w2.drew) := Sd.at_ (C := fun X => X) Fr.id_ HS2d.out
  refine rests_begin (fun X => X.heap[w.heap.size]? = some (.cells #[.int .i64 d.b, .int .i64 d.s, .int .i64 d.wi, .int .i64 10, .int .i64 d.wa] 43 (0, 0))) (by kernel_rfl) ?_
  refine rests_take 0 (oi := _) (v := .agg #[.int .i64 d.b, .int .i64 d.s, .int .i64 d.wi, .int .i64 10, .int .i64 d.wa]) (by simp only [List.getElem?_toArray, List.getElem?_cons_zero]; rfl) (by kernel_rfl) (by kernel_rfl) (by kernel_rfl) (by exact fun _ _ _ h => h) (HE2.out) (by rfl) (fun X HX => exec_load_mid 43 (.tmp 2) rfl w.heap.size 0 rfl [.int .i64 d.b, .int .i64 d.s, .int .i64 d.wi, .int .i64 10, .int .i64 d.wa] _ (range_row HX) Tryz.underlying43 rfl (by kernel_rfl)) ?_
  simp only [Act.put, List.setIfInBounds_toArray, List.set_cons_zero, List.set_cons_succ]
  refine rests_take 2 (oi := _) (v := .agg #[.int .i64 d.b, .int .i64 d.s, .int .i64 d.wi, .int .i64 10, .int .i64 d.wa]) (by simp only [List.getElem?_toArray, List.getElem?_cons_succ, List.getElem?_cons_zero]; rfl) (by kernel_rfl) (by kernel_rfl) (by kernel_rfl) (by exact fun _ _ _ h => h) (HE2.out) (by rfl) (fun X HX => exec_load_mid 43 (.tmp 2) rfl w.heap.size 0 rfl [.int .i64 d.b, .int .i64 d.s, .int .i64 d.wi, .int .i64 10, .int .i64 d.wa] _ (range_row HX) Tryz.underlying43 rfl (by kernel_rfl)) ?_
  simp only [Act.put, List.setIfInBounds_toArray, List.set_cons_zero, List.set_cons_succ]
  refine rests_call 1 (oi := _) (by simp only [List.getElem?_toArray, List.getElem?_cons_succ, List.getElem?_cons_zero]; rfl) 28 #[.int .i64 1, .agg #[.int .i64 d.b, .int .i64 d.s, .int .i64 d.wi, .int .i64 10, .int .i64 d.wa]] _ (by kernel_rfl) (by rfl) (by go_simp) (TnNew_add (m := (sT 1 true W [])) (CellW.stab _ _ _) (.inl rfl) HDW.out (by decide) HNW0.out HS2d.out) ?_
  rintro e w3 ⟨a0, rfl, hs⟩; have HS3 := Lib.hid hs; have HE3 : Hid ((fun X => X.heap[w.heap.size]? = some (.cells #[.int .i64 d.b, .int .i64 d.s, .int .i64 d.wi, .int .i64 10, .int .i64 d.wa] 43 (0, 0))) w3) := (Sd.at_ (C := fun X => Star X (TurnW (.pointer (some a0)) (sT 1 true W []))) (Fr.l Fr.id_ (TurnW.stab _ _)) hs); refine ⟨_, rfl, HE3.out, ?_⟩; clear hs
  simp only [Act.put, List.setIfInBounds_toArray, List.set_cons_zero, List.set_cons_succ]
  refine rests_call 3 (oi := _) (by simp only [List.getElem?_toArray, List.getElem?_cons_succ, List.getElem?_cons_zero]; rfl) 28 #[.int .i64 2, .agg #[.int .i64 d.b, .int .i64 d.s, .int .i64 d.wi, .int .i64 10, .int .i64 d.wa]] _ (by kernel_rfl) (by rfl) (by go_simp) (TnNew_add (m := (sT 2 false W [])) ((CellW.stab _ _ _).star (TurnW.stab _ _)) (.inr rfl) HDW.out (by decide) HNW1.out HS3.out) ?_
  rintro e w4 ⟨a1, rfl, hs⟩; have HS4 := Lib.hid hs; have HE4 : Hid ((fun X => X.heap[w.heap.size]? = some (.cells #[.int .i64 d.b, .int .i64 d.s, .int .i64 d.wi, .int .i64 10, .int .i64 d.wa] 43 (0, 0))) w4) := (Sd.at_ (C := fun X => Star (Star X (TurnW (.pointer (some a0)) (sT 1 true W []))) (TurnW (.pointer (some a1)) (sT 2 false W []))) (Fr.l (Fr.l Fr.id_ (TurnW.stab _ _)) (TurnW.stab _ _)) hs); refine ⟨_, rfl, HE4.out, ?_⟩; clear hs
  simp only [Act.put, List.setIfInBounds_toArray, List.set_cons_zero, List.set_cons_succ]
  refine rests_take 4 (oi := _) (v := ?_) (by simp only [List.getElem?_toArray, List.getElem?_cons_succ, List.getElem?_cons_zero]; rfl) (by kernel_rfl) (by kernel_rfl) (by kernel_rfl) (by exact fun _ _ _ h => h) (HE4.out) (by rfl) ?_ ?_; rotate_left; (· intro W HW; go_simp; try with_reducible rfl)
  simp only [Act.put, List.setIfInBounds_toArray, List.set_cons_zero, List.set_cons_succ]
  refine rests_take 5 (oi := _) (v := ?_) (by simp only [List.getElem?_toArray, List.getElem?_cons_succ, List.getElem?_cons_zero]; rfl) (by kernel_rfl) (by kernel_rfl) (by kernel_rfl) (by exact fun _ _ _ h => h) (HE4.out) (by rfl) ?_ ?_; rotate_left; (· intro W HW; go_simp; try with_reducible rfl)
  simp only [Act.put, List.setIfInBounds_toArray, List.set_cons_zero, List.set_cons_succ]
  refine rests_done (by kernel_rfl) ?_
  revert HS4
  intro HS4
  clear HS0 HS1 HS2 HS2d HE2 HS3 HE3 HE4 HNW0 HNW1
  go_wp2
  go_loopw [8] (fun iv wr => ∃ i : Nat, i ≤ N ∧ iv = .int .i64 (i : Int) ∧ Sd w (Star (Star (CellW w.heap.size #[.int .i64 d.b, .int .i64 d.s, .int .i64 d.wi, .int .i64 10, .int .i64 d.wa] 43) (TurnW (.pointer (some a0)) (sT 1 true W (txs 0 i)))) (TurnW (.pointer (some a1)) (sT 2 false W (txs 10 i)))) wr) (fun iv _ => (9 - intOf iv).toNat)
  case atStart => exact ⟨0, by omega, rfl, HS4.out⟩
  case round =>
    clear HS4
    obtain ⟨i, hiN, rfl, hs⟩ := hrel
    have HS3 := Lib.hid hs
    clear hs
    by_cases hlt : i < N
    · have t1 : decide ((i : Int) < (N : Int)) = true := decide_eq_true (by omega)
      have e1 : IntKind.i64.wrap ((i : Int) + 1) = (i : Int) + 1 := IntWalk.i64_in _ (by omega)
      have e2 : IntKind.i64.wrap ((i : Int) + 10) = (i : Int) + 10 := IntWalk.i64_in _ (by omega)
      obtain ⟨k1, k2⟩ := sT_put (R := 1) (mine := true) (W := W) (off := 0) (i := i) (by omega)
      obtain ⟨k3, k4⟩ := sT_put (R := 2) (mine := false) (W := W) (off := 10) (i := i) (by omega)
      have hb0 : ∀ w, Calls Tryz.prog 54 #[.int .i64 (i : Int)] w fun e w' => e = .returned (.string (bodyM (i + 0))) ∧ Below w.heap.size w w' := fun w => Body_any i w
      have hb1 : ∀ w, Calls Tryz.prog 54 #[.int .i64 ((i : Int) + 10)] w fun e w' => e = .returned (.string (bodyM (i + 10))) ∧ Below w.heap.size w w' := fun w => Body_any (i + 10) w
      obtain ⟨y0, hy0⟩ : ∃ y, bodyM (i + 0) = y := ⟨_, rfl⟩
      obtain ⟨y1, hy1⟩ : ∃ y, bodyM (i + 10) = y := ⟨_, rfl⟩
      have HY0 : Hid (y0.size ≤ maxLen) := by show _ ≤ _; rw [← hy0, bodyM_size]; unfold maxLen; omega
      have HY1 : Hid (y1.size ≤ maxLen) := by show _ ≤ _; rw [← hy1, bodyM_size]; unfold maxLen; omega
      rw [hy0] at k1 k2
      rw [hy1] at k3 k4
      simp only [hy0] at hb0
      simp only [hy1] at hb1
      have HPM0 := Lib.hid k1
      have HPE0 := Lib.hid k2
      have HPM1 := Lib.hid k3
      have HPE1 := Lib.hid k4
      have HB0 := Lib.hid hb0
      have HB10 := Lib.hid hb1
      clear k1 k2 k3 k4 hb0 hb1 hy0 hy1
      go_wp2_with (first
        | (go_at_call 54; first
          | ((with_reducible refine (HB0.out _).mono ?_); rintro e w4 ⟨rfl, hb⟩; have HS4 := Lib.hid (HS3.out.keep (((CellW.stab _ _ _).star (TurnW.stab _ _)).star (TurnW.stab _ _)) hb); clear hb)
          | ((with_reducible refine (HB10.out _).mono ?_); rintro e w6 ⟨rfl, hb⟩; have HS6 := Lib.hid (HS5.out.keep (((CellW.stab _ _ _).star (TurnW.stab _ _)).star (TurnW.stab _ _)) hb); clear hb))
        | (go_at_call 31; first
          | ((with_reducible refine (TnPut_C (C := fun X => Star (Star (CellW w.heap.size #[.int .i64 d.b, .int .i64 d.s, .int .i64 d.wi, .int .i64 10, .int .i64 d.wa] 43) X) (TurnW (.pointer (some a1)) (sT 2 false W (txs 10 i)))) (Fr.l (Fr.r (CellW.stab _ _ _) Fr.id_) (TurnW.stab _ _)) HY0.out HPE0.out HPM0.out HS4.out).mono ?_); rintro e w5 ⟨rfl, hs⟩; have HS5 := Lib.hid hs; clear hs)
          | ((with_reducible refine (TnPut_C (C := fun X => Star (Star (CellW w.heap.size #[.int .i64 d.b, .int .i64 d.s, .int .i64 d.wi, .int .i64 10, .int .i64 d.wa] 43) (TurnW (.pointer (some a0)) (sT 1 true W (txs 0 (i + 1))))) X) (Fr.r ((CellW.stab _ _ _).star (TurnW.stab _ _)) Fr.id_) HY1.out HPE1.out HPM1.out HS6.out).mono ?_); rintro e w7 ⟨rfl, hs⟩; have HS7 := Lib.hid hs; clear hs)))
      go_roundw
      case rel => exact ⟨i + 1, by omega, by go_num, HS7.out⟩
      case measure => simp [intOf] <;> omega
    · have t1 : decide ((i : Int) < (N : Int)) = false := decide_eq_false (by omega)
      obtain rfl : i = N := by omega
      go_wp2
      have HS6 : Hid (Sd w (Star (Star (Star (CellW w.heap.size #[.int .i64 d.b, .int .i64 d.s, .int .i64 d.wi, .int .i64 10, .int .i64 d.wa] 43) (TurnW (.pointer (some a0)) (sT 1 true W (txs 0 i)))) (TurnW (.pointer (some a1)) (sT 2 false W (txs 10 i)))) (CellW wr.heap.size #[.int .i64 0, .int .i64 0] 65)) (wr.alloc (.cells #[.int .i64 0, .int .i64 0] 65))) := by show Sd _ _ _; exact HS3.out.add (((CellW.stab _ _ _).star (TurnW.stab _ _)).star (TurnW.stab _ _)) (CellW.new wr #[.int .i64 0, .int .i64 0] 65)
      clear HS3 t1 hlt hiN
      revert HS6
      generalize wr.heap.size = gq
      intro HS6
      obtain ⟨N, hNi⟩ : ∃ N, N = i := ⟨_, rfl⟩
      subst hNi
      go_loopw [11] (fun iv wr => ∃ (i : Nat) (A B : TurnM) (q0 q1 : Nat), i ≤ 30 ∧ iv = .int .i64 (i : Int) ∧ Swp A B N q0 q1 i (txs 0 N) (txs 10 N) ∧ Sd w (Star (Star (Star (CellW w.heap.size #[.int .i64 d.b, .int .i64 d.s, .int .i64 d.wi, .int .i64 10, .int .i64 d.wa] 43) (TurnW (.pointer (some a0)) A)) (TurnW (.pointer (some a1)) B)) (CellW gq #[.int .i64 (q0 : Int), .int .i64 (q1 : Int)] 65)) wr) (fun iv _ => (40 - intOf iv).toNat)
      case atStart => exact ⟨0, _, _, 0, 0, by omega, rfl, swp_start HW.out (by omega), HS6.out⟩
      case round =>
        clear HS6
        obtain ⟨i, A, B, q0, q1, hi, rfl, hsw, hs⟩ := hrel
        have HS0 := Lib.hid hs
        have HSW := Lib.hid hsw
        clear hs
        by_cases h30 : i < 30
        · have t0 : decide ((i : Int) < 30) = true := decide_eq_true (by omega)
          have e0 : IntKind.i64.wrap ((i : Int) + 1) = (i : Int) + 1 := IntWalk.i64_in _ (by omega)
          have e9 : IntKind.i64.wrap ((i : Int).tmod 3) = (i : Int).tmod 3 := IntWalk.i64_in _ (by have := Int.lt_tmod_of_pos (i : Int) (show (0 : Int) < 3 by decide); have := Int.tmod_lt_of_pos (i : Int) (show (0 : Int) < 3 by decide); omega)
          obtain ⟨S, hS⟩ : ∃ S, S = A.says.length := ⟨_, rfl⟩
          have HGN := Lib.hid hS
          have HS8 : Hid (S ≤ 7) := by show S ≤ 7; rw [hS]; exact says_len hsw.okA
          have HZ : Hid (∀ p ∈ A.says, p.okT) := by show ∀ _, _; exact says_ok hsw.okA ((hsw.ta).short (txs_short _ _))
          have HSO := Lib.hid hsw.okA
          have HGO : Hid (A.go.out.ok) := (hsw.okA).go.out
          have HTX : Hid (TxI A.out (txs 0 N)) := hsw.ta
          obtain ⟨r, hr⟩ : ∃ r, r = hearM 0 A.says 0 B 0 := ⟨_, rfl⟩
          have HR0E := Lib.hid hr
          have HR0 : Hid (hearM 0 (A.says.drop 0) 0 B 0 = r) := hr.symm
          have HHR : Hid (Hrs A N N q0 B q1 (txs 10 N)) := hrs_start hsw.roles hsw.okB hsw.d0 hsw.d1 hsw.tb
          clear hS hr
          clear hsw
          go_wp2_with (first
            | (go_at_call 34; ((with_reducible refine (TnGo_C (C := fun X => Star (Star (Star (CellW w.heap.size #[.int .i64 d.b, .int .i64 d.s, .int .i64 d.wi, .int .i64 10, .int .i64 d.wa] 43) X) (TurnW (.pointer (some a1)) B)) (CellW gq #[.int .i64 (q0 : Int), .int .i64 (q1 : Int)] 65)) (Fr.l (Fr.l (Fr.r (CellW.stab _ _ _) Fr.id_) (TurnW.stab _ _)) (CellW.stab _ _ _)) HGN.out rfl rfl HS0.out).mono ?_); rintro e w1 ⟨SA, c, rfl, -, hs⟩; have HS1 := Lib.hid hs; clear hs)))
          go_loopw [55] (fun jv wr => ∃ (j : Nat) (bj : TurnM) (k nj : Nat), j ≤ S ∧ k = q1 + nj ∧ jv = .int .i64 (j : Int) ∧ hearM 0 (A.says.drop j) j bj nj = r ∧ Hrs A N N q0 bj k (txs 10 N) ∧ Sd w (Star (Star (Star (CellW w.heap.size #[.int .i64 d.b, .int .i64 d.s, .int .i64 d.wi, .int .i64 10, .int .i64 d.wa] 43) (Star (TurnW (.pointer (some a0)) A.go) (SlW 9 (.slice SA S c) S (plcs A.says)))) (TurnW (.pointer (some a1)) bj)) (CellW gq #[.int .i64 (q0 : Int), .int .i64 (k : Int)] 65)) wr) (fun jv _ => (9 - intOf jv).toNat)
          case atStart => exact ⟨0, B, q1, 0, by omega, rfl, rfl, HR0.out, HHR.out, HS1.out⟩
          case round =>
            clear HS0 HS1 HR0 HHR
            obtain ⟨j, bj, k, nj, hjS, hkn, rfl, hh, hhr, hs⟩ := hrel
            have HS3 := Lib.hid hs
            have HKN0 := Lib.hid hkn
            clear hkn
            have hkN0 : k ≤ N := (hhr.d1.le HGO.out).1
            by_cases hlt : j < S
            · have t1 : decide ((j : Int) < (S : Int)) = true := decide_eq_true (by omega)
              have t2 : (j : Int) < (S : Int) := by omega
              have e1 : IntKind.i64.wrap ((j : Int) + 1) = (j : Int) + 1 := IntWalk.i64_in _ (by have := HS8.out; omega)
              have e2 : IntKind.i64.wrap ((k : Int) + 1) = (k : Int) + 1 := IntWalk.i64_in _ (by omega)
              have e3 : IntKind.i64.wrap ((k : Int) + 10) = (k : Int) + 10 := IntWalk.i64_in _ (by omega)
              obtain ⟨_, g1⟩ := hs.get (C := fun X => Star (Star (Star (CellW w.heap.size #[.int .i64 d.b, .int .i64 d.s, .int .i64 d.wi, .int .i64 10, .int .i64 d.wa] 43) (Star (TurnW (.pointer (some a0)) A.go) X)) (TurnW (.pointer (some a1)) bj)) (CellW gq #[.int .i64 (q0 : Int), .int .i64 (k : Int)] 65)) (Fr.l (Fr.l (Fr.r (CellW.stab _ _ _) (Fr.r (TurnW.stab _ _) Fr.id_)) (TurnW.stab _ _)) (CellW.stab _ _ _))
              obtain ⟨bq, off, rfl⟩ := g1.addr0 (by omega)
              have hjl : j < A.says.length := by rw [← HGN.out]; exact hlt
              obtain ⟨p, hp⟩ : ∃ p, A.says[j] = p := ⟨_, rfl⟩
              have hp1 : A.says[j]? = some p := by rw [List.getElem?_eq_getElem hjl, hp]
              have HRG := Lib.hid (g1.plain hp1)
              have HPK := Lib.hid (HZ.out p (List.mem_of_getElem? hp1))
              have hst : hearM 0 (A.says.drop j) j bj nj = hearM 0 (A.says.drop (j + 1)) (j + 1) (bj.take p) (nj + (if bj.tells p then 1 else 0)) := by
                rw [List.drop_eq_getElem_cons hjl, hp]
                show (if lossB 0 j then _ else _) = _
                rw [lossB_zero]
                rfl
              obtain ⟨n1, n2⟩ := hhr.step HSO.out hp1 HTX.out (by rw [txs_len])
              clear g1 hs hp1 hp hjl hhr
              rcases htl : bj.tells p with _ | _
              · have HTO : Hid (false = bj.tells p) := htl.symm
                have HRR : Hid (hearM 0 (A.says.drop (j + 1)) (j + 1) (bj.take p) nj = r) := by show _ = r; rw [← hh, hst, htl]; rfl
                rw [htl] at n1
                have HN1 : Hid (Hrs A N N q0 (bj.take p) k (txs 10 N)) := n1
                clear htl hst hh n1 n2
                go_wp2_with (first
                  | (with_reducible refine wpList_load_mid rfl 37 (.tmp 57) rfl bq (off + j * 9) rfl (pcs p) _ HRG.out Tryz.underlying37 rfl (by kernel_rfl) ?_)
                  | ((with_reducible refine wpList_storeBSd (C := fun X => Star (Star (Star (Star (CellW w.heap.size #[.int .i64 d.b, .int .i64 d.s, .int .i64 d.wi, .int .i64 10, .int .i64 d.wa] 43) (Star (TurnW (.pointer (some a0)) A.go) (SlW 9 (.slice (some ⟨bq, off, none⟩) S c) S (plcs A.says)))) (TurnW (.pointer (some a1)) bj)) (CellW gq #[.int .i64 (q0 : Int), .int .i64 (k : Int)] 65)) X) (Fr.r ((((CellW.stab _ _ _).star ((TurnW.stab _ _).star (SlW.stab _ _ _ _))).star (TurnW.stab _ _)).star (CellW.stab _ _ _)) Fr.id_) (HS3.out.add ((((CellW.stab _ _ _).star ((TurnW.stab _ _).star (SlW.stab _ _ _ _))).star (TurnW.stab _ _)).star (CellW.stab _ _ _)) (CellW.new wr #[.int .i64 0, .int .i64 0, .bool false, .int .i64 0, .int .i64 0, .int .i64 0, .int .i64 0, .bool false, .string ⟨#[]⟩] 37)) rfl 37 (.tmp 13) (.tmp 58) rfl #[.int .i64 p.seat, .int .i64 p.count, .bool p.cmd, .int .i64 p.kind, .int .i64 p.sort, .int .i64 p.nr, .int .i64 p.ns, .bool p.pf, .string p.body] rfl rfl (by kernel_rfl) rfl (pcs_one p) ?_); intro w4 hs; have HS4 := Lib.hid hs; clear hs)
                  | (with_reducible refine wpList_loadSd (C := fun X => Star (Star (Star (Star (CellW w.heap.size #[.int .i64 d.b, .int .i64 d.s, .int .i64 d.wi, .int .i64 10, .int .i64 d.wa] 43) (Star (TurnW (.pointer (some a0)) A.go) (SlW 9 (.slice (some ⟨bq, off, none⟩) S c) S (plcs A.says)))) (TurnW (.pointer (some a1)) bj)) (CellW gq #[.int .i64 (q0 : Int), .int .i64 (k : Int)] 65)) X) (Fr.r ((((CellW.stab _ _ _).star ((TurnW.stab _ _).star (SlW.stab _ _ _ _))).star (TurnW.stab _ _)).star (CellW.stab _ _ _)) Fr.id_) HS4.out rfl 37 (.tmp 13) rfl rfl _ Tryz.underlying37 rfl (by kernel_rfl) ?_)
                  | (go_at_call 37; ((with_reducible refine (TnTake_C (C := fun X => Star (Star (Star (Star (CellW w.heap.size #[.int .i64 d.b, .int .i64 d.s, .int .i64 d.wi, .int .i64 10, .int .i64 d.wa] 43) (Star (TurnW (.pointer (some a0)) A.go) (SlW 9 (.slice (some ⟨bq, off, none⟩) S c) S (plcs A.says)))) X) (CellW gq #[.int .i64 (q0 : Int), .int .i64 (k : Int)] 65)) (CellW wr.heap.size #[.int .i64 p.seat, .int .i64 p.count, .bool p.cmd, .int .i64 p.kind, .int .i64 p.sort, .int .i64 p.nr, .int .i64 p.ns, .bool p.pf, .string p.body] 37)) (Fr.l (Fr.l (Fr.r ((CellW.stab _ _ _).star ((TurnW.stab _ _).star (SlW.stab _ _ _ _))) Fr.id_) (CellW.stab _ _ _)) (CellW.stab _ _ _)) (p := p) HPK.out rfl HTO.out rfl HS4.out).mono ?_); rintro e w5 ⟨rfl, hs⟩; have HS5 := Lib.hid hs; clear hs)))
                go_roundw
                case rel => exact ⟨j + 1, bj.take p, k, nj, by omega, HKN0.out, by go_num, HRR.out, HN1.out, HS5.out.drop⟩
                case measure => have := HS8.out; simp [intOf] <;> omega
              · have HTO : Hid (true = bj.tells p) := htl.symm
                have HRR : Hid (hearM 0 (A.says.drop (j + 1)) (j + 1) (bj.take p) (nj + 1) = r) := by show _ = r; rw [← hh, hst, htl]; rfl
                obtain ⟨m1, m2⟩ := n2 htl
                rw [txs_len] at m1
                rw [txs_at m1] at m2
                have hsv : bodyM (k + 0) = bj.told p := by unfold TurnM.told; rw [htl, if_pos rfl, m2]
                rw [htl] at n1
                have HN1 : Hid (Hrs A N N q0 (bj.take p) (k + 1) (txs 10 N)) := n1
                have hbo : ∀ w, Calls Tryz.prog 54 #[.int .i64 (k : Int)] w fun e w' => e = .returned (.string (bodyM (k + 0))) ∧ Below w.heap.size w w' := fun w => Body_any (k + 0) w
                obtain ⟨y, hy⟩ : ∃ y, bodyM (k + 0) = y := ⟨_, rfl⟩
                rw [hy] at hsv
                simp only [hy] at hbo
                have HBO := Lib.hid hbo
                have HSV := Lib.hid hsv
                clear htl hst hh n1 n2 m1 m2 hbo hsv hy
                go_wp2_with (first
                  | (with_reducible refine wpList_load_mid rfl 37 (.tmp 57) rfl bq (off + j * 9) rfl (pcs p) _ HRG.out Tryz.underlying37 rfl (by kernel_rfl) ?_)
                  | ((with_reducible refine wpList_storeBSd (C := fun X => Star (Star (Star (Star (CellW w.heap.size #[.int .i64 d.b, .int .i64 d.s, .int .i64 d.wi, .int .i64 10, .int .i64 d.wa] 43) (Star (TurnW (.pointer (some a0)) A.go) (SlW 9 (.slice (some ⟨bq, off, none⟩) S c) S (plcs A.says)))) (TurnW (.pointer (some a1)) bj)) (CellW gq #[.int .i64 (q0 : Int), .int .i64 (k : Int)] 65)) X) (Fr.r ((((CellW.stab _ _ _).star ((TurnW.stab _ _).star (SlW.stab _ _ _ _))).star (TurnW.stab _ _)).star (CellW.stab _ _ _)) Fr.id_) (HS3.out.add ((((CellW.stab _ _ _).star ((TurnW.stab _ _).star (SlW.stab _ _ _ _))).star (TurnW.stab _ _)).star (CellW.stab _ _ _)) (CellW.new wr #[.int .i64 0, .int .i64 0, .bool false, .int .i64 0, .int .i64 0, .int .i64 0, .int .i64 0, .bool false, .string ⟨#[]⟩] 37)) rfl 37 (.tmp 13) (.tmp 58) rfl #[.int .i64 p.seat, .int .i64 p.count, .bool p.cmd, .int .i64 p.kind, .int .i64 p.sort, .int .i64 p.nr, .int .i64 p.ns, .bool p.pf, .string p.body] rfl rfl (by kernel_rfl) rfl (pcs_one p) ?_); intro w4 hs; have HS4 := Lib.hid hs; clear hs)
                  | (with_reducible refine wpList_loadSd (C := fun X => Star (Star (Star (Star (CellW w.heap.size #[.int .i64 d.b, .int .i64 d.s, .int .i64 d.wi, .int .i64 10, .int .i64 d.wa] 43) (Star (TurnW (.pointer (some a0)) A.go) (SlW 9 (.slice (some ⟨bq, off, none⟩) S c) S (plcs A.says)))) (TurnW (.pointer (some a1)) bj)) (CellW gq #[.int .i64 (q0 : Int), .int .i64 (k : Int)] 65)) X) (Fr.r ((((CellW.stab _ _ _).star ((TurnW.stab _ _).star (SlW.stab _ _ _ _))).star (TurnW.stab _ _)).star (CellW.stab _ _ _)) Fr.id_) HS4.out rfl 37 (.tmp 13) rfl rfl _ Tryz.underlying37 rfl (by kernel_rfl) ?_)
                  | ((with_reducible refine wpList_storeSd (C := fun X => Star (Star (Star (Star (CellW w.heap.size #[.int .i64 d.b, .int .i64 d.s, .int .i64 d.wi, .int .i64 10, .int .i64 d.wa] 43) (Star (TurnW (.pointer (some a0)) A.go) (SlW 9 (.slice (some ⟨bq, off, none⟩) S c) S (plcs A.says)))) (TurnW (.pointer (some a1)) (bj.take p))) X) (CellW wr.heap.size #[.int .i64 p.seat, .int .i64 p.count, .bool p.cmd, .int .i64 p.kind, .int .i64 p.sort, .int .i64 p.nr, .int .i64 p.ns, .bool p.pf, .string p.body] 37)) (Fr.l (Fr.r (((CellW.stab _ _ _).star ((TurnW.stab _ _).star (SlW.stab _ _ _ _))).star (TurnW.stab _ _)) Fr.id_) (CellW.stab _ _ _)) HS6.out rfl 3 (.tmp 74) (.tmp 73) rfl 1 (.int .i64 ((k : Int) + 1)) rfl rfl (by simp) (run_storeI _ _ _) ?_); intro w7 hs; have HS7 : Hid (Sd w (Star (Star (Star (Star (CellW w.heap.size #[.int .i64 d.b, .int .i64 d.s, .int .i64 d.wi, .int .i64 10, .int .i64 d.wa] 43) (Star (TurnW (.pointer (some a0)) A.go) (SlW 9 (.slice (some ⟨bq, off, none⟩) S c) S (plcs A.says)))) (TurnW (.pointer (some a1)) (bj.take p))) (CellW gq #[.int .i64 (q0 : Int), .int .i64 ((k + 1) : Int)] 65)) (CellW wr.heap.size #[.int .i64 p.seat, .int .i64 p.count, .bool p.cmd, .int .i64 p.kind, .int .i64 p.sort, .int .i64 p.nr, .int .i64 p.ns, .bool p.pf, .string p.body] 37)) w7) := (by show Sd _ _ _; exact hs); clear hs)
                  | (go_at_call 37; ((with_reducible refine (TnTake_C (C := fun X => Star (Star (Star (Star (CellW w.heap.size #[.int .i64 d.b, .int .i64 d.s, .int .i64 d.wi, .int .i64 10, .int .i64 d.wa] 43) (Star (TurnW (.pointer (some a0)) A.go) (SlW 9 (.slice (some ⟨bq, off, none⟩) S c) S (plcs A.says)))) X) (CellW gq #[.int .i64 (q0 : Int), .int .i64 (k : Int)] 65)) (CellW wr.heap.size #[.int .i64 p.seat, .int .i64 p.count, .bool p.cmd, .int .i64 p.kind, .int .i64 p.sort, .int .i64 p.nr, .int .i64 p.ns, .bool p.pf, .string p.body] 37)) (Fr.l (Fr.l (Fr.r ((CellW.stab _ _ _).star ((TurnW.stab _ _).star (SlW.stab _ _ _ _))) Fr.id_) (CellW.stab _ _ _)) (CellW.stab _ _ _)) (p := p) HPK.out HSV.out HTO.out rfl HS4.out).mono ?_); rintro e w5 ⟨rfl, hs⟩; have HS5 := Lib.hid hs; have cg5 : w5.cell? ⟨gq, 1, none⟩ = some (.int .i64 (k : Int)) := cell_at (Sd.at_ (C := fun X => Star (Star (Star (Star (CellW w.heap.size #[.int .i64 d.b, .int .i64 d.s, .int .i64 d.wi, .int .i64 10, .int .i64 d.wa] 43) (Star (TurnW (.pointer (some a0)) A.go) (SlW 9 (.slice (some ⟨bq, off, none⟩) S c) S (plcs A.says)))) (TurnW (.pointer (some a1)) (bj.take p))) X) (CellW wr.heap.size #[.int .i64 p.seat, .int .i64 p.count, .bool p.cmd, .int .i64 p.kind, .int .i64 p.sort, .int .i64 p.nr, .int .i64 p.ns, .bool p.pf, .string p.body] 37)) (Fr.l (Fr.r (((CellW.stab _ _ _).star ((TurnW.stab _ _).star (SlW.stab _ _ _ _))).star (TurnW.stab _ _)) Fr.id_) (CellW.stab _ _ _)) HS5.out) 1 _ rfl; clear hs))
                  | (go_at_call 54; ((with_reducible refine (HBO.out _).mono ?_); rintro e w6 ⟨rfl, hb⟩; have HS6 := Lib.hid (HS5.out.keep (((((CellW.stab _ _ _).star ((TurnW.stab _ _).star (SlW.stab _ _ _ _))).star (TurnW.stab _ _)).star (CellW.stab _ _ _)).star (CellW.stab _ _ _)) hb); have cg6 : w6.cell? ⟨gq, 1, none⟩ = some (.int .i64 (k : Int)) := cell_at (Sd.at_ (C := fun X => Star (Star (Star (Star (CellW w.heap.size #[.int .i64 d.b, .int .i64 d.s, .int .i64 d.wi, .int .i64 10, .int .i64 d.wa] 43) (Star (TurnW (.pointer (some a0)) A.go) (SlW 9 (.slice (some ⟨bq, off, none⟩) S c) S (plcs A.says)))) (TurnW (.pointer (some a1)) (bj.take p))) X) (CellW wr.heap.size #[.int .i64 p.seat, .int .i64 p.count, .bool p.cmd, .int .i64 p.kind, .int .i64 p.sort, .int .i64 p.nr, .int .i64 p.ns, .bool p.pf, .string p.body] 37)) (Fr.l (Fr.r (((CellW.stab _ _ _).star ((TurnW.stab _ _).star (SlW.stab _ _ _ _))).star (TurnW.stab _ _)) Fr.id_) (CellW.stab _ _ _)) HS6.out) 1 _ rfl; clear hb)))
                go_roundw
                case rel => exact ⟨j + 1, bj.take p, k + 1, nj + 1, by omega, by rw [HKN0.out]; omega, by go_num, HRR.out, HN1.out, HS7.out.drop⟩
                case measure => have := HS8.out; simp [intOf] <;> omega
            · have t1 : decide ((j : Int) < (S : Int)) = false := decide_eq_false (by omega)
              have hR : (bj, nj) = r := by
                rw [← hh, List.drop_eq_nil_of_le (by rw [← HGN.out]; omega)]
                rfl
              have hSD := Sd.drop_at (C := fun X => Star (Star (Star (CellW w.heap.size #[.int .i64 d.b, .int .i64 d.s, .int .i64 d.wi, .int .i64 10, .int .i64 d.wa] 43) X) (TurnW (.pointer (some a1)) bj)) (CellW gq #[.int .i64 (q0 : Int), .int .i64 (k : Int)] 65)) (Fr.l (Fr.l (Fr.r (CellW.stab _ _ _) Fr.id_) (TurnW.stab _ _)) (CellW.stab _ _ _)) hs
              have HSD := Lib.hid hSD
              clear hh hs hSD HS3
              have HB1 : Hid (bj = rdB A B) := congrArg Prod.fst (hR.trans HR0E.out)
              have HN1B : Hid (nj = rdb A B) := congrArg Prod.snd (hR.trans HR0E.out)
              have HSO0 := Lib.hid HSO.out
              have HTX0 := Lib.hid HTX.out
              clear hR HGN HS8 HZ HSO HGO HTX
              obtain ⟨S1, hS⟩ : ∃ S, S = bj.says.length := ⟨_, rfl⟩
              have HGN := Lib.hid hS
              have HS8 : Hid (S1 ≤ 7) := by show S1 ≤ 7; rw [hS]; exact says_len hhr.ok
              have HZ : Hid (∀ p ∈ bj.says, p.okT) := by show ∀ _, _; exact says_ok hhr.ok ((hhr.tx).short (txs_short _ _))
              have HSO := Lib.hid hhr.ok
              have HGO : Hid (bj.go.out.ok) := (hhr.ok).go.out
              have HTX : Hid (TxI bj.out (txs 10 N)) := hhr.tx
              obtain ⟨r1, hr1⟩ : ∃ r, r = hearM 0 bj.says 0 A.go 0 := ⟨_, rfl⟩
              have HR1E := Lib.hid hr1
              have HR0 : Hid (hearM 0 (bj.says.drop 0) 0 A.go 0 = r1) := hr1.symm
              have HHR : Hid (Hrs bj N N k A.go q0 (txs 0 N)) := hrs_start ⟨hhr.roles.r.elim (fun h => .inr ⟨h.2, h.1⟩) (fun h => .inl ⟨h.2, h.1⟩)⟩ HSO0.out.go hhr.d2 hhr.d1 HTX0.out.go
              clear hS hr1
              clear hhr
              go_wp2_with (first
                | (go_at_call 34; ((with_reducible refine (TnGo_C (C := fun X => Star (Star (Star (CellW w.heap.size #[.int .i64 d.b, .int .i64 d.s, .int .i64 d.wi, .int .i64 10, .int .i64 d.wa] 43) (TurnW (.pointer (some a0)) A.go)) X) (CellW gq #[.int .i64 (q0 : Int), .int .i64 (k : Int)] 65)) (Fr.l (Fr.r ((CellW.stab _ _ _).star (TurnW.stab _ _)) Fr.id_) (CellW.stab _ _ _)) HGN.out rfl rfl HSD.out).mono ?_); rintro e w1 ⟨SA1, c1, rfl, -, hs⟩; have HS1 := Lib.hid hs; clear hs)))
              go_loopw [79] (fun jv wr => ∃ (j : Nat) (aj : TurnM) (k0 mj : Nat), j ≤ S1 ∧ k0 = q0 + mj ∧ jv = .int .i64 (j : Int) ∧ hearM 0 (bj.says.drop j) j aj mj = r1 ∧ Hrs bj N N k aj k0 (txs 0 N) ∧ Sd w (Star (Star (Star (CellW w.heap.size #[.int .i64 d.b, .int .i64 d.s, .int .i64 d.wi, .int .i64 10, .int .i64 d.wa] 43) (TurnW (.pointer (some a0)) aj)) (Star (TurnW (.pointer (some a1)) bj.go) (SlW 9 (.slice SA1 S1 c1) S1 (plcs bj.says)))) (CellW gq #[.int .i64 (k0 : Int), .int .i64 (k : Int)] 65)) wr) (fun jv _ => (9 - intOf jv).toNat)
              case atStart => exact ⟨0, A.go, q0, 0, by omega, rfl, rfl, HR0.out, HHR.out, HS1.out⟩
              case round =>
                clear HSD HS1 HR0 HHR
                obtain ⟨j, aj, k0, mj, hjS, hkn, rfl, hh, hhr, hs⟩ := hrel
                have HS3 := Lib.hid hs
                have HKN1 := Lib.hid hkn
                clear hkn
                have hkN1 : k0 ≤ N := (hhr.d1.le HGO.out).1
                by_cases hlt : j < S1
                · have t1 : decide ((j : Int) < (S1 : Int)) = true := decide_eq_true (by omega)
                  have t2 : (j : Int) < (S1 : Int) := by omega
                  have e1 : IntKind.i64.wrap ((j : Int) + 1) = (j : Int) + 1 := IntWalk.i64_in _ (by have := HS8.out; omega)
                  have e2 : IntKind.i64.wrap ((k0 : Int) + 1) = (k0 : Int) + 1 := IntWalk.i64_in _ (by omega)
                  have e3 : IntKind.i64.wrap ((k0 : Int) + 10) = (k0 : Int) + 10 := IntWalk.i64_in _ (by omega)
                  obtain ⟨_, g1⟩ := hs.get (C := fun X => Star (Star (Star (CellW w.heap.size #[.int .i64 d.b, .int .i64 d.s, .int .i64 d.wi, .int .i64 10, .int .i64 d.wa] 43) (TurnW (.pointer (some a0)) aj)) (Star (TurnW (.pointer (some a1)) bj.go) X)) (CellW gq #[.int .i64 (k0 : Int), .int .i64 (k : Int)] 65)) (Fr.l (Fr.r ((CellW.stab _ _ _).star (TurnW.stab _ _)) (Fr.r (TurnW.stab _ _) Fr.id_)) (CellW.stab _ _ _))
                  obtain ⟨bq, off, rfl⟩ := g1.addr0 (by omega)
                  have hjl : j < bj.says.length := by rw [← HGN.out]; exact hlt
                  obtain ⟨p, hp⟩ : ∃ p, bj.says[j] = p := ⟨_, rfl⟩
                  have hp1 : bj.says[j]? = some p := by rw [List.getElem?_eq_getElem hjl, hp]
                  have HRG := Lib.hid (g1.plain hp1)
                  have HPK := Lib.hid (HZ.out p (List.mem_of_getElem? hp1))
                  have hst : hearM 0 (bj.says.drop j) j aj mj = hearM 0 (bj.says.drop (j + 1)) (j + 1) (aj.take p) (mj + (if aj.tells p then 1 else 0)) := by
                    rw [List.drop_eq_getElem_cons hjl, hp]
                    show (if lossB 0 j then _ else _) = _
                    rw [lossB_zero]
                    rfl
                  obtain ⟨n1, n2⟩ := hhr.step HSO.out hp1 HTX.out (by rw [txs_len])
                  clear g1 hs hp1 hp hjl hhr
                  rcases htl : aj.tells p with _ | _
                  · have HTO : Hid (false = aj.tells p) := htl.symm
                    have HRR : Hid (hearM 0 (bj.says.drop (j + 1)) (j + 1) (aj.take p) mj = r1) := by show _ = r1; rw [← hh, hst, htl]; rfl
                    rw [htl] at n1
                    have HN1 : Hid (Hrs bj N N k (aj.take p) k0 (txs 0 N)) := n1
                    clear htl hst hh n1 n2
                    go_wp2_with (first
                      | (with_reducible refine wpList_load_mid rfl 37 (.tmp 81) rfl bq (off + j * 9) rfl (pcs p) _ HRG.out Tryz.underlying37 rfl (by kernel_rfl) ?_)
                      | ((with_reducible refine wpList_storeBSd (C := fun X => Star (Star (Star (Star (CellW w.heap.size #[.int .i64 d.b, .int .i64 d.s, .int .i64 d.wi, .int .i64 10, .int .i64 d.wa] 43) (TurnW (.pointer (some a0)) aj)) (Star (TurnW (.pointer (some a1)) bj.go) (SlW 9 (.slice (some ⟨bq, off, none⟩) S1 c1) S1 (plcs bj.says)))) (CellW gq #[.int .i64 (k0 : Int), .int .i64 (k : Int)] 65)) X) (Fr.r ((((CellW.stab _ _ _).star (TurnW.stab _ _)).star ((TurnW.stab _ _).star (SlW.stab _ _ _ _))).star (CellW.stab _ _ _)) Fr.id_) (HS3.out.add ((((CellW.stab _ _ _).star (TurnW.stab _ _)).star ((TurnW.stab _ _).star (SlW.stab _ _ _ _))).star (CellW.stab _ _ _)) (CellW.new wr #[.int .i64 0, .int .i64 0, .bool false, .int .i64 0, .int .i64 0, .int .i64 0, .int .i64 0, .bool false, .string ⟨#[]⟩] 37)) rfl 37 (.tmp 17) (.tmp 82) rfl #[.int .i64 p.seat, .int .i64 p.count, .bool p.cmd, .int .i64 p.kind, .int .i64 p.sort, .int .i64 p.nr, .int .i64 p.ns, .bool p.pf, .string p.body] rfl rfl (by kernel_rfl) rfl (pcs_one p) ?_); intro w4 hs; have HS4 := Lib.hid hs; clear hs)
                      | (with_reducible refine wpList_loadSd (C := fun X => Star (Star (Star (Star (CellW w.heap.size #[.int .i64 d.b, .int .i64 d.s, .int .i64 d.wi, .int .i64 10, .int .i64 d.wa] 43) (TurnW (.pointer (some a0)) aj)) (Star (TurnW (.pointer (some a1)) bj.go) (SlW 9 (.slice (some ⟨bq, off, none⟩) S1 c1) S1 (plcs bj.says)))) (CellW gq #[.int .i64 (k0 : Int), .int .i64 (k : Int)] 65)) X) (Fr.r ((((CellW.stab _ _ _).star (TurnW.stab _ _)).star ((TurnW.stab _ _).star (SlW.stab _ _ _ _))).star (CellW.stab _ _ _)) Fr.id_) HS4.out rfl 37 (.tmp 17) rfl rfl _ Tryz.underlying37 rfl (by kernel_rfl) ?_)
                      | (go_at_call 37; ((with_reducible refine (TnTake_C (C := fun X => Star (Star (Star (Star (CellW w.heap.size #[.int .i64 d.b, .int .i64 d.s, .int .i64 d.wi, .int .i64 10, .int .i64 d.wa] 43) X) (Star (TurnW (.pointer (some a1)) bj.go) (SlW 9 (.slice (some ⟨bq, off, none⟩) S1 c1) S1 (plcs bj.says)))) (CellW gq #[.int .i64 (k0 : Int), .int .i64 (k : Int)] 65)) (CellW wr.heap.size #[.int .i64 p.seat, .int .i64 p.count, .bool p.cmd, .int .i64 p.kind, .int .i64 p.sort, .int .i64 p.nr, .int .i64 p.ns, .bool p.pf, .string p.body] 37)) (Fr.l (Fr.l (Fr.l (Fr.r (CellW.stab _ _ _) Fr.id_) ((TurnW.stab _ _).star (SlW.stab _ _ _ _))) (CellW.stab _ _ _)) (CellW.stab _ _ _)) (p := p) HPK.out rfl HTO.out rfl HS4.out).mono ?_); rintro e w5 ⟨rfl, hs⟩; have HS5 := Lib.hid hs; clear hs)))
                    go_roundw
                    case rel => exact ⟨j + 1, aj.take p, k0, mj, by omega, HKN1.out, by go_num, HRR.out, HN1.out, HS5.out.drop⟩
                    case measure => have := HS8.out; simp [intOf] <;> omega
                  · have HTO : Hid (true = aj.tells p) := htl.symm
                    have HRR : Hid (hearM 0 (bj.says.drop (j + 1)) (j + 1) (aj.take p) (mj + 1) = r1) := by show _ = r1; rw [← hh, hst, htl]; rfl
                    obtain ⟨m1, m2⟩ := n2 htl
                    rw [txs_len] at m1
                    rw [txs_at m1] at m2
                    have hsv : bodyM (k0 + 10) = aj.told p := by unfold TurnM.told; rw [htl, if_pos rfl, m2]
                    rw [htl] at n1
                    have HN1 : Hid (Hrs bj N N k (aj.take p) (k0 + 1) (txs 0 N)) := n1
                    have hbo : ∀ w, Calls Tryz.prog 54 #[.int .i64 ((k0 : Int) + 10)] w fun e w' => e = .returned (.string (bodyM (k0 + 10))) ∧ Below w.heap.size w w' := fun w => Body_any (k0 + 10) w
                    obtain ⟨y, hy⟩ : ∃ y, bodyM (k0 + 10) = y := ⟨_, rfl⟩
                    rw [hy] at hsv
                    simp only [hy] at hbo
                    have HBO := Lib.hid hbo
                    have HSV := Lib.hid hsv
                    clear htl hst hh n1 n2 m1 m2 hbo hsv hy
                    go_wp2_with (first
                      | (with_reducible refine wpList_load_mid rfl 37 (.tmp 81) rfl bq (off + j * 9) rfl (pcs p) _ HRG.out Tryz.underlying37 rfl (by kernel_rfl) ?_)
                      | ((with_reducible refine wpList_storeBSd (C := fun X => Star (Star (Star (Star (CellW w.heap.size #[.int .i64 d.b, .int .i64 d.s, .int .i64 d.wi, .int .i64 10, .int .i64 d.wa] 43) (TurnW (.pointer (some a0)) aj)) (Star (TurnW (.pointer (some a1)) bj.go) (SlW 9 (.slice (some ⟨bq, off, none⟩) S1 c1) S1 (plcs bj.says)))) (CellW gq #[.int .i64 (k0 : Int), .int .i64 (k : Int)] 65)) X) (Fr.r ((((CellW.stab _ _ _).star (TurnW.stab _ _)).star ((TurnW.stab _ _).star (SlW.stab _ _ _ _))).star (CellW.stab _ _ _)) Fr.id_) (HS3.out.add ((((CellW.stab _ _ _).star (TurnW.stab _ _)).star ((TurnW.stab _ _).star (SlW.stab _ _ _ _))).star (CellW.stab _ _ _)) (CellW.new wr #[.int .i64 0, .int .i64 0, .bool false, .int .i64 0, .int .i64 0, .int .i64 0, .int .i64 0, .bool false, .string ⟨#[]⟩] 37)) rfl 37 (.tmp 17) (.tmp 82) rfl #[.int .i64 p.seat, .int .i64 p.count, .bool p.cmd, .int .i64 p.kind, .int .i64 p.sort, .int .i64 p.nr, .int .i64 p.ns, .bool p.pf, .string p.body] rfl rfl (by kernel_rfl) rfl (pcs_one p) ?_); intro w4 hs; have HS4 := Lib.hid hs; clear hs)
                      | (with_reducible refine wpList_loadSd (C := fun X => Star (Star (Star (Star (CellW w.heap.size #[.int .i64 d.b, .int .i64 d.s, .int .i64 d.wi, .int .i64 10, .int .i64 d.wa] 43) (TurnW (.pointer (some a0)) aj)) (Star (TurnW (.pointer (some a1)) bj.go) (SlW 9 (.slice (some ⟨bq, off, none⟩) S1 c1) S1 (plcs bj.says)))) (CellW gq #[.int .i64 (k0 : Int), .int .i64 (k : Int)] 65)) X) (Fr.r ((((CellW.stab _ _ _).star (TurnW.stab _ _)).star ((TurnW.stab _ _).star (SlW.stab _ _ _ _))).star (CellW.stab _ _ _)) Fr.id_) HS4.out rfl 37 (.tmp 17) rfl rfl _ Tryz.underlying37 rfl (by kernel_rfl) ?_)
                      | ((with_reducible refine wpList_storeSd (C := fun X => Star (Star (Star (Star (CellW w.heap.size #[.int .i64 d.b, .int .i64 d.s, .int .i64 d.wi, .int .i64 10, .int .i64 d.wa] 43) (TurnW (.pointer (some a0)) (aj.take p))) (Star (TurnW (.pointer (some a1)) bj.go) (SlW 9 (.slice (some ⟨bq, off, none⟩) S1 c1) S1 (plcs bj.says)))) X) (CellW wr.heap.size #[.int .i64 p.seat, .int .i64 p.count, .bool p.cmd, .int .i64 p.kind, .int .i64 p.sort, .int .i64 p.nr, .int .i64 p.ns, .bool p.pf, .string p.body] 37)) (Fr.l (Fr.r (((CellW.stab _ _ _).star (TurnW.stab _ _)).star ((TurnW.stab _ _).star (SlW.stab _ _ _ _))) Fr.id_) (CellW.stab _ _ _)) HS6.out rfl 3 (.tmp 99) (.tmp 98) rfl 0 (.int .i64 ((k0 : Int) + 1)) rfl rfl (by simp) (run_storeI _ _ _) ?_); intro w7 hs; have HS7 : Hid (Sd w (Star (Star (Star (Star (CellW w.heap.size #[.int .i64 d.b, .int .i64 d.s, .int .i64 d.wi, .int .i64 10, .int .i64 d.wa] 43) (TurnW (.pointer (some a0)) (aj.take p))) (Star (TurnW (.pointer (some a1)) bj.go) (SlW 9 (.slice (some ⟨bq, off, none⟩) S1 c1) S1 (plcs bj.says)))) (CellW gq #[.int .i64 ((k0 + 1) : Int), .int .i64 (k : Int)] 65)) (CellW wr.heap.size #[.int .i64 p.seat, .int .i64 p.count, .bool p.cmd, .int .i64 p.kind, .int .i64 p.sort, .int .i64 p.nr, .int .i64 p.ns, .bool p.pf, .string p.body] 37)) w7) := (by show Sd _ _ _; exact hs); clear hs)
                      | (go_at_call 37; ((with_reducible refine (TnTake_C (C := fun X => Star (Star (Star (Star (CellW w.heap.size #[.int .i64 d.b, .int .i64 d.s, .int .i64 d.wi, .int .i64 10, .int .i64 d.wa] 43) X) (Star (TurnW (.pointer (some a1)) bj.go) (SlW 9 (.slice (some ⟨bq, off, none⟩) S1 c1) S1 (plcs bj.says)))) (CellW gq #[.int .i64 (k0 : Int), .int .i64 (k : Int)] 65)) (CellW wr.heap.size #[.int .i64 p.seat, .int .i64 p.count, .bool p.cmd, .int .i64 p.kind, .int .i64 p.sort, .int .i64 p.nr, .int .i64 p.ns, .bool p.pf, .string p.body] 37)) (Fr.l (Fr.l (Fr.l (Fr.r (CellW.stab _ _ _) Fr.id_) ((TurnW.stab _ _).star (SlW.stab _ _ _ _))) (CellW.stab _ _ _)) (CellW.stab _ _ _)) (p := p) HPK.out HSV.out HTO.out rfl HS4.out).mono ?_); rintro e w5 ⟨rfl, hs⟩; have HS5 := Lib.hid hs; have cg5 : w5.cell? ⟨gq, 0, none⟩ = some (.int .i64 (k0 : Int)) := cell_at (Sd.at_ (C := fun X => Star (Star (Star (Star (CellW w.heap.size #[.int .i64 d.b, .int .i64 d.s, .int .i64 d.wi, .int .i64 10, .int .i64 d.wa] 43) (TurnW (.pointer (some a0)) (aj.take p))) (Star (TurnW (.pointer (some a1)) bj.go) (SlW 9 (.slice (some ⟨bq, off, none⟩) S1 c1) S1 (plcs bj.says)))) X) (CellW wr.heap.size #[.int .i64 p.seat, .int .i64 p.count, .bool p.cmd, .int .i64 p.kind, .int .i64 p.sort, .int .i64 p.nr, .int .i64 p.ns, .bool p.pf, .string p.body] 37)) (Fr.l (Fr.r (((CellW.stab _ _ _).star (TurnW.stab _ _)).star ((TurnW.stab _ _).star (SlW.stab _ _ _ _))) Fr.id_) (CellW.stab _ _ _)) HS5.out) 0 _ rfl; clear hs))
                      | (go_at_call 54; ((with_reducible refine (HBO.out _).mono ?_); rintro e w6 ⟨rfl, hb⟩; have HS6 := Lib.hid (HS5.out.keep (((((CellW.stab _ _ _).star (TurnW.stab _ _)).star ((TurnW.stab _ _).star (SlW.stab _ _ _ _))).star (CellW.stab _ _ _)).star (CellW.stab _ _ _)) hb); have cg6 : w6.cell? ⟨gq, 0, none⟩ = some (.int .i64 (k0 : Int)) := cell_at (Sd.at_ (C := fun X => Star (Star (Star (Star (CellW w.heap.size #[.int .i64 d.b, .int .i64 d.s, .int .i64 d.wi, .int .i64 10, .int .i64 d.wa] 43) (TurnW (.pointer (some a0)) (aj.take p))) (Star (TurnW (.pointer (some a1)) bj.go) (SlW 9 (.slice (some ⟨bq, off, none⟩) S1 c1) S1 (plcs bj.says)))) X) (CellW wr.heap.size #[.int .i64 p.seat, .int .i64 p.count, .bool p.cmd, .int .i64 p.kind, .int .i64 p.sort, .int .i64 p.nr, .int .i64 p.ns, .bool p.pf, .string p.body] 37)) (Fr.l (Fr.r (((CellW.stab _ _ _).star (TurnW.stab _ _)).star ((TurnW.stab _ _).star (SlW.stab _ _ _ _))) Fr.id_) (CellW.stab _ _ _)) HS6.out) 0 _ rfl; clear hb)))
                    go_roundw
                    case rel => exact ⟨j + 1, aj.take p, k0 + 1, mj + 1, by omega, by rw [HKN1.out]; omega, by go_num, HRR.out, HN1.out, HS7.out.drop⟩
                    case measure => have := HS8.out; simp [intOf] <;> omega
                · have t1 : decide ((j : Int) < (S1 : Int)) = false := decide_eq_false (by omega)
                  have hR : (aj, mj) = r1 := by
                    rw [← hh, List.drop_eq_nil_of_le (by rw [← HGN.out]; omega)]
                    rfl
                  have hSD := Sd.drop_at (C := fun X => Star (Star (Star (CellW w.heap.size #[.int .i64 d.b, .int .i64 d.s, .int .i64 d.wi, .int .i64 10, .int .i64 d.wa] 43) (TurnW (.pointer (some a0)) aj)) X) (CellW gq #[.int .i64 (k0 : Int), .int .i64 (k : Int)] 65)) (Fr.l (Fr.r ((CellW.stab _ _ _).star (TurnW.stab _ _)) Fr.id_) (CellW.stab _ _ _)) hs
                  have HSD := Lib.hid hSD
                  clear hh hs hSD HS3
                  have ha1 : aj = (hearM 0 bj.says 0 A.go 0).1 := congrArg Prod.fst (hR.trans HR1E.out)
                  have hm1 : mj = (hearM 0 bj.says 0 A.go 0).2 := congrArg Prod.snd (hR.trans HR1E.out)
                  have haft : Aft A B aj bj.go N q0 q1 k0 k i (txs 0 N) (txs 10 N) := by
                    have h := HSW.out.round (by omega)
                    have e1 : rdB A B = bj := HB1.out.symm
                    have e2 : rdb A B = nj := HN1B.out.symm
                    have e3 : rdA A B = aj := by unfold rdA; rw [e1]; exact ha1.symm
                    have e4 : rda A B = mj := by unfold rda; rw [e1]; exact hm1.symm
                    rw [e1, e2, e3, e4, ← HKN0.out, ← HKN1.out] at h
                    exact h
                  have hmA := haft.mA
                  have hmB := haft.mB
                  have HMA : Hid (true = aj.mine) := hmA.symm
                  have HMB : Hid (false = bj.go.mine) := hmB.symm
                  have hrl := role_of haft.roles
                  clear hR ha1 hm1 hmA hmB HB1 HN1B HR0E HR1E
                  by_cases h0 : i = 0
                  · have hA1 := (HSW.out.n0 h0).1
                    have hra : aj.role = 1 := by rw [haft.role, hA1]
                    have hrb : bj.go.role = 2 := hrl.1 hra
                    have HRA : Hid ((1 : Int) = aj.role) := hra.symm
                    have HRA2 : Hid ((2 : Int) = aj.swap.role) := by show (2 : Int) = 3 - aj.role; omega
                    have HRB2 : Hid ((1 : Int) = bj.go.swap.role) := by show (1 : Int) = 3 - bj.go.role; omega
                    have HMA2 : Hid (false = aj.swap.mine) := by show false = decide (aj.role = 2); rw [hra]; rfl
                    have HNX : Hid (Swp aj.swap bj.go.swap N k0 k (i + 1) (txs 0 N) (txs 10 N)) := by
                      show Swp _ _ _ _ _ _ _ _
                      have h1 := HSW.out
                      subst h0
                      exact haft.swap h1
                    have t3 : (i : Int) % 3 = 0 := by omega
                    clear haft hrl hA1 hra hrb h0
                    go_wp2_with (first
                      | (go_at_call 44; first
                        | ((with_reducible refine (TnRole_C (C := fun X => Star (Star (Star (CellW w.heap.size #[.int .i64 d.b, .int .i64 d.s, .int .i64 d.wi, .int .i64 10, .int .i64 d.wa] 43) X) (TurnW (.pointer (some a1)) bj.go)) (CellW gq #[.int .i64 (k0 : Int), .int .i64 (k : Int)] 65)) (Fr.l (Fr.l (Fr.r (CellW.stab _ _ _) Fr.id_) (TurnW.stab _ _)) (CellW.stab _ _ _)) ((((CellW.stab _ _ _).star (TurnW.stab _ _)).star (TurnW.stab _ _)).star (CellW.stab _ _ _)) HRA.out HSD.out).mono ?_); rintro e w1 ⟨rfl, hs⟩; have HS1 := Lib.hid hs; clear hs)
                        | ((with_reducible refine (TnRole_C (C := fun X => Star (Star (Star (CellW w.heap.size #[.int .i64 d.b, .int .i64 d.s, .int .i64 d.wi, .int .i64 10, .int .i64 d.wa] 43) X) (TurnW (.pointer (some a1)) bj.go.swap)) (CellW gq #[.int .i64 (k0 : Int), .int .i64 (k : Int)] 65)) (Fr.l (Fr.l (Fr.r (CellW.stab _ _ _) Fr.id_) (TurnW.stab _ _)) (CellW.stab _ _ _)) ((((CellW.stab _ _ _).star (TurnW.stab _ _)).star (TurnW.stab _ _)).star (CellW.stab _ _ _)) HRA2.out HS4.out).mono ?_); rintro e w5 ⟨rfl, hs⟩; have HS5 := Lib.hid hs; clear hs)
                        | ((with_reducible refine (TnRole_C (C := fun X => Star (Star (Star (CellW w.heap.size #[.int .i64 d.b, .int .i64 d.s, .int .i64 d.wi, .int .i64 10, .int .i64 d.wa] 43) (TurnW (.pointer (some a0)) aj.swap)) X) (CellW gq #[.int .i64 (k0 : Int), .int .i64 (k : Int)] 65)) (Fr.l (Fr.r ((CellW.stab _ _ _).star (TurnW.stab _ _)) Fr.id_) (CellW.stab _ _ _)) ((((CellW.stab _ _ _).star (TurnW.stab _ _)).star (TurnW.stab _ _)).star (CellW.stab _ _ _)) HRB2.out HS5.out).mono ?_); rintro e w6 ⟨rfl, hs⟩; have HS6 := Lib.hid hs; clear hs))
                      | (go_at_call 43; first
                        | ((with_reducible refine (TnMine_C (C := fun X => Star (Star (Star (CellW w.heap.size #[.int .i64 d.b, .int .i64 d.s, .int .i64 d.wi, .int .i64 10, .int .i64 d.wa] 43) X) (TurnW (.pointer (some a1)) bj.go)) (CellW gq #[.int .i64 (k0 : Int), .int .i64 (k : Int)] 65)) (Fr.l (Fr.l (Fr.r (CellW.stab _ _ _) Fr.id_) (TurnW.stab _ _)) (CellW.stab _ _ _)) ((((CellW.stab _ _ _).star (TurnW.stab _ _)).star (TurnW.stab _ _)).star (CellW.stab _ _ _)) HMA.out HS1.out).mono ?_); rintro e w2 ⟨rfl, hs⟩; have HS2 := Lib.hid hs; clear hs)
                        | ((with_reducible refine (TnMine_C (C := fun X => Star (Star (Star (CellW w.heap.size #[.int .i64 d.b, .int .i64 d.s, .int .i64 d.wi, .int .i64 10, .int .i64 d.wa] 43) X) (TurnW (.pointer (some a1)) bj.go.swap)) (CellW gq #[.int .i64 (k0 : Int), .int .i64 (k : Int)] 65)) (Fr.l (Fr.l (Fr.r (CellW.stab _ _ _) Fr.id_) (TurnW.stab _ _)) (CellW.stab _ _ _)) ((((CellW.stab _ _ _).star (TurnW.stab _ _)).star (TurnW.stab _ _)).star (CellW.stab _ _ _)) HMA2.out HS6.out).mono ?_); rintro e w7 ⟨rfl, hs⟩; have HS7 := Lib.hid hs; clear hs))
                      | (go_at_call 41; first
                        | ((with_reducible refine (TnSwap_C (C := fun X => Star (Star (Star (CellW w.heap.size #[.int .i64 d.b, .int .i64 d.s, .int .i64 d.wi, .int .i64 10, .int .i64 d.wa] 43) X) (TurnW (.pointer (some a1)) bj.go)) (CellW gq #[.int .i64 (k0 : Int), .int .i64 (k : Int)] 65)) (Fr.l (Fr.l (Fr.r (CellW.stab _ _ _) Fr.id_) (TurnW.stab _ _)) (CellW.stab _ _ _)) rfl HS2.out).mono ?_); rintro e w3 ⟨rfl, hs⟩; have HS3 := Lib.hid hs; clear hs)
                        | ((with_reducible refine (TnSwap_C (C := fun X => Star (Star (Star (CellW w.heap.size #[.int .i64 d.b, .int .i64 d.s, .int .i64 d.wi, .int .i64 10, .int .i64 d.wa] 43) (TurnW (.pointer (some a0)) aj.swap)) X) (CellW gq #[.int .i64 (k0 : Int), .int .i64 (k : Int)] 65)) (Fr.l (Fr.r ((CellW.stab _ _ _).star (TurnW.stab _ _)) Fr.id_) (CellW.stab _ _ _)) rfl HS3.out).mono ?_); rintro e w4 ⟨rfl, hs⟩; have HS4 := Lib.hid hs; clear hs)))
                    go_roundw
                    case rel => exact ⟨i + 1, _, _, _, _, by omega, by go_num, HNX.out, HS7.out⟩
                    case measure => simp [intOf] <;> omega
                  · have hnx := haft.next HSW.out (by omega)
                    have hra : aj.role = 2 := (hnx.n2 (by omega)).1
                    have hrb : bj.go.role = 1 := hrl.2 hra
                    have HRA : Hid ((2 : Int) = aj.role) := hra.symm
                    have HRB : Hid ((1 : Int) = bj.go.role) := hrb.symm
                    have HNX := Lib.hid hnx
                    clear haft hrl hra hrb hnx h0
                    by_cases t3 : (i : Int) % 3 = 0
                    · go_wp2_with (first
                        | (go_at_call 44; first
                          | ((with_reducible refine (TnRole_C (C := fun X => Star (Star (Star (CellW w.heap.size #[.int .i64 d.b, .int .i64 d.s, .int .i64 d.wi, .int .i64 10, .int .i64 d.wa] 43) X) (TurnW (.pointer (some a1)) bj.go)) (CellW gq #[.int .i64 (k0 : Int), .int .i64 (k : Int)] 65)) (Fr.l (Fr.l (Fr.r (CellW.stab _ _ _) Fr.id_) (TurnW.stab _ _)) (CellW.stab _ _ _)) ((((CellW.stab _ _ _).star (TurnW.stab _ _)).star (TurnW.stab _ _)).star (CellW.stab _ _ _)) HRA.out HSD.out).mono ?_); rintro e w1 ⟨rfl, hs⟩; have HS1 := Lib.hid hs; clear hs)
                          | ((with_reducible refine (TnRole_C (C := fun X => Star (Star (Star (CellW w.heap.size #[.int .i64 d.b, .int .i64 d.s, .int .i64 d.wi, .int .i64 10, .int .i64 d.wa] 43) (TurnW (.pointer (some a0)) aj)) X) (CellW gq #[.int .i64 (k0 : Int), .int .i64 (k : Int)] 65)) (Fr.l (Fr.r ((CellW.stab _ _ _).star (TurnW.stab _ _)) Fr.id_) (CellW.stab _ _ _)) ((((CellW.stab _ _ _).star (TurnW.stab _ _)).star (TurnW.stab _ _)).star (CellW.stab _ _ _)) HRB.out HS1.out).mono ?_); rintro e w2 ⟨rfl, hs⟩; have HS2 := Lib.hid hs; clear hs)
                          | ((with_reducible refine (TnRole_C (C := fun X => Star (Star (Star (CellW w.heap.size #[.int .i64 d.b, .int .i64 d.s, .int .i64 d.wi, .int .i64 10, .int .i64 d.wa] 43) X) (TurnW (.pointer (some a1)) bj.go)) (CellW gq #[.int .i64 (k0 : Int), .int .i64 (k : Int)] 65)) (Fr.l (Fr.l (Fr.r (CellW.stab _ _ _) Fr.id_) (TurnW.stab _ _)) (CellW.stab _ _ _)) ((((CellW.stab _ _ _).star (TurnW.stab _ _)).star (TurnW.stab _ _)).star (CellW.stab _ _ _)) HRA.out HS3.out).mono ?_); rintro e w4 ⟨rfl, hs⟩; have HS4 := Lib.hid hs; clear hs)
                          | ((with_reducible refine (TnRole_C (C := fun X => Star (Star (Star (CellW w.heap.size #[.int .i64 d.b, .int .i64 d.s, .int .i64 d.wi, .int .i64 10, .int .i64 d.wa] 43) (TurnW (.pointer (some a0)) aj)) X) (CellW gq #[.int .i64 (k0 : Int), .int .i64 (k : Int)] 65)) (Fr.l (Fr.r ((CellW.stab _ _ _).star (TurnW.stab _ _)) Fr.id_) (CellW.stab _ _ _)) ((((CellW.stab _ _ _).star (TurnW.stab _ _)).star (TurnW.stab _ _)).star (CellW.stab _ _ _)) HRB.out HS4.out).mono ?_); rintro e w5 ⟨rfl, hs⟩; have HS5 := Lib.hid hs; clear hs))
                        | (go_at_call 43; first
                          | ((with_reducible refine (TnMine_C (C := fun X => Star (Star (Star (CellW w.heap.size #[.int .i64 d.b, .int .i64 d.s, .int .i64 d.wi, .int .i64 10, .int .i64 d.wa] 43) (TurnW (.pointer (some a0)) aj)) X) (CellW gq #[.int .i64 (k0 : Int), .int .i64 (k : Int)] 65)) (Fr.l (Fr.r ((CellW.stab _ _ _).star (TurnW.stab _ _)) Fr.id_) (CellW.stab _ _ _)) ((((CellW.stab _ _ _).star (TurnW.stab _ _)).star (TurnW.stab _ _)).star (CellW.stab _ _ _)) HMB.out HS2.out).mono ?_); rintro e w3 ⟨rfl, hs⟩; have HS3 := Lib.hid hs; clear hs)
                          | ((with_reducible refine (TnMine_C (C := fun X => Star (Star (Star (CellW w.heap.size #[.int .i64 d.b, .int .i64 d.s, .int .i64 d.wi, .int .i64 10, .int .i64 d.wa] 43) X) (TurnW (.pointer (some a1)) bj.go)) (CellW gq #[.int .i64 (k0 : Int), .int .i64 (k : Int)] 65)) (Fr.l (Fr.l (Fr.r (CellW.stab _ _ _) Fr.id_) (TurnW.stab _ _)) (CellW.stab _ _ _)) ((((CellW.stab _ _ _).star (TurnW.stab _ _)).star (TurnW.stab _ _)).star (CellW.stab _ _ _)) HMA.out HS5.out).mono ?_); rintro e w6 ⟨rfl, hs⟩; have HS6 := Lib.hid hs; clear hs)
                          | ((with_reducible refine (TnMine_C (C := fun X => Star (Star (Star (CellW w.heap.size #[.int .i64 d.b, .int .i64 d.s, .int .i64 d.wi, .int .i64 10, .int .i64 d.wa] 43) (TurnW (.pointer (some a0)) aj)) X) (CellW gq #[.int .i64 (k0 : Int), .int .i64 (k : Int)] 65)) (Fr.l (Fr.r ((CellW.stab _ _ _).star (TurnW.stab _ _)) Fr.id_) (CellW.stab _ _ _)) ((((CellW.stab _ _ _).star (TurnW.stab _ _)).star (TurnW.stab _ _)).star (CellW.stab _ _ _)) HMB.out HS6.out).mono ?_); rintro e w7 ⟨rfl, hs⟩; have HS7 := Lib.hid hs; clear hs)))
                      go_roundw
                      case rel => exact ⟨i + 1, _, _, _, _, by omega, by go_num, HNX.out, HS7.out⟩
                      case measure => simp [intOf] <;> omega
                    · go_wp2_with (first
                        | (go_at_call 44; first
                          | ((with_reducible refine (TnRole_C (C := fun X => Star (Star (Star (CellW w.heap.size #[.int .i64 d.b, .int .i64 d.s, .int .i64 d.wi, .int .i64 10, .int .i64 d.wa] 43) X) (TurnW (.pointer (some a1)) bj.go)) (CellW gq #[.int .i64 (k0 : Int), .int .i64 (k : Int)] 65)) (Fr.l (Fr.l (Fr.r (CellW.stab _ _ _) Fr.id_) (TurnW.stab _ _)) (CellW.stab _ _ _)) ((((CellW.stab _ _ _).star (TurnW.stab _ _)).star (TurnW.stab _ _)).star (CellW.stab _ _ _)) HRA.out HSD.out).mono ?_); rintro e w1 ⟨rfl, hs⟩; have HS1 := Lib.hid hs; clear hs)
                          | ((with_reducible refine (TnRole_C (C := fun X => Star (Star (Star (CellW w.heap.size #[.int .i64 d.b, .int .i64 d.s, .int .i64 d.wi, .int .i64 10, .int .i64 d.wa] 43) (TurnW (.pointer (some a0)) aj)) X) (CellW gq #[.int .i64 (k0 : Int), .int .i64 (k : Int)] 65)) (Fr.l (Fr.r ((CellW.stab _ _ _).star (TurnW.stab _ _)) Fr.id_) (CellW.stab _ _ _)) ((((CellW.stab _ _ _).star (TurnW.stab _ _)).star (TurnW.stab _ _)).star (CellW.stab _ _ _)) HRB.out HS1.out).mono ?_); rintro e w2 ⟨rfl, hs⟩; have HS2 := Lib.hid hs; clear hs))
                        | (go_at_call 43; first
                          | ((with_reducible refine (TnMine_C (C := fun X => Star (Star (Star (CellW w.heap.size #[.int .i64 d.b, .int .i64 d.s, .int .i64 d.wi, .int .i64 10, .int .i64 d.wa] 43) X) (TurnW (.pointer (some a1)) bj.go)) (CellW gq #[.int .i64 (k0 : Int), .int .i64 (k : Int)] 65)) (Fr.l (Fr.l (Fr.r (CellW.stab _ _ _) Fr.id_) (TurnW.stab _ _)) (CellW.stab _ _ _)) ((((CellW.stab _ _ _).star (TurnW.stab _ _)).star (TurnW.stab _ _)).star (CellW.stab _ _ _)) HMA.out HS2.out).mono ?_); rintro e w3 ⟨rfl, hs⟩; have HS3 := Lib.hid hs; clear hs)
                          | ((with_reducible refine (TnMine_C (C := fun X => Star (Star (Star (CellW w.heap.size #[.int .i64 d.b, .int .i64 d.s, .int .i64 d.wi, .int .i64 10, .int .i64 d.wa] 43) (TurnW (.pointer (some a0)) aj)) X) (CellW gq #[.int .i64 (k0 : Int), .int .i64 (k : Int)] 65)) (Fr.l (Fr.r ((CellW.stab _ _ _).star (TurnW.stab _ _)) Fr.id_) (CellW.stab _ _ _)) ((((CellW.stab _ _ _).star (TurnW.stab _ _)).star (TurnW.stab _ _)).star (CellW.stab _ _ _)) HMB.out HS3.out).mono ?_); rintro e w4 ⟨rfl, hs⟩; have HS4 := Lib.hid hs; clear hs)))
                      go_roundw
                      case rel => exact ⟨i + 1, _, _, _, _, by omega, by go_num, HNX.out, HS4.out⟩
                      case measure => simp [intOf] <;> omega
        · have t0 : decide ((i : Int) < 30) = false := decide_eq_false (by omega)
          obtain ⟨z1, z2, z3, z4⟩ := hsw.done (by omega)
          have hz : Sd w (Star (Star (Star (CellW w.heap.size #[.int .i64 d.b, .int .i64 d.s, .int .i64 d.wi, .int .i64 10, .int .i64 d.wa] 43) (TurnW (.pointer (some a0)) A)) (TurnW (.pointer (some a1)) B)) (CellW gq #[.int .i64 (N : Int), .int .i64 (N : Int)] 65)) wr := by have h := HS0.out; rw [z1, z2] at h; exact h
          have HSZ := Lib.hid hz
          have c0 : wr.cell? ⟨gq, 0, none⟩ = some (.int .i64 (N : Int)) := cell_at (Sd.at_ (C := fun X => Star (Star (Star (CellW w.heap.size #[.int .i64 d.b, .int .i64 d.s, .int .i64 d.wi, .int .i64 10, .int .i64 d.wa] 43) (TurnW (.pointer (some a0)) A)) (TurnW (.pointer (some a1)) B)) X) (Fr.r (((CellW.stab _ _ _).star (TurnW.stab _ _)).star (TurnW.stab _ _)) Fr.id_) hz) 0 _ rfl
          have c1 : wr.cell? ⟨gq, 1, none⟩ = some (.int .i64 (N : Int)) := cell_at (Sd.at_ (C := fun X => Star (Star (Star (CellW w.heap.size #[.int .i64 d.b, .int .i64 d.s, .int .i64 d.wi, .int .i64 10, .int .i64 d.wa] 43) (TurnW (.pointer (some a0)) A)) (TurnW (.pointer (some a1)) B)) X) (Fr.r (((CellW.stab _ _ _).star (TurnW.stab _ _)).star (TurnW.stab _ _)) Fr.id_) hz) 1 _ rfl
          have HLA : Hid ((0 : Int) = (A.left : Int)) := by show (0 : Int) = _; rw [z3]; rfl
          have HLB : Hid ((0 : Int) = (B.left : Int)) := by show (0 : Int) = _; rw [z4]; rfl
          clear hz hsw HSW z1 z2 z3 z4 HS0
          go_wp2_with (first
            | (go_at_call 45; first
              | ((with_reducible refine (TnLeft_C (C := fun X => Star (Star (Star (CellW w.heap.size #[.int .i64 d.b, .int .i64 d.s, .int .i64 d.wi, .int .i64 10, .int .i64 d.wa] 43) X) (TurnW (.pointer (some a1)) B)) (CellW gq #[.int .i64 (N : Int), .int .i64 (N : Int)] 65)) (Fr.l (Fr.l (Fr.r (CellW.stab _ _ _) Fr.id_) (TurnW.stab _ _)) (CellW.stab _ _ _)) ((((CellW.stab _ _ _).star (TurnW.stab _ _)).star (TurnW.stab _ _)).star (CellW.stab _ _ _)) HLA.out HSZ.out).mono ?_); rintro e w1 ⟨rfl, hs⟩; have HS1 := Lib.hid hs; clear hs)
              | ((with_reducible refine (TnLeft_C (C := fun X => Star (Star (Star (CellW w.heap.size #[.int .i64 d.b, .int .i64 d.s, .int .i64 d.wi, .int .i64 10, .int .i64 d.wa] 43) (TurnW (.pointer (some a0)) A)) X) (CellW gq #[.int .i64 (N : Int), .int .i64 (N : Int)] 65)) (Fr.l (Fr.r ((CellW.stab _ _ _).star (TurnW.stab _ _)) Fr.id_) (CellW.stab _ _ _)) ((((CellW.stab _ _ _).star (TurnW.stab _ _)).star (TurnW.stab _ _)).star (CellW.stab _ _ _)) HLB.out HS1.out).mono ?_); rintro e w2 ⟨rfl, hs⟩; have HS2 := Lib.hid hs; clear hs)))
          go_ret
          exact ⟨rfl, HS2.out.bel0⟩
end Go.Proofs.YtocjhpaackccpaaGreatDoor
