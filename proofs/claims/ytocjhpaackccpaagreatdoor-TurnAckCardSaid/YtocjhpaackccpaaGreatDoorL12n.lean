/- The law TurnAck. -/
import Derived.Test.YtocjhpaackccpaaGreatDoorN12D

set_option linter.all false

namespace Go.Proofs.YtocjhpaackccpaaGreatDoor
open Go.RowKit M

set_option maxRecDepth 100000 in
set_option maxHeartbeats 16000000 in
theorem TurnAck_law (d : De5In) (n nr : Int) (kind : Bool) (w : World) (hd : d.ok) (hC : Codes w) : Calls Tryz.prog 15 #[d.val, .int .i64 n, .int .i64 nr, .bool kind] w fun e w' => e = .returned (.bool true) ∧ Below w.heap.size w w' := by
  have HC := Lib.hid hC
  have HDW := Lib.hid hd.2.2.1
  clear hC hd
  obtain ⟨W, hW⟩ : ∃ W : Nat, (max 1 (min d.wi 7)).toNat = W := ⟨_, rfl⟩
  have HW : Hid (1 ≤ W ∧ W ≤ 7) := by show _ ∧ _; omega
  have HNEW := Lib.hid (bodT_new hW).symm
  clear hW
  have a1_N := Int.lt_tmod_of_pos n (show (0 : Int) < 9 by decide)
  have a2_N := Int.tmod_lt_of_pos n (show (0 : Int) < 9 by decide)
  obtain ⟨t_N, ht_N⟩ : ∃ t, n.tmod 9 = t := ⟨_, rfl⟩
  rw [ht_N] at a1_N a2_N
  have e1_N : IntKind.i64.wrap t_N = t_N := IntWalk.i64_in _ (by omega)
  have e2_N : IntKind.i64.wrap (t_N + 9) = t_N + 9 := IntWalk.i64_in _ (by omega)
  obtain ⟨N, h_N⟩ : ∃ q : Nat, t_N % 9 = (q : Int) := ⟨(t_N % 9).toNat, by omega⟩
  have e3_N : (t_N + 9).tmod 9 = (N : Int) := by rw [Int.tmod_eq_emod_of_nonneg (by omega)]; omega
  have e4_N : IntKind.i64.wrap (N : Int) = (N : Int) := IntWalk.i64_in _ (by omega)
  have b_N : N < 9 := by omega
  clear a1_N a2_N
  have HS0 : Hid (Sd w (CellW w.heap.size #[.int .i64 d.b, .int .i64 d.s, .int .i64 d.wi, .int .i64 d.z, .int .i64 d.wa] 43) (w.alloc (.cells #[.int .i64 d.b, .int .i64 d.s, .int .i64 d.wi, .int .i64 d.z, .int .i64 d.wa] 43))) := by show Sd _ _ _; exact Sd.first (Below.refl _ _) (CellW.new w _ _)
  go_enter Tryz.func15, Tryz.ntmps15
  go_wp2_with (first
    | ((with_reducible refine wpList_storeSd (C := fun X => X) Fr.id_ HS1.out rfl 3 (.tmp 26) (.const (.int .i64 8)) rfl 3 (.int .i64 8) rfl rfl (by simp) (run_storeI 8 _ _) ?_); intro w2 hs; have HS2 : Hid (Sd w (CellW w.heap.size #[.int .i64 d.b, .int .i64 d.s, .int .i64 d.wi, .int .i64 8, .int .i64 d.wa] 43) w2) := (by show Sd _ _ _; exact hs); clear hs)
    | (with_reducible refine wpList_loadSd (C := fun X => X) Fr.id_ HS2.out rfl 43 (.tmp 4) rfl rfl _ Tryz.underlying43 rfl (by kernel_rfl) ?_)
    | (go_at_call 17; ((with_reducible refine (calls_keep (CellW.stab _ _ _) HS0.out (begun12_any _ (HC.out.below HS0.out.bel0))).mono ?_); rintro e w1 ⟨rfl, hs⟩; have HS1 := Lib.hid hs; clear hs))
    | (go_at_call 28; ((with_reducible refine (TnNew_add (m := (bodT true W 0 0 0)) (CellW.stab _ _ _) (.inl rfl) HDW.out (by decide) HNEW.out HS2.out).mono ?_); rintro e w3 ⟨a, rfl, hs⟩; have HS3 := Lib.hid hs; clear hs)))
  go_loopw [11] (fun iv wr => ∃ i : Nat, i ≤ N ∧ iv = .int .i64 (i : Int) ∧ Sd w (Star (CellW w.heap.size #[.int .i64 d.b, .int .i64 d.s, .int .i64 d.wi, .int .i64 8, .int .i64 d.wa] 43) (TurnW (.pointer (some a)) (bodT true W i 0 0))) wr) (fun iv _ => (9 - intOf iv).toNat)
  case atStart => exact ⟨0, by omega, rfl, HS3.out⟩
  case round =>
    clear HS0 HS1 HS2 HS3
    obtain ⟨i, hiN, rfl, hs⟩ := hrel
    have HS3 := Lib.hid hs
    clear hs
    by_cases hlt : i < N
    · have t1 : decide ((i : Int) < (N : Int)) = true := decide_eq_true (by omega)
      have e5 : IntKind.i64.wrap ((i : Int) + 1) = (i : Int) + 1 := IntWalk.i64_in _ (by omega)
      obtain ⟨k1, k2⟩ := bodT_put (W := W) (n := i) (mine := true) (by omega)
      have HPM := Lib.hid k1
      have HPE := Lib.hid k2
      have HBO := Lib.hid (Body_any i)
      have HBZ : Hid ((bodyM i).size ≤ maxLen) := by show (1 : Nat) ≤ maxLen; unfold maxLen; decide
      clear k1 k2
      generalize bodyM i = bi at HBO HPM HPE HBZ
      go_wp2_with (first
        | (go_at_call 54; ((with_reducible refine (HBO.out _).mono ?_); rintro e w4 ⟨rfl, hb⟩; have HS4 := Lib.hid (HS3.out.keep ((CellW.stab _ _ _).star (TurnW.stab _ _)) hb); clear hb))
        | (go_at_call 31; ((with_reducible refine (TnPut_C (C := fun X => Star (CellW w.heap.size #[.int .i64 d.b, .int .i64 d.s, .int .i64 d.wi, .int .i64 8, .int .i64 d.wa] 43) X) (Fr.r (CellW.stab _ _ _) Fr.id_) HBZ.out HPE.out HPM.out HS4.out).mono ?_); rintro e w5 ⟨rfl, hs⟩; have HS5 := Lib.hid hs; clear hs)))
      go_roundw
      case rel => exact ⟨i + 1, by omega, by go_num, HS5.out⟩
      case measure => simp [intOf] <;> omega
    · have t1 : decide ((i : Int) < (N : Int)) = false := decide_eq_false (by omega)
      obtain rfl : i = N := by omega
      have hw := HW.out
      obtain ⟨K, hK⟩ : ∃ K, K = min W i := ⟨_, rfl⟩
      obtain ⟨k1, k2⟩ := bodT_says (W := W) (n := i) hK
      have HGM := Lib.hid (bodT_go (W := W) (n := i) hK)
      have HSY := Lib.hid k2
      obtain ⟨S, hS⟩ : ∃ S, S = saidN K := ⟨_, rfl⟩
      rw [← hS] at k1
      have HGN := Lib.hid k1
      have HGX : Hid ((plcs (bodT true W i 0 0).says) = plcs (bodT true W i 0 0).says) := by show _; rfl
      have HKW : Hid (K ≤ 7 ∧ K ≤ i) := by show _ ∧ _; omega
      have HSD : Hid (S = saidN K) := hS
      have HS8 : Hid (S ≤ 7) := by show S ≤ 7; rw [hS]; unfold saidN; split <;> omega
      clear k1 k2 hK hS hw
      go_wp2_with (first
        | (go_at_call 34; ((with_reducible refine (TnGo_C (C := fun X => Star (CellW w.heap.size #[.int .i64 d.b, .int .i64 d.s, .int .i64 d.wi, .int .i64 8, .int .i64 d.wa] 43) X) (Fr.r (CellW.stab _ _ _) Fr.id_) HGN.out rfl HGM.out HS3.out).mono ?_); rintro e w4 ⟨A, c, rfl, hc, hs⟩; have HS4 := Lib.hid hs; clear hs)))
      go_loopw [12, 41] (fun sv jv wr => ∃ j s : Nat, j ≤ S ∧ jv = .int .i64 (j : Int) ∧ s = (if K = 0 then 0 else j) ∧ sv = .int .i64 (s : Int) ∧ Sd w (Star (CellW w.heap.size #[.int .i64 d.b, .int .i64 d.s, .int .i64 d.wi, .int .i64 8, .int .i64 d.wa] 43) (Star (TurnW (.pointer (some a)) (bodT false W i 0 K)) (SlW 9 (.slice A S c) S (plcs (bodT true W i 0 0).says)))) wr) (fun _ jv _ => (9 - intOf jv).toNat)
      case atStart => exact ⟨0, 0, by omega, rfl, by simp, rfl, HS4.out⟩
      case round =>
        clear HS3 HS4
        obtain ⟨j, s, hjS, rfl, hs', rfl, hs⟩ := hrel
        have HS3 := Lib.hid hs
        have hs8 := HS8.out
        by_cases hlt2 : j < S
        · have t2 : decide ((j : Int) < (S : Int)) = true := decide_eq_true (by omega)
          have t3 : (j : Int) < (S : Int) := by omega
          have e5 : IntKind.i64.wrap ((j : Int) + 1) = (j : Int) + 1 := IntWalk.i64_in _ (by omega)
          have hsj : s ≤ j := by rw [hs']; split <;> omega
          have e6 : IntKind.i64.wrap ((s : Int) + 1) = (s : Int) + 1 := IntWalk.i64_in _ (by omega)
          obtain ⟨_, g1⟩ := hs.get (C := fun X => Star (CellW w.heap.size #[.int .i64 d.b, .int .i64 d.s, .int .i64 d.wi, .int .i64 8, .int .i64 d.wa] 43) (Star (TurnW (.pointer (some a)) (bodT false W i 0 K)) X)) (Fr.r (CellW.stab _ _ _) (Fr.r (TurnW.stab _ _) Fr.id_))
          obtain ⟨b, off, rfl⟩ := g1.addr0 (by omega)
          obtain ⟨p, hp1, hp2⟩ := HSY.out j (by rw [← HSD.out]; exact hlt2)
          have HRG := Lib.hid (g1.plain hp1)
          clear g1 hs hs8 hsj hp1
          by_cases h0 : K = 0
          · rw [if_pos h0] at hp2 hs'
            have HSS : Hid (s = (if K = 0 then 0 else j + 1)) := by show s = _; rw [if_pos h0, hs']
            have hk1 : (p.kind == 1) = false := by rw [hp2]; rfl
            clear hp2 hs' h0
            go_wp2_with (first
              | (with_reducible refine wpList_load_mid rfl 37 (.tmp 43) rfl b (off + j * 9) rfl (pcs p) _ HRG.out Tryz.underlying37 rfl (by kernel_rfl) ?_)
              | ((with_reducible refine wpList_storeBSd (C := fun X => Star (Star (CellW w.heap.size #[.int .i64 d.b, .int .i64 d.s, .int .i64 d.wi, .int .i64 8, .int .i64 d.wa] 43) (Star (TurnW (.pointer (some a)) (bodT false W i 0 K)) (SlW 9 (.slice (some ⟨b, off, none⟩) S c) S (plcs (bodT true W i 0 0).says)))) X) (Fr.r ((CellW.stab _ _ _).star ((TurnW.stab _ _).star (SlW.stab _ _ _ _))) Fr.id_) (HS3.out.add ((CellW.stab _ _ _).star ((TurnW.stab _ _).star (SlW.stab _ _ _ _))) (CellW.new wr #[.int .i64 0, .int .i64 0, .bool false, .int .i64 0, .int .i64 0, .int .i64 0, .int .i64 0, .bool false, .string ⟨#[]⟩] 37)) rfl 37 (.tmp 14) (.tmp 44) rfl #[.int .i64 p.seat, .int .i64 p.count, .bool p.cmd, .int .i64 p.kind, .int .i64 p.sort, .int .i64 p.nr, .int .i64 p.ns, .bool p.pf, .string p.body] rfl rfl (by kernel_rfl) rfl (pcs_one p) ?_); intro w4 hs; have HS4 := Lib.hid hs; have ck : w4.cell? ⟨wr.heap.size, 3, none⟩ = some (.int .i64 p.kind) := cell_at (Sd.at_ (C := fun X => Star (Star (CellW w.heap.size #[.int .i64 d.b, .int .i64 d.s, .int .i64 d.wi, .int .i64 8, .int .i64 d.wa] 43) (Star (TurnW (.pointer (some a)) (bodT false W i 0 K)) (SlW 9 (.slice (some ⟨b, off, none⟩) S c) S (plcs (bodT true W i 0 0).says)))) X) (Fr.r ((CellW.stab _ _ _).star ((TurnW.stab _ _).star (SlW.stab _ _ _ _))) Fr.id_) hs) 3 _ rfl; clear hs))
            go_roundw
            case rel => exact ⟨j + 1, s, by omega, by go_num, HSS.out, rfl, HS4.out.drop⟩
            case measure => have := HS8.out; simp [intOf] <;> omega
          · rw [if_neg h0] at hp2 hs'
            have HSS : Hid (s + 1 = (if K = 0 then 0 else j + 1)) := by show s + 1 = _; rw [if_neg h0, hs']
            have hk1 : (p.kind == 1) = true := by rw [hp2]; rfl
            clear hp2 hs' h0
            go_wp2_with (first
              | (with_reducible refine wpList_load_mid rfl 37 (.tmp 43) rfl b (off + j * 9) rfl (pcs p) _ HRG.out Tryz.underlying37 rfl (by kernel_rfl) ?_)
              | ((with_reducible refine wpList_storeBSd (C := fun X => Star (Star (CellW w.heap.size #[.int .i64 d.b, .int .i64 d.s, .int .i64 d.wi, .int .i64 8, .int .i64 d.wa] 43) (Star (TurnW (.pointer (some a)) (bodT false W i 0 K)) (SlW 9 (.slice (some ⟨b, off, none⟩) S c) S (plcs (bodT true W i 0 0).says)))) X) (Fr.r ((CellW.stab _ _ _).star ((TurnW.stab _ _).star (SlW.stab _ _ _ _))) Fr.id_) (HS3.out.add ((CellW.stab _ _ _).star ((TurnW.stab _ _).star (SlW.stab _ _ _ _))) (CellW.new wr #[.int .i64 0, .int .i64 0, .bool false, .int .i64 0, .int .i64 0, .int .i64 0, .int .i64 0, .bool false, .string ⟨#[]⟩] 37)) rfl 37 (.tmp 14) (.tmp 44) rfl #[.int .i64 p.seat, .int .i64 p.count, .bool p.cmd, .int .i64 p.kind, .int .i64 p.sort, .int .i64 p.nr, .int .i64 p.ns, .bool p.pf, .string p.body] rfl rfl (by kernel_rfl) rfl (pcs_one p) ?_); intro w4 hs; have HS4 := Lib.hid hs; have ck : w4.cell? ⟨wr.heap.size, 3, none⟩ = some (.int .i64 p.kind) := cell_at (Sd.at_ (C := fun X => Star (Star (CellW w.heap.size #[.int .i64 d.b, .int .i64 d.s, .int .i64 d.wi, .int .i64 8, .int .i64 d.wa] 43) (Star (TurnW (.pointer (some a)) (bodT false W i 0 K)) (SlW 9 (.slice (some ⟨b, off, none⟩) S c) S (plcs (bodT true W i 0 0).says)))) X) (Fr.r ((CellW.stab _ _ _).star ((TurnW.stab _ _).star (SlW.stab _ _ _ _))) Fr.id_) hs) 3 _ rfl; clear hs))
            go_roundw
            case rel => exact ⟨j + 1, s + 1, by omega, by go_num, HSS.out, by go_num, HS4.out.drop⟩
            case measure => have := HS8.out; simp [intOf] <;> omega
        · have t2 : decide ((j : Int) < (S : Int)) = false := decide_eq_false (by omega)
          have hKW := HKW.out
          have hsK : s = K := by
            rw [hs']
            have := HSD.out
            unfold saidN at this
            split
            · omega
            · rename_i h0
              rw [if_neg h0] at this
              omega
          clear hs' hs hs8
          subst hsK
          have c1 : IntKind.i64.wrap ((s : Int) + 1) = (s : Int) + 1 := IntWalk.i64_in _ (by omega)
          have c0 : ((s : Int) + 1 == 0) = false := beq_eq_false_iff_ne.2 (by omega)
          have c7 : ¬ ((s : Int) + 1 = 0) := by omega
          have a1 := Int.lt_tmod_of_pos nr (show (0 : Int) < (s : Int) + 1 by omega)
          have a2 := Int.tmod_lt_of_pos nr (show (0 : Int) < (s : Int) + 1 by omega)
          obtain ⟨t, ht⟩ : ∃ t, nr.tmod ((s : Int) + 1) = t := ⟨_, rfl⟩
          rw [ht] at a1 a2
          have c2 : IntKind.i64.wrap t = t := IntWalk.i64_in _ (by omega)
          have c3 : IntKind.i64.wrap (t + (s : Int)) = t + (s : Int) := IntWalk.i64_in _ (by omega)
          have c4 : IntKind.i64.wrap (t + (s : Int) + 1) = t + (s : Int) + 1 := IntWalk.i64_in _ (by omega)
          obtain ⟨r, hr⟩ : ∃ r : Nat, (t + (s : Int) + 1) % ((s : Int) + 1) = (r : Int) := ⟨((t + (s : Int) + 1) % ((s : Int) + 1)).toNat, by have := Int.emod_nonneg (t + (s : Int) + 1) (show (s : Int) + 1 ≠ 0 by omega); omega⟩
          have hr2 := Int.emod_lt_of_pos (t + (s : Int) + 1) (show (0 : Int) < (s : Int) + 1 by omega)
          rw [hr] at hr2
          have c5 : (t + (s : Int) + 1).tmod ((s : Int) + 1) = (r : Int) := by rw [Int.tmod_eq_emod_of_nonneg (by omega)]; exact hr
          have c6 : IntKind.i64.wrap (r : Int) = (r : Int) := IntWalk.i64_in _ (by omega)
          have e8 : IntKind.i64.wrap ((i : Int) - (r : Int)) = (i : Int) - (r : Int) := IntWalk.i64_in _ (by omega)
          clear a1 a2
          rcases kind with _ | _
          · obtain ⟨k1, k2, k3⟩ := bodT_takeS (W := W) (n := i) (K := s) (r := r) (by omega) (by omega) (by omega)
            have HTO := Lib.hid k1.symm
            have HTS := Lib.hid k2.symm
            have HTM := Lib.hid k3.symm
            have HPK : Hid (PIn.okT ⟨0, 0, false, 2, 0, (r : Int), 0, true, ⟨#[]⟩⟩) := by show PIn.okT _; exact ⟨⟨w64 (n := 0) (by decide), w64 (n := 0) (by decide), w64 (n := 2) (by decide), w64 (n := 0) (by decide), w64 (n := (r : Int)) (by omega), w64 (n := 0) (by decide), by show (0 : Nat) ≤ maxLen; decide⟩, by show (0 : Nat) ≤ 281474976710656; decide⟩
            have HLE : Hid ((i : Int) - (r : Int) = (TurnM.left (bodT true W i r (s - r)) : Int)) := by show (i : Int) - (r : Int) = ((bodO W i r (s - r)).l.length : Int); rw [bodO_len]; omega
            clear k1 k2 k3 hKW hr2
            go_wp2_with (first
              | ((with_reducible refine wpList_storeBSd (C := fun X => Star (Star (CellW w.heap.size #[.int .i64 d.b, .int .i64 d.s, .int .i64 d.wi, .int .i64 8, .int .i64 d.wa] 43) (Star (TurnW (.pointer (some a)) (bodT false W i 0 s)) (SlW 9 (.slice A S c) S (plcs (bodT true W i 0 0).says)))) X) (Fr.r ((CellW.stab _ _ _).star ((TurnW.stab _ _).star (SlW.stab _ _ _ _))) Fr.id_) (HS3.out.add ((CellW.stab _ _ _).star ((TurnW.stab _ _).star (SlW.stab _ _ _ _))) (CellW.new wr #[.int .i64 0, .int .i64 0, .bool false, .int .i64 0, .int .i64 0, .int .i64 0, .int .i64 0, .bool false, .string ⟨#[]⟩] 37)) rfl 37 (.tmp 16) (.tmp 62) rfl #[.int .i64 0, .int .i64 0, .bool false, .int .i64 2, .int .i64 0, .int .i64 (r : Int), .int .i64 0, .bool true, .string ⟨#[]⟩] rfl rfl (by kernel_rfl) rfl (by simp [Value.oneCell']) ?_); intro w4 hs; have HS4 := Lib.hid hs; clear hs)
              | (with_reducible refine wpList_loadSd (C := fun X => Star (Star (CellW w.heap.size #[.int .i64 d.b, .int .i64 d.s, .int .i64 d.wi, .int .i64 8, .int .i64 d.wa] 43) (Star (TurnW (.pointer (some a)) (bodT false W i 0 s)) (SlW 9 (.slice A S c) S (plcs (bodT true W i 0 0).says)))) X) (Fr.r ((CellW.stab _ _ _).star ((TurnW.stab _ _).star (SlW.stab _ _ _ _))) Fr.id_) HS4.out rfl 37 (.tmp 16) rfl rfl _ Tryz.underlying37 rfl (by kernel_rfl) ?_)
              | (go_at_call 37; ((with_reducible refine (TnTake_C (C := fun X => Star (Star (CellW w.heap.size #[.int .i64 d.b, .int .i64 d.s, .int .i64 d.wi, .int .i64 8, .int .i64 d.wa] 43) (Star X (SlW 9 (.slice A S c) S (plcs (bodT true W i 0 0).says)))) (CellW wr.heap.size #[.int .i64 0, .int .i64 0, .bool false, .int .i64 2, .int .i64 0, .int .i64 (r : Int), .int .i64 0, .bool true, .string ⟨#[]⟩] 37)) (Fr.l (Fr.r (CellW.stab _ _ _) (Fr.l Fr.id_ (SlW.stab _ _ _ _))) (CellW.stab _ _ _)) (p := ⟨0, 0, false, 2, 0, (r : Int), 0, true, ⟨#[]⟩⟩) HPK.out HTS.out HTO.out HTM.out HS4.out).mono ?_); rintro e w5 ⟨rfl, hs⟩; have HS5 := Lib.hid hs; clear hs))
              | (go_at_call 45; ((with_reducible refine (TnLeft_C (C := fun X => Star (Star (CellW w.heap.size #[.int .i64 d.b, .int .i64 d.s, .int .i64 d.wi, .int .i64 8, .int .i64 d.wa] 43) (Star X (SlW 9 (.slice A S c) S (plcs (bodT true W i 0 0).says)))) (CellW wr.heap.size #[.int .i64 0, .int .i64 0, .bool false, .int .i64 2, .int .i64 0, .int .i64 (r : Int), .int .i64 0, .bool true, .string ⟨#[]⟩] 37)) (Fr.l (Fr.r (CellW.stab _ _ _) (Fr.l Fr.id_ (SlW.stab _ _ _ _))) (CellW.stab _ _ _)) (((CellW.stab _ _ _).star ((TurnW.stab _ _).star (SlW.stab _ _ _ _))).star (CellW.stab _ _ _)) HLE.out HS5.out).mono ?_); rintro e w6 ⟨rfl, hs⟩; have HS6 := Lib.hid hs; clear hs))
              | (go_at_call 43; ((with_reducible refine (TnMine_C (C := fun X => Star (Star (CellW w.heap.size #[.int .i64 d.b, .int .i64 d.s, .int .i64 d.wi, .int .i64 8, .int .i64 d.wa] 43) (Star X (SlW 9 (.slice A S c) S (plcs (bodT true W i 0 0).says)))) (CellW wr.heap.size #[.int .i64 0, .int .i64 0, .bool false, .int .i64 2, .int .i64 0, .int .i64 (r : Int), .int .i64 0, .bool true, .string ⟨#[]⟩] 37)) (Fr.l (Fr.r (CellW.stab _ _ _) (Fr.l Fr.id_ (SlW.stab _ _ _ _))) (CellW.stab _ _ _)) (((CellW.stab _ _ _).star ((TurnW.stab _ _).star (SlW.stab _ _ _ _))).star (CellW.stab _ _ _)) (b := true) rfl HS6.out).mono ?_); rintro e w7 ⟨rfl, hs⟩; have HS7 := Lib.hid hs; clear hs)))
            go_ret
            exact ⟨by simp, HS7.out.bel0⟩
          · obtain ⟨k1, k2, k3⟩ := bodT_takeI (s := ⟨#[122]⟩) (W := W) (n := i) (K := s) (r := r) (by omega) (by omega) (by omega)
            have HTO := Lib.hid k1.symm
            have HTS := Lib.hid k2.symm
            have HTM := Lib.hid k3.symm
            have HPK : Hid (PIn.okT ⟨0, 0, false, 1, 0, (r : Int), 0, true, ⟨#[122]⟩⟩) := by show PIn.okT _; exact ⟨⟨w64 (n := 0) (by decide), w64 (n := 0) (by decide), w64 (n := 1) (by decide), w64 (n := 0) (by decide), w64 (n := (r : Int)) (by omega), w64 (n := 0) (by decide), by show (1 : Nat) ≤ maxLen; decide⟩, by show (1 : Nat) ≤ 281474976710656; decide⟩
            have HLE : Hid ((i : Int) - (r : Int) = (TurnM.left (⟨1, 8, true, bodO W i r (s - r), ⟨1, false⟩⟩ : TurnM) : Int)) := by show (i : Int) - (r : Int) = ((bodO W i r (s - r)).l.length : Int); rw [bodO_len]; omega
            clear k1 k2 k3 hKW hr2
            go_wp2_with (first
              | ((with_reducible refine wpList_storeBSd (C := fun X => Star (Star (CellW w.heap.size #[.int .i64 d.b, .int .i64 d.s, .int .i64 d.wi, .int .i64 8, .int .i64 d.wa] 43) (Star (TurnW (.pointer (some a)) (bodT false W i 0 s)) (SlW 9 (.slice A S c) S (plcs (bodT true W i 0 0).says)))) X) (Fr.r ((CellW.stab _ _ _).star ((TurnW.stab _ _).star (SlW.stab _ _ _ _))) Fr.id_) (HS3.out.add ((CellW.stab _ _ _).star ((TurnW.stab _ _).star (SlW.stab _ _ _ _))) (CellW.new wr #[.int .i64 0, .int .i64 0, .bool false, .int .i64 0, .int .i64 0, .int .i64 0, .int .i64 0, .bool false, .string ⟨#[]⟩] 37)) rfl 37 (.tmp 16) (.tmp 62) rfl #[.int .i64 0, .int .i64 0, .bool false, .int .i64 2, .int .i64 0, .int .i64 (r : Int), .int .i64 0, .bool true, .string ⟨#[]⟩] rfl rfl (by kernel_rfl) rfl (by simp [Value.oneCell']) ?_); intro w4 hs; have HS4 := Lib.hid hs; clear hs)
              | ((with_reducible refine wpList_storeBSd (C := fun X => Star (Star (CellW w.heap.size #[.int .i64 d.b, .int .i64 d.s, .int .i64 d.wi, .int .i64 8, .int .i64 d.wa] 43) (Star (TurnW (.pointer (some a)) (bodT false W i 0 s)) (SlW 9 (.slice A S c) S (plcs (bodT true W i 0 0).says)))) X) (Fr.r ((CellW.stab _ _ _).star ((TurnW.stab _ _).star (SlW.stab _ _ _ _))) Fr.id_) HS4.out rfl 37 (.tmp 16) (.tmp 65) rfl #[.int .i64 0, .int .i64 0, .bool false, .int .i64 1, .int .i64 0, .int .i64 (r : Int), .int .i64 0, .bool true, .string ⟨#[122]⟩] rfl rfl (by kernel_rfl) rfl (by simp [Value.oneCell']) ?_); intro w5 hs; have HS5 := Lib.hid hs; clear hs)
              | (with_reducible refine wpList_loadSd (C := fun X => Star (Star (CellW w.heap.size #[.int .i64 d.b, .int .i64 d.s, .int .i64 d.wi, .int .i64 8, .int .i64 d.wa] 43) (Star (TurnW (.pointer (some a)) (bodT false W i 0 s)) (SlW 9 (.slice A S c) S (plcs (bodT true W i 0 0).says)))) X) (Fr.r ((CellW.stab _ _ _).star ((TurnW.stab _ _).star (SlW.stab _ _ _ _))) Fr.id_) HS5.out rfl 37 (.tmp 16) rfl rfl _ Tryz.underlying37 rfl (by kernel_rfl) ?_)
              | (go_at_call 37; ((with_reducible refine (TnTake_C (C := fun X => Star (Star (CellW w.heap.size #[.int .i64 d.b, .int .i64 d.s, .int .i64 d.wi, .int .i64 8, .int .i64 d.wa] 43) (Star X (SlW 9 (.slice A S c) S (plcs (bodT true W i 0 0).says)))) (CellW wr.heap.size #[.int .i64 0, .int .i64 0, .bool false, .int .i64 1, .int .i64 0, .int .i64 (r : Int), .int .i64 0, .bool true, .string ⟨#[122]⟩] 37)) (Fr.l (Fr.r (CellW.stab _ _ _) (Fr.l Fr.id_ (SlW.stab _ _ _ _))) (CellW.stab _ _ _)) (p := ⟨0, 0, false, 1, 0, (r : Int), 0, true, ⟨#[122]⟩⟩) HPK.out HTS.out HTO.out HTM.out HS5.out).mono ?_); rintro e w6 ⟨rfl, hs⟩; have HS6 := Lib.hid hs; clear hs))
              | (go_at_call 45; ((with_reducible refine (TnLeft_C (C := fun X => Star (Star (CellW w.heap.size #[.int .i64 d.b, .int .i64 d.s, .int .i64 d.wi, .int .i64 8, .int .i64 d.wa] 43) (Star X (SlW 9 (.slice A S c) S (plcs (bodT true W i 0 0).says)))) (CellW wr.heap.size #[.int .i64 0, .int .i64 0, .bool false, .int .i64 1, .int .i64 0, .int .i64 (r : Int), .int .i64 0, .bool true, .string ⟨#[122]⟩] 37)) (Fr.l (Fr.r (CellW.stab _ _ _) (Fr.l Fr.id_ (SlW.stab _ _ _ _))) (CellW.stab _ _ _)) (((CellW.stab _ _ _).star ((TurnW.stab _ _).star (SlW.stab _ _ _ _))).star (CellW.stab _ _ _)) HLE.out HS6.out).mono ?_); rintro e w7 ⟨rfl, hs⟩; have HS7 := Lib.hid hs; clear hs))
              | (go_at_call 43; ((with_reducible refine (TnMine_C (C := fun X => Star (Star (CellW w.heap.size #[.int .i64 d.b, .int .i64 d.s, .int .i64 d.wi, .int .i64 8, .int .i64 d.wa] 43) (Star X (SlW 9 (.slice A S c) S (plcs (bodT true W i 0 0).says)))) (CellW wr.heap.size #[.int .i64 0, .int .i64 0, .bool false, .int .i64 1, .int .i64 0, .int .i64 (r : Int), .int .i64 0, .bool true, .string ⟨#[122]⟩] 37)) (Fr.l (Fr.r (CellW.stab _ _ _) (Fr.l Fr.id_ (SlW.stab _ _ _ _))) (CellW.stab _ _ _)) (((CellW.stab _ _ _).star ((TurnW.stab _ _).star (SlW.stab _ _ _ _))).star (CellW.stab _ _ _)) (b := true) rfl HS7.out).mono ?_); rintro e w8 ⟨rfl, hs⟩; have HS8 := Lib.hid hs; clear hs)))
            go_ret
            exact ⟨by simp, HS8.out.bel0⟩
end Go.Proofs.YtocjhpaackccpaaGreatDoor
