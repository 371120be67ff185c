/- The law TurnGo. -/
import Derived.Test.YtocjhpaackccpaaGreatDoorN12D
import Derived.Test.YtocjhpaackccpaaGreatDoorM4D
import Derived.Deep.DeepCutAuto
import Derived.Deep.CutBlock

set_option linter.all false

namespace Go.Proofs.YtocjhpaackccpaaGreatDoor
open Go.RowKit M

set_option maxRecDepth 100000 in
set_option maxHeartbeats 32000000 in
theorem TurnGo_law (role : Int) (d : De5In) (ba : Value) (l : List ByteArray) (w : World) (hd : d.ok) (ha : RdG 1 w ba l.length (strg l)) (hl : ∀ s ∈ l, s.size ≤ maxLen) (hC : Codes w) : Calls Tryz.prog 10 #[.int .i64 role, d.val, ba] w fun e w' => e = .returned (.bool true) ∧ Below w.heap.size w w' := by
  obtain ⟨A, cap, rfl, hcap, hmax⟩ := ha.shape
  have HA := Lib.hid ha
  have HC := Lib.hid hC
  have HSZ := Lib.hid hl
  have HDW := Lib.hid hd.2.2.1
  obtain ⟨L, hL⟩ : ∃ L, L = l.length := ⟨_, rfl⟩
  rw [← hL] at hcap ⊢
  have HL := Lib.hid hL
  have HCAP := Lib.hid hcap
  have HMAX := Lib.hid hmax
  clear ha hC hl hL hcap hmax hd
  obtain ⟨W, hW⟩ : ∃ W : Nat, (max 1 (min d.wi 7)).toNat = W := ⟨_, rfl⟩
  have HW : Hid (1 ≤ W ∧ W ≤ 7) := by show _ ∧ _; omega
  have eW : max 1 (min d.wi 7) = (W : Int) := by omega
  have a1_q := Int.lt_tmod_of_pos role (show (0 : Int) < 2 by decide)
  have a2_q := Int.tmod_lt_of_pos role (show (0 : Int) < 2 by decide)
  obtain ⟨t_q, ht_q⟩ : ∃ t, role.tmod 2 = t := ⟨_, rfl⟩
  rw [ht_q] at a1_q a2_q
  have e1_q : IntKind.i64.wrap t_q = t_q := IntWalk.i64_in _ (by omega)
  have e2_q : IntKind.i64.wrap (t_q + 2) = t_q + 2 := IntWalk.i64_in _ (by omega)
  obtain ⟨q, h_q⟩ : ∃ q : Nat, t_q % 2 = (q : Int) := ⟨(t_q % 2).toNat, by omega⟩
  have e3_q : (t_q + 2).tmod 2 = (q : Int) := by rw [Int.tmod_eq_emod_of_nonneg (by omega)]; omega
  have e4_q : IntKind.i64.wrap (q : Int) = (q : Int) := IntWalk.i64_in _ (by omega)
  have b_q : q < 2 := by omega
  clear a1_q a2_q
  have HS0 : Hid (Sd w (CellW w.heap.size #[.int .i64 d.b, .int .i64 d.s, .int .i64 d.wi, .int .i64 d.z, .int .i64 d.wa] 43) (w.alloc (.cells #[.int .i64 d.b, .int .i64 d.s, .int .i64 d.wi, .int .i64 d.z, .int .i64 d.wa] 43))) := by show Sd _ _ _; exact Sd.first (Below.refl _ _) (CellW.new w _ _)
  have hq : q = 0 ∨ q = 1 := by omega
  rcases hq with rfl | rfl
  · have z0 : ((0 : Nat) : Int) = 0 := rfl
    rw [z0] at h_q e3_q e4_q
    have HNEW : Hid ((gT 1 true W [] 0) = TurnM.new 1 d.wi 64) := by show _ = _; exact (gT_new (R := 1) hW).symm
    clear hW
    go_enter Tryz.func10, Tryz.ntmps10
    go_upto_block 0 with (first
      | ((with_reducible refine wpList_storeSd (C := fun X => X) Fr.id_ HS1.out rfl 3 (.tmp 22) (.const (.int .i64 64)) rfl 3 (.int .i64 64) rfl rfl (by simp) (run_storeI 64 _ _) ?_); intro w2 hs; have HS2 : Hid (Sd w (CellW w.heap.size #[.int .i64 d.b, .int .i64 d.s, .int .i64 d.wi, .int .i64 64, .int .i64 d.wa] 43) w2) := (by show Sd _ _ _; exact hs); clear hs)
      | (with_reducible refine wpList_loadSd (C := fun X => X) Fr.id_ HS2.out rfl 43 (.tmp 4) rfl rfl _ Tryz.underlying43 rfl (by kernel_rfl) ?_)
      | (go_at_call 17; ((with_reducible refine (calls_keep (CellW.stab _ _ _) HS0.out (begun12_any _ (HC.out.below HS0.out.bel0))).mono ?_); rintro e w1 ⟨rfl, hs⟩; have HS1 := Lib.hid hs; clear hs))
      | (go_at_call 28; ((with_reducible refine (TnNew_add (m := (gT 1 true W [] 0)) (CellW.stab _ _ _) (.inl rfl) HDW.out (by decide) HNEW.out HS2.out).mono ?_); rintro e w3 ⟨a, rfl, hs⟩; have HS3 := Lib.hid hs; clear hs)))
    go_cut [9] (fun s9 wx => ∃ N : Nat, N = min L 8 ∧ s9 = .int .i64 (N : Int) ∧ Sd w (Star (CellW w.heap.size #[.int .i64 d.b, .int .i64 d.s, .int .i64 d.wi, .int .i64 64, .int .i64 d.wa] 43) (TurnW (.pointer (some a)) (gT 1 true W ((l.map cut64).take N) 0))) wx)
    case first =>
     go_wp2_with fail
     go_loopw [9, 10] (fun nv iv wr => ∃ i : Nat, i ≤ 12 ∧ i ≤ L ∧ iv = .int .i64 (i : Int) ∧ nv = .int .i64 ((min i 8 : Nat) : Int) ∧ Sd w (Star (CellW w.heap.size #[.int .i64 d.b, .int .i64 d.s, .int .i64 d.wi, .int .i64 64, .int .i64 d.wa] 43) (TurnW (.pointer (some a)) (gT 1 true W ((l.map cut64).take (min i 8)) 0))) wr) (fun _ iv _ => (12 - intOf iv).toNat)
     case atStart => exact ⟨0, by omega, by omega, rfl, rfl, HS3.out⟩
     case round =>
      clear HS0 HS1 HS2 HS3
      obtain ⟨i, hi12, hiL, rfl, rfl, hs⟩ := hrel
      have HS3 := Lib.hid hs
      clear hs
      have hLl : L = l.length := HL.out
      by_cases hlt : i < L
      · have t1 : decide ((i : Int) < (L : Int)) = true := decide_eq_true (by omega)
        by_cases h12 : i < 12
        · have t2 : decide ((i : Int) < 12) = true := decide_eq_true (by omega)
          have t3 : (i : Int) < (L : Int) := by omega
          have e5 : IntKind.i64.wrap ((i : Int) + 1) = (i : Int) + 1 := IntWalk.i64_in _ (by omega)
          have hil : i < l.length := by omega
          obtain ⟨x, hx⟩ : ∃ x, l[i] = x := ⟨_, rfl⟩
          obtain ⟨b, off, rfl, hc⟩ := (HA.out.below HS3.out.bel0).one (i := i) (u := .string x) (by unfold strg; simp [hil, hx]) hil
          have hxs : x.size ≤ maxLen := by rw [← hx]; exact HSZ.out _ (List.getElem_mem hil)
          have htx := fun w => Text_any x 64 w hxs (by omega)
          have HTX : Hid (∀ w, Calls Tryz.prog 30 #[.string x, .int .i64 64] w fun e w' => e = .returned (.string (cut64 x)) ∧ w = w') := htx
          have HBZ : Hid ((cut64 x).size ≤ maxLen) := by show _ ≤ _; have := cut64_size x; unfold maxLen; omega
          by_cases h8 : i < 8
          · obtain ⟨k1, k2⟩ := gT_put (R := 1) (mine := true) (W := W) hil h8
            rw [hx] at k1 k2
            have e6 : min i 8 = i := by omega
            have HE7 : Hid (min (i + 1) 8 = i + 1) := by show _ = _; omega
            rw [e6] at HS3 ⊢
            have HPM := Lib.hid k1
            have HPE := Lib.hid k2
            clear k1 k2 hx e6 htx hxs hLl
            generalize cut64 x = y at HTX HBZ HPM HPE
            go_wp2_with (first
              | (go_at_call 30; ((with_reducible refine (HTX.out _).mono ?_); rintro e w' ⟨rfl, hw'⟩; rw [← hw']; clear hw'))
              | (go_at_call 31; ((with_reducible refine (TnPut_C (C := fun X => Star (CellW w.heap.size #[.int .i64 d.b, .int .i64 d.s, .int .i64 d.wi, .int .i64 64, .int .i64 d.wa] 43) X) (Fr.r (CellW.stab _ _ _) Fr.id_) HBZ.out HPE.out HPM.out HS3.out).mono ?_); rintro e w4 ⟨rfl, hs⟩; have HS4 := Lib.hid hs; clear hs)))
            go_roundw
            case rel => first | exact ⟨i + 1, by omega, by omega, by go_num, (by rw [HE7.out]; go_num), (by rw [HE7.out]; exact HS4.out)⟩ | exact ⟨_, _, _, _, _, _, _, _, _, _, _, _, ⟨i + 1, by omega, by omega, by go_num, (by rw [HE7.out]; go_num), (by rw [HE7.out]; exact HS4.out)⟩, rfl⟩ | exact ⟨_, _, _, _, _, _, _, _, _, _, _, _, _, ⟨i + 1, by omega, by omega, by go_num, (by rw [HE7.out]; go_num), (by rw [HE7.out]; exact HS4.out)⟩, rfl⟩ | exact ⟨_, _, _, _, _, _, _, _, _, _, _, _, _, _, ⟨i + 1, by omega, by omega, by go_num, (by rw [HE7.out]; go_num), (by rw [HE7.out]; exact HS4.out)⟩, rfl⟩ | exact ⟨_, _, _, _, _, _, _, _, _, _, _, _, _, _, _, ⟨i + 1, by omega, by omega, by go_num, (by rw [HE7.out]; go_num), (by rw [HE7.out]; exact HS4.out)⟩, rfl⟩ | exact ⟨_, _, _, _, _, _, _, _, _, _, _, _, _, _, _, _, ⟨i + 1, by omega, by omega, by go_num, (by rw [HE7.out]; go_num), (by rw [HE7.out]; exact HS4.out)⟩, rfl⟩ | exact ⟨_, _, _, _, _, _, _, _, _, _, _, _, _, _, _, _, _, ⟨i + 1, by omega, by omega, by go_num, (by rw [HE7.out]; go_num), (by rw [HE7.out]; exact HS4.out)⟩, rfl⟩ | exact ⟨_, _, _, _, _, _, _, _, _, _, _, _, _, _, _, _, _, _, ⟨i + 1, by omega, by omega, by go_num, (by rw [HE7.out]; go_num), (by rw [HE7.out]; exact HS4.out)⟩, rfl⟩ | exact ⟨_, _, _, _, _, _, _, _, _, _, _, _, _, _, _, _, _, _, _, ⟨i + 1, by omega, by omega, by go_num, (by rw [HE7.out]; go_num), (by rw [HE7.out]; exact HS4.out)⟩, rfl⟩ | exact ⟨_, _, _, _, _, _, _, _, _, _, _, _, _, _, _, _, _, _, _, _, ⟨i + 1, by omega, by omega, by go_num, (by rw [HE7.out]; go_num), (by rw [HE7.out]; exact HS4.out)⟩, rfl⟩ | exact ⟨_, _, _, _, _, _, _, _, _, _, _, _, _, _, _, _, _, _, _, _, _, ⟨i + 1, by omega, by omega, by go_num, (by rw [HE7.out]; go_num), (by rw [HE7.out]; exact HS4.out)⟩, rfl⟩ | exact ⟨_, _, _, _, _, _, _, _, _, _, _, _, _, _, _, _, _, _, _, _, _, _, ⟨i + 1, by omega, by omega, by go_num, (by rw [HE7.out]; go_num), (by rw [HE7.out]; exact HS4.out)⟩, rfl⟩ | exact ⟨_, _, _, _, _, _, _, _, _, _, _, _, _, _, _, _, _, _, _, _, _, _, _, ⟨i + 1, by omega, by omega, by go_num, (by rw [HE7.out]; go_num), (by rw [HE7.out]; exact HS4.out)⟩, rfl⟩ | exact ⟨_, _, _, _, _, _, _, _, _, _, _, _, _, _, _, _, _, _, _, _, _, _, _, _, ⟨i + 1, by omega, by omega, by go_num, (by rw [HE7.out]; go_num), (by rw [HE7.out]; exact HS4.out)⟩, rfl⟩ | exact ⟨_, _, _, _, _, _, _, _, _, _, _, _, _, _, _, _, _, _, _, _, _, _, _, _, _, ⟨i + 1, by omega, by omega, by go_num, (by rw [HE7.out]; go_num), (by rw [HE7.out]; exact HS4.out)⟩, rfl⟩ | exact ⟨_, _, _, _, _, _, _, _, _, _, _, _, _, _, _, _, _, _, _, _, _, _, _, _, _, _, ⟨i + 1, by omega, by omega, by go_num, (by rw [HE7.out]; go_num), (by rw [HE7.out]; exact HS4.out)⟩, rfl⟩ | exact ⟨_, _, _, _, _, _, _, _, _, _, _, _, _, _, _, _, _, _, _, _, _, _, _, _, _, _, _, ⟨i + 1, by omega, by omega, by go_num, (by rw [HE7.out]; go_num), (by rw [HE7.out]; exact HS4.out)⟩, rfl⟩ | exact ⟨_, _, _, _, _, _, _, _, _, _, _, _, _, _, _, _, _, _, _, _, _, _, _, _, _, _, _, _, ⟨i + 1, by omega, by omega, by go_num, (by rw [HE7.out]; go_num), (by rw [HE7.out]; exact HS4.out)⟩, rfl⟩ | exact ⟨_, _, _, _, _, _, _, _, _, _, _, _, _, _, _, _, _, _, _, _, _, _, _, _, _, _, _, _, _, ⟨i + 1, by omega, by omega, by go_num, (by rw [HE7.out]; go_num), (by rw [HE7.out]; exact HS4.out)⟩, rfl⟩ | exact ⟨_, _, _, _, _, _, _, _, _, _, _, _, _, _, _, _, _, _, _, _, _, _, _, _, _, _, _, _, _, _, ⟨i + 1, by omega, by omega, by go_num, (by rw [HE7.out]; go_num), (by rw [HE7.out]; exact HS4.out)⟩, rfl⟩ | exact ⟨_, _, _, _, _, _, _, _, _, _, _, _, _, _, _, _, _, _, _, _, _, _, _, _, _, _, _, _, _, _, _, ⟨i + 1, by omega, by omega, by go_num, (by rw [HE7.out]; go_num), (by rw [HE7.out]; exact HS4.out)⟩, rfl⟩ | exact ⟨_, _, _, _, _, _, _, _, _, _, _, _, _, _, _, _, _, _, _, _, _, _, _, _, _, _, _, _, _, _, _, _, ⟨i + 1, by omega, by omega, by go_num, (by rw [HE7.out]; go_num), (by rw [HE7.out]; exact HS4.out)⟩, rfl⟩ | exact ⟨_, _, _, _, _, _, _, _, _, _, _, _, _, _, _, _, _, _, _, _, _, _, _, _, _, _, _, _, _, _, _, _, _, ⟨i + 1, by omega, by omega, by go_num, (by rw [HE7.out]; go_num), (by rw [HE7.out]; exact HS4.out)⟩, rfl⟩
            case measure => simp [intOf] <;> omega
          · obtain ⟨k1, k2⟩ := gT_full (R := 1) (mine := true) (W := W) (l := l) (s := x) (by omega)
            have e6 : min i 8 = 8 := by omega
            have HE7 : Hid (min (i + 1) 8 = 8) := by show _ = _; omega
            rw [e6] at HS3 ⊢
            have HPM := Lib.hid k1
            have HPE := Lib.hid k2
            clear k1 k2 hx e6 htx hxs hLl
            generalize cut64 x = y at HTX HBZ HPM HPE
            go_wp2_with (first
              | (go_at_call 30; ((with_reducible refine (HTX.out _).mono ?_); rintro e w' ⟨rfl, hw'⟩; rw [← hw']; clear hw'))
              | (go_at_call 31; ((with_reducible refine (TnPut_C (C := fun X => Star (CellW w.heap.size #[.int .i64 d.b, .int .i64 d.s, .int .i64 d.wi, .int .i64 64, .int .i64 d.wa] 43) X) (Fr.r (CellW.stab _ _ _) Fr.id_) HBZ.out HPE.out HPM.out HS3.out).mono ?_); rintro e w4 ⟨rfl, hs⟩; have HS4 := Lib.hid hs; clear hs)))
            go_roundw
            case rel => first | exact ⟨i + 1, by omega, by omega, by go_num, (by rw [HE7.out]; rfl), (by rw [HE7.out]; exact HS4.out)⟩ | exact ⟨_, _, _, _, _, _, _, _, _, _, _, _, ⟨i + 1, by omega, by omega, by go_num, (by rw [HE7.out]; rfl), (by rw [HE7.out]; exact HS4.out)⟩, rfl⟩ | exact ⟨_, _, _, _, _, _, _, _, _, _, _, _, _, ⟨i + 1, by omega, by omega, by go_num, (by rw [HE7.out]; rfl), (by rw [HE7.out]; exact HS4.out)⟩, rfl⟩ | exact ⟨_, _, _, _, _, _, _, _, _, _, _, _, _, _, ⟨i + 1, by omega, by omega, by go_num, (by rw [HE7.out]; rfl), (by rw [HE7.out]; exact HS4.out)⟩, rfl⟩ | exact ⟨_, _, _, _, _, _, _, _, _, _, _, _, _, _, _, ⟨i + 1, by omega, by omega, by go_num, (by rw [HE7.out]; rfl), (by rw [HE7.out]; exact HS4.out)⟩, rfl⟩ | exact ⟨_, _, _, _, _, _, _, _, _, _, _, _, _, _, _, _, ⟨i + 1, by omega, by omega, by go_num, (by rw [HE7.out]; rfl), (by rw [HE7.out]; exact HS4.out)⟩, rfl⟩ | exact ⟨_, _, _, _, _, _, _, _, _, _, _, _, _, _, _, _, _, ⟨i + 1, by omega, by omega, by go_num, (by rw [HE7.out]; rfl), (by rw [HE7.out]; exact HS4.out)⟩, rfl⟩ | exact ⟨_, _, _, _, _, _, _, _, _, _, _, _, _, _, _, _, _, _, ⟨i + 1, by omega, by omega, by go_num, (by rw [HE7.out]; rfl), (by rw [HE7.out]; exact HS4.out)⟩, rfl⟩ | exact ⟨_, _, _, _, _, _, _, _, _, _, _, _, _, _, _, _, _, _, _, ⟨i + 1, by omega, by omega, by go_num, (by rw [HE7.out]; rfl), (by rw [HE7.out]; exact HS4.out)⟩, rfl⟩ | exact ⟨_, _, _, _, _, _, _, _, _, _, _, _, _, _, _, _, _, _, _, _, ⟨i + 1, by omega, by omega, by go_num, (by rw [HE7.out]; rfl), (by rw [HE7.out]; exact HS4.out)⟩, rfl⟩ | exact ⟨_, _, _, _, _, _, _, _, _, _, _, _, _, _, _, _, _, _, _, _, _, ⟨i + 1, by omega, by omega, by go_num, (by rw [HE7.out]; rfl), (by rw [HE7.out]; exact HS4.out)⟩, rfl⟩ | exact ⟨_, _, _, _, _, _, _, _, _, _, _, _, _, _, _, _, _, _, _, _, _, _, ⟨i + 1, by omega, by omega, by go_num, (by rw [HE7.out]; rfl), (by rw [HE7.out]; exact HS4.out)⟩, rfl⟩ | exact ⟨_, _, _, _, _, _, _, _, _, _, _, _, _, _, _, _, _, _, _, _, _, _, _, ⟨i + 1, by omega, by omega, by go_num, (by rw [HE7.out]; rfl), (by rw [HE7.out]; exact HS4.out)⟩, rfl⟩ | exact ⟨_, _, _, _, _, _, _, _, _, _, _, _, _, _, _, _, _, _, _, _, _, _, _, _, ⟨i + 1, by omega, by omega, by go_num, (by rw [HE7.out]; rfl), (by rw [HE7.out]; exact HS4.out)⟩, rfl⟩ | exact ⟨_, _, _, _, _, _, _, _, _, _, _, _, _, _, _, _, _, _, _, _, _, _, _, _, _, ⟨i + 1, by omega, by omega, by go_num, (by rw [HE7.out]; rfl), (by rw [HE7.out]; exact HS4.out)⟩, rfl⟩ | exact ⟨_, _, _, _, _, _, _, _, _, _, _, _, _, _, _, _, _, _, _, _, _, _, _, _, _, _, ⟨i + 1, by omega, by omega, by go_num, (by rw [HE7.out]; rfl), (by rw [HE7.out]; exact HS4.out)⟩, rfl⟩ | exact ⟨_, _, _, _, _, _, _, _, _, _, _, _, _, _, _, _, _, _, _, _, _, _, _, _, _, _, _, ⟨i + 1, by omega, by omega, by go_num, (by rw [HE7.out]; rfl), (by rw [HE7.out]; exact HS4.out)⟩, rfl⟩ | exact ⟨_, _, _, _, _, _, _, _, _, _, _, _, _, _, _, _, _, _, _, _, _, _, _, _, _, _, _, _, ⟨i + 1, by omega, by omega, by go_num, (by rw [HE7.out]; rfl), (by rw [HE7.out]; exact HS4.out)⟩, rfl⟩ | exact ⟨_, _, _, _, _, _, _, _, _, _, _, _, _, _, _, _, _, _, _, _, _, _, _, _, _, _, _, _, _, ⟨i + 1, by omega, by omega, by go_num, (by rw [HE7.out]; rfl), (by rw [HE7.out]; exact HS4.out)⟩, rfl⟩ | exact ⟨_, _, _, _, _, _, _, _, _, _, _, _, _, _, _, _, _, _, _, _, _, _, _, _, _, _, _, _, _, _, ⟨i + 1, by omega, by omega, by go_num, (by rw [HE7.out]; rfl), (by rw [HE7.out]; exact HS4.out)⟩, rfl⟩ | exact ⟨_, _, _, _, _, _, _, _, _, _, _, _, _, _, _, _, _, _, _, _, _, _, _, _, _, _, _, _, _, _, _, ⟨i + 1, by omega, by omega, by go_num, (by rw [HE7.out]; rfl), (by rw [HE7.out]; exact HS4.out)⟩, rfl⟩ | exact ⟨_, _, _, _, _, _, _, _, _, _, _, _, _, _, _, _, _, _, _, _, _, _, _, _, _, _, _, _, _, _, _, _, ⟨i + 1, by omega, by omega, by go_num, (by rw [HE7.out]; rfl), (by rw [HE7.out]; exact HS4.out)⟩, rfl⟩ | exact ⟨_, _, _, _, _, _, _, _, _, _, _, _, _, _, _, _, _, _, _, _, _, _, _, _, _, _, _, _, _, _, _, _, _, ⟨i + 1, by omega, by omega, by go_num, (by rw [HE7.out]; rfl), (by rw [HE7.out]; exact HS4.out)⟩, rfl⟩
            case measure => simp [intOf] <;> omega
        · have t2 : decide ((i : Int) < 12) = false := decide_eq_false (by omega)
          clear hLl
          go_wp2_with fail
          go_meet
          exact ⟨min i 8, by omega, rfl, HS3.out⟩
      · have t1 : decide ((i : Int) < (L : Int)) = false := decide_eq_false (by omega)
        clear hLl
        go_wp2_with fail
        go_meet
        exact ⟨min i 8, by omega, rfl, HS3.out⟩
    case rest =>
          clear HS0 HS1 HS2 HS3
          obtain ⟨N, hN, rfl, hs⟩ := hcut
          have HS3 := Lib.hid hs
          clear hs
          have hLl : L = l.length := HL.out
          obtain ⟨tx, htx⟩ : ∃ tx, ((l.map cut64).take N) = tx := ⟨_, rfl⟩
          have htl : tx.length = N := by rw [← htx, List.length_take, List.length_map]; omega
          have hta : ∀ j (h : j < tx.length), ∃ h2 : j < l.length, tx[j] = cut64 l[j] := fun j h => by
            refine ⟨by omega, ?_⟩
            have e : tx[j]? = ((l.map cut64).take N)[j]? := by rw [htx]
            rw [List.getElem?_eq_getElem h, List.getElem?_take_of_lt (by omega), List.getElem?_map, List.getElem?_eq_getElem (show j < l.length by omega)] at e
            simpa using e
          rw [htx] at HS3
          have hw := HW.out
          obtain ⟨K, hK⟩ : ∃ K, K = min W tx.length := ⟨_, rfl⟩
          obtain ⟨k1, k2⟩ := gT_go (k := 0) hK (Nat.zero_le _)
          obtain ⟨k3, k4⟩ := gT_go (k := K) hK (Nat.le_refl _)
          have hSay := fun j hj => gT_says (j := j) hK (by omega) hj
          obtain ⟨S, hS⟩ : ∃ S, S = saidN K := ⟨_, rfl⟩
          simp only [← hS] at k2 k4 hSay
          have HGM := Lib.hid k1
          have HGN := Lib.hid k2
          have HGM2 := Lib.hid k3
          have HGN2 := Lib.hid k4
          have HSY := Lib.hid hSay
          have hSv : S = (if K = 0 then 1 else K) := hS
          have hSm : S ≤ 7 ∧ 1 ≤ S ∧ (S : Int) = max 1 (min (N : Int) (W : Int)) ∧ ((0 < N) = (0 < K)) := by
            rw [hSv]
            by_cases h0 : K = 0
            · rw [if_pos h0]; refine ⟨by omega, by omega, by omega, ?_⟩; rw [eq_iff_iff]; omega
            · rw [if_neg h0]; refine ⟨by omega, by omega, by omega, ?_⟩; rw [eq_iff_iff]; omega
          have HS8 := Lib.hid hSm.1
          have HS1 := Lib.hid hSm.2.1
          have HNK := Lib.hid hSm.2.2.2
          have em : max 1 (min (N : Int) (W : Int)) = (S : Int) := hSm.2.2.1.symm
          have HTA := Lib.hid hta
          have HTL := Lib.hid htl
          have HKT := Lib.hid hK
          have HNL : Hid (N ≤ l.length) := by show _ ≤ _; omega
          clear k1 k2 k3 k4 hSay hS hSv hSm hta htx hK hw hN htl hLl
          go_wp2_with (first
            | (go_at_call 34; first
              | ((with_reducible refine (TnGo_C (C := fun X => Star (CellW w.heap.size #[.int .i64 d.b, .int .i64 d.s, .int .i64 d.wi, .int .i64 64, .int .i64 d.wa] 43) X) (Fr.r (CellW.stab _ _ _) Fr.id_) (m := (gT 1 true W tx 0)) HGN.out (xs := plcs (gT 1 true W tx 0).says) rfl HGM.out HS3.out).mono ?_); rintro e w4 ⟨A2, c2, rfl, hc2, hs⟩; have HS4 := Lib.hid hs; have cw : w4.cell? ⟨w.heap.size, 2, none⟩ = some (.int .i64 d.wi) := cell_at (Sd.at_ (C := fun X => Star X (Star (TurnW (.pointer (some a)) (gT 1 false W tx K)) (SlW 9 (.slice A2 S c2) S (plcs (gT 1 true W tx 0).says)))) (Fr.l Fr.id_ ((TurnW.stab _ _).star (SlW.stab _ _ _ _))) HS4.out) 2 _ rfl; clear hs)
              | ((with_reducible refine (TnGo_len (C := fun X => Star (CellW w.heap.size #[.int .i64 d.b, .int .i64 d.s, .int .i64 d.wi, .int .i64 64, .int .i64 d.wa] 43) (Star X (SlW 9 (.slice A2 S c2) S (plcs (gT 1 true W tx 0).says)))) (Fr.r (CellW.stab _ _ _) (Fr.l Fr.id_ (SlW.stab _ _ _ _))) (m := (gT 1 false W tx K)) (n := 0) rfl (m' := (gT 1 false W tx K)) rfl HS5.out).mono ?_); rintro e w6 ⟨A3, c3, rfl, hs⟩; have HS6 := Lib.hid hs; clear hs))
            | (go_at_call 43; ((with_reducible refine (TnMine_C (C := fun X => Star (CellW w.heap.size #[.int .i64 d.b, .int .i64 d.s, .int .i64 d.wi, .int .i64 64, .int .i64 d.wa] 43) (Star X (SlW 9 (.slice A2 S c2) S (plcs (gT 1 true W tx 0).says)))) (Fr.r (CellW.stab _ _ _) (Fr.l Fr.id_ (SlW.stab _ _ _ _))) ((CellW.stab _ _ _).star ((TurnW.stab _ _).star (SlW.stab _ _ _ _))) (b := false) rfl HS4.out).mono ?_); rintro e w5 ⟨rfl, hs⟩; have HS5 := Lib.hid hs; clear hs)))
          go_loopw [86] (fun jv wr => ∃ j : Nat, j ≤ S ∧ jv = .int .i64 (j : Int) ∧ Sd w (Star (CellW w.heap.size #[.int .i64 d.b, .int .i64 d.s, .int .i64 d.wi, .int .i64 64, .int .i64 d.wa] 43) (Star (TurnW (.pointer (some a)) (gT 1 false W tx K)) (SlW 9 (.slice A2 S c2) S (plcs (gT 1 true W tx 0).says)))) wr) (fun jv _ => (9 - intOf jv).toNat)
          case atStart => exact ⟨0, by omega, rfl, HS6.out⟩
          case round =>
            clear HS3 HS4 HS5 HS6
            obtain ⟨j, hjS, rfl, hs⟩ := hrel
            have HS3 := Lib.hid hs
            by_cases hlt2 : j < S
            · have t4 : decide ((j : Int) < (S : Int)) = true := decide_eq_true (by omega)
              have t5 : (j : Int) < (S : Int) := by omega
              have e8 : IntKind.i64.wrap ((j : Int) + 1) = (j : Int) + 1 := IntWalk.i64_in _ (by have := HS8.out; omega)
              have e9 : IntKind.i64.wrap ((S : Int) - 1) = (S : Int) - 1 := IntWalk.i64_in _ (by have := HS8.out; omega)
              obtain ⟨_, g1⟩ := hs.get (C := fun X => Star (CellW w.heap.size #[.int .i64 d.b, .int .i64 d.s, .int .i64 d.wi, .int .i64 64, .int .i64 d.wa] 43) (Star (TurnW (.pointer (some a)) (gT 1 false W tx K)) X)) (Fr.r (CellW.stab _ _ _) (Fr.r (TurnW.stab _ _) Fr.id_))
              obtain ⟨b2, off2, rfl⟩ := g1.addr0 (by omega)
              obtain ⟨p, hp1, hp2, hp3, hp4, hp5⟩ := HSY.out j hlt2
              have hr := g1.plain hp1
              have c7 := hr 7 (.bool p.pf) rfl
              have c2' := hr 2 (.bool p.cmd) rfl
              have c3' := hr 3 (.int .i64 p.kind) rfl
              have c6' := hr 6 (.int .i64 p.ns) rfl
              have c8' := hr 8 (.string p.body) rfl
              rw [hp3] at c7
              rw [hp2] at c2'
              have HC2 := Lib.hid c2'
              clear hr g1 hs hp1 hp2 hp3 c2'
              by_cases h0 : K = 0
              · have hN0 : N = 0 := by have := HNK.out; rw [h0] at this; simp at this; omega
                rw [if_pos h0] at hp4
                rw [hp4] at c3'
                have HC3 := Lib.hid c3'
                have t6 : decide ((0 : Int) < (N : Int)) = false := decide_eq_false (by omega)
                clear hp5 c6' c8' c3' hp4 h0
                obtain ⟨pb, hpb⟩ : ∃ pb, decide (j + 1 = S) = pb := ⟨_, rfl⟩
                have v8 : ((j : Int) == (S : Int) - 1) = pb := by rw [← hpb, Bool.eq_iff_iff]; simp only [beq_iff_eq, decide_eq_true_eq]; omega
                rw [hpb] at c7
                have HC7 := Lib.hid c7
                clear c7 hpb
                go_wp2
                refine regq (fun W => Below wr.heap.size wr W) (by kernel_rfl) (by kernel_rfl) ((Below.refl _ _).drew) ?_
                refine q_take (v := ?_) (by rfl) ?_ ?_; rotate_left; (· intro W HW; go_simp; try with_reducible rfl)
                simp only [Act.put, List.setIfInBounds_toArray, List.set_cons_zero, List.set_cons_succ]
                refine q_take (v := ?_) (by rfl) ?_ ?_; rotate_left; (· intro W HW; go_simp; try with_reducible rfl)
                simp only [Act.put, List.setIfInBounds_toArray, List.set_cons_zero, List.set_cons_succ]
                refine q_take (v := ?_) (by rfl) ?_ ?_; rotate_left; (· intro W HW; go_simp; try with_reducible rfl)
                simp only [Act.put, List.setIfInBounds_toArray, List.set_cons_zero, List.set_cons_succ]
                refine q_take (v := ?_) (by rfl) ?_ ?_; rotate_left; (· intro W HW; go_simp; try with_reducible rfl)
                simp only [Act.put, List.setIfInBounds_toArray, List.set_cons_zero, List.set_cons_succ]
                refine q_take (v := ?_) (by rfl) ?_ ?_; rotate_left; (· intro W HW; have cw7 : W.cell? ⟨b2, off2 + j * 9 + 7, none⟩ = some (.bool pb) := (HW.cell (p := ⟨b2, off2 + j * 9 + 7, none⟩) (World.block_lt_of_cell? _ _ HC7.out)).trans HC7.out; go_simp; try with_reducible rfl)
                simp only [Act.put, List.setIfInBounds_toArray, List.set_cons_zero, List.set_cons_succ]
                refine q_take (v := ?_) (by rfl) ?_ ?_; rotate_left; (· intro W HW; go_simp; try with_reducible rfl)
                simp only [Act.put, List.setIfInBounds_toArray, List.set_cons_zero, List.set_cons_succ]
                refine q_take (v := ?_) (by rfl) ?_ ?_; rotate_left; (· intro W HW; go_simp; try with_reducible rfl)
                simp only [Act.put, List.setIfInBounds_toArray, List.set_cons_zero, List.set_cons_succ]
                refine q_take (v := ?_) (by rfl) ?_ ?_; rotate_left; (· intro W HW; go_simp; try with_reducible rfl)
                simp only [Act.put, List.setIfInBounds_toArray, List.set_cons_zero, List.set_cons_succ]
                refine q_take (v := ?_) (by rfl) ?_ ?_; rotate_left; (· intro W HW; go_simp; try with_reducible rfl)
                simp only [Act.put, List.setIfInBounds_toArray, List.set_cons_zero, List.set_cons_succ]
                refine q_take (v := ?_) (by rfl) ?_ ?_; rotate_left; (· intro W HW; go_simp; try with_reducible rfl)
                simp only [Act.put, List.setIfInBounds_toArray, List.set_cons_zero, List.set_cons_succ]
                refine q_take (v := ?_) (by rfl) ?_ ?_; rotate_left; (· intro W HW; go_simp; try with_reducible rfl)
                simp only [Act.put, List.setIfInBounds_toArray, List.set_cons_zero, List.set_cons_succ]
                refine q_take (v := ?_) (by rfl) ?_ ?_; rotate_left; (· intro W HW; go_simp; try with_reducible rfl)
                simp only [Act.put, List.setIfInBounds_toArray, List.set_cons_zero, List.set_cons_succ]
                refine q_take (v := ?_) (by rfl) ?_ ?_; rotate_left; (· intro W HW; go_simp; try with_reducible rfl)
                simp only [Act.put, List.setIfInBounds_toArray, List.set_cons_zero, List.set_cons_succ]
                refine q_take (v := ?_) (by rfl) ?_ ?_; rotate_left; (· intro W HW; go_simp; try with_reducible rfl)
                simp only [Act.put, List.setIfInBounds_toArray, List.set_cons_zero, List.set_cons_succ]
                refine q_take (v := ?_) (by rfl) ?_ ?_; rotate_left; (· intro W HW; go_simp; try with_reducible rfl)
                simp only [Act.put, List.setIfInBounds_toArray, List.set_cons_zero, List.set_cons_succ]
                refine q_take (v := ?_) (by rfl) ?_ ?_; rotate_left; (· intro W HW; go_simp; try with_reducible rfl)
                simp only [Act.put, List.setIfInBounds_toArray, List.set_cons_zero, List.set_cons_succ]
                refine q_take (v := ?_) (by rfl) ?_ ?_; rotate_left; (· intro W HW; have cw2 : W.cell? ⟨b2, off2 + j * 9 + 2, none⟩ = some (.bool true) := (HW.cell (p := ⟨b2, off2 + j * 9 + 2, none⟩) (World.block_lt_of_cell? _ _ HC2.out)).trans HC2.out; go_simp; try with_reducible rfl)
                simp only [Act.put, List.setIfInBounds_toArray, List.set_cons_zero, List.set_cons_succ]
                refine q_take (v := ?_) (by rfl) ?_ ?_; rotate_left; (· intro W HW; go_simp; try with_reducible rfl)
                simp only [Act.put, List.setIfInBounds_toArray, List.set_cons_zero, List.set_cons_succ]
                refine q_take (v := ?_) (by rfl) ?_ ?_; rotate_left; (· intro W HW; go_simp; try with_reducible rfl)
                simp only [Act.put, List.setIfInBounds_toArray, List.set_cons_zero, List.set_cons_succ]
                refine q_take (v := ?_) (by rfl) ?_ ?_; rotate_left; (· intro W HW; go_simp; try with_reducible rfl)
                simp only [Act.put, List.setIfInBounds_toArray, List.set_cons_zero, List.set_cons_succ]
                refine q_take (v := ?_) (by rfl) ?_ ?_; rotate_left; (· intro W HW; go_simp; try with_reducible rfl)
                simp only [Act.put, List.setIfInBounds_toArray, List.set_cons_zero, List.set_cons_succ]
                refine q_take (v := ?_) (by rfl) ?_ ?_; rotate_left; (· intro W HW; go_simp; try with_reducible rfl)
                simp only [Act.put, List.setIfInBounds_toArray, List.set_cons_zero, List.set_cons_succ]
                refine q_take (v := ?_) (by rfl) ?_ ?_; rotate_left; (· intro W HW; go_simp; try with_reducible rfl)
                simp only [Act.put, List.setIfInBounds_toArray, List.set_cons_zero, List.set_cons_succ]
                refine q_take (v := ?_) (by rfl) ?_ ?_; rotate_left; (· intro W HW; go_simp; try with_reducible rfl)
                simp only [Act.put, List.setIfInBounds_toArray, List.set_cons_zero, List.set_cons_succ]
                refine q_take (v := ?_) (by rfl) ?_ ?_; rotate_left; (· intro W HW; have cw3 : W.cell? ⟨b2, off2 + j * 9 + 3, none⟩ = some (.int .i64 2) := (HW.cell (p := ⟨b2, off2 + j * 9 + 3, none⟩) (World.block_lt_of_cell? _ _ HC3.out)).trans HC3.out; go_simp; try with_reducible rfl)
                simp only [Act.put, List.setIfInBounds_toArray, List.set_cons_zero, List.set_cons_succ]
                refine q_take (v := ?_) (by rfl) ?_ ?_; rotate_left; (· intro W HW; go_simp; try with_reducible rfl)
                simp only [Act.put, List.setIfInBounds_toArray, List.set_cons_zero, List.set_cons_succ]
                refine q_take (v := ?_) (by rfl) ?_ ?_; rotate_left; (· intro W HW; go_simp; try with_reducible rfl)
                simp only [Act.put, List.setIfInBounds_toArray, List.set_cons_zero, List.set_cons_succ]
                refine q_call 55 #[.bool false] (by rfl) (by intro W HW; go_simp) (from_same (fun W => B2i_any _ W)) ?_
                simp only [Act.put, List.setIfInBounds_toArray, List.set_cons_zero, List.set_cons_succ]
                refine q_take (v := ?_) (by rfl) ?_ ?_; rotate_left; (· intro W HW; go_simp; try with_reducible rfl)
                simp only [Act.put, List.setIfInBounds_toArray, List.set_cons_zero, List.set_cons_succ]
                refine q_take (v := ?_) (by rfl) ?_ ?_; rotate_left; (· intro W HW; go_simp; try with_reducible rfl)
                simp only [Act.put, List.setIfInBounds_toArray, List.set_cons_zero, List.set_cons_succ]
                refine q_take (v := ?_) (by rfl) ?_ ?_; rotate_left; (· intro W HW; go_simp; try with_reducible rfl)
                simp only [Act.put, List.setIfInBounds_toArray, List.set_cons_zero, List.set_cons_succ]
                refine q_take (v := ?_) (by rfl) ?_ ?_; rotate_left; (· intro W HW; go_simp; try with_reducible rfl)
                simp only [Act.put, List.setIfInBounds_toArray, List.set_cons_zero, List.set_cons_succ]
                refine q_take (v := ?_) (by rfl) ?_ ?_; rotate_left; (· intro W HW; go_simp; try with_reducible rfl)
                simp only [Act.put, List.setIfInBounds_toArray, List.set_cons_zero, List.set_cons_succ]
                refine q_take (v := ?_) (by rfl) ?_ ?_; rotate_left; (· intro W HW; go_simp; try with_reducible rfl)
                simp only [Act.put, List.setIfInBounds_toArray, List.set_cons_zero, List.set_cons_succ]
                refine q_take (v := ?_) (by rfl) ?_ ?_; rotate_left; (· intro W HW; go_simp; try with_reducible rfl)
                simp only [Act.put, List.setIfInBounds_toArray, List.set_cons_zero, List.set_cons_succ]
                refine q_skip (by rfl) ?_
                simp only [Act.put, List.setIfInBounds_toArray, List.set_cons_zero, List.set_cons_succ]
                refine q_skip (by rfl) ?_
                simp only [Act.put, List.setIfInBounds_toArray, List.set_cons_zero, List.set_cons_succ]
                refine q_skip (by rfl) ?_
                simp only [Act.put, List.setIfInBounds_toArray, List.set_cons_zero, List.set_cons_succ]
                refine q_skip (by rfl) ?_
                simp only [Act.put, List.setIfInBounds_toArray, List.set_cons_zero, List.set_cons_succ]
                refine q_skip (by rfl) ?_
                simp only [Act.put, List.setIfInBounds_toArray, List.set_cons_zero, List.set_cons_succ]
                refine q_skip (by rfl) ?_
                simp only [Act.put, List.setIfInBounds_toArray, List.set_cons_zero, List.set_cons_succ]
                refine q_skip (by rfl) ?_
                simp only [Act.put, List.setIfInBounds_toArray, List.set_cons_zero, List.set_cons_succ]
                refine q_skip (by rfl) ?_
                simp only [Act.put, List.setIfInBounds_toArray, List.set_cons_zero, List.set_cons_succ]
                refine q_skip (by rfl) ?_
                simp only [Act.put, List.setIfInBounds_toArray, List.set_cons_zero, List.set_cons_succ]
                refine q_skip (by rfl) ?_
                simp only [Act.put, List.setIfInBounds_toArray, List.set_cons_zero, List.set_cons_succ]
                refine q_skip (by rfl) ?_
                simp only [Act.put, List.setIfInBounds_toArray, List.set_cons_zero, List.set_cons_succ]
                refine q_skip (by rfl) ?_
                simp only [Act.put, List.setIfInBounds_toArray, List.set_cons_zero, List.set_cons_succ]
                refine q_skip (by rfl) ?_
                simp only [Act.put, List.setIfInBounds_toArray, List.set_cons_zero, List.set_cons_succ]
                refine q_skip (by rfl) ?_
                simp only [Act.put, List.setIfInBounds_toArray, List.set_cons_zero, List.set_cons_succ]
                refine q_skip (by rfl) ?_
                simp only [Act.put, List.setIfInBounds_toArray, List.set_cons_zero, List.set_cons_succ]
                refine q_skip (by rfl) ?_
                simp only [Act.put, List.setIfInBounds_toArray, List.set_cons_zero, List.set_cons_succ]
                refine q_skip (by rfl) ?_
                simp only [Act.put, List.setIfInBounds_toArray, List.set_cons_zero, List.set_cons_succ]
                refine q_skip (by rfl) ?_
                simp only [Act.put, List.setIfInBounds_toArray, List.set_cons_zero, List.set_cons_succ]
                refine q_skip (by rfl) ?_
                simp only [Act.put, List.setIfInBounds_toArray, List.set_cons_zero, List.set_cons_succ]
                refine q_skip (by rfl) ?_
                simp only [Act.put, List.setIfInBounds_toArray, List.set_cons_zero, List.set_cons_succ]
                refine q_take (v := ?_) (by rfl) ?_ ?_; rotate_left; (· intro W HW; go_simp; try with_reducible rfl)
                simp only [Act.put, List.setIfInBounds_toArray, List.set_cons_zero, List.set_cons_succ]
                refine q_take (v := ?_) (by rfl) ?_ ?_; rotate_left; (· intro W HW; go_simp; try with_reducible rfl)
                simp only [Act.put, List.setIfInBounds_toArray, List.set_cons_zero, List.set_cons_succ]
                refine q_done ?_
                intro w5 hb5
                have HS5 := Lib.hid (HS3.out.keep ((CellW.stab _ _ _).star ((TurnW.stab _ _).star (SlW.stab _ _ _ _))) hb5)
                clear hb5
                go_wp2
                go_roundw
                case rel => exact ⟨j + 1, by omega, by go_num, HS5.out⟩
                case measure => have := HS8.out; simp [intOf] <;> omega
              · have hN0 : 0 < N := by have := HNK.out; rw [this]; omega
                rw [if_neg h0] at hp4
                rw [hp4] at c3'
                obtain ⟨hns, hjt, hbd⟩ := hp5 (by omega)
                rw [hns] at c6'
                obtain ⟨hjl, hcu⟩ := HTA.out j hjt
                rw [hbd, hcu] at c8'
                have HC3 := Lib.hid c3'
                have HC6 := Lib.hid c6'
                have t6 : decide ((0 : Int) < (N : Int)) = true := decide_eq_true (by omega)
                obtain ⟨x, hx⟩ : ∃ x, l[j] = x := ⟨_, rfl⟩
                obtain ⟨b, off, rfl, hcb⟩ := (HA.out.below HS3.out.bel0).one (i := j) (u := .string x) (by unfold strg; simp [hjl, hx]) hjl
                have hxs : x.size ≤ maxLen := by rw [← hx]; exact HSZ.out _ (List.getElem_mem hjl)
                have htx := fun w => Text_any x 64 w hxs (by omega)
                have HTX : Hid (∀ w, Calls Tryz.prog 30 #[.string x, .int .i64 64] w fun e w' => e = .returned (.string (cut64 x)) ∧ w = w') := htx
                have t7 : (j : Int) < (L : Int) := by have := HL.out; omega
                rw [hx] at c8'
                generalize cut64 x = y at HTX c8'
                have HC8 := Lib.hid c8'
                have HCB := Lib.hid hcb
                clear c6' c8' c3' hp4 h0 hns hbd hx hxs htx hcb hcu hjt hjl hp5
                obtain ⟨pb, hpb⟩ : ∃ pb, decide (j + 1 = S) = pb := ⟨_, rfl⟩
                have v8 : ((j : Int) == (S : Int) - 1) = pb := by rw [← hpb, Bool.eq_iff_iff]; simp only [beq_iff_eq, decide_eq_true_eq]; omega
                rw [hpb] at c7
                have HC7 := Lib.hid c7
                clear c7 hpb
                go_wp2
                refine regq (fun W => Below wr.heap.size wr W) (by kernel_rfl) (by kernel_rfl) ((Below.refl _ _).drew) ?_
                refine q_take (v := ?_) (by rfl) ?_ ?_; rotate_left; (· intro W HW; go_simp; try with_reducible rfl)
                simp only [Act.put, List.setIfInBounds_toArray, List.set_cons_zero, List.set_cons_succ]
                refine q_take (v := ?_) (by rfl) ?_ ?_; rotate_left; (· intro W HW; go_simp; try with_reducible rfl)
                simp only [Act.put, List.setIfInBounds_toArray, List.set_cons_zero, List.set_cons_succ]
                refine q_take (v := ?_) (by rfl) ?_ ?_; rotate_left; (· intro W HW; go_simp; try with_reducible rfl)
                simp only [Act.put, List.setIfInBounds_toArray, List.set_cons_zero, List.set_cons_succ]
                refine q_take (v := ?_) (by rfl) ?_ ?_; rotate_left; (· intro W HW; go_simp; try with_reducible rfl)
                simp only [Act.put, List.setIfInBounds_toArray, List.set_cons_zero, List.set_cons_succ]
                refine q_take (v := ?_) (by rfl) ?_ ?_; rotate_left; (· intro W HW; have cw7 : W.cell? ⟨b2, off2 + j * 9 + 7, none⟩ = some (.bool pb) := (HW.cell (p := ⟨b2, off2 + j * 9 + 7, none⟩) (World.block_lt_of_cell? _ _ HC7.out)).trans HC7.out; go_simp; try with_reducible rfl)
                simp only [Act.put, List.setIfInBounds_toArray, List.set_cons_zero, List.set_cons_succ]
                refine q_take (v := ?_) (by rfl) ?_ ?_; rotate_left; (· intro W HW; go_simp; try with_reducible rfl)
                simp only [Act.put, List.setIfInBounds_toArray, List.set_cons_zero, List.set_cons_succ]
                refine q_take (v := ?_) (by rfl) ?_ ?_; rotate_left; (· intro W HW; go_simp; try with_reducible rfl)
                simp only [Act.put, List.setIfInBounds_toArray, List.set_cons_zero, List.set_cons_succ]
                refine q_take (v := ?_) (by rfl) ?_ ?_; rotate_left; (· intro W HW; go_simp; try with_reducible rfl)
                simp only [Act.put, List.setIfInBounds_toArray, List.set_cons_zero, List.set_cons_succ]
                refine q_take (v := ?_) (by rfl) ?_ ?_; rotate_left; (· intro W HW; go_simp; try with_reducible rfl)
                simp only [Act.put, List.setIfInBounds_toArray, List.set_cons_zero, List.set_cons_succ]
                refine q_take (v := ?_) (by rfl) ?_ ?_; rotate_left; (· intro W HW; go_simp; try with_reducible rfl)
                simp only [Act.put, List.setIfInBounds_toArray, List.set_cons_zero, List.set_cons_succ]
                refine q_take (v := ?_) (by rfl) ?_ ?_; rotate_left; (· intro W HW; go_simp; try with_reducible rfl)
                simp only [Act.put, List.setIfInBounds_toArray, List.set_cons_zero, List.set_cons_succ]
                refine q_take (v := ?_) (by rfl) ?_ ?_; rotate_left; (· intro W HW; go_simp; try with_reducible rfl)
                simp only [Act.put, List.setIfInBounds_toArray, List.set_cons_zero, List.set_cons_succ]
                refine q_take (v := ?_) (by rfl) ?_ ?_; rotate_left; (· intro W HW; go_simp; try with_reducible rfl)
                simp only [Act.put, List.setIfInBounds_toArray, List.set_cons_zero, List.set_cons_succ]
                refine q_take (v := ?_) (by rfl) ?_ ?_; rotate_left; (· intro W HW; go_simp; try with_reducible rfl)
                simp only [Act.put, List.setIfInBounds_toArray, List.set_cons_zero, List.set_cons_succ]
                refine q_take (v := ?_) (by rfl) ?_ ?_; rotate_left; (· intro W HW; go_simp; try with_reducible rfl)
                simp only [Act.put, List.setIfInBounds_toArray, List.set_cons_zero, List.set_cons_succ]
                refine q_take (v := ?_) (by rfl) ?_ ?_; rotate_left; (· intro W HW; go_simp; try with_reducible rfl)
                simp only [Act.put, List.setIfInBounds_toArray, List.set_cons_zero, List.set_cons_succ]
                refine q_take (v := ?_) (by rfl) ?_ ?_; rotate_left; (· intro W HW; have cw2 : W.cell? ⟨b2, off2 + j * 9 + 2, none⟩ = some (.bool true) := (HW.cell (p := ⟨b2, off2 + j * 9 + 2, none⟩) (World.block_lt_of_cell? _ _ HC2.out)).trans HC2.out; go_simp; try with_reducible rfl)
                simp only [Act.put, List.setIfInBounds_toArray, List.set_cons_zero, List.set_cons_succ]
                refine q_take (v := ?_) (by rfl) ?_ ?_; rotate_left; (· intro W HW; go_simp; try with_reducible rfl)
                simp only [Act.put, List.setIfInBounds_toArray, List.set_cons_zero, List.set_cons_succ]
                refine q_take (v := ?_) (by rfl) ?_ ?_; rotate_left; (· intro W HW; go_simp; try with_reducible rfl)
                simp only [Act.put, List.setIfInBounds_toArray, List.set_cons_zero, List.set_cons_succ]
                refine q_take (v := ?_) (by rfl) ?_ ?_; rotate_left; (· intro W HW; go_simp; try with_reducible rfl)
                simp only [Act.put, List.setIfInBounds_toArray, List.set_cons_zero, List.set_cons_succ]
                refine q_take (v := ?_) (by rfl) ?_ ?_; rotate_left; (· intro W HW; go_simp; try with_reducible rfl)
                simp only [Act.put, List.setIfInBounds_toArray, List.set_cons_zero, List.set_cons_succ]
                refine q_take (v := ?_) (by rfl) ?_ ?_; rotate_left; (· intro W HW; go_simp; try with_reducible rfl)
                simp only [Act.put, List.setIfInBounds_toArray, List.set_cons_zero, List.set_cons_succ]
                refine q_take (v := ?_) (by rfl) ?_ ?_; rotate_left; (· intro W HW; go_simp; try with_reducible rfl)
                simp only [Act.put, List.setIfInBounds_toArray, List.set_cons_zero, List.set_cons_succ]
                refine q_take (v := ?_) (by rfl) ?_ ?_; rotate_left; (· intro W HW; go_simp; try with_reducible rfl)
                simp only [Act.put, List.setIfInBounds_toArray, List.set_cons_zero, List.set_cons_succ]
                refine q_take (v := ?_) (by rfl) ?_ ?_; rotate_left; (· intro W HW; have cw3 : W.cell? ⟨b2, off2 + j * 9 + 3, none⟩ = some (.int .i64 1) := (HW.cell (p := ⟨b2, off2 + j * 9 + 3, none⟩) (World.block_lt_of_cell? _ _ HC3.out)).trans HC3.out; go_simp; try with_reducible rfl)
                simp only [Act.put, List.setIfInBounds_toArray, List.set_cons_zero, List.set_cons_succ]
                refine q_take (v := ?_) (by rfl) ?_ ?_; rotate_left; (· intro W HW; go_simp; try with_reducible rfl)
                simp only [Act.put, List.setIfInBounds_toArray, List.set_cons_zero, List.set_cons_succ]
                refine q_take (v := ?_) (by rfl) ?_ ?_; rotate_left; (· intro W HW; go_simp; try with_reducible rfl)
                simp only [Act.put, List.setIfInBounds_toArray, List.set_cons_zero, List.set_cons_succ]
                refine q_call 55 #[.bool true] (by rfl) (by intro W HW; go_simp) (from_same (fun W => B2i_any _ W)) ?_
                simp only [Act.put, List.setIfInBounds_toArray, List.set_cons_zero, List.set_cons_succ]
                refine q_take (v := ?_) (by rfl) ?_ ?_; rotate_left; (· intro W HW; go_simp; try with_reducible rfl)
                simp only [Act.put, List.setIfInBounds_toArray, List.set_cons_zero, List.set_cons_succ]
                refine q_take (v := ?_) (by rfl) ?_ ?_; rotate_left; (· intro W HW; go_simp; try with_reducible rfl)
                simp only [Act.put, List.setIfInBounds_toArray, List.set_cons_zero, List.set_cons_succ]
                refine q_take (v := ?_) (by rfl) ?_ ?_; rotate_left; (· intro W HW; go_simp; try with_reducible rfl)
                simp only [Act.put, List.setIfInBounds_toArray, List.set_cons_zero, List.set_cons_succ]
                refine q_take (v := ?_) (by rfl) ?_ ?_; rotate_left; (· intro W HW; go_simp; try with_reducible rfl)
                simp only [Act.put, List.setIfInBounds_toArray, List.set_cons_zero, List.set_cons_succ]
                refine q_take (v := ?_) (by rfl) ?_ ?_; rotate_left; (· intro W HW; go_simp; try with_reducible rfl)
                simp only [Act.put, List.setIfInBounds_toArray, List.set_cons_zero, List.set_cons_succ]
                refine q_take (v := ?_) (by rfl) ?_ ?_; rotate_left; (· intro W HW; go_simp; try with_reducible rfl)
                simp only [Act.put, List.setIfInBounds_toArray, List.set_cons_zero, List.set_cons_succ]
                refine q_take (v := ?_) (by rfl) ?_ ?_; rotate_left; (· intro W HW; go_simp; try with_reducible rfl)
                simp only [Act.put, List.setIfInBounds_toArray, List.set_cons_zero, List.set_cons_succ]
                refine q_take (v := ?_) (by rfl) ?_ ?_; rotate_left; (· intro W HW; go_simp; try with_reducible rfl)
                simp only [Act.put, List.setIfInBounds_toArray, List.set_cons_zero, List.set_cons_succ]
                refine q_take (v := ?_) (by rfl) ?_ ?_; rotate_left; (· intro W HW; go_simp; try with_reducible rfl)
                simp only [Act.put, List.setIfInBounds_toArray, List.set_cons_zero, List.set_cons_succ]
                refine q_take (v := ?_) (by rfl) ?_ ?_; rotate_left; (· intro W HW; go_simp; try with_reducible rfl)
                simp only [Act.put, List.setIfInBounds_toArray, List.set_cons_zero, List.set_cons_succ]
                refine q_take (v := ?_) (by rfl) ?_ ?_; rotate_left; (· intro W HW; go_simp; try with_reducible rfl)
                simp only [Act.put, List.setIfInBounds_toArray, List.set_cons_zero, List.set_cons_succ]
                refine q_take (v := ?_) (by rfl) ?_ ?_; rotate_left; (· intro W HW; have cw6 : W.cell? ⟨b2, off2 + j * 9 + 6, none⟩ = some (.int .i64 (j : Int)) := (HW.cell (p := ⟨b2, off2 + j * 9 + 6, none⟩) (World.block_lt_of_cell? _ _ HC6.out)).trans HC6.out; go_simp; try with_reducible rfl)
                simp only [Act.put, List.setIfInBounds_toArray, List.set_cons_zero, List.set_cons_succ]
                refine q_take (v := ?_) (by rfl) ?_ ?_; rotate_left; (· intro W HW; go_simp; try with_reducible rfl)
                simp only [Act.put, List.setIfInBounds_toArray, List.set_cons_zero, List.set_cons_succ]
                refine q_take (v := ?_) (by rfl) ?_ ?_; rotate_left; (· intro W HW; go_simp; try with_reducible rfl)
                simp only [Act.put, List.setIfInBounds_toArray, List.set_cons_zero, List.set_cons_succ]
                refine q_take (v := ?_) (by rfl) ?_ ?_; rotate_left; (· intro W HW; go_simp; try with_reducible rfl)
                simp only [Act.put, List.setIfInBounds_toArray, List.set_cons_zero, List.set_cons_succ]
                refine q_take (v := ?_) (by rfl) ?_ ?_; rotate_left; (· intro W HW; go_simp; try with_reducible rfl)
                simp only [Act.put, List.setIfInBounds_toArray, List.set_cons_zero, List.set_cons_succ]
                refine q_take (v := ?_) (by rfl) ?_ ?_; rotate_left; (· intro W HW; go_simp; try with_reducible rfl)
                simp only [Act.put, List.setIfInBounds_toArray, List.set_cons_zero, List.set_cons_succ]
                refine q_take (v := ?_) (by rfl) ?_ ?_; rotate_left; (· intro W HW; go_simp; try with_reducible rfl)
                simp only [Act.put, List.setIfInBounds_toArray, List.set_cons_zero, List.set_cons_succ]
                refine q_take (v := ?_) (by rfl) ?_ ?_; rotate_left; (· intro W HW; go_simp; try with_reducible rfl)
                simp only [Act.put, List.setIfInBounds_toArray, List.set_cons_zero, List.set_cons_succ]
                refine q_take (v := ?_) (by rfl) ?_ ?_; rotate_left; (· intro W HW; have cw8 : W.cell? ⟨b2, off2 + j * 9 + 8, none⟩ = some (.string y) := (HW.cell (p := ⟨b2, off2 + j * 9 + 8, none⟩) (World.block_lt_of_cell? _ _ HC8.out)).trans HC8.out; go_simp; try with_reducible rfl)
                simp only [Act.put, List.setIfInBounds_toArray, List.set_cons_zero, List.set_cons_succ]
                refine q_take (v := ?_) (by rfl) ?_ ?_; rotate_left; (· intro W HW; go_simp; try with_reducible rfl)
                simp only [Act.put, List.setIfInBounds_toArray, List.set_cons_zero, List.set_cons_succ]
                refine q_take (v := ?_) (by rfl) ?_ ?_; rotate_left; (· intro W HW; go_simp; try with_reducible rfl)
                simp only [Act.put, List.setIfInBounds_toArray, List.set_cons_zero, List.set_cons_succ]
                refine q_take (v := ?_) (by rfl) ?_ ?_; rotate_left; (· intro W HW; go_simp; try with_reducible rfl)
                simp only [Act.put, List.setIfInBounds_toArray, List.set_cons_zero, List.set_cons_succ]
                refine q_take (v := ?_) (by rfl) ?_ ?_; rotate_left; (· intro W HW; have cwb : W.cell? ⟨b, off + j, none⟩ = some (.string x) := (HW.cell (p := ⟨b, off + j, none⟩) (World.block_lt_of_cell? _ _ HCB.out)).trans HCB.out; go_simp; try with_reducible rfl)
                simp only [Act.put, List.setIfInBounds_toArray, List.set_cons_zero, List.set_cons_succ]
                refine q_call 30 #[.string x, .int .i64 64] (by rfl) (by intro W HW; go_simp) (from_same (fun W => (HTX.out W).mono fun _ _ ⟨h1, h2⟩ => ⟨h1, h2.symm⟩)) ?_
                simp only [Act.put, List.setIfInBounds_toArray, List.set_cons_zero, List.set_cons_succ]
                refine q_take (v := ?_) (by rfl) ?_ ?_; rotate_left; (· intro W HW; go_simp; try with_reducible rfl)
                simp only [Act.put, List.setIfInBounds_toArray, List.set_cons_zero, List.set_cons_succ]
                refine q_take (v := ?_) (by rfl) ?_ ?_; rotate_left; (· intro W HW; go_simp; try with_reducible rfl)
                simp only [Act.put, List.setIfInBounds_toArray, List.set_cons_zero, List.set_cons_succ]
                refine q_take (v := ?_) (by rfl) ?_ ?_; rotate_left; (· intro W HW; go_simp; try with_reducible rfl)
                simp only [Act.put, List.setIfInBounds_toArray, List.set_cons_zero, List.set_cons_succ]
                refine q_take (v := ?_) (by rfl) ?_ ?_; rotate_left; (· intro W HW; go_simp; try with_reducible rfl)
                simp only [Act.put, List.setIfInBounds_toArray, List.set_cons_zero, List.set_cons_succ]
                refine q_done ?_
                intro w5 hb5
                have HS5 := Lib.hid (HS3.out.keep ((CellW.stab _ _ _).star ((TurnW.stab _ _).star (SlW.stab _ _ _ _))) hb5)
                clear hb5
                go_wp2
                go_roundw
                case rel => exact ⟨j + 1, by omega, by go_num, HS5.out⟩
                case measure => have := HS8.out; simp [intOf] <;> omega
            · have t4 : decide ((j : Int) < (S : Int)) = false := decide_eq_false (by omega)
              clear hs
              go_wp2_with (first
                | (go_at_call 39; ((with_reducible refine (TnLate_C (C := fun X => Star (CellW w.heap.size #[.int .i64 d.b, .int .i64 d.s, .int .i64 d.wi, .int .i64 64, .int .i64 d.wa] 43) (Star X (SlW 9 (.slice A2 S c2) S (plcs (gT 1 true W tx 0).says)))) (Fr.r (CellW.stab _ _ _) (Fr.l Fr.id_ (SlW.stab _ _ _ _))) (b := true) rfl (m' := (gT 1 true W tx K)) rfl HS3.out).mono ?_); rintro e w4 ⟨rfl, hs⟩; have HS4 := Lib.hid hs; clear hs))
                | (go_at_call 43; ((with_reducible refine (TnMine_C (C := fun X => Star (CellW w.heap.size #[.int .i64 d.b, .int .i64 d.s, .int .i64 d.wi, .int .i64 64, .int .i64 d.wa] 43) (Star X (SlW 9 (.slice A2 S c2) S (plcs (gT 1 true W tx 0).says)))) (Fr.r (CellW.stab _ _ _) (Fr.l Fr.id_ (SlW.stab _ _ _ _))) ((CellW.stab _ _ _).star ((TurnW.stab _ _).star (SlW.stab _ _ _ _))) (b := true) rfl HS4.out).mono ?_); rintro e w5 ⟨rfl, hs⟩; have HS5 := Lib.hid hs; clear hs))
                | (go_at_call 34; ((with_reducible refine (TnGo_len (C := fun X => Star (CellW w.heap.size #[.int .i64 d.b, .int .i64 d.s, .int .i64 d.wi, .int .i64 64, .int .i64 d.wa] 43) (Star X (SlW 9 (.slice A2 S c2) S (plcs (gT 1 true W tx 0).says)))) (Fr.r (CellW.stab _ _ _) (Fr.l Fr.id_ (SlW.stab _ _ _ _))) (m := (gT 1 true W tx K)) HGN2.out HGM2.out HS5.out).mono ?_); rintro e w6 ⟨A3, c3, rfl, hs⟩; have HS6 := Lib.hid hs; clear hs)))
              go_ret
              exact ⟨by simp, HS6.out.bel0⟩
  · have z0 : ((1 : Nat) : Int) = 1 := rfl
    rw [z0] at h_q e3_q e4_q
    have HNEW : Hid ((gT 2 false W [] 0) = TurnM.new 2 d.wi 64) := by show _ = _; exact (gT_new (R := 2) hW).symm
    clear hW
    go_enter Tryz.func10, Tryz.ntmps10
    go_upto_block 0 with (first
      | ((with_reducible refine wpList_storeSd (C := fun X => X) Fr.id_ HS1.out rfl 3 (.tmp 22) (.const (.int .i64 64)) rfl 3 (.int .i64 64) rfl rfl (by simp) (run_storeI 64 _ _) ?_); intro w2 hs; have HS2 : Hid (Sd w (CellW w.heap.size #[.int .i64 d.b, .int .i64 d.s, .int .i64 d.wi, .int .i64 64, .int .i64 d.wa] 43) w2) := (by show Sd _ _ _; exact hs); clear hs)
      | (with_reducible refine wpList_loadSd (C := fun X => X) Fr.id_ HS2.out rfl 43 (.tmp 4) rfl rfl _ Tryz.underlying43 rfl (by kernel_rfl) ?_)
      | (go_at_call 17; ((with_reducible refine (calls_keep (CellW.stab _ _ _) HS0.out (begun12_any _ (HC.out.below HS0.out.bel0))).mono ?_); rintro e w1 ⟨rfl, hs⟩; have HS1 := Lib.hid hs; clear hs))
      | (go_at_call 28; ((with_reducible refine (TnNew_add (m := (gT 2 false W [] 0)) (CellW.stab _ _ _) (.inr rfl) HDW.out (by decide) HNEW.out HS2.out).mono ?_); rintro e w3 ⟨a, rfl, hs⟩; have HS3 := Lib.hid hs; clear hs)))
    go_cut [9] (fun s9 wx => ∃ N : Nat, N = min L 8 ∧ s9 = .int .i64 (N : Int) ∧ Sd w (Star (CellW w.heap.size #[.int .i64 d.b, .int .i64 d.s, .int .i64 d.wi, .int .i64 64, .int .i64 d.wa] 43) (TurnW (.pointer (some a)) (gT 2 false W ((l.map cut64).take N) 0))) wx)
    case first =>
     go_wp2_with fail
     go_loopw [9, 10] (fun nv iv wr => ∃ i : Nat, i ≤ 12 ∧ i ≤ L ∧ iv = .int .i64 (i : Int) ∧ nv = .int .i64 ((min i 8 : Nat) : Int) ∧ Sd w (Star (CellW w.heap.size #[.int .i64 d.b, .int .i64 d.s, .int .i64 d.wi, .int .i64 64, .int .i64 d.wa] 43) (TurnW (.pointer (some a)) (gT 2 false W ((l.map cut64).take (min i 8)) 0))) wr) (fun _ iv _ => (12 - intOf iv).toNat)
     case atStart => exact ⟨0, by omega, by omega, rfl, rfl, HS3.out⟩
     case round =>
      clear HS0 HS1 HS2 HS3
      obtain ⟨i, hi12, hiL, rfl, rfl, hs⟩ := hrel
      have HS3 := Lib.hid hs
      clear hs
      have hLl : L = l.length := HL.out
      by_cases hlt : i < L
      · have t1 : decide ((i : Int) < (L : Int)) = true := decide_eq_true (by omega)
        by_cases h12 : i < 12
        · have t2 : decide ((i : Int) < 12) = true := decide_eq_true (by omega)
          have t3 : (i : Int) < (L : Int) := by omega
          have e5 : IntKind.i64.wrap ((i : Int) + 1) = (i : Int) + 1 := IntWalk.i64_in _ (by omega)
          have hil : i < l.length := by omega
          obtain ⟨x, hx⟩ : ∃ x, l[i] = x := ⟨_, rfl⟩
          obtain ⟨b, off, rfl, hc⟩ := (HA.out.below HS3.out.bel0).one (i := i) (u := .string x) (by unfold strg; simp [hil, hx]) hil
          have hxs : x.size ≤ maxLen := by rw [← hx]; exact HSZ.out _ (List.getElem_mem hil)
          have htx := fun w => Text_any x 64 w hxs (by omega)
          have HTX : Hid (∀ w, Calls Tryz.prog 30 #[.string x, .int .i64 64] w fun e w' => e = .returned (.string (cut64 x)) ∧ w = w') := htx
          have HBZ : Hid ((cut64 x).size ≤ maxLen) := by show _ ≤ _; have := cut64_size x; unfold maxLen; omega
          by_cases h8 : i < 8
          · obtain ⟨k1, k2⟩ := gT_put (R := 2) (mine := false) (W := W) hil h8
            rw [hx] at k1 k2
            have e6 : min i 8 = i := by omega
            have HE7 : Hid (min (i + 1) 8 = i + 1) := by show _ = _; omega
            rw [e6] at HS3 ⊢
            have HPM := Lib.hid k1
            have HPE := Lib.hid k2
            clear k1 k2 hx e6 htx hxs hLl
            generalize cut64 x = y at HTX HBZ HPM HPE
            go_wp2_with (first
              | (go_at_call 30; ((with_reducible refine (HTX.out _).mono ?_); rintro e w' ⟨rfl, hw'⟩; rw [← hw']; clear hw'))
              | (go_at_call 31; ((with_reducible refine (TnPut_C (C := fun X => Star (CellW w.heap.size #[.int .i64 d.b, .int .i64 d.s, .int .i64 d.wi, .int .i64 64, .int .i64 d.wa] 43) X) (Fr.r (CellW.stab _ _ _) Fr.id_) HBZ.out HPE.out HPM.out HS3.out).mono ?_); rintro e w4 ⟨rfl, hs⟩; have HS4 := Lib.hid hs; clear hs)))
            go_roundw
            case rel => first | exact ⟨i + 1, by omega, by omega, by go_num, (by rw [HE7.out]; go_num), (by rw [HE7.out]; exact HS4.out)⟩ | exact ⟨_, _, _, _, _, _, _, _, _, _, _, _, ⟨i + 1, by omega, by omega, by go_num, (by rw [HE7.out]; go_num), (by rw [HE7.out]; exact HS4.out)⟩, rfl⟩ | exact ⟨_, _, _, _, _, _, _, _, _, _, _, _, _, ⟨i + 1, by omega, by omega, by go_num, (by rw [HE7.out]; go_num), (by rw [HE7.out]; exact HS4.out)⟩, rfl⟩ | exact ⟨_, _, _, _, _, _, _, _, _, _, _, _, _, _, ⟨i + 1, by omega, by omega, by go_num, (by rw [HE7.out]; go_num), (by rw [HE7.out]; exact HS4.out)⟩, rfl⟩ | exact ⟨_, _, _, _, _, _, _, _, _, _, _, _, _, _, _, ⟨i + 1, by omega, by omega, by go_num, (by rw [HE7.out]; go_num), (by rw [HE7.out]; exact HS4.out)⟩, rfl⟩ | exact ⟨_, _, _, _, _, _, _, _, _, _, _, _, _, _, _, _, ⟨i + 1, by omega, by omega, by go_num, (by rw [HE7.out]; go_num), (by rw [HE7.out]; exact HS4.out)⟩, rfl⟩ | exact ⟨_, _, _, _, _, _, _, _, _, _, _, _, _, _, _, _, _, ⟨i + 1, by omega, by omega, by go_num, (by rw [HE7.out]; go_num), (by rw [HE7.out]; exact HS4.out)⟩, rfl⟩ | exact ⟨_, _, _, _, _, _, _, _, _, _, _, _, _, _, _, _, _, _, ⟨i + 1, by omega, by omega, by go_num, (by rw [HE7.out]; go_num), (by rw [HE7.out]; exact HS4.out)⟩, rfl⟩ | exact ⟨_, _, _, _, _, _, _, _, _, _, _, _, _, _, _, _, _, _, _, ⟨i + 1, by omega, by omega, by go_num, (by rw [HE7.out]; go_num), (by rw [HE7.out]; exact HS4.out)⟩, rfl⟩ | exact ⟨_, _, _, _, _, _, _, _, _, _, _, _, _, _, _, _, _, _, _, _, ⟨i + 1, by omega, by omega, by go_num, (by rw [HE7.out]; go_num), (by rw [HE7.out]; exact HS4.out)⟩, rfl⟩ | exact ⟨_, _, _, _, _, _, _, _, _, _, _, _, _, _, _, _, _, _, _, _, _, ⟨i + 1, by omega, by omega, by go_num, (by rw [HE7.out]; go_num), (by rw [HE7.out]; exact HS4.out)⟩, rfl⟩ | exact ⟨_, _, _, _, _, _, _, _, _, _, _, _, _, _, _, _, _, _, _, _, _, _, ⟨i + 1, by omega, by omega, by go_num, (by rw [HE7.out]; go_num), (by rw [HE7.out]; exact HS4.out)⟩, rfl⟩ | exact ⟨_, _, _, _, _, _, _, _, _, _, _, _, _, _, _, _, _, _, _, _, _, _, _, ⟨i + 1, by omega, by omega, by go_num, (by rw [HE7.out]; go_num), (by rw [HE7.out]; exact HS4.out)⟩, rfl⟩ | exact ⟨_, _, _, _, _, _, _, _, _, _, _, _, _, _, _, _, _, _, _, _, _, _, _, _, ⟨i + 1, by omega, by omega, by go_num, (by rw [HE7.out]; go_num), (by rw [HE7.out]; exact HS4.out)⟩, rfl⟩ | exact ⟨_, _, _, _, _, _, _, _, _, _, _, _, _, _, _, _, _, _, _, _, _, _, _, _, _, ⟨i + 1, by omega, by omega, by go_num, (by rw [HE7.out]; go_num), (by rw [HE7.out]; exact HS4.out)⟩, rfl⟩ | exact ⟨_, _, _, _, _, _, _, _, _, _, _, _, _, _, _, _, _, _, _, _, _, _, _, _, _, _, ⟨i + 1, by omega, by omega, by go_num, (by rw [HE7.out]; go_num), (by rw [HE7.out]; exact HS4.out)⟩, rfl⟩ | exact ⟨_, _, _, _, _, _, _, _, _, _, _, _, _, _, _, _, _, _, _, _, _, _, _, _, _, _, _, ⟨i + 1, by omega, by omega, by go_num, (by rw [HE7.out]; go_num), (by rw [HE7.out]; exact HS4.out)⟩, rfl⟩ | exact ⟨_, _, _, _, _, _, _, _, _, _, _, _, _, _, _, _, _, _, _, _, _, _, _, _, _, _, _, _, ⟨i + 1, by omega, by omega, by go_num, (by rw [HE7.out]; go_num), (by rw [HE7.out]; exact HS4.out)⟩, rfl⟩ | exact ⟨_, _, _, _, _, _, _, _, _, _, _, _, _, _, _, _, _, _, _, _, _, _, _, _, _, _, _, _, _, ⟨i + 1, by omega, by omega, by go_num, (by rw [HE7.out]; go_num), (by rw [HE7.out]; exact HS4.out)⟩, rfl⟩ | exact ⟨_, _, _, _, _, _, _, _, _, _, _, _, _, _, _, _, _, _, _, _, _, _, _, _, _, _, _, _, _, _, ⟨i + 1, by omega, by omega, by go_num, (by rw [HE7.out]; go_num), (by rw [HE7.out]; exact HS4.out)⟩, rfl⟩ | exact ⟨_, _, _, _, _, _, _, _, _, _, _, _, _, _, _, _, _, _, _, _, _, _, _, _, _, _, _, _, _, _, _, ⟨i + 1, by omega, by omega, by go_num, (by rw [HE7.out]; go_num), (by rw [HE7.out]; exact HS4.out)⟩, rfl⟩ | exact ⟨_, _, _, _, _, _, _, _, _, _, _, _, _, _, _, _, _, _, _, _, _, _, _, _, _, _, _, _, _, _, _, _, ⟨i + 1, by omega, by omega, by go_num, (by rw [HE7.out]; go_num), (by rw [HE7.out]; exact HS4.out)⟩, rfl⟩ | exact ⟨_, _, _, _, _, _, _, _, _, _, _, _, _, _, _, _, _, _, _, _, _, _, _, _, _, _, _, _, _, _, _, _, _, ⟨i + 1, by omega, by omega, by go_num, (by rw [HE7.out]; go_num), (by rw [HE7.out]; exact HS4.out)⟩, rfl⟩
            case measure => simp [intOf] <;> omega
          · obtain ⟨k1, k2⟩ := gT_full (R := 2) (mine := false) (W := W) (l := l) (s := x) (by omega)
            have e6 : min i 8 = 8 := by omega
            have HE7 : Hid (min (i + 1) 8 = 8) := by show _ = _; omega
            rw [e6] at HS3 ⊢
            have HPM := Lib.hid k1
            have HPE := Lib.hid k2
            clear k1 k2 hx e6 htx hxs hLl
            generalize cut64 x = y at HTX HBZ HPM HPE
            go_wp2_with (first
              | (go_at_call 30; ((with_reducible refine (HTX.out _).mono ?_); rintro e w' ⟨rfl, hw'⟩; rw [← hw']; clear hw'))
              | (go_at_call 31; ((with_reducible refine (TnPut_C (C := fun X => Star (CellW w.heap.size #[.int .i64 d.b, .int .i64 d.s, .int .i64 d.wi, .int .i64 64, .int .i64 d.wa] 43) X) (Fr.r (CellW.stab _ _ _) Fr.id_) HBZ.out HPE.out HPM.out HS3.out).mono ?_); rintro e w4 ⟨rfl, hs⟩; have HS4 := Lib.hid hs; clear hs)))
            go_roundw
            case rel => first | exact ⟨i + 1, by omega, by omega, by go_num, (by rw [HE7.out]; rfl), (by rw [HE7.out]; exact HS4.out)⟩ | exact ⟨_, _, _, _, _, _, _, _, _, _, _, _, ⟨i + 1, by omega, by omega, by go_num, (by rw [HE7.out]; rfl), (by rw [HE7.out]; exact HS4.out)⟩, rfl⟩ | exact ⟨_, _, _, _, _, _, _, _, _, _, _, _, _, ⟨i + 1, by omega, by omega, by go_num, (by rw [HE7.out]; rfl), (by rw [HE7.out]; exact HS4.out)⟩, rfl⟩ | exact ⟨_, _, _, _, _, _, _, _, _, _, _, _, _, _, ⟨i + 1, by omega, by omega, by go_num, (by rw [HE7.out]; rfl), (by rw [HE7.out]; exact HS4.out)⟩, rfl⟩ | exact ⟨_, _, _, _, _, _, _, _, _, _, _, _, _, _, _, ⟨i + 1, by omega, by omega, by go_num, (by rw [HE7.out]; rfl), (by rw [HE7.out]; exact HS4.out)⟩, rfl⟩ | exact ⟨_, _, _, _, _, _, _, _, _, _, _, _, _, _, _, _, ⟨i + 1, by omega, by omega, by go_num, (by rw [HE7.out]; rfl), (by rw [HE7.out]; exact HS4.out)⟩, rfl⟩ | exact ⟨_, _, _, _, _, _, _, _, _, _, _, _, _, _, _, _, _, ⟨i + 1, by omega, by omega, by go_num, (by rw [HE7.out]; rfl), (by rw [HE7.out]; exact HS4.out)⟩, rfl⟩ | exact ⟨_, _, _, _, _, _, _, _, _, _, _, _, _, _, _, _, _, _, ⟨i + 1, by omega, by omega, by go_num, (by rw [HE7.out]; rfl), (by rw [HE7.out]; exact HS4.out)⟩, rfl⟩ | exact ⟨_, _, _, _, _, _, _, _, _, _, _, _, _, _, _, _, _, _, _, ⟨i + 1, by omega, by omega, by go_num, (by rw [HE7.out]; rfl), (by rw [HE7.out]; exact HS4.out)⟩, rfl⟩ | exact ⟨_, _, _, _, _, _, _, _, _, _, _, _, _, _, _, _, _, _, _, _, ⟨i + 1, by omega, by omega, by go_num, (by rw [HE7.out]; rfl), (by rw [HE7.out]; exact HS4.out)⟩, rfl⟩ | exact ⟨_, _, _, _, _, _, _, _, _, _, _, _, _, _, _, _, _, _, _, _, _, ⟨i + 1, by omega, by omega, by go_num, (by rw [HE7.out]; rfl), (by rw [HE7.out]; exact HS4.out)⟩, rfl⟩ | exact ⟨_, _, _, _, _, _, _, _, _, _, _, _, _, _, _, _, _, _, _, _, _, _, ⟨i + 1, by omega, by omega, by go_num, (by rw [HE7.out]; rfl), (by rw [HE7.out]; exact HS4.out)⟩, rfl⟩ | exact ⟨_, _, _, _, _, _, _, _, _, _, _, _, _, _, _, _, _, _, _, _, _, _, _, ⟨i + 1, by omega, by omega, by go_num, (by rw [HE7.out]; rfl), (by rw [HE7.out]; exact HS4.out)⟩, rfl⟩ | exact ⟨_, _, _, _, _, _, _, _, _, _, _, _, _, _, _, _, _, _, _, _, _, _, _, _, ⟨i + 1, by omega, by omega, by go_num, (by rw [HE7.out]; rfl), (by rw [HE7.out]; exact HS4.out)⟩, rfl⟩ | exact ⟨_, _, _, _, _, _, _, _, _, _, _, _, _, _, _, _, _, _, _, _, _, _, _, _, _, ⟨i + 1, by omega, by omega, by go_num, (by rw [HE7.out]; rfl), (by rw [HE7.out]; exact HS4.out)⟩, rfl⟩ | exact ⟨_, _, _, _, _, _, _, _, _, _, _, _, _, _, _, _, _, _, _, _, _, _, _, _, _, _, ⟨i + 1, by omega, by omega, by go_num, (by rw [HE7.out]; rfl), (by rw [HE7.out]; exact HS4.out)⟩, rfl⟩ | exact ⟨_, _, _, _, _, _, _, _, _, _, _, _, _, _, _, _, _, _, _, _, _, _, _, _, _, _, _, ⟨i + 1, by omega, by omega, by go_num, (by rw [HE7.out]; rfl), (by rw [HE7.out]; exact HS4.out)⟩, rfl⟩ | exact ⟨_, _, _, _, _, _, _, _, _, _, _, _, _, _, _, _, _, _, _, _, _, _, _, _, _, _, _, _, ⟨i + 1, by omega, by omega, by go_num, (by rw [HE7.out]; rfl), (by rw [HE7.out]; exact HS4.out)⟩, rfl⟩ | exact ⟨_, _, _, _, _, _, _, _, _, _, _, _, _, _, _, _, _, _, _, _, _, _, _, _, _, _, _, _, _, ⟨i + 1, by omega, by omega, by go_num, (by rw [HE7.out]; rfl), (by rw [HE7.out]; exact HS4.out)⟩, rfl⟩ | exact ⟨_, _, _, _, _, _, _, _, _, _, _, _, _, _, _, _, _, _, _, _, _, _, _, _, _, _, _, _, _, _, ⟨i + 1, by omega, by omega, by go_num, (by rw [HE7.out]; rfl), (by rw [HE7.out]; exact HS4.out)⟩, rfl⟩ | exact ⟨_, _, _, _, _, _, _, _, _, _, _, _, _, _, _, _, _, _, _, _, _, _, _, _, _, _, _, _, _, _, _, ⟨i + 1, by omega, by omega, by go_num, (by rw [HE7.out]; rfl), (by rw [HE7.out]; exact HS4.out)⟩, rfl⟩ | exact ⟨_, _, _, _, _, _, _, _, _, _, _, _, _, _, _, _, _, _, _, _, _, _, _, _, _, _, _, _, _, _, _, _, ⟨i + 1, by omega, by omega, by go_num, (by rw [HE7.out]; rfl), (by rw [HE7.out]; exact HS4.out)⟩, rfl⟩ | exact ⟨_, _, _, _, _, _, _, _, _, _, _, _, _, _, _, _, _, _, _, _, _, _, _, _, _, _, _, _, _, _, _, _, _, ⟨i + 1, by omega, by omega, by go_num, (by rw [HE7.out]; rfl), (by rw [HE7.out]; exact HS4.out)⟩, rfl⟩
            case measure => simp [intOf] <;> omega
        · have t2 : decide ((i : Int) < 12) = false := decide_eq_false (by omega)
          clear hLl
          go_wp2_with fail
          go_meet
          exact ⟨min i 8, by omega, rfl, HS3.out⟩
      · have t1 : decide ((i : Int) < (L : Int)) = false := decide_eq_false (by omega)
        clear hLl
        go_wp2_with fail
        go_meet
        exact ⟨min i 8, by omega, rfl, HS3.out⟩
    case rest =>
          clear HS0 HS1 HS2 HS3
          obtain ⟨N, hN, rfl, hs⟩ := hcut
          have HS3 := Lib.hid hs
          clear hs
          have hLl : L = l.length := HL.out
          obtain ⟨tx, htx⟩ : ∃ tx, ((l.map cut64).take N) = tx := ⟨_, rfl⟩
          rw [htx] at HS3
          clear hLl
          go_wp2_with (first
            | (go_at_call 34; ((with_reducible refine (TnGo_len (C := fun X => Star (CellW w.heap.size #[.int .i64 d.b, .int .i64 d.s, .int .i64 d.wi, .int .i64 64, .int .i64 d.wa] 43) X) (Fr.r (CellW.stab _ _ _) Fr.id_) (n := 0) rfl (m' := (gT 2 false W tx 0)) rfl HS3.out).mono ?_); rintro e w4 ⟨A2, c2, rfl, hs⟩; have HS4 := Lib.hid hs; clear hs))
            | (go_at_call 43; ((with_reducible refine (TnMine_C (C := fun X => Star (CellW w.heap.size #[.int .i64 d.b, .int .i64 d.s, .int .i64 d.wi, .int .i64 64, .int .i64 d.wa] 43) X) (Fr.r (CellW.stab _ _ _) Fr.id_) ((CellW.stab _ _ _).star (TurnW.stab _ _)) (b := false) rfl HS4.out).mono ?_); rintro e w5 ⟨rfl, hs⟩; have HS5 := Lib.hid hs; clear hs))
            | (go_at_call 39; ((with_reducible refine (TnLate_C (C := fun X => Star (CellW w.heap.size #[.int .i64 d.b, .int .i64 d.s, .int .i64 d.wi, .int .i64 64, .int .i64 d.wa] 43) X) (Fr.r (CellW.stab _ _ _) Fr.id_) (b := false) rfl (m' := (gT 2 false W tx 0)) rfl HS5.out).mono ?_); rintro e w6 ⟨rfl, hs⟩; have HS6 := Lib.hid hs; clear hs)))
          go_ret
          exact ⟨by simp, HS6.out.bel0⟩
end Go.Proofs.YtocjhpaackccpaaGreatDoor
