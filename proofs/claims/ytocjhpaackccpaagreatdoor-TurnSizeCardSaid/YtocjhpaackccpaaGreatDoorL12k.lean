/- The law TurnSize. -/
import Derived.Test.YtocjhpaackccpaaGreatDoorN12D
import Derived.Test.YtocjhpaackccpaaGreatDoorN12B

set_option linter.all false

namespace Go.Proofs.YtocjhpaackccpaaGreatDoor
open Go.RowKit M

theorem rds_zeros {w : World} {g n : Nat} (h : w.heap[g]? = some (.cells (bcs (List.replicate n 0)).toArray 5 (0, 0))) (hn : n ≤ 1000000) {zs : List UInt8} (hz : List.replicate n 0 = zs) : Rds w (.slice (some ⟨g, 0, none⟩) n n) zs := by
  subst hz
  have ho : Own w 0 (.slice (some ⟨g, 0, none⟩) n n) (List.replicate n 0) := by
    unfold Own
    rw [List.length_replicate]
    refine ⟨by simp [bcs_length], .inr ⟨g, n, (bcs (List.replicate n 0)).toArray, rfl, Nat.zero_le _, h, Nat.le_refl _, by unfold maxLen; omega, by simp [bcs_length], ?_⟩⟩
    simp only [Nat.mul_one]
    exact List.take_of_length_le (by simp [bcs_length])
  exact ho.rds
set_option maxRecDepth 100000 in
set_option maxHeartbeats 8000000 in
theorem TurnSize_law (size n : Int) (w : World) (hC : Codes w) : Calls Tryz.prog 11 #[.int .i64 size, .int .i64 n] w fun e w' => e = .returned (.bool true) ∧ Below w.heap.size w w' := by
  have HC := Lib.hid hC
  clear hC
  have a1_Z := Int.lt_tmod_of_pos size (show (0 : Int) < 70 by decide)
  have a2_Z := Int.tmod_lt_of_pos size (show (0 : Int) < 70 by decide)
  obtain ⟨t_Z, ht_Z⟩ : ∃ t, size.tmod 70 = t := ⟨_, rfl⟩
  rw [ht_Z] at a1_Z a2_Z
  have e1_Z : IntKind.i64.wrap t_Z = t_Z := IntWalk.i64_in _ (by omega)
  have e2_Z : IntKind.i64.wrap (t_Z + 70) = t_Z + 70 := IntWalk.i64_in _ (by omega)
  obtain ⟨Z, h_Z⟩ : ∃ q : Nat, t_Z % 70 = (q : Int) := ⟨(t_Z % 70).toNat, by omega⟩
  have e3_Z : (t_Z + 70).tmod 70 = (Z : Int) := by rw [Int.tmod_eq_emod_of_nonneg (by omega)]; omega
  have e4_Z : IntKind.i64.wrap (Z : Int) = (Z : Int) := IntWalk.i64_in _ (by omega)
  have b_Z : Z < 70 := by omega
  clear a1_Z a2_Z
  have a1_N := Int.lt_tmod_of_pos n (show (0 : Int) < 75 by decide)
  have a2_N := Int.tmod_lt_of_pos n (show (0 : Int) < 75 by decide)
  obtain ⟨t_N, ht_N⟩ : ∃ t, n.tmod 75 = t := ⟨_, rfl⟩
  rw [ht_N] at a1_N a2_N
  have e1_N : IntKind.i64.wrap t_N = t_N := IntWalk.i64_in _ (by omega)
  have e2_N : IntKind.i64.wrap (t_N + 75) = t_N + 75 := IntWalk.i64_in _ (by omega)
  obtain ⟨N, h_N⟩ : ∃ q : Nat, t_N % 75 = (q : Int) := ⟨(t_N % 75).toNat, by omega⟩
  have e3_N : (t_N + 75).tmod 75 = (N : Int) := by rw [Int.tmod_eq_emod_of_nonneg (by omega)]; omega
  have e4_N : IntKind.i64.wrap (N : Int) = (N : Int) := IntWalk.i64_in _ (by omega)
  have b_N : N < 75 := by omega
  clear a1_N a2_N
  have HZW : Hid ((Lit.int .i64 (Z : Int)).wf = true) := w64 (by omega)
  have HN : Hid (N ≤ 1000000) := by show _ ≤ _; omega
  obtain ⟨zs, hzs⟩ : ∃ zs : List UInt8, List.replicate N (0 : UInt8) = zs := ⟨_, rfl⟩
  have HZS := Lib.hid hzs
  clear hzs
  have HPZ : Hid ((⟨zs.toArray⟩ : ByteArray).size ≤ maxLen) := by
    show zs.toArray.size ≤ maxLen
    rw [← HZS.out]
    unfold maxLen
    simp
    omega
  go_enter Tryz.func11, Tryz.ntmps11
  by_cases hcase : (N : Int) ≤ min (Z : Int) 64
  · have t1 : decide ((N : Int) ≤ min (Z : Int) 64) = true := decide_eq_true (by omega)
    have hput : (0 : Int) = (⟨1, min (Z : Int) 64, true, ⟨3, 0, [], 0⟩, ⟨0, false⟩⟩ : TurnM).putE ⟨zs.toArray⟩ ∧ (⟨1, min (Z : Int) 64, true, ⟨3, 0, [⟨zs.toArray⟩], 0⟩, ⟨0, false⟩⟩ : TurnM) = (⟨1, min (Z : Int) 64, true, ⟨3, 0, [], 0⟩, ⟨0, false⟩⟩ : TurnM).put ⟨zs.toArray⟩ := by
      unfold TurnM.putE TurnM.put
      have hsz : ((⟨zs.toArray⟩ : ByteArray).size : Int) = (N : Int) := by show ((zs.toArray.size : Nat) : Int) = _; rw [← HZS.out]; simp
      rw [hsz, if_neg (show ¬ min (Z : Int) 64 < (N : Int) by omega), if_neg (show ¬ min (Z : Int) 64 < (N : Int) by omega)]
      exact ⟨rfl, rfl⟩
    have HPE := Lib.hid hput.1
    have HPM := Lib.hid hput.2
    have HLE : Hid ((1 : Int) = ((⟨1, min (Z : Int) 64, true, ⟨3, 0, [⟨zs.toArray⟩], 0⟩, ⟨0, false⟩⟩ : TurnM).left : Int)) := by show _ = _; rfl
    clear hput hcase
    go_wp2_with (first
      | ((with_reducible refine wpList_makeB rfl (.tmp 23) (.tmp 23) rfl .i64 .i64 N rfl rfl HN.out ?_); intro w7 hb hh; have HS7 := Lib.hid (HS2.out.keep (TurnW.stab _ _) hb); have HX7 := Lib.hid hh; clear hb hh)
      | (with_reducible refine wpList_strB rfl (.tmp 24) rfl (.slice (some ⟨w2.heap.size, 0, none⟩) N N) zs rfl (rds_zeros HX7.out HN.out HZS.out) ?_)
      | (go_at_call 17; ((with_reducible refine (begun12_any _ HC.out).mono ?_); rintro e w1 ⟨rfl, hb⟩; have HB1 := Lib.hid (hb); clear hb))
      | (go_at_call 28; ((with_reducible refine (TnNew_S (m := ⟨1, min (Z : Int) 64, true, ⟨3, 0, [], 0⟩, ⟨0, false⟩⟩) (.inl rfl) (by decide) HZW.out rfl HB1.out).mono ?_); rintro e w2 ⟨a, rfl, hs⟩; have HS2 := Lib.hid hs; clear hs))
      | (go_at_call 31; ((with_reducible refine (TnPut_C (C := fun X => X) Fr.id_ HPZ.out HPE.out HPM.out HS7.out).mono ?_); rintro e w8 ⟨rfl, hs⟩; have HS8 := Lib.hid hs; clear hs))
      | (go_at_call 45; ((with_reducible refine (TnLeft_C (C := fun X => X) Fr.id_ (TurnW.stab _ _) HLE.out HS8.out).mono ?_); rintro e w9 ⟨rfl, hs⟩; have HS9 := Lib.hid hs; clear hs))
      | (go_at_call 55; ((with_reducible refine (B2i_any _ _).mono ?_); rintro e w' ⟨rfl, hw'⟩; rw [hw']; clear hw')))
    go_ret
    exact ⟨by simp, HS9.out.bel0⟩
  · have t1 : decide ((N : Int) ≤ min (Z : Int) 64) = false := decide_eq_false (by omega)
    have hput : (1 : Int) = (⟨1, min (Z : Int) 64, true, ⟨3, 0, [], 0⟩, ⟨0, false⟩⟩ : TurnM).putE ⟨zs.toArray⟩ ∧ (⟨1, min (Z : Int) 64, true, ⟨3, 0, [], 0⟩, ⟨0, false⟩⟩ : TurnM) = (⟨1, min (Z : Int) 64, true, ⟨3, 0, [], 0⟩, ⟨0, false⟩⟩ : TurnM).put ⟨zs.toArray⟩ := by
      unfold TurnM.putE TurnM.put
      have hsz : ((⟨zs.toArray⟩ : ByteArray).size : Int) = (N : Int) := by show ((zs.toArray.size : Nat) : Int) = _; rw [← HZS.out]; simp
      rw [hsz, if_pos (show min (Z : Int) 64 < (N : Int) by omega), if_pos (show min (Z : Int) 64 < (N : Int) by omega)]
      exact ⟨rfl, rfl⟩
    have HPE := Lib.hid hput.1
    have HPM := Lib.hid hput.2
    have HLE : Hid ((0 : Int) = ((⟨1, min (Z : Int) 64, true, ⟨3, 0, [], 0⟩, ⟨0, false⟩⟩ : TurnM).left : Int)) := by show _ = _; rfl
    clear hput hcase
    go_wp2_with (first
      | ((with_reducible refine wpList_makeB rfl (.tmp 23) (.tmp 23) rfl .i64 .i64 N rfl rfl HN.out ?_); intro w7 hb hh; have HS7 := Lib.hid (HS2.out.keep (TurnW.stab _ _) hb); have HX7 := Lib.hid hh; clear hb hh)
      | (with_reducible refine wpList_strB rfl (.tmp 24) rfl (.slice (some ⟨w2.heap.size, 0, none⟩) N N) zs rfl (rds_zeros HX7.out HN.out HZS.out) ?_)
      | (go_at_call 17; ((with_reducible refine (begun12_any _ HC.out).mono ?_); rintro e w1 ⟨rfl, hb⟩; have HB1 := Lib.hid (hb); clear hb))
      | (go_at_call 28; ((with_reducible refine (TnNew_S (m := ⟨1, min (Z : Int) 64, true, ⟨3, 0, [], 0⟩, ⟨0, false⟩⟩) (.inl rfl) (by decide) HZW.out rfl HB1.out).mono ?_); rintro e w2 ⟨a, rfl, hs⟩; have HS2 := Lib.hid hs; clear hs))
      | (go_at_call 31; ((with_reducible refine (TnPut_C (C := fun X => X) Fr.id_ HPZ.out HPE.out HPM.out HS7.out).mono ?_); rintro e w8 ⟨rfl, hs⟩; have HS8 := Lib.hid hs; clear hs))
      | (go_at_call 45; ((with_reducible refine (TnLeft_C (C := fun X => X) Fr.id_ (TurnW.stab _ _) HLE.out HS8.out).mono ?_); rintro e w9 ⟨rfl, hs⟩; have HS9 := Lib.hid hs; clear hs))
      | (go_at_call 55; ((with_reducible refine (B2i_any _ _).mono ?_); rintro e w' ⟨rfl, hw'⟩; rw [hw']; clear hw')))
    go_ret
    exact ⟨by simp, HS9.out.bel0⟩
end Go.Proofs.YtocjhpaackccpaaGreatDoor
