/- The law SetupMore. -/
import Derived.Test.YtcmjdbljdkabpaaGreatDoorQ8S
import Derived.Test.YtcmjdbljdkabpaaGreatDoorM8J
import Derived.Test.YtcmjdbljdkabpaaGreatDoorM8M
import Derived.Test.YtcmjdbljdkabpaaGreatDoorBegun8
import Derived.Test.YtcmjdbljdkabpaaGreatDoorM4H
import Derived.Test.YtcmjdbljdkabpaaGreatDoorLawS3
import Derived.Test.YtcmjdbljdkabpaaGreatDoorM8O
import Derived.Test.YtcmjdbljdkabpaaGreatDoorM4I

set_option linter.all false

namespace Go.Proofs.YtcmjdbljdkabpaaGreatDoor
open Go.RowKit M

set_option maxRecDepth 100000 in
set_option maxHeartbeats 4000000 in
theorem SetupMore_0 (s0 s1 s2 s3 s4 s5 s6 s7 s8 q : Int) (A : ByteArray) (v : Value) (l : List Tp) (w : World) (hr : RdT w v l) (hC : Codes w)
    (hP : ∀ w, Calls Tryz.prog 54 #[.agg #[.int .u32 s0, .int .u32 s1, .int .i64 s2, .int .i64 s3, .int .i64 s4, .int .i64 s5, .int .i64 s6, .int .i64 s7, .int .i64 s8]] w fun e w' => e = .returned (.tuple #[.string A, .bool false]) ∧ Below w.heap.size w w') :
    Calls Tryz.prog 17 #[.agg #[.int .u32 s0, .int .u32 s1, .int .i64 s2, .int .i64 s3, .int .i64 s4, .int .i64 s5, .int .i64 s6, .int .i64 s7, .int .i64 s8], v, .int .i64 q] w (Holds8 w) := by
  obtain ⟨va, ca, rfl, -, -, -⟩ := hr
  have HC0 := Lib.hid hC
  have HP := Lib.hid hP
  clear hC hP
  go_enter Tryz.func17, Tryz.ntmps17
  go_wp2_with (first
    | ((with_reducible refine wpList_boxS rfl 64 _ (.tmp 0) rfl rfl (run_boxS ⟨s0, s1, s2, s3, ⟨s4, s5, s6, s7, s8⟩⟩) ?_); intro w1 hb hlt hh; have HB1 := Lib.hid hb; have HC1 := Lib.hid (HC0.out.below hb); have X1 := Lib.hid (hh); clear hb hlt hh)
    | (with_reducible refine wpList_loadB rfl 64 (.tmp 3) rfl (w.heap.size) rfl 64 _ X2.out _ Tryz.underlying64 rfl (by kernel_rfl) ?_)
    | (go_at_call 21; ((with_reducible refine (begun8_any _ HC1.out).mono ?_); rintro e w2 ⟨rfl, hb⟩; have HB2 := Lib.hid (bel_trans HB1.out hb); have X2 := Lib.hid (keep_at X1.out hb); have HC2 := Lib.hid (HC1.out.below hb); clear hb))
    | (go_at_call 54; ((with_reducible refine (HP.out _).mono ?_); rintro e w3 ⟨rfl, hb⟩; have HB3 := Lib.hid (bel_trans HB2.out hb); have X3 := Lib.hid (keep_at X2.out hb); have HC3 := Lib.hid (HC2.out.below hb); clear hb)))
  go_ret
  exact ⟨rfl, HB3.out⟩
set_option maxRecDepth 100000 in
set_option maxHeartbeats 16000000 in
theorem SetupMore_1 (s0 s1 s2 s3 s4 s5 s6 s7 s8 q : Int) (A : ByteArray) (v : Value) (l : List Tp) (d kk k3 : Nat) (w : World) (hr : RdT w v l) (hz : ∀ t ∈ l, t.2.length ≤ maxLen) (hC : Codes w)
    (hA : A.size = 25) (hAl : A.data.toList = headS ⟨s0, s1, s2, s3, ⟨s4, s5, s6, s7, s8⟩⟩ ++ bytesO ⟨s4, s5, s6, s7, s8⟩) (hokS : St.ok ⟨s0, s1, s2, s3, ⟨s4, s5, s6, s7, s8⟩⟩) (hmayS : maySt ⟨s0, s1, s2, s3, ⟨s4, s5, s6, s7, s8⟩⟩ = true)
    (hd : d < 5) (hm : (q.tmod 5 + 5) % 5 = (d : Int)) (hkk : kk = 10 + 3 * d) (hk3 : k3 = kk + 3)
    (hP : ∀ w, Calls Tryz.prog 54 #[.agg #[.int .u32 s0, .int .u32 s1, .int .i64 s2, .int .i64 s3, .int .i64 s4, .int .i64 s5, .int .i64 s6, .int .i64 s7, .int .i64 s8]] w fun e w' => e = .returned (.tuple #[.string A, .bool true]) ∧ Below w.heap.size w w') :
    Calls Tryz.prog 17 #[.agg #[.int .u32 s0, .int .u32 s1, .int .i64 s2, .int .i64 s3, .int .i64 s4, .int .i64 s5, .int .i64 s6, .int .i64 s7, .int .i64 s8], v, .int .i64 q] w (Holds8 w) := by
  have hr2 := hr
  obtain ⟨va, ca, rfl, hcap, hcm, -⟩ := hr2
  have HR0 := Lib.hid hr
  have HZ := Lib.hid hz
  have HC0 := Lib.hid hC
  have HP := Lib.hid hP
  have HSE := Lib.hid (fun W => eql_same_S ⟨s0, s1, s2, s3, ⟨s4, s5, s6, s7, s8⟩⟩ W)
  have hu := St.u hokS
  have a1 : -4 ≤ q.tmod 5 := by have := Int.lt_tmod_of_pos q (show (0 : Int) < 5 by decide); omega
  have a2 : q.tmod 5 ≤ 4 := by have := Int.tmod_lt_of_pos q (show (0 : Int) < 5 by decide); omega
  obtain ⟨Q1, hQ1⟩ : ∃ x, A.extract 0 kk = x := ⟨_, rfl⟩
  obtain ⟨Q2, hQ2⟩ : ∃ x, A.extract k3 A.size = x := ⟨_, rfl⟩
  have hQ1s : Q1.size ≤ 25 := by rw [← hQ1, ByteArray.size_extract]; omega
  have hQ2s : Q2.size ≤ 25 := by rw [← hQ2, ByteArray.size_extract]; omega
  have hlA : A.data.toList.length = 25 := by rw [Array.length_toList]; exact hA
  have hg2 := fun w => SGet_any (Q1 ++ Q2) w (by rw [ByteArray.size_append]; omega)
  unfold SetupR at hg2
  rw [show getS (Q1 ++ Q2).data.toList = none by
    rw [ByteArray.data_append, Array.toList_append, ← hQ1, ← hQ2, ba_ext, ba_ext, hkk, hk3, hkk, hAl]
    have e1 : (headS ⟨s0, s1, s2, s3, ⟨s4, s5, s6, s7, s8⟩⟩ ++ bytesO ⟨s4, s5, s6, s7, s8⟩).drop (10 + 3 * d + 3) = ((headS ⟨s0, s1, s2, s3, ⟨s4, s5, s6, s7, s8⟩⟩ ++ bytesO ⟨s4, s5, s6, s7, s8⟩).drop (10 + 3 * d + 3)).take (A.size - (10 + 3 * d + 3)) := by
      rw [List.take_of_length_le]
      rw [List.length_drop, ← hAl, hlA]
      omega
    rw [← e1, List.drop_zero, Nat.sub_zero]
    exact getS_drop (s := ⟨s0, s1, s2, s3, ⟨s4, s5, s6, s7, s8⟩⟩) hd] at hg2
  have HG2 := Lib.hid hg2
  have HAL := Lib.hid hAl
  have HOK := Lib.hid (And.intro hu (And.intro hmayS hA))
  have v5 : IntKind.i64.wrap ((d : Int) * 3) = (d : Int) * 3 := IntWalk.i64_in _ (by omega)
  have v6 : IntKind.i64.wrap (10 + (d : Int) * 3) = (kk : Int) := by rw [IntWalk.i64_in _ (by omega)]; omega
  have v6b : 10 + (d : Int) * 3 = (kk : Int) := by omega
  have v7 : IntKind.i64.wrap ((kk : Int) + 3) = (k3 : Int) := by rw [IntWalk.i64_in _ (by omega)]; omega
  have v7b : (kk : Int) + 3 = (k3 : Int) := by omega
  have v7c : IntKind.i64.wrap (k3 : Int) = (k3 : Int) := IntWalk.i64_in _ (by omega)
  have v6c : IntKind.i64.wrap (kk : Int) = (kk : Int) := IntWalk.i64_in _ (by omega)
  have v8 : (kk : Int) ≤ (A.size : Int) := by omega
  have v9 : (k3 : Int) ≤ (A.size : Int) := by omega
  have v10 : (0 : Int) ≤ (kk : Int) := by omega
  have v11 : (0 : Int) ≤ (k3 : Int) := by omega
  have v12 : kk ≤ A.size := by omega
  have v13 : k3 ≤ A.size := by omega
  have z2 : ¬ 9223372036854775807 < Q1.size + Q2.size := by omega
  have F1 := Lib.hid (And.intro v5 (And.intro v6 (And.intro v6b (And.intro v7 (And.intro v7b (And.intro v7c (And.intro v6c (And.intro v8 (And.intro v9 (And.intro v10 (And.intro v11 (And.intro v12 (And.intro v13 (And.intro z2 (And.intro hQ1 (And.intro hQ2 (And.intro hm (And.intro a1 a2))))))))))))))))))
  unfold maxLen at hcm
  clear v5 v6 v6b v7 v7b v7c v6c v8 v9 v10 v11 v12 v13 z2 hQ1 hQ2 hm a1 a2 hr hz hC hP hA hAl hokS hmayS hu hg2 hQ1s hQ2s hlA hkk hk3 hd
  go_enter Tryz.func17, Tryz.ntmps17
  go_wp2_with (first
    | ((with_reducible refine wpList_boxS rfl 64 _ (.tmp 0) rfl rfl (run_boxS ⟨s0, s1, s2, s3, ⟨s4, s5, s6, s7, s8⟩⟩) ?_); intro w1 hb hlt hh; have HB1 := Lib.hid hb; have HC1 := Lib.hid (HC0.out.below hb); have X1 := Lib.hid (hh); clear hb hlt hh)
    | (with_reducible refine wpList_loadB rfl 64 (.tmp 3) rfl (w.heap.size) rfl 64 _ X2.out _ Tryz.underlying64 rfl (by kernel_rfl) ?_)
    | (go_at_call 21; ((with_reducible refine (begun8_any _ HC1.out).mono ?_); rintro e w2 ⟨rfl, hb⟩; have HB2 := Lib.hid (bel_trans HB1.out hb); have X2 := Lib.hid (keep_at X1.out hb); have HC2 := Lib.hid (HC1.out.below hb); clear hb))
    | (go_at_call 54; ((with_reducible refine (HP.out _).mono ?_); rintro e w3 ⟨rfl, hb⟩; have HB3 := Lib.hid (bel_trans HB2.out hb); have X3 := Lib.hid (keep_at X2.out hb); have HC3 := Lib.hid (HC2.out.below hb); clear hb)))
  go_loopw [10, 11] (fun q i wr => ∃ k : Nat, k ≤ l.length ∧ k ≤ 2 ∧ i = .int .i64 k ∧ OwnT wr w3.heap.size q (cutT 10 l k) ∧ Below w3.heap.size w3 wr) (fun _ i _ => 2 - (intOf i).toNat)
  case atStart => exact ⟨0, by omega, by omega, rfl, OwnT.nil_ _ _, bel0 _⟩
  case round =>
    obtain ⟨k, hk, hk2, rfl, ho, hb⟩ := hrel
    obtain ⟨A3, cap3, rfl, _, _⟩ := ho.shape
    rw [cutT_len hk] at ho ⊢
    have HO := Lib.hid ho
    have HB := Lib.hid hb
    have HRb := Lib.hid (HR0.out.below HB3.out)
    have HXw := Lib.hid (keep_at X3.out hb)
    have HBw := Lib.hid (bel_trans HB3.out hb)
    clear ho hb
    by_cases hc : k < l.length ∧ k < 2
    · obtain ⟨hlt, hlt2⟩ := hc
      have td : decide ((k : Int) < (l.length : Int)) = true := decide_eq_true (by omega)
      have td2 : decide ((k : Int) < 2) = true := decide_eq_true (by omega)
      obtain ⟨b, off, rfl, hbl, hc1, hc2⟩ := HRb.out.at_ hlt
      have hTm := HZ.out l[k] (List.getElem_mem hlt)
      obtain ⟨id, hid⟩ : ∃ id, (l[k]).1 = id := ⟨_, rfl⟩
      obtain ⟨T, hT⟩ : ∃ T : ByteArray, T = ⟨(l[k]).2.toArray⟩ := ⟨_, rfl⟩
      have hTs : T.size ≤ maxLen := by rw [hT]; show ((l[k]).2.toArray).size ≤ _; simpa using hTm
      have htx := fun w => Text_any T 10 w hTs (by omega)
      have hcut : T.extract 0 (min T.size 10) = ⟨((l[k]).2.take 10).toArray⟩ := by rw [hT]; exact cut_n _ _
      rw [hcut] at htx
      rw [hid] at hc1
      rw [← hT] at hc2
      obtain ⟨tt, htt⟩ : ∃ tt : List UInt8, tt = (l[k]).2.take 10 := ⟨_, rfl⟩
      rw [← htt] at htx
      have HTX := Lib.hid htx
      have HE : Hid (cutT 10 l (k + 1) = cutT 10 l k ++ [(id, tt)]) := by
        show _ = _
        rw [cutT_succ hlt, htt, ← hid]
      have i1 : (k : Int) < (l.length : Int) := by omega
      clear htx hcut hT hTs hid htt hTm
      go_wp2
      refine rests_begin (From w3) (by kernel_rfl) ?_
      refine rests_take 0 (oi := _) (v := ?_) (by simp only [List.getElem?_toArray, List.getElem?_cons_zero]; rfl) (by kernel_rfl) (by kernel_rfl) (by kernel_rfl) (by exact fun _ _ _ h => h) (HB.out.drew) (by rfl) ?_ ?_; rotate_left; (· intro W HW; go_simp; try with_reducible rfl)
      simp only [Act.put, List.setIfInBounds_toArray, List.set_cons_zero, List.set_cons_succ]
      refine rests_take 1 (oi := _) (v := ?_) (by simp only [List.getElem?_toArray, List.getElem?_cons_succ, List.getElem?_cons_zero]; rfl) (by kernel_rfl) (by kernel_rfl) (by kernel_rfl) (by exact fun _ _ _ h => h) (HB.out.drew) (by rfl) ?_ ?_; rotate_left; (· intro W HW; go_simp; try with_reducible rfl)
      simp only [Act.put, List.setIfInBounds_toArray, List.set_cons_zero, List.set_cons_succ]
      refine rests_take 2 (oi := _) (v := ?_) (by simp only [List.getElem?_toArray, List.getElem?_cons_succ, List.getElem?_cons_zero]; rfl) (by kernel_rfl) (by kernel_rfl) (by kernel_rfl) (by exact fun _ _ _ h => h) (HB.out.drew) (by rfl) ?_ ?_; rotate_left; (· intro W HW; go_simp; try with_reducible rfl)
      simp only [Act.put, List.setIfInBounds_toArray, List.set_cons_zero, List.set_cons_succ]
      refine rests_take 3 (oi := _) (v := ?_) (by simp only [List.getElem?_toArray, List.getElem?_cons_succ, List.getElem?_cons_zero]; rfl) (by kernel_rfl) (by kernel_rfl) (by kernel_rfl) (by exact fun _ _ _ h => h) (HB.out.drew) (by rfl) ?_ ?_; rotate_left; (· intro W HW; go_simp; try with_reducible rfl)
      simp only [Act.put, List.setIfInBounds_toArray, List.set_cons_zero, List.set_cons_succ]
      refine rests_take 4 (oi := _) (v := ?_) (by simp only [List.getElem?_toArray, List.getElem?_cons_succ, List.getElem?_cons_zero]; rfl) (by kernel_rfl) (by kernel_rfl) (by kernel_rfl) (by exact fun _ _ _ h => h) (HB.out.drew) (by rfl) ?_ ?_; rotate_left; (· intro W HW; go_simp; try with_reducible rfl)
      simp only [Act.put, List.setIfInBounds_toArray, List.set_cons_zero, List.set_cons_succ]
      refine rests_take 5 (oi := _) (v := ?_) (by simp only [List.getElem?_toArray, List.getElem?_cons_succ, List.getElem?_cons_zero]; rfl) (by kernel_rfl) (by kernel_rfl) (by kernel_rfl) (by exact fun _ _ _ h => h) (HB.out.drew) (by rfl) ?_ ?_; rotate_left; (· intro W HW; have cw : W.cell? ⟨b, off + k * 2, none⟩ = some (.int .i64 id) := (HW.cell (p := ⟨b, off + k * 2, none⟩) hbl).trans hc1; go_simp; try with_reducible rfl)
      simp only [Act.put, List.setIfInBounds_toArray, List.set_cons_zero, List.set_cons_succ]
      refine rests_take 6 (oi := _) (v := ?_) (by simp only [List.getElem?_toArray, List.getElem?_cons_succ, List.getElem?_cons_zero]; rfl) (by kernel_rfl) (by kernel_rfl) (by kernel_rfl) (by exact fun _ _ _ h => h) (HB.out.drew) (by rfl) ?_ ?_; rotate_left; (· intro W HW; go_simp; try with_reducible rfl)
      simp only [Act.put, List.setIfInBounds_toArray, List.set_cons_zero, List.set_cons_succ]
      refine rests_take 7 (oi := _) (v := ?_) (by simp only [List.getElem?_toArray, List.getElem?_cons_succ, List.getElem?_cons_zero]; rfl) (by kernel_rfl) (by kernel_rfl) (by kernel_rfl) (by exact fun _ _ _ h => h) (HB.out.drew) (by rfl) ?_ ?_; rotate_left; (· intro W HW; go_simp; try with_reducible rfl)
      simp only [Act.put, List.setIfInBounds_toArray, List.set_cons_zero, List.set_cons_succ]
      refine rests_take 8 (oi := _) (v := ?_) (by simp only [List.getElem?_toArray, List.getElem?_cons_succ, List.getElem?_cons_zero]; rfl) (by kernel_rfl) (by kernel_rfl) (by kernel_rfl) (by exact fun _ _ _ h => h) (HB.out.drew) (by rfl) ?_ ?_; rotate_left; (· intro W HW; go_simp; try with_reducible rfl)
      simp only [Act.put, List.setIfInBounds_toArray, List.set_cons_zero, List.set_cons_succ]
      refine rests_take 9 (oi := _) (v := ?_) (by simp only [List.getElem?_toArray, List.getElem?_cons_succ, List.getElem?_cons_zero]; rfl) (by kernel_rfl) (by kernel_rfl) (by kernel_rfl) (by exact fun _ _ _ h => h) (HB.out.drew) (by rfl) ?_ ?_; rotate_left; (· intro W HW; go_simp; try with_reducible rfl)
      simp only [Act.put, List.setIfInBounds_toArray, List.set_cons_zero, List.set_cons_succ]
      refine rests_take 10 (oi := _) (v := ?_) (by simp only [List.getElem?_toArray, List.getElem?_cons_succ, List.getElem?_cons_zero]; rfl) (by kernel_rfl) (by kernel_rfl) (by kernel_rfl) (by exact fun _ _ _ h => h) (HB.out.drew) (by rfl) ?_ ?_; rotate_left; (· intro W HW; have cw : W.cell? ⟨b, off + k * 2 + 1, none⟩ = some (.string T) := (HW.cell (p := ⟨b, off + k * 2 + 1, none⟩) hbl).trans hc2; go_simp; try with_reducible rfl)
      simp only [Act.put, List.setIfInBounds_toArray, List.set_cons_zero, List.set_cons_succ]
      refine rests_call 11 (oi := _) (by simp only [List.getElem?_toArray, List.getElem?_cons_succ, List.getElem?_cons_zero]; rfl) 22 #[.string T, .int .i64 10] _ (by kernel_rfl) (by rfl) (by go_simp) (HTX.out _) ?_
      rintro e wt ⟨rfl, rfl⟩; refine ⟨_, rfl, HB.out.drew, ?_⟩
      simp only [Act.put, List.setIfInBounds_toArray, List.set_cons_zero, List.set_cons_succ]
      refine rests_take 12 (oi := _) (v := ?_) (by simp only [List.getElem?_toArray, List.getElem?_cons_succ, List.getElem?_cons_zero]; rfl) (by kernel_rfl) (by kernel_rfl) (by kernel_rfl) (by exact fun _ _ _ h => h) (HB.out.drew) (by rfl) ?_ ?_; rotate_left; (· intro W HW; go_simp; try with_reducible rfl)
      simp only [Act.put, List.setIfInBounds_toArray, List.set_cons_zero, List.set_cons_succ]
      refine rests_run 13 (oi := _) (by simp only [List.getElem?_toArray, List.getElem?_cons_succ, List.getElem?_cons_zero]; rfl) (by kernel_rfl) (by rfl) (.slice (some ⟨wr.heap.size, 0, none⟩) 1 1) (wr.drew.alloc (.cells #[.int .i64 id, .string ⟨tt.toArray⟩] 39)) (by go_simp) ⟨bal HB.out.drew _, ?_⟩
      simp only [Act.put, List.setIfInBounds_toArray, List.set_cons_zero, List.set_cons_succ]
      refine rests_appT 14 (oi := _) (by simp only [List.getElem?_toArray, List.getElem?_cons_succ, List.getElem?_cons_zero]; rfl) (.tmp 39) (.tmp 52) (by kernel_rfl) (by rfl) rfl w3.heap.size wr.heap.size (.slice A3 k cap3) (cutT 10 l k) (id, tt) rfl rfl (heap_alloc_new wr.drew _) (HO.out.below (bal (bel0 wr).drew _)) (by rw [cutT_len (n := 10) hk]; omega) (bal HB.out.drew _).size ?_
      intro v2 wz ho2 hg2 hat2; have hbz : Below w3.heap.size w3 wz := (bal HB.out.drew _).grown hg2 (bal HB.out.drew _).size (fun k hk => (HO.out.lt k hk).1); refine ⟨hbz, ?_⟩; have HBZ := Lib.hid hbz; rw [← HE.out] at ho2; obtain ⟨A2, cap2, hv2, _, _⟩ := ho2.shape; rw [cutT_len (show k + 1 ≤ l.length by omega)] at hv2; subst hv2; have HOZ := Lib.hid ho2; clear ho2 hg2 hat2 hbz
      simp only [Act.put, List.setIfInBounds_toArray, List.set_cons_zero, List.set_cons_succ]
      refine rests_take 15 (oi := _) (v := ?_) (by simp only [List.getElem?_toArray, List.getElem?_cons_succ, List.getElem?_cons_zero]; rfl) (by kernel_rfl) (by kernel_rfl) (by kernel_rfl) (by exact fun _ _ _ h => h) (HBZ.out) (by rfl) ?_ ?_; rotate_left; (· intro W HW; go_simp; try with_reducible rfl)
      simp only [Act.put, List.setIfInBounds_toArray, List.set_cons_zero, List.set_cons_succ]
      refine rests_done (by kernel_rfl) ?_
      go_wp2
      go_roundw
      case rel => first | exact ⟨k + 1, by omega, by omega, by go_num, HOZ.out, HBZ.out⟩ | exact ⟨_, _, _, _, _, _, _, _, _, _, _, _, _, _, _, _, ⟨k + 1, by omega, by omega, by go_num, HOZ.out, HBZ.out⟩, rfl⟩ | exact ⟨_, _, _, _, _, _, _, _, _, _, _, _, _, _, _, _, _, ⟨k + 1, by omega, by omega, by go_num, HOZ.out, HBZ.out⟩, rfl⟩ | exact ⟨_, _, _, _, _, _, _, _, _, _, _, _, _, _, _, _, _, _, ⟨k + 1, by omega, by omega, by go_num, HOZ.out, HBZ.out⟩, rfl⟩ | exact ⟨_, _, _, _, _, _, _, _, _, _, _, _, _, _, _, _, _, _, _, ⟨k + 1, by omega, by omega, by go_num, HOZ.out, HBZ.out⟩, rfl⟩ | exact ⟨_, _, _, _, _, _, _, _, _, _, _, _, _, _, _, _, _, _, _, _, ⟨k + 1, by omega, by omega, by go_num, HOZ.out, HBZ.out⟩, rfl⟩ | exact ⟨_, _, _, _, _, _, _, _, _, _, _, _, _, _, _, _, _, _, _, _, _, ⟨k + 1, by omega, by omega, by go_num, HOZ.out, HBZ.out⟩, rfl⟩ | exact ⟨_, _, _, _, _, _, _, _, _, _, _, _, _, _, _, _, _, _, _, _, _, _, ⟨k + 1, by omega, by omega, by go_num, HOZ.out, HBZ.out⟩, rfl⟩ | exact ⟨_, _, _, _, _, _, _, _, _, _, _, _, _, _, _, _, _, _, _, _, _, _, _, ⟨k + 1, by omega, by omega, by go_num, HOZ.out, HBZ.out⟩, rfl⟩
      case measure => simp [intOf]; omega
    · have hml : (cutT 10 l k).length = k := cutT_len hk
      have hrt : RdT wr (.slice A3 k cap3) (cutT 10 l k) := HO.out.rd
      have hpt := RefPutT_any _ _ wr hrt (by omega) (fun t ht => by have := cutT_small t ht; omega)
      unfold PutTP at hpt
      have hfl := flat_le (cutT 10 l k) cutT_small
      have hsm := fun t ht => cutT_small (n := 10) (l := l) (k := k) t ht
      generalize cutT 10 l k = m at hpt hml hfl hsm
      cases hput : putT m with
      | none =>
        rw [hput] at hpt
        have HPT := Lib.hid hpt
        clear hpt hrt hfl hsm hput hml
        rcases (show ¬ k < l.length ∨ (k < l.length ∧ ¬ k < 2) by omega) with h | ⟨h, h2⟩
        all_goals
          clear hc
          go_wp2_with (first
            | (go_at_call 60; ((with_reducible refine (HPT.out).mono ?_); rintro e w40 ⟨rfl, hb⟩; have HB40 := Lib.hid (bel_trans HBw.out hb); clear hb)))
          go_ret
          exact ⟨rfl, HB40.out⟩
      | some tx =>
        rw [hput] at hpt
        simp only [Option.getD_some, Option.isSome_some] at hpt
        have htx : tx = flat m ∧ ∀ t ∈ m, okT t := by
          unfold putT at hput
          split at hput
          · rename_i hh; exact ⟨(Option.some.inj hput).symm, hh.1⟩
          · cases hput
        have htl : tx.length ≤ 24 := by
          rw [htx.1]
          have : m.length * (10 + 2) ≤ 2 * 12 := Nat.mul_le_mul (by omega) (Nat.le_refl _)
          omega
        obtain ⟨hu, hmayS, hA⟩ := HOK.out
        have hg1 := fun w => SGet_any (A ++ ⟨tx.toArray⟩) w (by
          have e : (⟨tx.toArray⟩ : ByteArray).size = tx.length := by show (tx.toArray).size = _; simp
          rw [ByteArray.size_append, e]; omega)
        unfold SetupR at hg1
        rw [show getS (A ++ ⟨tx.toArray⟩).data.toList = some ⟨s0, s1, s2, s3, ⟨s4, s5, s6, s7, s8⟩⟩ by
          rw [ByteArray.data_append, Array.toList_append, HAL.out, List.append_assoc]
          refine getS_head hu.1 hu.2 hmayS ?_
          show getO (bytesO ⟨s4, s5, s6, s7, s8⟩ ++ tx) = _
          rw [htx.1]
          exact getO_more (maySt_o hmayS) htx.2 (by rw [← htx.1]; omega)] at hg1
        have HG1 := Lib.hid hg1
        have HPT := Lib.hid hpt
        have z1 : ¬ 9223372036854775807 < A.size + tx.length := by omega
        obtain ⟨v5, v6, v6b, v7, v7b, v7c, v6c, v8, v9, v10, v11, v12, v13, z2, hQ1, hQ2, hm, a1, a2⟩ := F1.out
        clear hpt hrt hfl hsm hput hml htx htl hu hmayS hA hg1
        rcases (show ¬ k < l.length ∨ (k < l.length ∧ ¬ k < 2) by omega) with h | ⟨h, h2⟩
        all_goals
          clear hc
          go_wp2_with (first
            | (go_at_call 60; ((with_reducible refine (HPT.out).mono ?_); rintro e w40 ⟨rfl, hb⟩; have HB40 := Lib.hid (bel_trans HBw.out hb); have X40 := Lib.hid (keep_at HXw.out hb); clear hb))
            | (go_at_call 56; ((with_reducible refine (HG1.out _).mono ?_); rintro e w41 ⟨rfl, hb⟩; have HB41 := Lib.hid (bal ((bel_trans HB40.out hb)) (.cells #[.int .u32 s0, .int .u32 s1, .int .i64 s2, .int .i64 s3, .int .i64 s4, .int .i64 s5, .int .i64 s6, .int .i64 s7, .int .i64 s8] 64)); have X41 := Lib.hid (keep_at (keep_at X40.out hb) (bal (bel0 w41) (.cells #[.int .u32 s0, .int .u32 s1, .int .i64 s2, .int .i64 s3, .int .i64 s4, .int .i64 s5, .int .i64 s6, .int .i64 s7, .int .i64 s8] 64))); have Y41 := Lib.hid ((heap_alloc_new w41 (.cells #[.int .u32 s0, .int .u32 s1, .int .i64 s2, .int .i64 s3, .int .i64 s4, .int .i64 s5, .int .i64 s6, .int .i64 s7, .int .i64 s8] 64))); clear hb)))
          obtain ⟨wy, hwy⟩ : ∃ wy, wy = w41.alloc (.cells #[.int .u32 s0, .int .u32 s1, .int .i64 s2, .int .i64 s3, .int .i64 s4, .int .i64 s5, .int .i64 s6, .int .i64 s7, .int .i64 s8] 64) := ⟨_, rfl⟩
          have HB_50 : Hid (Below w.heap.size w wy.drew) := by show Below _ _ _; rw [hwy]; exact HB41.out.drew
          have HX_50 : Hid (wy.drew.heap[w.heap.size]? = some (.cells #[.int .u32 s0, .int .u32 s1, .int .i64 s2, .int .i64 s3, .int .i64 s4, .int .i64 s5, .int .i64 s6, .int .i64 s7, .int .i64 s8] 64 (0, 0))) := by show _ = _; rw [hwy]; exact X41.out
          have HY_50 : Hid (wy.drew.heap[w41.heap.size]? = some (.cells #[.int .u32 s0, .int .u32 s1, .int .i64 s2, .int .i64 s3, .int .i64 s4, .int .i64 s5, .int .i64 s6, .int .i64 s7, .int .i64 s8] 64 (0, 0))) := by show _ = _; rw [hwy]; exact Y41.out
          have HE_50 := Lib.hid (bel0 wy).drew
          rw [← hwy]
          clear hwy
          refine rests_begin (From wy) (by kernel_rfl) ?_
          refine rests_take 0 (oi := _) (v := ?_) (by simp only [List.getElem?_toArray, List.getElem?_cons_zero]; rfl) (by kernel_rfl) (by kernel_rfl) (by kernel_rfl) (by exact fun _ _ _ h => h) (HE_50.out) (by rfl) ?_ ?_; rotate_left; (· intro W HW; go_simp; try with_reducible rfl)
          simp only [Act.put, List.setIfInBounds_toArray, List.set_cons_zero, List.set_cons_succ]
          refine rests_take 1 (oi := _) (v := ?_) (by simp only [List.getElem?_toArray, List.getElem?_cons_succ, List.getElem?_cons_zero]; rfl) (by kernel_rfl) (by kernel_rfl) (by kernel_rfl) (by exact fun _ _ _ h => h) (HE_50.out) (by rfl) ?_ ?_; rotate_left; (· intro W HW; go_simp; try with_reducible rfl)
          simp only [Act.put, List.setIfInBounds_toArray, List.set_cons_zero, List.set_cons_succ]
          refine rests_take 2 (oi := _) (v := ?_) (by simp only [List.getElem?_toArray, List.getElem?_cons_succ, List.getElem?_cons_zero]; rfl) (by kernel_rfl) (by kernel_rfl) (by kernel_rfl) (by exact fun _ _ _ h => h) (HE_50.out) (by rfl) ?_ ?_; rotate_left; (· intro W HW; go_simp; try with_reducible rfl)
          simp only [Act.put, List.setIfInBounds_toArray, List.set_cons_zero, List.set_cons_succ]
          refine rests_take 3 (oi := _) (v := ?_) (by simp only [List.getElem?_toArray, List.getElem?_cons_succ, List.getElem?_cons_zero]; rfl) (by kernel_rfl) (by kernel_rfl) (by kernel_rfl) (by exact fun _ _ _ h => h) (HE_50.out) (by rfl) ?_ ?_; rotate_left; (· intro W HW; go_simp; try with_reducible rfl)
          simp only [Act.put, List.setIfInBounds_toArray, List.set_cons_zero, List.set_cons_succ]
          refine rests_take 4 (oi := _) (v := ?_) (by simp only [List.getElem?_toArray, List.getElem?_cons_succ, List.getElem?_cons_zero]; rfl) (by kernel_rfl) (by kernel_rfl) (by kernel_rfl) (by exact fun _ _ _ h => h) (HE_50.out) (by rfl) ?_ ?_; rotate_left; (· intro W HW; go_simp; try with_reducible rfl)
          simp only [Act.put, List.setIfInBounds_toArray, List.set_cons_zero, List.set_cons_succ]
          refine rests_take 5 (oi := _) (v := ?_) (by simp only [List.getElem?_toArray, List.getElem?_cons_succ, List.getElem?_cons_zero]; rfl) (by kernel_rfl) (by kernel_rfl) (by kernel_rfl) (by exact fun _ _ _ h => h) (HE_50.out) (by rfl) ?_ ?_; rotate_left; (· intro W HW; go_simp; try with_reducible rfl)
          simp only [Act.put, List.setIfInBounds_toArray, List.set_cons_zero, List.set_cons_succ]
          refine rests_take 6 (oi := _) (v := ?_) (by simp only [List.getElem?_toArray, List.getElem?_cons_succ, List.getElem?_cons_zero]; rfl) (by kernel_rfl) (by kernel_rfl) (by kernel_rfl) (by exact fun _ _ _ h => h) (HE_50.out) (by rfl) ?_ ?_; rotate_left; (· intro W HW; go_simp; try with_reducible rfl)
          simp only [Act.put, List.setIfInBounds_toArray, List.set_cons_zero, List.set_cons_succ]
          refine rests_take 7 (oi := _) (v := ?_) (by simp only [List.getElem?_toArray, List.getElem?_cons_succ, List.getElem?_cons_zero]; rfl) (by kernel_rfl) (by kernel_rfl) (by kernel_rfl) (by exact fun _ _ _ h => h) (HE_50.out) (by rfl) ?_ ?_; rotate_left; (· intro W HW; go_simp; try with_reducible rfl)
          simp only [Act.put, List.setIfInBounds_toArray, List.set_cons_zero, List.set_cons_succ]
          refine rests_two 8 12 (oi := _) (oj := _) (by simp only [List.getElem?_toArray, List.getElem?_cons_succ, List.getElem?_cons_zero]; rfl) (by simp only [List.getElem?_toArray, List.getElem?_cons_succ, List.getElem?_cons_zero]; rfl) (by kernel_rfl) (by rfl) (by rfl) ?_ ?_
          · refine wp_enter (f := 56) (args := #[.string (Q1 ++ Q2)]) (by go_simp) (HG2.out (wy.drew)) ?_
            rintro e w51 ⟨rfl, hb⟩; have HB_51 := Lib.hid (bel_trans (w := wy.drew) HB_50.out hb); have HE_51 := Lib.hid (bel_trans (w := wy.drew) HE_50.out hb); have HX_51 := Lib.hid (keep_at (w := wy.drew) HX_50.out hb); have HY_51 := Lib.hid (keep_at (w := wy.drew) HY_50.out hb); refine ⟨_, rfl, HE_51.out, ?_⟩; clear hb
            simp only [Act.put, List.setIfInBounds_toArray, List.set_cons_zero, List.set_cons_succ]
            refine rests_take 9 (oi := _) (v := ?_) (by simp only [List.getElem?_toArray, List.getElem?_cons_succ, List.getElem?_cons_zero]; rfl) (by kernel_rfl) (by kernel_rfl) (by kernel_rfl) (by exact fun _ _ _ h => h) (HE_51.out) (by rfl) ?_ ?_; rotate_left; (· intro W HW; go_simp; try with_reducible rfl)
            simp only [Act.put, List.setIfInBounds_toArray, List.set_cons_zero, List.set_cons_succ]
            refine rests_take 10 (oi := _) (v := ?_) (by simp only [List.getElem?_toArray, List.getElem?_cons_succ, List.getElem?_cons_zero]; rfl) (by kernel_rfl) (by kernel_rfl) (by kernel_rfl) (by exact fun _ _ _ h => h) (HE_51.out) (by rfl) ?_ ?_; rotate_left; (· intro W HW; go_simp; try with_reducible rfl)
            simp only [Act.put, List.setIfInBounds_toArray, List.set_cons_zero, List.set_cons_succ]
            refine rests_take 11 (oi := _) (v := ?_) (by simp only [List.getElem?_toArray, List.getElem?_cons_succ, List.getElem?_cons_zero]; rfl) (by kernel_rfl) (by kernel_rfl) (by kernel_rfl) (by exact fun _ _ _ h => h) (HE_51.out) (by rfl) ?_ ?_; rotate_left; (· intro W HW; go_simp; try with_reducible rfl)
            simp only [Act.put, List.setIfInBounds_toArray, List.set_cons_zero, List.set_cons_succ]
            have HGx := Lib.hid (lt_at HX_51.out); have HGy := Lib.hid (lt_at HY_51.out); have HGe := Lib.hid (HE_51.out.size)
            refine rests_run 12 (oi := _) (by simp only [List.getElem?_toArray, List.getElem?_cons_succ, List.getElem?_cons_zero]; rfl) (by kernel_rfl) (by rfl) (.pointer (some ⟨w51.heap.size, 0, none⟩)) ((w51).alloc (.cells #[.int .u32 0, .int .u32 0, .int .i64 0, .int .i64 0, .int .i64 0, .int .i64 0, .int .i64 0, .int .i64 0, .int .i64 0] 64)) (by go_simp) ⟨bal HE_51.out _, ?_⟩
            have HB_52 := Lib.hid (bal (w := w51) HB_51.out (.cells #[.int .u32 0, .int .u32 0, .int .i64 0, .int .i64 0, .int .i64 0, .int .i64 0, .int .i64 0, .int .i64 0, .int .i64 0] 64)); have HE_52 := Lib.hid (bal (w := w51) HE_51.out (.cells #[.int .u32 0, .int .u32 0, .int .i64 0, .int .i64 0, .int .i64 0, .int .i64 0, .int .i64 0, .int .i64 0, .int .i64 0] 64)); have HX_52 := Lib.hid (keep_at (w := w51) HX_51.out (bal (bel0 (w51)) (.cells #[.int .u32 0, .int .u32 0, .int .i64 0, .int .i64 0, .int .i64 0, .int .i64 0, .int .i64 0, .int .i64 0, .int .i64 0] 64))); have HY_52 := Lib.hid (keep_at (w := w51) HY_51.out (bal (bel0 (w51)) (.cells #[.int .u32 0, .int .u32 0, .int .i64 0, .int .i64 0, .int .i64 0, .int .i64 0, .int .i64 0, .int .i64 0, .int .i64 0] 64))); have HN_52 := Lib.hid (heap_alloc_new (w51) (.cells #[.int .u32 0, .int .u32 0, .int .i64 0, .int .i64 0, .int .i64 0, .int .i64 0, .int .i64 0, .int .i64 0, .int .i64 0] 64))
            simp only [Act.put, List.setIfInBounds_toArray, List.set_cons_zero, List.set_cons_succ]
            refine rests_storeB 13 (oi := _) (by simp only [List.getElem?_toArray, List.getElem?_cons_succ, List.getElem?_cons_zero]; rfl) (by kernel_rfl) (by rfl) 64 (.tmp 17) (.tmp 84) rfl (w51.heap.size) #[.int .u32 0, .int .u32 0, .int .i64 0, .int .i64 0, .int .i64 0, .int .i64 0, .int .i64 0, .int .i64 0, .int .i64 0] rfl rfl 64 _ HN_52.out (by kernel_rfl) rfl (by kernel_rfl) ?_
            intro w53 hg53 hz53 hh53; have HB_53 := Lib.hid (bel_grown HB_52.out hg53 (Nat.le_of_lt HGx.out)); have HX_53 := Lib.hid (keep_grown HX_52.out hg53 (Nat.ne_of_lt HGx.out)); have HY_53 := Lib.hid (keep_grown HY_52.out hg53 (Nat.ne_of_lt HGy.out)); have HE_53 := Lib.hid (bel_grown HE_52.out hg53 HGe.out); refine ⟨HE_53.out, ?_⟩; clear hg53 hz53 hh53
            simp only [Act.put, List.setIfInBounds_toArray, List.set_cons_zero, List.set_cons_succ]
            refine rests_take 14 (oi := _) (v := ?_) (by simp only [List.getElem?_toArray, List.getElem?_cons_succ, List.getElem?_cons_zero]; rfl) (by kernel_rfl) (by kernel_rfl) (by kernel_rfl) (by exact fun _ _ _ h => h) (HE_53.out) (by rfl) ?_ ?_; rotate_left; (· intro W HW; go_simp; try with_reducible rfl)
            simp only [Act.put, List.setIfInBounds_toArray, List.set_cons_zero, List.set_cons_succ]
            refine rests_done (by kernel_rfl) ?_
            go_wp2_with (first
              | (with_reducible refine wpList_loadG (by kernel_rfl) 64 (.tmp 14) rfl (w41.heap.size) rfl 64 #[.int .u32 s0, .int .u32 s1, .int .i64 s2, .int .i64 s3, .int .i64 s4, .int .i64 s5, .int .i64 s6, .int .i64 s7, .int .i64 s8] HY_53.out _ Tryz.underlying64 rfl (by kernel_rfl) ?_)
              | (with_reducible refine wpList_loadG (by kernel_rfl) 64 (.tmp 3) rfl (w.heap.size) rfl 64 #[.int .u32 s0, .int .u32 s1, .int .i64 s2, .int .i64 s3, .int .i64 s4, .int .i64 s5, .int .i64 s6, .int .i64 s7, .int .i64 s8] HX_53.out _ Tryz.underlying64 rfl (by kernel_rfl) ?_)
              | (with_reducible refine wpList_eq (by kernel_rfl) 64 (.tmp 88) (.tmp 89) #[.int .u32 s0, .int .u32 s1, .int .i64 s2, .int .i64 s3, .int .i64 s4, .int .i64 s5, .int .i64 s6, .int .i64 s7, .int .i64 s8] #[.int .u32 s0, .int .u32 s1, .int .i64 s2, .int .i64 s3, .int .i64 s4, .int .i64 s5, .int .i64 s6, .int .i64 s7, .int .i64 s8] true rfl rfl rfl (fun _ _ _ _ => guard_S _ _ _ _ _ _) HSE.out ?_))
            go_ret
            exact ⟨rfl, HB_53.out⟩
          · have HGx := Lib.hid (lt_at HX_50.out); have HGy := Lib.hid (lt_at HY_50.out); have HGe := Lib.hid (HE_50.out.size)
            refine wp_val (v := .pointer (some ⟨wy.heap.size, 0, none⟩)) (w' := (wy.drew).alloc (.cells #[.int .u32 0, .int .u32 0, .int .i64 0, .int .i64 0, .int .i64 0, .int .i64 0, .int .i64 0, .int .i64 0, .int .i64 0] 64)) (by go_simp) ⟨bal HE_50.out _, ?_⟩
            have HB_51 := Lib.hid (bal (w := wy.drew) HB_50.out (.cells #[.int .u32 0, .int .u32 0, .int .i64 0, .int .i64 0, .int .i64 0, .int .i64 0, .int .i64 0, .int .i64 0, .int .i64 0] 64)); have HE_51 := Lib.hid (bal (w := wy.drew) HE_50.out (.cells #[.int .u32 0, .int .u32 0, .int .i64 0, .int .i64 0, .int .i64 0, .int .i64 0, .int .i64 0, .int .i64 0, .int .i64 0] 64)); have HX_51 := Lib.hid (keep_at (w := wy.drew) HX_50.out (bal (bel0 (wy.drew)) (.cells #[.int .u32 0, .int .u32 0, .int .i64 0, .int .i64 0, .int .i64 0, .int .i64 0, .int .i64 0, .int .i64 0, .int .i64 0] 64))); have HY_51 := Lib.hid (keep_at (w := wy.drew) HY_50.out (bal (bel0 (wy.drew)) (.cells #[.int .u32 0, .int .u32 0, .int .i64 0, .int .i64 0, .int .i64 0, .int .i64 0, .int .i64 0, .int .i64 0, .int .i64 0] 64))); have HN_51 := Lib.hid (heap_alloc_new (wy.drew) (.cells #[.int .u32 0, .int .u32 0, .int .i64 0, .int .i64 0, .int .i64 0, .int .i64 0, .int .i64 0, .int .i64 0, .int .i64 0] 64))
            simp only [Act.put, List.setIfInBounds_toArray, List.set_cons_zero, List.set_cons_succ]
            refine rests_call 8 (oi := _) (by simp only [List.getElem?_toArray, List.getElem?_cons_succ, List.getElem?_cons_zero]; rfl) 56 #[.string (Q1 ++ Q2)] _ (by kernel_rfl) (by rfl) (by go_simp) (HG2.out (((wy.drew).alloc (.cells #[.int .u32 0, .int .u32 0, .int .i64 0, .int .i64 0, .int .i64 0, .int .i64 0, .int .i64 0, .int .i64 0, .int .i64 0] 64)))) ?_
            rintro e w52 ⟨rfl, hb⟩; have HB_52 := Lib.hid (bel_trans (w := ((wy.drew).alloc (.cells #[.int .u32 0, .int .u32 0, .int .i64 0, .int .i64 0, .int .i64 0, .int .i64 0, .int .i64 0, .int .i64 0, .int .i64 0] 64))) HB_51.out hb); have HE_52 := Lib.hid (bel_trans (w := ((wy.drew).alloc (.cells #[.int .u32 0, .int .u32 0, .int .i64 0, .int .i64 0, .int .i64 0, .int .i64 0, .int .i64 0, .int .i64 0, .int .i64 0] 64))) HE_51.out hb); have HX_52 := Lib.hid (keep_at (w := ((wy.drew).alloc (.cells #[.int .u32 0, .int .u32 0, .int .i64 0, .int .i64 0, .int .i64 0, .int .i64 0, .int .i64 0, .int .i64 0, .int .i64 0] 64))) HX_51.out hb); have HY_52 := Lib.hid (keep_at (w := ((wy.drew).alloc (.cells #[.int .u32 0, .int .u32 0, .int .i64 0, .int .i64 0, .int .i64 0, .int .i64 0, .int .i64 0, .int .i64 0, .int .i64 0] 64))) HY_51.out hb); have HN_52 := Lib.hid (keep_at (w := ((wy.drew).alloc (.cells #[.int .u32 0, .int .u32 0, .int .i64 0, .int .i64 0, .int .i64 0, .int .i64 0, .int .i64 0, .int .i64 0, .int .i64 0] 64))) HN_51.out hb); refine ⟨_, rfl, HE_52.out, ?_⟩; clear hb
            simp only [Act.put, List.setIfInBounds_toArray, List.set_cons_zero, List.set_cons_succ]
            refine rests_take 9 (oi := _) (v := ?_) (by simp only [List.getElem?_toArray, List.getElem?_cons_succ, List.getElem?_cons_zero]; rfl) (by kernel_rfl) (by kernel_rfl) (by kernel_rfl) (by exact fun _ _ _ h => h) (HE_52.out) (by rfl) ?_ ?_; rotate_left; (· intro W HW; go_simp; try with_reducible rfl)
            simp only [Act.put, List.setIfInBounds_toArray, List.set_cons_zero, List.set_cons_succ]
            refine rests_take 10 (oi := _) (v := ?_) (by simp only [List.getElem?_toArray, List.getElem?_cons_succ, List.getElem?_cons_zero]; rfl) (by kernel_rfl) (by kernel_rfl) (by kernel_rfl) (by exact fun _ _ _ h => h) (HE_52.out) (by rfl) ?_ ?_; rotate_left; (· intro W HW; go_simp; try with_reducible rfl)
            simp only [Act.put, List.setIfInBounds_toArray, List.set_cons_zero, List.set_cons_succ]
            refine rests_take 11 (oi := _) (v := ?_) (by simp only [List.getElem?_toArray, List.getElem?_cons_succ, List.getElem?_cons_zero]; rfl) (by kernel_rfl) (by kernel_rfl) (by kernel_rfl) (by exact fun _ _ _ h => h) (HE_52.out) (by rfl) ?_ ?_; rotate_left; (· intro W HW; go_simp; try with_reducible rfl)
            simp only [Act.put, List.setIfInBounds_toArray, List.set_cons_zero, List.set_cons_succ]
            refine rests_storeB 13 (oi := _) (by simp only [List.getElem?_toArray, List.getElem?_cons_succ, List.getElem?_cons_zero]; rfl) (by kernel_rfl) (by rfl) 64 (.tmp 17) (.tmp 84) rfl (wy.heap.size) #[.int .u32 0, .int .u32 0, .int .i64 0, .int .i64 0, .int .i64 0, .int .i64 0, .int .i64 0, .int .i64 0, .int .i64 0] rfl rfl 64 _ HN_52.out (by kernel_rfl) rfl (by kernel_rfl) ?_
            intro w53 hg53 hz53 hh53; have HB_53 := Lib.hid (bel_grown HB_52.out hg53 (Nat.le_of_lt HGx.out)); have HX_53 := Lib.hid (keep_grown HX_52.out hg53 (Nat.ne_of_lt HGx.out)); have HY_53 := Lib.hid (keep_grown HY_52.out hg53 (Nat.ne_of_lt HGy.out)); have HE_53 := Lib.hid (bel_grown HE_52.out hg53 HGe.out); refine ⟨HE_53.out, ?_⟩; clear hg53 hz53 hh53
            simp only [Act.put, List.setIfInBounds_toArray, List.set_cons_zero, List.set_cons_succ]
            refine rests_take 14 (oi := _) (v := ?_) (by simp only [List.getElem?_toArray, List.getElem?_cons_succ, List.getElem?_cons_zero]; rfl) (by kernel_rfl) (by kernel_rfl) (by kernel_rfl) (by exact fun _ _ _ h => h) (HE_53.out) (by rfl) ?_ ?_; rotate_left; (· intro W HW; go_simp; try with_reducible rfl)
            simp only [Act.put, List.setIfInBounds_toArray, List.set_cons_zero, List.set_cons_succ]
            refine rests_done (by kernel_rfl) ?_
            go_wp2_with (first
              | (with_reducible refine wpList_loadG (by kernel_rfl) 64 (.tmp 14) rfl (w41.heap.size) rfl 64 #[.int .u32 s0, .int .u32 s1, .int .i64 s2, .int .i64 s3, .int .i64 s4, .int .i64 s5, .int .i64 s6, .int .i64 s7, .int .i64 s8] HY_53.out _ Tryz.underlying64 rfl (by kernel_rfl) ?_)
              | (with_reducible refine wpList_loadG (by kernel_rfl) 64 (.tmp 3) rfl (w.heap.size) rfl 64 #[.int .u32 s0, .int .u32 s1, .int .i64 s2, .int .i64 s3, .int .i64 s4, .int .i64 s5, .int .i64 s6, .int .i64 s7, .int .i64 s8] HX_53.out _ Tryz.underlying64 rfl (by kernel_rfl) ?_)
              | (with_reducible refine wpList_eq (by kernel_rfl) 64 (.tmp 88) (.tmp 89) #[.int .u32 s0, .int .u32 s1, .int .i64 s2, .int .i64 s3, .int .i64 s4, .int .i64 s5, .int .i64 s6, .int .i64 s7, .int .i64 s8] #[.int .u32 s0, .int .u32 s1, .int .i64 s2, .int .i64 s3, .int .i64 s4, .int .i64 s5, .int .i64 s6, .int .i64 s7, .int .i64 s8] true rfl rfl rfl (fun _ _ _ _ => guard_S _ _ _ _ _ _) HSE.out ?_))
            go_ret
            exact ⟨rfl, HB_53.out⟩
theorem SetupMore_law (s : St) (v : Value) (n : Nat) (I : Nat → Int) (T : Nat → ByteArray) (q : Int) (w : World) (hs : s.ok) (hv : IsTs w v n I T) (hq : (Lit.int .i64 q).wf = true) (hC : Codes w) : Calls Tryz.prog 17 #[s.val, v, .int .i64 q] w (Holds8 w) := by
  have hp1 := fun w => SPut_any s w hs
  unfold PutR at hp1
  cases e1 : putS s with
  | none =>
    rw [e1] at hp1
    exact SetupMore_0 _ _ _ _ _ _ _ _ _ q _ v _ w hv.rd hC hp1
  | some l =>
    rw [e1] at hp1
    have hl := putS_len e1
    have hmay : maySt s = true := by
      cases h : maySt s with
      | true => rfl
      | false => unfold putS at e1; rw [h] at e1; cases e1
    have hle : l = headS s ++ bytesO s.o := by
      unfold putS at e1
      rw [if_pos hmay] at e1
      exact (Option.some.inj e1).symm
    obtain ⟨d, hd, hm⟩ : ∃ d : Nat, d < 5 ∧ (q.tmod 5 + 5) % 5 = (d : Int) := ⟨((q.tmod 5 + 5) % 5).toNat, by omega, by omega⟩
    exact SetupMore_1 _ _ _ _ _ _ _ _ _ q ⟨l.toArray⟩ v _ d (10 + 3 * d) (10 + 3 * d + 3) w hv.rd (fun t ht => (hv.wf t ht).2) hC (by show (l.toArray).size = 25; rw [List.size_toArray]; exact hl) hle hs hmay hd hm rfl rfl hp1
end Go.Proofs.YtcmjdbljdkabpaaGreatDoor
