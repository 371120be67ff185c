/- The law QosMore. -/
import Derived.Test.YtcmjdbljdkabpaaGreatDoorQ8S
import Derived.Test.YtcmjdbljdkabpaaGreatDoorM8E
import Derived.Test.YtcmjdbljdkabpaaGreatDoorM8M
import Derived.Test.YtcmjdbljdkabpaaGreatDoorBegun8
import Derived.Test.YtcmjdbljdkabpaaGreatDoorM4H
import Derived.Test.YtcmjdbljdkabpaaGreatDoorM8O
import Derived.Test.YtcmjdbljdkabpaaGreatDoorM4I
import Derived.Test.YtcmjdbljdkabpaaGreatDoorM4J

set_option linter.all false

namespace Go.Proofs.YtcmjdbljdkabpaaGreatDoor
open Go.RowKit M

theorem eql_same_O (x : Of5) (w : World) : (binOp .eql 23 x.val x.val).run Tryz.prog w = .ok (.bool true) w := by
  have h := eql_Of5 x x w
  rw [decide_eq_true rfl] at h
  exact h
/-- None of what was put in stands ahead of one of its own number: of the first i; of one, held against the others up to j. -/
def clA (m f : List Tp) (kn i : Nat) : Bool := (m.take i).all fun t => (f.drop kn).all fun u => t.1 != u.1
def clB (f : List Tp) (kn j : Nat) (x : Int) : Bool := ((f.take j).drop kn).all fun u => x != u.1
theorem clB_start (f : List Tp) (kn : Nat) (x : Int) : clB f kn kn x = true := by
  unfold clB
  rw [List.drop_of_length_le (by rw [List.length_take]; omega)]
  rfl
theorem clB_succ {f : List Tp} {kn j : Nat} (x : Int) (hk : kn ≤ j) (hj : j < f.length) : clB f kn (j + 1) x = (clB f kn j x && (x != (f[j]).1)) := by
  unfold clB
  rw [List.take_succ_eq_append_getElem hj, List.drop_append_of_le_length (by rw [List.length_take]; omega), List.all_append]
  simp
theorem clA_succ {m f : List Tp} {kn i : Nat} (hi : i < m.length) : clA m f kn (i + 1) = (clA m f kn i && clB f kn f.length (m[i]).1) := by
  unfold clA clB
  rw [List.take_succ_eq_append_getElem hi, List.all_append, List.take_length]
  simp
theorem clA_all {m f : List Tp} {kn : Nat} (h : clA m f kn m.length = true) : ∀ t ∈ m, ∀ u ∈ f.drop kn, t.1 ≠ u.1 := by
  unfold clA at h
  rw [List.take_length, List.all_eq_true] at h
  intro t ht u hu
  have := List.all_eq_true.1 (h t ht) u hu
  simpa using this
set_option maxRecDepth 100000 in
set_option maxHeartbeats 4000000 in
theorem QosMore_0 (o0 o1 o2 o3 o4 q : Int) (P : ByteArray) (v : Value) (l : List Tp) (w : World) (hr : RdT w v l) (hC : Codes w)
    (hP : ∀ w, Calls Tryz.prog 23 #[.agg #[.int .i64 o0, .int .i64 o1, .int .i64 o2, .int .i64 o3, .int .i64 o4]] w fun e w' => e = .returned (.tuple #[.string P, .bool false]) ∧ Below w.heap.size w w') :
    Calls Tryz.prog 4 #[.agg #[.int .i64 o0, .int .i64 o1, .int .i64 o2, .int .i64 o3, .int .i64 o4], v, .int .i64 q] w (Holds8 w) := by
  obtain ⟨va, ca, rfl, -, -, -⟩ := hr
  have HC0 := Lib.hid hC
  have HP := Lib.hid hP
  clear hC hP
  go_enter Tryz.func4, Tryz.ntmps4
  go_wp2_with (first
    | ((with_reducible refine wpList_boxS rfl 23 _ (.tmp 0) rfl rfl (run_boxOf ⟨o0, o1, o2, o3, o4⟩) ?_); intro w1 hb hlt hh; have HB1 := Lib.hid hb; have HC1 := Lib.hid (HC0.out.below hb); have A1 := Lib.hid (hh); clear hb hlt hh)
    | (with_reducible refine wpList_loadB rfl 23 (.tmp 3) rfl (w.heap.size) rfl 23 _ A2.out _ Tryz.underlying23 rfl (by kernel_rfl) ?_)
    | (go_at_call 21; ((with_reducible refine (begun8_any _ HC1.out).mono ?_); rintro e w2 ⟨rfl, hb⟩; have HB2 := Lib.hid (bel_trans HB1.out hb); have A2 := Lib.hid (keep_at A1.out hb); have HC2 := Lib.hid (HC1.out.below hb); clear hb))
    | (go_at_call 23; ((with_reducible refine (HP.out _).mono ?_); rintro e w3 ⟨rfl, hb⟩; have HB3 := Lib.hid (bel_trans HB2.out hb); have A3 := Lib.hid (keep_at A2.out hb); have HC3 := Lib.hid (HC2.out.below hb); clear hb)))
  go_ret
  exact ⟨rfl, HB3.out⟩
set_option maxRecDepth 100000 in
set_option maxHeartbeats 16000000 in
theorem QosMore_1 (o0 o1 o2 o3 o4 q : Int) (P : ByteArray) (v : Value) (l : List Tp) (kn : Nat) (w : World) (hr : RdT w v l) (hz : ∀ t ∈ l, t.2.length ≤ maxLen) (hC : Codes w)
    (hmay : mayO ⟨o0, o1, o2, o3, o4⟩ = true) (hkn : kn < 6) (hm6 : (q.tmod 6 + 6) % 6 = (kn : Int))
    (hP : ∀ w, Calls Tryz.prog 23 #[.agg #[.int .i64 o0, .int .i64 o1, .int .i64 o2, .int .i64 o3, .int .i64 o4]] w fun e w' => e = .returned (.tuple #[.string P, .bool true]) ∧ Below w.heap.size w w')
    (hGT : ∀ w, Calls Tryz.prog 40 #[.string P] w fun e w' => ∃ v, e = .returned (.tuple #[v, .bool true]) ∧ OwnT w' w.heap.size v (fiveT ⟨o0, o1, o2, o3, o4⟩) ∧ Below w.heap.size w w') :
    Calls Tryz.prog 4 #[.agg #[.int .i64 o0, .int .i64 o1, .int .i64 o2, .int .i64 o3, .int .i64 o4], v, .int .i64 q] w (Holds8 w) := by
  have hr2 := hr
  obtain ⟨va, ca, rfl, hcap, hcm, -⟩ := hr2
  have HR0 := Lib.hid hr
  have HZ := Lib.hid hz
  have HC0 := Lib.hid hC
  have HP := Lib.hid hP
  have HGT := Lib.hid hGT
  have HMAY := Lib.hid hmay
  have HKN := Lib.hid hkn
  have a1 : -5 ≤ q.tmod 6 := by have := Int.lt_tmod_of_pos q (show (0 : Int) < 6 by decide); omega
  have a2 : q.tmod 6 ≤ 5 := by have := Int.tmod_lt_of_pos q (show (0 : Int) < 6 by decide); omega
  have hm6b : q.tmod 6 % 6 = (kn : Int) := by omega
  have hm6c : IntKind.i64.wrap (kn : Int) = (kn : Int) := IntWalk.i64_in _ (by omega)
  unfold maxLen at hcm
  clear hr hz hC hP hGT hmay hkn
  go_enter Tryz.func4, Tryz.ntmps4
  go_wp2_with (first
    | ((with_reducible refine wpList_boxS rfl 23 _ (.tmp 0) rfl rfl (run_boxOf ⟨o0, o1, o2, o3, o4⟩) ?_); intro w1 hb hlt hh; have HB1 := Lib.hid hb; have HC1 := Lib.hid (HC0.out.below hb); have A1 := Lib.hid (hh); clear hb hlt hh)
    | (with_reducible refine wpList_loadB rfl 23 (.tmp 3) rfl (w.heap.size) rfl 23 _ A2.out _ Tryz.underlying23 rfl (by kernel_rfl) ?_)
    | (go_at_call 21; ((with_reducible refine (begun8_any _ HC1.out).mono ?_); rintro e w2 ⟨rfl, hb⟩; have HB2 := Lib.hid (bel_trans HB1.out hb); have A2 := Lib.hid (keep_at A1.out hb); have HC2 := Lib.hid (HC1.out.below hb); clear hb))
    | (go_at_call 23; ((with_reducible refine (HP.out _).mono ?_); rintro e w3 ⟨rfl, hb⟩; have HB3 := Lib.hid (bel_trans HB2.out hb); have A3 := Lib.hid (keep_at A2.out hb); have HC3 := Lib.hid (HC2.out.below hb); clear hb))
    | (go_at_call 40; ((with_reducible refine (HGT.out _).mono ?_); rintro e w4 ⟨v2, rfl, ho, hb⟩; obtain ⟨A2, cap2, hv2, hcap2, hcm2⟩ := ho.shape; rw [show (fiveT ⟨o0, o1, o2, o3, o4⟩).length = 5 from rfl] at hv2 hcap2; subst hv2; have HCAP := Lib.hid (And.intro hcap2 hcm2); have HB4 := Lib.hid (bel_trans HB3.out hb); have A4 := Lib.hid (keep_at A3.out hb); have HC4 := Lib.hid (HC3.out.below hb); have L4 := Lib.hid (ho.rd); clear ho hcap2 hcm2; clear hb)))
  first | rw [hm6] | rw [hm6b]
  clear a1 a2 hm6 hm6b hm6c
  go_loopw [13, 14] (fun q i wr => ∃ k : Nat, k ≤ l.length ∧ k ≤ 3 ∧ i = .int .i64 k ∧ OwnT wr w4.heap.size q (cutT 9 l k) ∧ Below w4.heap.size w4 wr) (fun _ i _ => 3 - (intOf i).toNat)
  case atStart => exact ⟨0, by omega, by omega, rfl, OwnT.nil_ _ _, bel0 _⟩
  case round =>
    obtain ⟨k, hk, hk2, rfl, ho, hb⟩ := hrel
    obtain ⟨A3, cap3, rfl, _, _⟩ := ho.shape
    rw [cutT_len hk] at ho ⊢
    have HO := Lib.hid ho
    have HB := Lib.hid hb
    have HRb := Lib.hid (HR0.out.below HB4.out)
    have HXw := Lib.hid (keep_at A4.out hb)
    have HBw := Lib.hid (bel_trans HB4.out hb)
    have HLw := Lib.hid (L4.out.below hb)
    clear ho hb
    by_cases hc : k < l.length ∧ k < 3
    · obtain ⟨hlt, hlt2⟩ := hc
      have td : decide ((k : Int) < (l.length : Int)) = true := decide_eq_true (by omega)
      have td2 : decide ((k : Int) < 3) = true := decide_eq_true (by omega)
      obtain ⟨b, off, rfl, hbl, hc1, hc2⟩ := HRb.out.at_ hlt
      have hTm := HZ.out l[k] (List.getElem_mem hlt)
      obtain ⟨id, hid⟩ : ∃ id, (l[k]).1 = id := ⟨_, rfl⟩
      obtain ⟨T, hT⟩ : ∃ T : ByteArray, T = ⟨(l[k]).2.toArray⟩ := ⟨_, rfl⟩
      have hTs : T.size ≤ maxLen := by rw [hT]; show ((l[k]).2.toArray).size ≤ _; simpa using hTm
      have htx := fun w => Text_any T 9 w hTs (by omega)
      have hcut : T.extract 0 (min T.size 9) = ⟨((l[k]).2.take 9).toArray⟩ := by rw [hT]; exact cut_n _ _
      rw [hcut] at htx
      rw [hid] at hc1
      rw [← hT] at hc2
      obtain ⟨tt, htt⟩ : ∃ tt : List UInt8, tt = (l[k]).2.take 9 := ⟨_, rfl⟩
      rw [← htt] at htx
      have HTX := Lib.hid htx
      have HE : Hid (cutT 9 l (k + 1) = cutT 9 l k ++ [(id, tt)]) := by
        show _ = _
        rw [cutT_succ hlt, htt, ← hid]
      have i1 : (k : Int) < (l.length : Int) := by omega
      clear htx hcut hT hTs hid htt hTm
      go_wp2
      refine rests_begin (From w4) (by kernel_rfl) ?_
      refine rests_take 0 (oi := _) (v := ?_) (by simp only [List.getElem?_toArray, List.getElem?_cons_zero]; rfl) (by kernel_rfl) (by kernel_rfl) (by kernel_rfl) (by exact fun _ _ _ h => h) (HB.out.drew) (by rfl) ?_ ?_; rotate_left; (· intro W HW; go_simp; try with_reducible rfl)
      simp only [Act.put, List.setIfInBounds_toArray, List.set_cons_zero, List.set_cons_succ]
      refine rests_take 1 (oi := _) (v := ?_) (by simp only [List.getElem?_toArray, List.getElem?_cons_succ, List.getElem?_cons_zero]; rfl) (by kernel_rfl) (by kernel_rfl) (by kernel_rfl) (by exact fun _ _ _ h => h) (HB.out.drew) (by rfl) ?_ ?_; rotate_left; (· intro W HW; go_simp; try with_reducible rfl)
      simp only [Act.put, List.setIfInBounds_toArray, List.set_cons_zero, List.set_cons_succ]
      refine rests_take 2 (oi := _) (v := ?_) (by simp only [List.getElem?_toArray, List.getElem?_cons_succ, List.getElem?_cons_zero]; rfl) (by kernel_rfl) (by kernel_rfl) (by kernel_rfl) (by exact fun _ _ _ h => h) (HB.out.drew) (by rfl) ?_ ?_; rotate_left; (· intro W HW; go_simp; try with_reducible rfl)
      simp only [Act.put, List.setIfInBounds_toArray, List.set_cons_zero, List.set_cons_succ]
      refine rests_take 3 (oi := _) (v := ?_) (by simp only [List.getElem?_toArray, List.getElem?_cons_succ, List.getElem?_cons_zero]; rfl) (by kernel_rfl) (by kernel_rfl) (by kernel_rfl) (by exact fun _ _ _ h => h) (HB.out.drew) (by rfl) ?_ ?_; rotate_left; (· intro W HW; go_simp; try with_reducible rfl)
      simp only [Act.put, List.setIfInBounds_toArray, List.set_cons_zero, List.set_cons_succ]
      refine rests_take 4 (oi := _) (v := ?_) (by simp only [List.getElem?_toArray, List.getElem?_cons_succ, List.getElem?_cons_zero]; rfl) (by kernel_rfl) (by kernel_rfl) (by kernel_rfl) (by exact fun _ _ _ h => h) (HB.out.drew) (by rfl) ?_ ?_; rotate_left; (· intro W HW; go_simp; try with_reducible rfl)
      simp only [Act.put, List.setIfInBounds_toArray, List.set_cons_zero, List.set_cons_succ]
      refine rests_take 5 (oi := _) (v := ?_) (by simp only [List.getElem?_toArray, List.getElem?_cons_succ, List.getElem?_cons_zero]; rfl) (by kernel_rfl) (by kernel_rfl) (by kernel_rfl) (by exact fun _ _ _ h => h) (HB.out.drew) (by rfl) ?_ ?_; rotate_left; (· intro W HW; have cw : W.cell? ⟨b, off + k * 2, none⟩ = some (.int .i64 id) := (HW.cell (p := ⟨b, off + k * 2, none⟩) hbl).trans hc1; go_simp; try with_reducible rfl)
      simp only [Act.put, List.setIfInBounds_toArray, List.set_cons_zero, List.set_cons_succ]
      refine rests_take 6 (oi := _) (v := ?_) (by simp only [List.getElem?_toArray, List.getElem?_cons_succ, List.getElem?_cons_zero]; rfl) (by kernel_rfl) (by kernel_rfl) (by kernel_rfl) (by exact fun _ _ _ h => h) (HB.out.drew) (by rfl) ?_ ?_; rotate_left; (· intro W HW; go_simp; try with_reducible rfl)
      simp only [Act.put, List.setIfInBounds_toArray, List.set_cons_zero, List.set_cons_succ]
      refine rests_take 7 (oi := _) (v := ?_) (by simp only [List.getElem?_toArray, List.getElem?_cons_succ, List.getElem?_cons_zero]; rfl) (by kernel_rfl) (by kernel_rfl) (by kernel_rfl) (by exact fun _ _ _ h => h) (HB.out.drew) (by rfl) ?_ ?_; rotate_left; (· intro W HW; go_simp; try with_reducible rfl)
      simp only [Act.put, List.setIfInBounds_toArray, List.set_cons_zero, List.set_cons_succ]
      refine rests_take 8 (oi := _) (v := ?_) (by simp only [List.getElem?_toArray, List.getElem?_cons_succ, List.getElem?_cons_zero]; rfl) (by kernel_rfl) (by kernel_rfl) (by kernel_rfl) (by exact fun _ _ _ h => h) (HB.out.drew) (by rfl) ?_ ?_; rotate_left; (· intro W HW; go_simp; try with_reducible rfl)
      simp only [Act.put, List.setIfInBounds_toArray, List.set_cons_zero, List.set_cons_succ]
      refine rests_take 9 (oi := _) (v := ?_) (by simp only [List.getElem?_toArray, List.getElem?_cons_succ, List.getElem?_cons_zero]; rfl) (by kernel_rfl) (by kernel_rfl) (by kernel_rfl) (by exact fun _ _ _ h => h) (HB.out.drew) (by rfl) ?_ ?_; rotate_left; (· intro W HW; go_simp; try with_reducible rfl)
      simp only [Act.put, List.setIfInBounds_toArray, List.set_cons_zero, List.set_cons_succ]
      refine rests_take 10 (oi := _) (v := ?_) (by simp only [List.getElem?_toArray, List.getElem?_cons_succ, List.getElem?_cons_zero]; rfl) (by kernel_rfl) (by kernel_rfl) (by kernel_rfl) (by exact fun _ _ _ h => h) (HB.out.drew) (by rfl) ?_ ?_; rotate_left; (· intro W HW; have cw : W.cell? ⟨b, off + k * 2 + 1, none⟩ = some (.string T) := (HW.cell (p := ⟨b, off + k * 2 + 1, none⟩) hbl).trans hc2; go_simp; try with_reducible rfl)
      simp only [Act.put, List.setIfInBounds_toArray, List.set_cons_zero, List.set_cons_succ]
      refine rests_call 11 (oi := _) (by simp only [List.getElem?_toArray, List.getElem?_cons_succ, List.getElem?_cons_zero]; rfl) 22 #[.string T, .int .i64 9] _ (by kernel_rfl) (by rfl) (by go_simp) (HTX.out _) ?_
      rintro e wt ⟨rfl, rfl⟩; refine ⟨_, rfl, HB.out.drew, ?_⟩
      simp only [Act.put, List.setIfInBounds_toArray, List.set_cons_zero, List.set_cons_succ]
      refine rests_take 12 (oi := _) (v := ?_) (by simp only [List.getElem?_toArray, List.getElem?_cons_succ, List.getElem?_cons_zero]; rfl) (by kernel_rfl) (by kernel_rfl) (by kernel_rfl) (by exact fun _ _ _ h => h) (HB.out.drew) (by rfl) ?_ ?_; rotate_left; (· intro W HW; go_simp; try with_reducible rfl)
      simp only [Act.put, List.setIfInBounds_toArray, List.set_cons_zero, List.set_cons_succ]
      refine rests_run 13 (oi := _) (by simp only [List.getElem?_toArray, List.getElem?_cons_succ, List.getElem?_cons_zero]; rfl) (by kernel_rfl) (by rfl) (.slice (some ⟨wr.heap.size, 0, none⟩) 1 1) (wr.drew.alloc (.cells #[.int .i64 id, .string ⟨tt.toArray⟩] 39)) (by go_simp) ⟨bal HB.out.drew _, ?_⟩
      simp only [Act.put, List.setIfInBounds_toArray, List.set_cons_zero, List.set_cons_succ]
      refine rests_appT 14 (oi := _) (by simp only [List.getElem?_toArray, List.getElem?_cons_succ, List.getElem?_cons_zero]; rfl) (.tmp 52) (.tmp 65) (by kernel_rfl) (by rfl) rfl w4.heap.size wr.heap.size (.slice A3 k cap3) (cutT 9 l k) (id, tt) rfl rfl (heap_alloc_new wr.drew _) (HO.out.below (bal (bel0 wr).drew _)) (by rw [cutT_len (n := 9) hk]; omega) (bal HB.out.drew _).size ?_
      intro v2 wz ho2 hg2 hat2; have hbz : Below w4.heap.size w4 wz := (bal HB.out.drew _).grown hg2 (bal HB.out.drew _).size (fun k hk => (HO.out.lt k hk).1); refine ⟨hbz, ?_⟩; have HBZ := Lib.hid hbz; rw [← HE.out] at ho2; obtain ⟨A2, cap2, hv2, _, _⟩ := ho2.shape; rw [cutT_len (show k + 1 ≤ l.length by omega)] at hv2; subst hv2; have HOZ := Lib.hid ho2; clear ho2 hg2 hat2 hbz
      simp only [Act.put, List.setIfInBounds_toArray, List.set_cons_zero, List.set_cons_succ]
      refine rests_take 15 (oi := _) (v := ?_) (by simp only [List.getElem?_toArray, List.getElem?_cons_succ, List.getElem?_cons_zero]; rfl) (by kernel_rfl) (by kernel_rfl) (by kernel_rfl) (by exact fun _ _ _ h => h) (HBZ.out) (by rfl) ?_ ?_; rotate_left; (· intro W HW; go_simp; try with_reducible rfl)
      simp only [Act.put, List.setIfInBounds_toArray, List.set_cons_zero, List.set_cons_succ]
      refine rests_done (by kernel_rfl) ?_
      go_wp2
      go_roundw
      case rel => first | exact ⟨k + 1, by omega, by omega, by go_num, HOZ.out, HBZ.out⟩ | exact ⟨_, _, _, _, _, _, _, _, _, _, _, _, _, _, _, _, ⟨k + 1, by omega, by omega, by go_num, HOZ.out, HBZ.out⟩, rfl⟩ | exact ⟨_, _, _, _, _, _, _, _, _, _, _, _, _, _, _, _, _, ⟨k + 1, by omega, by omega, by go_num, HOZ.out, HBZ.out⟩, rfl⟩ | exact ⟨_, _, _, _, _, _, _, _, _, _, _, _, _, _, _, _, _, _, ⟨k + 1, by omega, by omega, by go_num, HOZ.out, HBZ.out⟩, rfl⟩ | exact ⟨_, _, _, _, _, _, _, _, _, _, _, _, _, _, _, _, _, _, _, ⟨k + 1, by omega, by omega, by go_num, HOZ.out, HBZ.out⟩, rfl⟩ | exact ⟨_, _, _, _, _, _, _, _, _, _, _, _, _, _, _, _, _, _, _, _, ⟨k + 1, by omega, by omega, by go_num, HOZ.out, HBZ.out⟩, rfl⟩ | exact ⟨_, _, _, _, _, _, _, _, _, _, _, _, _, _, _, _, _, _, _, _, _, ⟨k + 1, by omega, by omega, by go_num, HOZ.out, HBZ.out⟩, rfl⟩ | exact ⟨_, _, _, _, _, _, _, _, _, _, _, _, _, _, _, _, _, _, _, _, _, _, ⟨k + 1, by omega, by omega, by go_num, HOZ.out, HBZ.out⟩, rfl⟩ | exact ⟨_, _, _, _, _, _, _, _, _, _, _, _, _, _, _, _, _, _, _, _, _, _, _, ⟨k + 1, by omega, by omega, by go_num, HOZ.out, HBZ.out⟩, rfl⟩
      case measure => simp [intOf]; omega
    · have hml : (cutT 9 l k).length = k := cutT_len hk
      have hsm := fun t ht => cutT_small (n := 9) (l := l) (k := k) t ht
      have hrt : RdT wr (.slice A3 k cap3) (cutT 9 l k) := HO.out.rd
      generalize cutT 9 l k = m at hml hsm hrt
      obtain ⟨hc5, hcm2⟩ := HCAP.out
      have hkn := HKN.out
      obtain ⟨b2, off2, hA2⟩ : ∃ b2 off2, A2 = some ⟨b2, off2, none⟩ := by
        obtain ⟨_, _, he, _, _, h3⟩ := HLw.out
        injection he with he
        obtain ⟨b, off, h, _⟩ := h3 (show 0 < 5 by decide)
        exact ⟨b, off, he.trans h⟩
      subst hA2
      have HT1 : Hid (∀ W, From wr W → RdT W (.slice (some ⟨b2, off2, none⟩) kn cap2) ((fiveT ⟨o0, o1, o2, o3, o4⟩).take kn)) := by show ∀ _, _; exact fun W HW => (HLw.out.below HW).take (by omega)
      obtain ⟨AD, hAD⟩ : ∃ AD : Option Addr, AD = (if cap2 = kn then some ⟨b2, off2, none⟩ else some ⟨b2, off2 + kn * 2, none⟩) := ⟨_, rfl⟩
      have HAD := Lib.hid hAD
      clear hAD
      have HT3 : Hid (∀ W, From wr W → RdT W (.slice AD (5 - kn) (cap2 - kn)) ((fiveT ⟨o0, o1, o2, o3, o4⟩).drop kn)) := by show ∀ _, _; rw [HAD.out]; exact fun W HW => (HLw.out.below HW).from_ (by omega) (show 0 < 5 by decide)
      have HM : Hid (∀ W, From wr W → RdT W (.slice A3 k cap3) m) := by show ∀ _, _; exact fun W HW => hrt.below HW
      have l1 : ((fiveT ⟨o0, o1, o2, o3, o4⟩).take kn).length ≤ 5 := by rw [List.length_take]; exact Nat.le_trans (Nat.min_le_right _ _) (show 5 ≤ 5 from Nat.le_refl 5)
      have l3 : ((fiveT ⟨o0, o1, o2, o3, o4⟩).drop kn).length ≤ 5 := by rw [List.length_drop]; exact Nat.le_trans (Nat.sub_le _ _) (show 5 ≤ 5 from Nat.le_refl 5)
      have HLN1 : Hid (([] : List Tp).length + ((fiveT ⟨o0, o1, o2, o3, o4⟩).take kn).length ≤ 1000000) := by show _ ≤ _; simp only [List.length_nil]; omega
      have HLN2 : Hid (([] ++ ((fiveT ⟨o0, o1, o2, o3, o4⟩).take kn)).length + m.length ≤ 1000000) := by show _ ≤ _; simp only [List.nil_append]; omega
      have HLN3 : Hid (([] ++ ((fiveT ⟨o0, o1, o2, o3, o4⟩).take kn) ++ m).length + ((fiveT ⟨o0, o1, o2, o3, o4⟩).drop kn).length ≤ 1000000) := by show _ ≤ _; simp only [List.nil_append, List.length_append]; omega
      obtain ⟨J, hJ⟩ : ∃ J, J = [] ++ ((fiveT ⟨o0, o1, o2, o3, o4⟩).take kn) ++ m ++ ((fiveT ⟨o0, o1, o2, o3, o4⟩).drop kn) := ⟨_, rfl⟩
      have hJn : J = (fiveT ⟨o0, o1, o2, o3, o4⟩).take kn ++ m ++ (fiveT ⟨o0, o1, o2, o3, o4⟩).drop kn := by rw [hJ, List.nil_append]
      have htp : ∀ v W, RdT W v ([] ++ ((fiveT ⟨o0, o1, o2, o3, o4⟩).take kn) ++ m ++ ((fiveT ⟨o0, o1, o2, o3, o4⟩).drop kn)) → Calls Tryz.prog 41 #[v] W (PutTP J W) := fun v W h => by
        rw [← hJ] at h
        refine TPut_any v J W h ?_ ?_
        · rw [hJn]; simp only [List.length_append]; omega
        · intro t ht
          rw [hJn] at ht
          rcases List.mem_append.1 ht with ht | ht
          · rcases List.mem_append.1 ht with ht | ht
            · have := (five_ok ⟨o0, o1, o2, o3, o4⟩ t (List.mem_of_mem_take ht)).2.2; omega
            · have := hsm t ht; omega
          · have := (five_ok ⟨o0, o1, o2, o3, o4⟩ t (List.mem_of_mem_drop ht)).2.2; omega
      unfold PutTP at htp
      have HE0 := Lib.hid (bel0 wr).drew
      have u1 : (kn : Int) ≤ (cap2 : Int) := by omega
      have u2 : (0 : Int) ≤ (kn : Int) := by omega
      have u3 : (kn : Int) ≤ 5 := by omega
      have u4 : kn ≤ cap2 := by omega
      have u5 : kn ≤ 5 := by omega
      have u6 : (5 : Int) ≤ (cap2 : Int) := by omega
      have u7 : 5 ≤ cap2 := by omega
      cases hput : putT J with
      | none =>
        rw [hput] at htp
        simp only [Option.getD_none, Option.isSome_none] at htp
        have HTP := Lib.hid htp
        clear htp hput hJ hJn l1 l3 hrt hsm hml hcm2 hc5 hkn
        rcases (show ¬ k < l.length ∨ (k < l.length ∧ ¬ k < 3) by omega) with h | ⟨h, h2⟩
        all_goals
          clear hc
          go_wp2
          refine rests_begin (From wr) (by kernel_rfl) ?_
          refine rests_take 0 (oi := _) (v := ?_) (by simp only [List.getElem?_toArray, List.getElem?_cons_zero]; rfl) (by kernel_rfl) (by kernel_rfl) (by kernel_rfl) (by exact fun _ _ _ h => h) (HE0.out) (by rfl) ?_ ?_; rotate_left; (· intro W HW; go_simp; try with_reducible rfl)
          simp only [Act.put, List.setIfInBounds_toArray, List.set_cons_zero, List.set_cons_succ]
          refine rests_take 1 (oi := _) (v := ?_) (by simp only [List.getElem?_toArray, List.getElem?_cons_succ, List.getElem?_cons_zero]; rfl) (by kernel_rfl) (by kernel_rfl) (by kernel_rfl) (by exact fun _ _ _ h => h) (HE0.out) (by rfl) ?_ ?_; rotate_left; (· intro W HW; go_simp; try with_reducible rfl)
          simp only [Act.put, List.setIfInBounds_toArray, List.set_cons_zero, List.set_cons_succ]
          refine rests_take 2 (oi := _) (v := ?_) (by simp only [List.getElem?_toArray, List.getElem?_cons_succ, List.getElem?_cons_zero]; rfl) (by kernel_rfl) (by kernel_rfl) (by kernel_rfl) (by exact fun _ _ _ h => h) (HE0.out) (by rfl) ?_ ?_; rotate_left; (· intro W HW; go_simp; try with_reducible rfl)
          simp only [Act.put, List.setIfInBounds_toArray, List.set_cons_zero, List.set_cons_succ]
          refine rests_take 4 (oi := _) (v := ?_) (by simp only [List.getElem?_toArray, List.getElem?_cons_succ, List.getElem?_cons_zero]; rfl) (by kernel_rfl) (by kernel_rfl) (by kernel_rfl) (by exact fun _ _ _ h => h) (HE0.out) (by rfl) ?_ ?_; rotate_left; (· intro W HW; go_simp; try with_reducible rfl)
          simp only [Act.put, List.setIfInBounds_toArray, List.set_cons_zero, List.set_cons_succ]
          refine rests_take 6 (oi := _) (v := ?_) (by simp only [List.getElem?_toArray, List.getElem?_cons_succ, List.getElem?_cons_zero]; rfl) (by kernel_rfl) (by kernel_rfl) (by kernel_rfl) (by exact fun _ _ _ h => h) (HE0.out) (by rfl) ?_ ?_; rotate_left; (· intro W HW; go_simp; try with_reducible rfl)
          simp only [Act.put, List.setIfInBounds_toArray, List.set_cons_zero, List.set_cons_succ]
          refine rests_take 7 (oi := _) (v := ?_) (by simp only [List.getElem?_toArray, List.getElem?_cons_succ, List.getElem?_cons_zero]; rfl) (by kernel_rfl) (by kernel_rfl) (by kernel_rfl) (by exact fun _ _ _ h => h) (HE0.out) (by rfl) ?_ ?_; rotate_left; (· intro W HW; go_simp; try with_reducible rfl)
          simp only [Act.put, List.setIfInBounds_toArray, List.set_cons_zero, List.set_cons_succ]
          refine rests_take 8 (oi := _) (v := (.slice AD (5 - kn) (cap2 - kn))) (by simp only [List.getElem?_toArray, List.getElem?_cons_succ, List.getElem?_cons_zero]; rfl) (by kernel_rfl) (by kernel_rfl) (by kernel_rfl) (by exact fun _ _ _ h => h) (HE0.out) (by rfl) ?_ ?_; (· intro W HW; rw [HAD.out]; go_simp)
          simp only [Act.put, List.setIfInBounds_toArray, List.set_cons_zero, List.set_cons_succ]
          refine rests_appTs 3 (oi := _) (by simp only [List.getElem?_toArray, List.getElem?_cons_succ, List.getElem?_cons_zero]; rfl) (.const (.slice none 0 0)) (.tmp 70) (by kernel_rfl) (by rfl) rfl wr.heap.size (.slice none 0 0) (.slice (some ⟨b2, off2, none⟩) kn cap2) ([]) (((fiveT ⟨o0, o1, o2, o3, o4⟩).take kn)) rfl rfl (OwnT.nil_ wr.drew wr.heap.size) (HT1.out _ HE0.out) (HLN1.out) HE0.out.size ?_
          intro v5 w5 ho hg ha; have hb : Below wr.heap.size wr w5 := HE0.out.grown hg HE0.out.size (fun k hk => ((OwnT.nil_ wr.drew wr.heap.size).lt k hk).1); refine ⟨hb, ?_⟩; have Hw5 := Lib.hid hb; have Ow5 := Lib.hid ho; clear ho hg ha hb
          simp only [Act.put, List.setIfInBounds_toArray, List.set_cons_zero, List.set_cons_succ]
          refine rests_appTs 5 (oi := _) (by simp only [List.getElem?_toArray, List.getElem?_cons_succ, List.getElem?_cons_zero]; rfl) (.tmp 71) (.tmp 72) (by kernel_rfl) (by rfl) rfl wr.heap.size (v5) (.slice A3 k cap3) ([] ++ ((fiveT ⟨o0, o1, o2, o3, o4⟩).take kn)) (m) rfl rfl (Ow5.out) (HM.out _ Hw5.out) (HLN2.out) Hw5.out.size ?_
          intro v6 w6 ho hg ha; have hb : Below wr.heap.size wr w6 := Hw5.out.grown hg Hw5.out.size (fun k hk => ((Ow5.out).lt k hk).1); refine ⟨hb, ?_⟩; have Hw6 := Lib.hid hb; have Ow6 := Lib.hid ho; clear ho hg ha hb
          simp only [Act.put, List.setIfInBounds_toArray, List.set_cons_zero, List.set_cons_succ]
          refine rests_appTs 9 (oi := _) (by simp only [List.getElem?_toArray, List.getElem?_cons_succ, List.getElem?_cons_zero]; rfl) (.tmp 73) (.tmp 76) (by kernel_rfl) (by rfl) rfl wr.heap.size (v6) ((.slice AD (5 - kn) (cap2 - kn))) ([] ++ ((fiveT ⟨o0, o1, o2, o3, o4⟩).take kn) ++ m) (((fiveT ⟨o0, o1, o2, o3, o4⟩).drop kn)) rfl rfl (Ow6.out) (HT3.out _ Hw6.out) (HLN3.out) Hw6.out.size ?_
          intro v7 w7 ho hg ha; have hb : Below wr.heap.size wr w7 := Hw6.out.grown hg Hw6.out.size (fun k hk => ((Ow6.out).lt k hk).1); refine ⟨hb, ?_⟩; have Hw7 := Lib.hid hb; have Ow7 := Lib.hid ho; clear ho hg ha hb
          simp only [Act.put, List.setIfInBounds_toArray, List.set_cons_zero, List.set_cons_succ]
          refine rests_call 10 (oi := _) (by simp only [List.getElem?_toArray, List.getElem?_cons_succ, List.getElem?_cons_zero]; rfl) 41 #[v7] _ (by kernel_rfl) (by rfl) (by go_simp) (HTP.out v7 _ Ow7.out.rd) ?_
          rintro e w8 ⟨rfl, hb⟩; have Hw8 := Lib.hid (bel_trans Hw7.out hb); refine ⟨_, rfl, Hw8.out, ?_⟩; clear hb
          simp only [Act.put, List.setIfInBounds_toArray, List.set_cons_zero, List.set_cons_succ]
          refine rests_take 11 (oi := _) (v := ?_) (by simp only [List.getElem?_toArray, List.getElem?_cons_succ, List.getElem?_cons_zero]; rfl) (by kernel_rfl) (by kernel_rfl) (by kernel_rfl) (by exact fun _ _ _ h => h) (Hw8.out) (by rfl) ?_ ?_; rotate_left; (· intro W HW; go_simp; try with_reducible rfl)
          simp only [Act.put, List.setIfInBounds_toArray, List.set_cons_zero, List.set_cons_succ]
          refine rests_take 12 (oi := _) (v := ?_) (by simp only [List.getElem?_toArray, List.getElem?_cons_succ, List.getElem?_cons_zero]; rfl) (by kernel_rfl) (by kernel_rfl) (by kernel_rfl) (by exact fun _ _ _ h => h) (Hw8.out) (by rfl) ?_ ?_; rotate_left; (· intro W HW; go_simp; try with_reducible rfl)
          simp only [Act.put, List.setIfInBounds_toArray, List.set_cons_zero, List.set_cons_succ]
          refine rests_take 13 (oi := _) (v := ?_) (by simp only [List.getElem?_toArray, List.getElem?_cons_succ, List.getElem?_cons_zero]; rfl) (by kernel_rfl) (by kernel_rfl) (by kernel_rfl) (by exact fun _ _ _ h => h) (Hw8.out) (by rfl) ?_ ?_; rotate_left; (· intro W HW; go_simp; try with_reducible rfl)
          simp only [Act.put, List.setIfInBounds_toArray, List.set_cons_zero, List.set_cons_succ]
          refine rests_take 14 (oi := _) (v := ?_) (by simp only [List.getElem?_toArray, List.getElem?_cons_succ, List.getElem?_cons_zero]; rfl) (by kernel_rfl) (by kernel_rfl) (by kernel_rfl) (by exact fun _ _ _ h => h) (Hw8.out) (by rfl) ?_ ?_; rotate_left; (· intro W HW; go_simp; try with_reducible rfl)
          simp only [Act.put, List.setIfInBounds_toArray, List.set_cons_zero, List.set_cons_succ]
          refine rests_take 15 (oi := _) (v := ?_) (by simp only [List.getElem?_toArray, List.getElem?_cons_succ, List.getElem?_cons_zero]; rfl) (by kernel_rfl) (by kernel_rfl) (by kernel_rfl) (by exact fun _ _ _ h => h) (Hw8.out) (by rfl) ?_ ?_; rotate_left; (· intro W HW; go_simp; try with_reducible rfl)
          simp only [Act.put, List.setIfInBounds_toArray, List.set_cons_zero, List.set_cons_succ]
          refine rests_done (by kernel_rfl) ?_
          go_wp2
          go_ret
          exact ⟨rfl, bel_trans HBw.out Hw8.out⟩
      | some tx =>
        rw [hput] at htp
        simp only [Option.getD_some, Option.isSome_some] at htp
        have HTP := Lib.hid htp
        have hgetT : getT tx = some J := getT_putT hput
        have htl : tx.length ≤ 64 := by
          unfold putT at hput
          split at hput
          · rename_i hh; rw [← Option.some.inj hput]; exact hh.2
          · cases hput
        have hg1 : ∀ w, Calls Tryz.prog 38 #[.string ⟨tx.toArray⟩] w (OfferR (getO tx) w) := fun w => QGet_any ⟨tx.toArray⟩ w (by show (tx.toArray).size ≤ maxLen; rw [List.size_toArray]; unfold maxLen; omega)
        have hg2 : ∀ w, Calls Tryz.prog 39 #[.string ⟨tx.toArray⟩] w (OfferR (getO tx) w) := fun w => RGetO_any ⟨tx.toArray⟩ w (by show (tx.toArray).size ≤ maxLen; rw [List.size_toArray]; unfold maxLen; omega)
        unfold OfferR at hg1 hg2
        have hcl : clA m (fiveT ⟨o0, o1, o2, o3, o4⟩) kn m.length = true → getO tx = some ⟨o0, o1, o2, o3, o4⟩ := by
          intro h
          unfold getO
          rw [hgetT, hJn]
          simp only [Option.bind_some, offer_among HMAY.out (clA_all h), if_pos HMAY.out]
        have HG1 := Lib.hid hg1
        have HG2 := Lib.hid hg2
        have HCL := Lib.hid hcl
        have HML := Lib.hid hml
        have HRT := Lib.hid hrt
        clear htp hput hJ hJn l1 l3 hrt hsm hml hcm2 hc5 hgetT htl hg1 hg2 hcl
        rcases (show ¬ k < l.length ∨ (k < l.length ∧ ¬ k < 3) by omega) with h | ⟨h, h2⟩
        all_goals
          clear hc
          go_wp2
          refine rests_begin (From wr) (by kernel_rfl) ?_
          refine rests_take 0 (oi := _) (v := ?_) (by simp only [List.getElem?_toArray, List.getElem?_cons_zero]; rfl) (by kernel_rfl) (by kernel_rfl) (by kernel_rfl) (by exact fun _ _ _ h => h) (HE0.out) (by rfl) ?_ ?_; rotate_left; (· intro W HW; go_simp; try with_reducible rfl)
          simp only [Act.put, List.setIfInBounds_toArray, List.set_cons_zero, List.set_cons_succ]
          refine rests_take 1 (oi := _) (v := ?_) (by simp only [List.getElem?_toArray, List.getElem?_cons_succ, List.getElem?_cons_zero]; rfl) (by kernel_rfl) (by kernel_rfl) (by kernel_rfl) (by exact fun _ _ _ h => h) (HE0.out) (by rfl) ?_ ?_; rotate_left; (· intro W HW; go_simp; try with_reducible rfl)
          simp only [Act.put, List.setIfInBounds_toArray, List.set_cons_zero, List.set_cons_succ]
          refine rests_take 2 (oi := _) (v := ?_) (by simp only [List.getElem?_toArray, List.getElem?_cons_succ, List.getElem?_cons_zero]; rfl) (by kernel_rfl) (by kernel_rfl) (by kernel_rfl) (by exact fun _ _ _ h => h) (HE0.out) (by rfl) ?_ ?_; rotate_left; (· intro W HW; go_simp; try with_reducible rfl)
          simp only [Act.put, List.setIfInBounds_toArray, List.set_cons_zero, List.set_cons_succ]
          refine rests_take 4 (oi := _) (v := ?_) (by simp only [List.getElem?_toArray, List.getElem?_cons_succ, List.getElem?_cons_zero]; rfl) (by kernel_rfl) (by kernel_rfl) (by kernel_rfl) (by exact fun _ _ _ h => h) (HE0.out) (by rfl) ?_ ?_; rotate_left; (· intro W HW; go_simp; try with_reducible rfl)
          simp only [Act.put, List.setIfInBounds_toArray, List.set_cons_zero, List.set_cons_succ]
          refine rests_take 6 (oi := _) (v := ?_) (by simp only [List.getElem?_toArray, List.getElem?_cons_succ, List.getElem?_cons_zero]; rfl) (by kernel_rfl) (by kernel_rfl) (by kernel_rfl) (by exact fun _ _ _ h => h) (HE0.out) (by rfl) ?_ ?_; rotate_left; (· intro W HW; go_simp; try with_reducible rfl)
          simp only [Act.put, List.setIfInBounds_toArray, List.set_cons_zero, List.set_cons_succ]
          refine rests_take 7 (oi := _) (v := ?_) (by simp only [List.getElem?_toArray, List.getElem?_cons_succ, List.getElem?_cons_zero]; rfl) (by kernel_rfl) (by kernel_rfl) (by kernel_rfl) (by exact fun _ _ _ h => h) (HE0.out) (by rfl) ?_ ?_; rotate_left; (· intro W HW; go_simp; try with_reducible rfl)
          simp only [Act.put, List.setIfInBounds_toArray, List.set_cons_zero, List.set_cons_succ]
          refine rests_take 8 (oi := _) (v := (.slice AD (5 - kn) (cap2 - kn))) (by simp only [List.getElem?_toArray, List.getElem?_cons_succ, List.getElem?_cons_zero]; rfl) (by kernel_rfl) (by kernel_rfl) (by kernel_rfl) (by exact fun _ _ _ h => h) (HE0.out) (by rfl) ?_ ?_; (· intro W HW; rw [HAD.out]; go_simp)
          simp only [Act.put, List.setIfInBounds_toArray, List.set_cons_zero, List.set_cons_succ]
          refine rests_appTs 3 (oi := _) (by simp only [List.getElem?_toArray, List.getElem?_cons_succ, List.getElem?_cons_zero]; rfl) (.const (.slice none 0 0)) (.tmp 70) (by kernel_rfl) (by rfl) rfl wr.heap.size (.slice none 0 0) (.slice (some ⟨b2, off2, none⟩) kn cap2) ([]) (((fiveT ⟨o0, o1, o2, o3, o4⟩).take kn)) rfl rfl (OwnT.nil_ wr.drew wr.heap.size) (HT1.out _ HE0.out) (HLN1.out) HE0.out.size ?_
          intro v5 w5 ho hg ha; have hb : Below wr.heap.size wr w5 := HE0.out.grown hg HE0.out.size (fun k hk => ((OwnT.nil_ wr.drew wr.heap.size).lt k hk).1); refine ⟨hb, ?_⟩; have Hw5 := Lib.hid hb; have Ow5 := Lib.hid ho; clear ho hg ha hb
          simp only [Act.put, List.setIfInBounds_toArray, List.set_cons_zero, List.set_cons_succ]
          refine rests_appTs 5 (oi := _) (by simp only [List.getElem?_toArray, List.getElem?_cons_succ, List.getElem?_cons_zero]; rfl) (.tmp 71) (.tmp 72) (by kernel_rfl) (by rfl) rfl wr.heap.size (v5) (.slice A3 k cap3) ([] ++ ((fiveT ⟨o0, o1, o2, o3, o4⟩).take kn)) (m) rfl rfl (Ow5.out) (HM.out _ Hw5.out) (HLN2.out) Hw5.out.size ?_
          intro v6 w6 ho hg ha; have hb : Below wr.heap.size wr w6 := Hw5.out.grown hg Hw5.out.size (fun k hk => ((Ow5.out).lt k hk).1); refine ⟨hb, ?_⟩; have Hw6 := Lib.hid hb; have Ow6 := Lib.hid ho; clear ho hg ha hb
          simp only [Act.put, List.setIfInBounds_toArray, List.set_cons_zero, List.set_cons_succ]
          refine rests_appTs 9 (oi := _) (by simp only [List.getElem?_toArray, List.getElem?_cons_succ, List.getElem?_cons_zero]; rfl) (.tmp 73) (.tmp 76) (by kernel_rfl) (by rfl) rfl wr.heap.size (v6) ((.slice AD (5 - kn) (cap2 - kn))) ([] ++ ((fiveT ⟨o0, o1, o2, o3, o4⟩).take kn) ++ m) (((fiveT ⟨o0, o1, o2, o3, o4⟩).drop kn)) rfl rfl (Ow6.out) (HT3.out _ Hw6.out) (HLN3.out) Hw6.out.size ?_
          intro v7 w7 ho hg ha; have hb : Below wr.heap.size wr w7 := Hw6.out.grown hg Hw6.out.size (fun k hk => ((Ow6.out).lt k hk).1); refine ⟨hb, ?_⟩; have Hw7 := Lib.hid hb; have Ow7 := Lib.hid ho; clear ho hg ha hb
          simp only [Act.put, List.setIfInBounds_toArray, List.set_cons_zero, List.set_cons_succ]
          refine rests_call 10 (oi := _) (by simp only [List.getElem?_toArray, List.getElem?_cons_succ, List.getElem?_cons_zero]; rfl) 41 #[v7] _ (by kernel_rfl) (by rfl) (by go_simp) (HTP.out v7 _ Ow7.out.rd) ?_
          rintro e w8 ⟨rfl, hb⟩; have Hw8 := Lib.hid (bel_trans Hw7.out hb); refine ⟨_, rfl, Hw8.out, ?_⟩; clear hb
          simp only [Act.put, List.setIfInBounds_toArray, List.set_cons_zero, List.set_cons_succ]
          refine rests_take 11 (oi := _) (v := ?_) (by simp only [List.getElem?_toArray, List.getElem?_cons_succ, List.getElem?_cons_zero]; rfl) (by kernel_rfl) (by kernel_rfl) (by kernel_rfl) (by exact fun _ _ _ h => h) (Hw8.out) (by rfl) ?_ ?_; rotate_left; (· intro W HW; go_simp; try with_reducible rfl)
          simp only [Act.put, List.setIfInBounds_toArray, List.set_cons_zero, List.set_cons_succ]
          refine rests_take 12 (oi := _) (v := ?_) (by simp only [List.getElem?_toArray, List.getElem?_cons_succ, List.getElem?_cons_zero]; rfl) (by kernel_rfl) (by kernel_rfl) (by kernel_rfl) (by exact fun _ _ _ h => h) (Hw8.out) (by rfl) ?_ ?_; rotate_left; (· intro W HW; go_simp; try with_reducible rfl)
          simp only [Act.put, List.setIfInBounds_toArray, List.set_cons_zero, List.set_cons_succ]
          refine rests_take 13 (oi := _) (v := ?_) (by simp only [List.getElem?_toArray, List.getElem?_cons_succ, List.getElem?_cons_zero]; rfl) (by kernel_rfl) (by kernel_rfl) (by kernel_rfl) (by exact fun _ _ _ h => h) (Hw8.out) (by rfl) ?_ ?_; rotate_left; (· intro W HW; go_simp; try with_reducible rfl)
          simp only [Act.put, List.setIfInBounds_toArray, List.set_cons_zero, List.set_cons_succ]
          refine rests_take 14 (oi := _) (v := ?_) (by simp only [List.getElem?_toArray, List.getElem?_cons_succ, List.getElem?_cons_zero]; rfl) (by kernel_rfl) (by kernel_rfl) (by kernel_rfl) (by exact fun _ _ _ h => h) (Hw8.out) (by rfl) ?_ ?_; rotate_left; (· intro W HW; go_simp; try with_reducible rfl)
          simp only [Act.put, List.setIfInBounds_toArray, List.set_cons_zero, List.set_cons_succ]
          refine rests_take 15 (oi := _) (v := ?_) (by simp only [List.getElem?_toArray, List.getElem?_cons_succ, List.getElem?_cons_zero]; rfl) (by kernel_rfl) (by kernel_rfl) (by kernel_rfl) (by exact fun _ _ _ h => h) (Hw8.out) (by rfl) ?_ ?_; rotate_left; (· intro W HW; go_simp; try with_reducible rfl)
          simp only [Act.put, List.setIfInBounds_toArray, List.set_cons_zero, List.set_cons_succ]
          refine rests_done (by kernel_rfl) ?_
          have HM8 := Lib.hid (HRT.out.below Hw8.out)
          have HL8 := Lib.hid (HLw.out.below Hw8.out)
          have HA8 := Lib.hid (keep_at HXw.out Hw8.out)
          have HB8 := Lib.hid (bel_trans HBw.out Hw8.out)
          clear u1 u2 u3 u4 u6 u7
          go_wp2
          go_loopw [16, 17, 18, 85] (fun q16 _ _ c wr => ∃ i : Nat, i ≤ k ∧ c = .int .i64 i ∧ q16 = .bool (clA m (fiveT ⟨o0, o1, o2, o3, o4⟩) kn i) ∧ Below w8.heap.size w8 wr) (fun _ _ _ c _ => k - (intOf c).toNat)
          case atStart => exact ⟨0, by omega, rfl, rfl, bel0 _⟩
          case round =>
            obtain ⟨i, hi, rfl, rfl, hb⟩ := hrel
            by_cases hik : i < k
            · have td : decide ((i : Int) < (k : Int)) = true := decide_eq_true (by omega)
              have hmi : i < m.length := by rw [HML.out]; exact hik
              obtain ⟨b3, off3, rfl, hbl3, hc3, -⟩ := HM8.out.at_ hmi
              obtain ⟨x, hx⟩ : ∃ x, (m[i]).1 = x := ⟨_, rfl⟩
              rw [hx] at hc3
              have HX := Lib.hid hx
              have HBi := Lib.hid hb
              clear hx hb
              have ii : (i : Int) < (k : Int) := by omega
              go_wp2
              go_loopw [16, 18] (fun q16 jv wr => ∃ j : Nat, kn ≤ j ∧ j ≤ 5 ∧ jv = .int .i64 j ∧ q16 = .bool (clA m (fiveT ⟨o0, o1, o2, o3, o4⟩) kn i && clB (fiveT ⟨o0, o1, o2, o3, o4⟩) kn j x) ∧ Below w8.heap.size w8 wr) (fun _ jv _ => 5 - (intOf jv).toNat)
              case atStart =>
                refine ⟨kn, Nat.le_refl _, by omega, rfl, ?_, HBi.out⟩
                rw [clB_start, Bool.and_true]
              case round =>
                obtain ⟨j, hkj, hj5, rfl, rfl, hb⟩ := hrel
                have HBj := Lib.hid hb
                clear hb
                by_cases hjl : j < 5
                · have tj : decide ((j : Int) < 5) = true := decide_eq_true (by omega)
                  have ij : (j : Int) < 5 := by omega
                  obtain ⟨_, _, he, hbl4, hc4, -⟩ := HL8.out.at_ (i := j) hjl
                  injection he with he
                  injection he with he1 he2 he3
                  subst he1
                  subst he2
                  obtain ⟨y, hy⟩ : ∃ y, ((fiveT ⟨o0, o1, o2, o3, o4⟩)[j]'hjl).1 = y := ⟨_, rfl⟩
                  rw [hy] at hc4
                  have hsc : (clA m (fiveT ⟨o0, o1, o2, o3, o4⟩) kn i && clB (fiveT ⟨o0, o1, o2, o3, o4⟩) kn (j + 1) x) = ((clA m (fiveT ⟨o0, o1, o2, o3, o4⟩) kn i && clB (fiveT ⟨o0, o1, o2, o3, o4⟩) kn j x) && (x != y)) := by rw [clB_succ (f := (fiveT ⟨o0, o1, o2, o3, o4⟩)) x hkj hjl, hy, Bool.and_assoc]
                  have HSC := Lib.hid hsc
                  clear hsc hy
                  rcases hcc : (clA m (fiveT ⟨o0, o1, o2, o3, o4⟩) kn i && clB (fiveT ⟨o0, o1, o2, o3, o4⟩) kn j x) with _ | _
                  · have HS2 : Hid ((clA m (fiveT ⟨o0, o1, o2, o3, o4⟩) kn i && clB (fiveT ⟨o0, o1, o2, o3, o4⟩) kn (j + 1) x) = false) := by show _ = _; rw [HSC.out, hcc]; rfl
                    clear hcc
                    go_wp2
                    refine rests_begin (From w8) (by kernel_rfl) ?_
                    refine rests_take 0 (oi := _) (v := ?_) (by simp only [List.getElem?_toArray, List.getElem?_cons_zero]; rfl) (by kernel_rfl) (by kernel_rfl) (by kernel_rfl) (by exact fun _ _ _ h => h) (HBj.out.drew) (by rfl) ?_ ?_; rotate_left; (· intro W HW; go_simp; try with_reducible rfl)
                    simp only [Act.put, List.setIfInBounds_toArray, List.set_cons_zero, List.set_cons_succ]
                    refine rests_take 1 (oi := _) (v := ?_) (by simp only [List.getElem?_toArray, List.getElem?_cons_succ, List.getElem?_cons_zero]; rfl) (by kernel_rfl) (by kernel_rfl) (by kernel_rfl) (by exact fun _ _ _ h => h) (HBj.out.drew) (by rfl) ?_ ?_; rotate_left; (· intro W HW; go_simp; try with_reducible rfl)
                    simp only [Act.put, List.setIfInBounds_toArray, List.set_cons_zero, List.set_cons_succ]
                    refine rests_skip 2 (oi := _) (by simp only [List.getElem?_toArray, List.getElem?_cons_succ, List.getElem?_cons_zero]; rfl) (by kernel_rfl) (by kernel_rfl) (by kernel_rfl) (by exact fun _ _ _ h => h) (HBj.out.drew) (by rfl) ?_
                    simp only [Act.put, List.setIfInBounds_toArray, List.set_cons_zero, List.set_cons_succ]
                    refine rests_skip 3 (oi := _) (by simp only [List.getElem?_toArray, List.getElem?_cons_succ, List.getElem?_cons_zero]; rfl) (by kernel_rfl) (by kernel_rfl) (by kernel_rfl) (by exact fun _ _ _ h => h) (HBj.out.drew) (by rfl) ?_
                    simp only [Act.put, List.setIfInBounds_toArray, List.set_cons_zero, List.set_cons_succ]
                    refine rests_skip 4 (oi := _) (by simp only [List.getElem?_toArray, List.getElem?_cons_succ, List.getElem?_cons_zero]; rfl) (by kernel_rfl) (by kernel_rfl) (by kernel_rfl) (by exact fun _ _ _ h => h) (HBj.out.drew) (by rfl) ?_
                    simp only [Act.put, List.setIfInBounds_toArray, List.set_cons_zero, List.set_cons_succ]
                    refine rests_skip 5 (oi := _) (by simp only [List.getElem?_toArray, List.getElem?_cons_succ, List.getElem?_cons_zero]; rfl) (by kernel_rfl) (by kernel_rfl) (by kernel_rfl) (by exact fun _ _ _ h => h) (HBj.out.drew) (by rfl) ?_
                    simp only [Act.put, List.setIfInBounds_toArray, List.set_cons_zero, List.set_cons_succ]
                    refine rests_skip 6 (oi := _) (by simp only [List.getElem?_toArray, List.getElem?_cons_succ, List.getElem?_cons_zero]; rfl) (by kernel_rfl) (by kernel_rfl) (by kernel_rfl) (by exact fun _ _ _ h => h) (HBj.out.drew) (by rfl) ?_
                    simp only [Act.put, List.setIfInBounds_toArray, List.set_cons_zero, List.set_cons_succ]
                    refine rests_skip 7 (oi := _) (by simp only [List.getElem?_toArray, List.getElem?_cons_succ, List.getElem?_cons_zero]; rfl) (by kernel_rfl) (by kernel_rfl) (by kernel_rfl) (by exact fun _ _ _ h => h) (HBj.out.drew) (by rfl) ?_
                    simp only [Act.put, List.setIfInBounds_toArray, List.set_cons_zero, List.set_cons_succ]
                    refine rests_skip 8 (oi := _) (by simp only [List.getElem?_toArray, List.getElem?_cons_succ, List.getElem?_cons_zero]; rfl) (by kernel_rfl) (by kernel_rfl) (by kernel_rfl) (by exact fun _ _ _ h => h) (HBj.out.drew) (by rfl) ?_
                    simp only [Act.put, List.setIfInBounds_toArray, List.set_cons_zero, List.set_cons_succ]
                    refine rests_skip 9 (oi := _) (by simp only [List.getElem?_toArray, List.getElem?_cons_succ, List.getElem?_cons_zero]; rfl) (by kernel_rfl) (by kernel_rfl) (by kernel_rfl) (by exact fun _ _ _ h => h) (HBj.out.drew) (by rfl) ?_
                    simp only [Act.put, List.setIfInBounds_toArray, List.set_cons_zero, List.set_cons_succ]
                    refine rests_skip 10 (oi := _) (by simp only [List.getElem?_toArray, List.getElem?_cons_succ, List.getElem?_cons_zero]; rfl) (by kernel_rfl) (by kernel_rfl) (by kernel_rfl) (by exact fun _ _ _ h => h) (HBj.out.drew) (by rfl) ?_
                    simp only [Act.put, List.setIfInBounds_toArray, List.set_cons_zero, List.set_cons_succ]
                    refine rests_skip 11 (oi := _) (by simp only [List.getElem?_toArray, List.getElem?_cons_succ, List.getElem?_cons_zero]; rfl) (by kernel_rfl) (by kernel_rfl) (by kernel_rfl) (by exact fun _ _ _ h => h) (HBj.out.drew) (by rfl) ?_
                    simp only [Act.put, List.setIfInBounds_toArray, List.set_cons_zero, List.set_cons_succ]
                    refine rests_skip 12 (oi := _) (by simp only [List.getElem?_toArray, List.getElem?_cons_succ, List.getElem?_cons_zero]; rfl) (by kernel_rfl) (by kernel_rfl) (by kernel_rfl) (by exact fun _ _ _ h => h) (HBj.out.drew) (by rfl) ?_
                    simp only [Act.put, List.setIfInBounds_toArray, List.set_cons_zero, List.set_cons_succ]
                    refine rests_take 13 (oi := _) (v := ?_) (by simp only [List.getElem?_toArray, List.getElem?_cons_succ, List.getElem?_cons_zero]; rfl) (by kernel_rfl) (by kernel_rfl) (by kernel_rfl) (by exact fun _ _ _ h => h) (HBj.out.drew) (by rfl) ?_ ?_; rotate_left; (· intro W HW; go_simp; try with_reducible rfl)
                    simp only [Act.put, List.setIfInBounds_toArray, List.set_cons_zero, List.set_cons_succ]
                    refine rests_take 14 (oi := _) (v := ?_) (by simp only [List.getElem?_toArray, List.getElem?_cons_succ, List.getElem?_cons_zero]; rfl) (by kernel_rfl) (by kernel_rfl) (by kernel_rfl) (by exact fun _ _ _ h => h) (HBj.out.drew) (by rfl) ?_ ?_; rotate_left; (· intro W HW; go_simp; try with_reducible rfl)
                    simp only [Act.put, List.setIfInBounds_toArray, List.set_cons_zero, List.set_cons_succ]
                    refine rests_done (by kernel_rfl) ?_
                    go_wp2
                    go_roundw
                    case rel => first | exact ⟨j + 1, by omega, by omega, by go_num, by rw [HS2.out], HBj.out.drew⟩ | exact ⟨_, _, _, _, _, _, _, _, _, _, _, _, _, _, ⟨j + 1, by omega, by omega, by go_num, by rw [HS2.out], HBj.out.drew⟩, rfl⟩ | exact ⟨_, _, _, _, _, _, _, _, _, _, _, _, _, _, _, ⟨j + 1, by omega, by omega, by go_num, by rw [HS2.out], HBj.out.drew⟩, rfl⟩ | exact ⟨_, _, _, _, _, _, _, _, _, _, _, _, _, _, _, _, ⟨j + 1, by omega, by omega, by go_num, by rw [HS2.out], HBj.out.drew⟩, rfl⟩ | exact ⟨_, _, _, _, _, _, _, _, _, _, _, _, _, _, _, _, _, ⟨j + 1, by omega, by omega, by go_num, by rw [HS2.out], HBj.out.drew⟩, rfl⟩ | exact ⟨_, _, _, _, _, _, _, _, _, _, _, _, _, _, _, _, _, _, ⟨j + 1, by omega, by omega, by go_num, by rw [HS2.out], HBj.out.drew⟩, rfl⟩ | exact ⟨_, _, _, _, _, _, _, _, _, _, _, _, _, _, _, _, _, _, _, ⟨j + 1, by omega, by omega, by go_num, by rw [HS2.out], HBj.out.drew⟩, rfl⟩ | exact ⟨_, _, _, _, _, _, _, _, _, _, _, _, _, _, _, _, _, _, _, _, ⟨j + 1, by omega, by omega, by go_num, by rw [HS2.out], HBj.out.drew⟩, rfl⟩ | exact ⟨_, _, _, _, _, _, _, _, _, _, _, _, _, _, _, _, _, _, _, _, _, ⟨j + 1, by omega, by omega, by go_num, by rw [HS2.out], HBj.out.drew⟩, rfl⟩ | exact ⟨_, _, _, _, _, _, _, _, _, _, _, _, _, _, _, _, _, _, _, _, _, _, ⟨j + 1, by omega, by omega, by go_num, by rw [HS2.out], HBj.out.drew⟩, rfl⟩ | exact ⟨_, _, _, _, _, _, _, _, _, _, _, _, _, _, _, _, _, _, _, _, _, _, _, ⟨j + 1, by omega, by omega, by go_num, by rw [HS2.out], HBj.out.drew⟩, rfl⟩
                    case measure => simp [intOf] <;> omega
                  · have HS2 : Hid ((clA m (fiveT ⟨o0, o1, o2, o3, o4⟩) kn i && clB (fiveT ⟨o0, o1, o2, o3, o4⟩) kn (j + 1) x) = (x != y)) := by show _ = _; rw [HSC.out, hcc]; rfl
                    clear hcc
                    go_wp2
                    refine rests_begin (From w8) (by kernel_rfl) ?_
                    refine rests_take 0 (oi := _) (v := ?_) (by simp only [List.getElem?_toArray, List.getElem?_cons_zero]; rfl) (by kernel_rfl) (by kernel_rfl) (by kernel_rfl) (by exact fun _ _ _ h => h) (HBj.out.drew) (by rfl) ?_ ?_; rotate_left; (· intro W HW; go_simp; try with_reducible rfl)
                    simp only [Act.put, List.setIfInBounds_toArray, List.set_cons_zero, List.set_cons_succ]
                    refine rests_take 1 (oi := _) (v := ?_) (by simp only [List.getElem?_toArray, List.getElem?_cons_succ, List.getElem?_cons_zero]; rfl) (by kernel_rfl) (by kernel_rfl) (by kernel_rfl) (by exact fun _ _ _ h => h) (HBj.out.drew) (by rfl) ?_ ?_; rotate_left; (· intro W HW; go_simp; try with_reducible rfl)
                    simp only [Act.put, List.setIfInBounds_toArray, List.set_cons_zero, List.set_cons_succ]
                    refine rests_take 2 (oi := _) (v := ?_) (by simp only [List.getElem?_toArray, List.getElem?_cons_succ, List.getElem?_cons_zero]; rfl) (by kernel_rfl) (by kernel_rfl) (by kernel_rfl) (by exact fun _ _ _ h => h) (HBj.out.drew) (by rfl) ?_ ?_; rotate_left; (· intro W HW; go_simp; try with_reducible rfl)
                    simp only [Act.put, List.setIfInBounds_toArray, List.set_cons_zero, List.set_cons_succ]
                    refine rests_take 3 (oi := _) (v := ?_) (by simp only [List.getElem?_toArray, List.getElem?_cons_succ, List.getElem?_cons_zero]; rfl) (by kernel_rfl) (by kernel_rfl) (by kernel_rfl) (by exact fun _ _ _ h => h) (HBj.out.drew) (by rfl) ?_ ?_; rotate_left; (· intro W HW; go_simp; try with_reducible rfl)
                    simp only [Act.put, List.setIfInBounds_toArray, List.set_cons_zero, List.set_cons_succ]
                    refine rests_take 4 (oi := _) (v := ?_) (by simp only [List.getElem?_toArray, List.getElem?_cons_succ, List.getElem?_cons_zero]; rfl) (by kernel_rfl) (by kernel_rfl) (by kernel_rfl) (by exact fun _ _ _ h => h) (HBj.out.drew) (by rfl) ?_ ?_; rotate_left; (· intro W HW; go_simp; try with_reducible rfl)
                    simp only [Act.put, List.setIfInBounds_toArray, List.set_cons_zero, List.set_cons_succ]
                    refine rests_take 5 (oi := _) (v := ?_) (by simp only [List.getElem?_toArray, List.getElem?_cons_succ, List.getElem?_cons_zero]; rfl) (by kernel_rfl) (by kernel_rfl) (by kernel_rfl) (by exact fun _ _ _ h => h) (HBj.out.drew) (by rfl) ?_ ?_; rotate_left; (· intro W HW; go_simp; try with_reducible rfl)
                    simp only [Act.put, List.setIfInBounds_toArray, List.set_cons_zero, List.set_cons_succ]
                    refine rests_take 6 (oi := _) (v := ?_) (by simp only [List.getElem?_toArray, List.getElem?_cons_succ, List.getElem?_cons_zero]; rfl) (by kernel_rfl) (by kernel_rfl) (by kernel_rfl) (by exact fun _ _ _ h => h) (HBj.out.drew) (by rfl) ?_ ?_; rotate_left; (· intro W HW; have cw : W.cell? ⟨b3, off3 + i * 2, none⟩ = some (.int .i64 x) := (HW.cell (p := ⟨b3, off3 + i * 2, none⟩) hbl3).trans hc3; go_simp; try with_reducible rfl)
                    simp only [Act.put, List.setIfInBounds_toArray, List.set_cons_zero, List.set_cons_succ]
                    refine rests_take 7 (oi := _) (v := ?_) (by simp only [List.getElem?_toArray, List.getElem?_cons_succ, List.getElem?_cons_zero]; rfl) (by kernel_rfl) (by kernel_rfl) (by kernel_rfl) (by exact fun _ _ _ h => h) (HBj.out.drew) (by rfl) ?_ ?_; rotate_left; (· intro W HW; go_simp; try with_reducible rfl)
                    simp only [Act.put, List.setIfInBounds_toArray, List.set_cons_zero, List.set_cons_succ]
                    refine rests_take 8 (oi := _) (v := ?_) (by simp only [List.getElem?_toArray, List.getElem?_cons_succ, List.getElem?_cons_zero]; rfl) (by kernel_rfl) (by kernel_rfl) (by kernel_rfl) (by exact fun _ _ _ h => h) (HBj.out.drew) (by rfl) ?_ ?_; rotate_left; (· intro W HW; go_simp; try with_reducible rfl)
                    simp only [Act.put, List.setIfInBounds_toArray, List.set_cons_zero, List.set_cons_succ]
                    refine rests_take 9 (oi := _) (v := ?_) (by simp only [List.getElem?_toArray, List.getElem?_cons_succ, List.getElem?_cons_zero]; rfl) (by kernel_rfl) (by kernel_rfl) (by kernel_rfl) (by exact fun _ _ _ h => h) (HBj.out.drew) (by rfl) ?_ ?_; rotate_left; (· intro W HW; go_simp; try with_reducible rfl)
                    simp only [Act.put, List.setIfInBounds_toArray, List.set_cons_zero, List.set_cons_succ]
                    refine rests_take 10 (oi := _) (v := ?_) (by simp only [List.getElem?_toArray, List.getElem?_cons_succ, List.getElem?_cons_zero]; rfl) (by kernel_rfl) (by kernel_rfl) (by kernel_rfl) (by exact fun _ _ _ h => h) (HBj.out.drew) (by rfl) ?_ ?_; rotate_left; (· intro W HW; go_simp; try with_reducible rfl)
                    simp only [Act.put, List.setIfInBounds_toArray, List.set_cons_zero, List.set_cons_succ]
                    refine rests_take 11 (oi := _) (v := ?_) (by simp only [List.getElem?_toArray, List.getElem?_cons_succ, List.getElem?_cons_zero]; rfl) (by kernel_rfl) (by kernel_rfl) (by kernel_rfl) (by exact fun _ _ _ h => h) (HBj.out.drew) (by rfl) ?_ ?_; rotate_left; (· intro W HW; have cw : W.cell? ⟨b2, off2 + j * 2, none⟩ = some (.int .i64 y) := (HW.cell (p := ⟨b2, off2 + j * 2, none⟩) hbl4).trans hc4; go_simp; try with_reducible rfl)
                    simp only [Act.put, List.setIfInBounds_toArray, List.set_cons_zero, List.set_cons_succ]
                    refine rests_take 12 (oi := _) (v := ?_) (by simp only [List.getElem?_toArray, List.getElem?_cons_succ, List.getElem?_cons_zero]; rfl) (by kernel_rfl) (by kernel_rfl) (by kernel_rfl) (by exact fun _ _ _ h => h) (HBj.out.drew) (by rfl) ?_ ?_; rotate_left; (· intro W HW; go_simp; try with_reducible rfl)
                    simp only [Act.put, List.setIfInBounds_toArray, List.set_cons_zero, List.set_cons_succ]
                    refine rests_take 13 (oi := _) (v := ?_) (by simp only [List.getElem?_toArray, List.getElem?_cons_succ, List.getElem?_cons_zero]; rfl) (by kernel_rfl) (by kernel_rfl) (by kernel_rfl) (by exact fun _ _ _ h => h) (HBj.out.drew) (by rfl) ?_ ?_; rotate_left; (· intro W HW; go_simp; try with_reducible rfl)
                    simp only [Act.put, List.setIfInBounds_toArray, List.set_cons_zero, List.set_cons_succ]
                    refine rests_take 14 (oi := _) (v := ?_) (by simp only [List.getElem?_toArray, List.getElem?_cons_succ, List.getElem?_cons_zero]; rfl) (by kernel_rfl) (by kernel_rfl) (by kernel_rfl) (by exact fun _ _ _ h => h) (HBj.out.drew) (by rfl) ?_ ?_; rotate_left; (· intro W HW; go_simp; try with_reducible rfl)
                    simp only [Act.put, List.setIfInBounds_toArray, List.set_cons_zero, List.set_cons_succ]
                    refine rests_done (by kernel_rfl) ?_
                    go_wp2
                    go_roundw
                    case rel => first | exact ⟨j + 1, by omega, by omega, by go_num, by rw [HS2.out], HBj.out.drew⟩ | exact ⟨_, _, _, _, _, _, _, _, _, _, _, _, _, _, ⟨j + 1, by omega, by omega, by go_num, by rw [HS2.out], HBj.out.drew⟩, rfl⟩ | exact ⟨_, _, _, _, _, _, _, _, _, _, _, _, _, _, _, ⟨j + 1, by omega, by omega, by go_num, by rw [HS2.out], HBj.out.drew⟩, rfl⟩ | exact ⟨_, _, _, _, _, _, _, _, _, _, _, _, _, _, _, _, ⟨j + 1, by omega, by omega, by go_num, by rw [HS2.out], HBj.out.drew⟩, rfl⟩ | exact ⟨_, _, _, _, _, _, _, _, _, _, _, _, _, _, _, _, _, ⟨j + 1, by omega, by omega, by go_num, by rw [HS2.out], HBj.out.drew⟩, rfl⟩ | exact ⟨_, _, _, _, _, _, _, _, _, _, _, _, _, _, _, _, _, _, ⟨j + 1, by omega, by omega, by go_num, by rw [HS2.out], HBj.out.drew⟩, rfl⟩ | exact ⟨_, _, _, _, _, _, _, _, _, _, _, _, _, _, _, _, _, _, _, ⟨j + 1, by omega, by omega, by go_num, by rw [HS2.out], HBj.out.drew⟩, rfl⟩ | exact ⟨_, _, _, _, _, _, _, _, _, _, _, _, _, _, _, _, _, _, _, _, ⟨j + 1, by omega, by omega, by go_num, by rw [HS2.out], HBj.out.drew⟩, rfl⟩ | exact ⟨_, _, _, _, _, _, _, _, _, _, _, _, _, _, _, _, _, _, _, _, _, ⟨j + 1, by omega, by omega, by go_num, by rw [HS2.out], HBj.out.drew⟩, rfl⟩ | exact ⟨_, _, _, _, _, _, _, _, _, _, _, _, _, _, _, _, _, _, _, _, _, _, ⟨j + 1, by omega, by omega, by go_num, by rw [HS2.out], HBj.out.drew⟩, rfl⟩ | exact ⟨_, _, _, _, _, _, _, _, _, _, _, _, _, _, _, _, _, _, _, _, _, _, _, ⟨j + 1, by omega, by omega, by go_num, by rw [HS2.out], HBj.out.drew⟩, rfl⟩
                    case measure => simp [intOf] <;> omega
                · obtain rfl : j = 5 := by omega
                  have HS2 : Hid ((clA m (fiveT ⟨o0, o1, o2, o3, o4⟩) kn i && clB (fiveT ⟨o0, o1, o2, o3, o4⟩) kn 5 x) = clA m (fiveT ⟨o0, o1, o2, o3, o4⟩) kn (i + 1)) := by show _ = _; rw [clA_succ hmi, HX.out]; rfl
                  go_wp2
                  go_roundw
                  case rel => first | exact ⟨i + 1, by omega, by go_num, by rw [HS2.out], HBj.out⟩ | exact ⟨_, _, _, _, _, _, _, _, _, _, _, _, _, _, _, _, _, _, _, _, _, _, _, _, _, _, _, _, ⟨i + 1, by omega, by go_num, by rw [HS2.out], HBj.out⟩, rfl⟩ | exact ⟨_, _, _, _, _, _, _, _, _, _, _, _, _, _, _, _, _, _, _, _, _, _, _, _, _, _, _, _, _, ⟨i + 1, by omega, by go_num, by rw [HS2.out], HBj.out⟩, rfl⟩ | exact ⟨_, _, _, _, _, _, _, _, _, _, _, _, _, _, _, _, _, _, _, _, _, _, _, _, _, _, _, _, _, _, ⟨i + 1, by omega, by go_num, by rw [HS2.out], HBj.out⟩, rfl⟩ | exact ⟨_, _, _, _, _, _, _, _, _, _, _, _, _, _, _, _, _, _, _, _, _, _, _, _, _, _, _, _, _, _, _, ⟨i + 1, by omega, by go_num, by rw [HS2.out], HBj.out⟩, rfl⟩ | exact ⟨_, _, _, _, _, _, _, _, _, _, _, _, _, _, _, _, _, _, _, _, _, _, _, _, _, _, _, _, _, _, _, _, ⟨i + 1, by omega, by go_num, by rw [HS2.out], HBj.out⟩, rfl⟩ | exact ⟨_, _, _, _, _, _, _, _, _, _, _, _, _, _, _, _, _, _, _, _, _, _, _, _, _, _, _, _, _, _, _, _, _, ⟨i + 1, by omega, by go_num, by rw [HS2.out], HBj.out⟩, rfl⟩ | exact ⟨_, _, _, _, _, _, _, _, _, _, _, _, _, _, _, _, _, _, _, _, _, _, _, _, _, _, _, _, _, _, _, _, _, _, ⟨i + 1, by omega, by go_num, by rw [HS2.out], HBj.out⟩, rfl⟩ | exact ⟨_, _, _, _, _, _, _, _, _, _, _, _, _, _, _, _, _, _, _, _, _, _, _, _, _, _, _, _, _, _, _, _, _, _, _, ⟨i + 1, by omega, by go_num, by rw [HS2.out], HBj.out⟩, rfl⟩ | exact ⟨_, _, _, _, _, _, _, _, _, _, _, _, _, _, _, _, _, _, _, _, _, _, _, _, _, _, _, _, _, _, _, _, _, _, _, _, ⟨i + 1, by omega, by go_num, by rw [HS2.out], HBj.out⟩, rfl⟩ | exact ⟨_, _, _, _, _, _, _, _, _, _, _, _, _, _, _, _, _, _, _, _, _, _, _, _, _, _, _, _, _, _, _, _, _, _, _, _, _, ⟨i + 1, by omega, by go_num, by rw [HS2.out], HBj.out⟩, rfl⟩ | exact ⟨_, _, _, _, _, _, _, _, _, _, _, _, _, _, _, _, _, _, _, _, _, _, _, _, _, _, _, _, _, _, _, _, _, _, _, _, _, _, ⟨i + 1, by omega, by go_num, by rw [HS2.out], HBj.out⟩, rfl⟩ | exact ⟨_, _, _, _, _, _, _, _, _, _, _, _, _, _, _, _, _, _, _, _, _, _, _, _, _, _, _, _, _, _, _, _, _, _, _, _, _, _, _, ⟨i + 1, by omega, by go_num, by rw [HS2.out], HBj.out⟩, rfl⟩ | exact ⟨_, _, _, _, _, _, _, _, _, _, _, _, _, _, _, _, _, _, _, _, _, _, _, _, _, _, _, _, _, _, _, _, _, _, _, _, _, _, _, _, ⟨i + 1, by omega, by go_num, by rw [HS2.out], HBj.out⟩, rfl⟩ | exact ⟨_, _, _, _, _, _, _, _, _, _, _, _, _, _, _, _, _, _, _, _, _, _, _, _, _, _, _, _, _, _, _, _, _, _, _, _, _, _, _, _, _, ⟨i + 1, by omega, by go_num, by rw [HS2.out], HBj.out⟩, rfl⟩
                  case measure => simp [intOf] <;> omega
            · obtain rfl : i = k := by omega
              have HS := Lib.hid (show m.length = i from HML.out)
              have HBz := Lib.hid (bel_trans HB8.out hb)
              have HAz := Lib.hid (keep_at HA8.out hb)
              clear hb
              obtain ⟨wr2, hwr2⟩ : ∃ wr2, wr2 = wr := ⟨_, rfl⟩
              rw [← hwr2] at HBz HAz ⊢
              clear hwr2
              rcases hcc : clA m (fiveT ⟨o0, o1, o2, o3, o4⟩) kn i with _ | _
              · have hg1 := HG1.out
                have hg2 := HG2.out
                generalize (getO tx).isSome = kk at hg1 hg2
                generalize (getO tx).getD Of5.zero = xx at hg1 hg2
                obtain ⟨x0, x1, x2, x3, x4⟩ := xx
                have HG1 := Lib.hid hg1
                have HG2 := Lib.hid hg2
                have HSX := Lib.hid (fun W => eql_same_O ⟨x0, x1, x2, x3, x4⟩ W)
                clear hg1 hg2 hcc
                go_wp2_with (first
                  | (with_reducible refine wpList_loadB rfl 23 (.tmp 19) rfl (w40.heap.size) rfl 23 _ X41.out _ Tryz.underlying23 rfl (by kernel_rfl) ?_)
                  | (with_reducible refine wpList_loadB rfl 23 (.tmp 21) rfl (w41.heap.size) rfl 23 _ Y41.out _ Tryz.underlying23 rfl (by kernel_rfl) ?_)
                  | (with_reducible refine wpList_eq (by kernel_rfl) 23 (.tmp 120) (.tmp 121) #[.int .i64 x0, .int .i64 x1, .int .i64 x2, .int .i64 x3, .int .i64 x4] #[.int .i64 x0, .int .i64 x1, .int .i64 x2, .int .i64 x3, .int .i64 x4] true rfl rfl rfl (fun _ _ _ _ => guard_Of5 _ _ _ _ _ _) HSX.out ?_)
                  | (go_at_call 38; ((with_reducible refine (HG1.out _).mono ?_); rintro e w40 ⟨rfl, hb⟩; have HB40 := Lib.hid (bal ((bel_trans HBz.out hb)) (.cells #[.int .i64 x0, .int .i64 x1, .int .i64 x2, .int .i64 x3, .int .i64 x4] 23)); have A40 := Lib.hid (keep_at (keep_at HAz.out hb) (bal (bel0 w40) (.cells #[.int .i64 x0, .int .i64 x1, .int .i64 x2, .int .i64 x3, .int .i64 x4] 23))); have X40 := Lib.hid ((heap_alloc_new w40 (.cells #[.int .i64 x0, .int .i64 x1, .int .i64 x2, .int .i64 x3, .int .i64 x4] 23))); clear hb))
                  | (go_at_call 39; ((with_reducible refine (HG2.out _).mono ?_); rintro e w41 ⟨rfl, hb⟩; have HB41 := Lib.hid (bal ((bel_trans HB40.out hb)) (.cells #[.int .i64 x0, .int .i64 x1, .int .i64 x2, .int .i64 x3, .int .i64 x4] 23)); have A41 := Lib.hid (keep_at (keep_at A40.out hb) (bal (bel0 w41) (.cells #[.int .i64 x0, .int .i64 x1, .int .i64 x2, .int .i64 x3, .int .i64 x4] 23))); have X41 := Lib.hid (keep_at (keep_at X40.out hb) (bal (bel0 w41) (.cells #[.int .i64 x0, .int .i64 x1, .int .i64 x2, .int .i64 x3, .int .i64 x4] 23))); have Y41 := Lib.hid ((heap_alloc_new w41 (.cells #[.int .i64 x0, .int .i64 x1, .int .i64 x2, .int .i64 x3, .int .i64 x4] 23))); clear hb)))
                go_ret
                refine ⟨?_, HB41.out⟩
                simp
              · have hgo := HCL.out (by rw [HS.out]; exact hcc)
                have hg1 := HG1.out
                have hg2 := HG2.out
                rw [hgo] at hg1 hg2
                have HG1 := Lib.hid hg1
                have HG2 := Lib.hid hg2
                have HSX := Lib.hid (fun W => eql_same_O ⟨o0, o1, o2, o3, o4⟩ W)
                clear hg1 hg2 hcc hgo
                go_wp2_with (first
                  | (with_reducible refine wpList_loadB rfl 23 (.tmp 19) rfl (w40.heap.size) rfl 23 _ X41.out _ Tryz.underlying23 rfl (by kernel_rfl) ?_)
                  | (with_reducible refine wpList_loadB rfl 23 (.tmp 21) rfl (w41.heap.size) rfl 23 _ Y41.out _ Tryz.underlying23 rfl (by kernel_rfl) ?_)
                  | (with_reducible refine wpList_eq (by kernel_rfl) 23 (.tmp 120) (.tmp 121) #[.int .i64 o0, .int .i64 o1, .int .i64 o2, .int .i64 o3, .int .i64 o4] #[.int .i64 o0, .int .i64 o1, .int .i64 o2, .int .i64 o3, .int .i64 o4] true rfl rfl rfl (fun _ _ _ _ => guard_Of5 _ _ _ _ _ _) HSX.out ?_)
                  | (with_reducible refine wpList_loadG (by kernel_rfl) 23 (.tmp 19) rfl (w40.heap.size) rfl 23 #[.int .i64 o0, .int .i64 o1, .int .i64 o2, .int .i64 o3, .int .i64 o4] X41.out _ Tryz.underlying23 rfl (by kernel_rfl) ?_)
                  | (with_reducible refine wpList_loadG (by kernel_rfl) 23 (.tmp 3) rfl (w.heap.size) rfl 23 #[.int .i64 o0, .int .i64 o1, .int .i64 o2, .int .i64 o3, .int .i64 o4] A41.out _ Tryz.underlying23 rfl (by kernel_rfl) ?_)
                  | (with_reducible refine wpList_eq (by kernel_rfl) 23 (.tmp 134) (.tmp 135) #[.int .i64 o0, .int .i64 o1, .int .i64 o2, .int .i64 o3, .int .i64 o4] #[.int .i64 o0, .int .i64 o1, .int .i64 o2, .int .i64 o3, .int .i64 o4] true rfl rfl rfl (fun _ _ _ _ => guard_Of5 _ _ _ _ _ _) HSX.out ?_)
                  | (go_at_call 38; ((with_reducible refine (HG1.out _).mono ?_); rintro e w40 ⟨rfl, hb⟩; have HB40 := Lib.hid (bal ((bel_trans HBz.out hb)) (.cells #[.int .i64 o0, .int .i64 o1, .int .i64 o2, .int .i64 o3, .int .i64 o4] 23)); have A40 := Lib.hid (keep_at (keep_at HAz.out hb) (bal (bel0 w40) (.cells #[.int .i64 o0, .int .i64 o1, .int .i64 o2, .int .i64 o3, .int .i64 o4] 23))); have X40 := Lib.hid ((heap_alloc_new w40 (.cells #[.int .i64 o0, .int .i64 o1, .int .i64 o2, .int .i64 o3, .int .i64 o4] 23))); clear hb))
                  | (go_at_call 39; ((with_reducible refine (HG2.out _).mono ?_); rintro e w41 ⟨rfl, hb⟩; have HB41 := Lib.hid (bal ((bel_trans HB40.out hb)) (.cells #[.int .i64 o0, .int .i64 o1, .int .i64 o2, .int .i64 o3, .int .i64 o4] 23)); have A41 := Lib.hid (keep_at (keep_at A40.out hb) (bal (bel0 w41) (.cells #[.int .i64 o0, .int .i64 o1, .int .i64 o2, .int .i64 o3, .int .i64 o4] 23))); have X41 := Lib.hid (keep_at (keep_at X40.out hb) (bal (bel0 w41) (.cells #[.int .i64 o0, .int .i64 o1, .int .i64 o2, .int .i64 o3, .int .i64 o4] 23))); have Y41 := Lib.hid ((heap_alloc_new w41 (.cells #[.int .i64 o0, .int .i64 o1, .int .i64 o2, .int .i64 o3, .int .i64 o4] 23))); clear hb)))
                go_ret
                refine ⟨?_, HB41.out⟩
                simp
theorem QosMore_law (o_ : Of5) (v : Value) (n : Nat) (I : Nat → Int) (T : Nat → ByteArray) (q : Int) (w : World) (hs : o_.ok) (hv : IsTs w v n I T) (hq : (Lit.int .i64 q).wf = true) (hC : Codes w) : Calls Tryz.prog 4 #[o_.val, v, .int .i64 q] w (Holds8 w) := by
  have hp1 := fun w => QPut_any o_ w hs
  unfold PutR at hp1
  cases hm : mayO o_ with
  | false =>
    rw [show putO o_ = none by unfold putO; rw [hm]; rfl] at hp1
    exact QosMore_0 _ _ _ _ _ q _ v _ w hv.rd hC hp1
  | true =>
    rw [show putO o_ = some (bytesO o_) by unfold putO; rw [if_pos hm]] at hp1
    have hgt := fun w => RefGetT_any ⟨(bytesO o_).toArray⟩ w (by show ((bytesO o_).toArray).size ≤ maxLen; rw [List.size_toArray]; show 15 ≤ maxLen; unfold maxLen; decide)
    unfold GetTP at hgt
    rw [show getT (⟨(bytesO o_).toArray⟩ : ByteArray).data.toList = some (fiveT o_) from getT_putT (putT_five o_)] at hgt
    obtain ⟨d, hd, hm6⟩ : ∃ d : Nat, d < 6 ∧ (q.tmod 6 + 6) % 6 = (d : Int) := ⟨((q.tmod 6 + 6) % 6).toNat, by omega, by omega⟩
    exact QosMore_1 _ _ _ _ _ q ⟨(bytesO o_).toArray⟩ v _ d w hv.rd (fun t ht => (hv.wf t ht).2) hC hm hd hm6 hp1 hgt
end Go.Proofs.YtcmjdbljdkabpaaGreatDoor
