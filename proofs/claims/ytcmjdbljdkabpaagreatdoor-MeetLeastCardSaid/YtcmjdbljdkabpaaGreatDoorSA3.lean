/- Package setup (as landed at 3ea5f42): a beginning out of any bytes. -/
import Derived.Test.YtcmjdbljdkabpaaGreatDoorSA1
import Derived.Test.YtcmjdbljdkabpaaGreatDoorZA2
import Derived.Test.YtcmjdbljdkabpaaGreatDoorM8F
import Derived.Test.YtcmjdbljdkabpaaGreatDoorM8M

set_option linter.all false

namespace Go.Proofs.YtcmjdbljdkabpaaGreatDoor
open Go.RowKit M

set_option maxRecDepth 100000 in
set_option maxHeartbeats 2000000 in
theorem SGet_short (s : ByteArray) (w : World) (h : s.size < 10) : Calls Tryz.prog 56 #[.string s] w (SetupR none w) := by
  have h1 : (s.size : Int) < 10 := by omega
  clear h
  go_enter Tryz.func56, Tryz.ntmps56
  go_wp2
  exact ⟨rfl, _, results_cell2 rfl _ _ w.heap.size _ _ _ _ (.bool false) rfl rfl (heap_alloc_new w _) Tryz.underlying64 rfl (by kernel_rfl), setupR_none rfl (bal (bel0 w) _)⟩

set_option maxRecDepth 100000 in
set_option maxHeartbeats 16000000 in
theorem SGet_no (s : ByteArray) (w : World) (fr tt b si wi z wa : Int) (i j : UInt8) (h8 : 8 < s.size) (h9 : 9 < s.size) (e8 : s[8] = i) (e9 : s[9] = j)
    (ho : ∀ w, Calls Tryz.prog 38 #[.string (s.extract 10 s.size)] w fun e w' => e = .returned (.tuple #[.agg #[.int .i64 b, .int .i64 si, .int .i64 wi, .int .i64 z, .int .i64 wa], .bool false]) ∧ Below w.heap.size w w')
    (hf : ∀ w, Calls Tryz.prog 86 #[.string (s.extract 0 s.size)] w fun e w' => e = .returned (.int .u32 fr) ∧ w' = w) (ht : ∀ w, Calls Tryz.prog 86 #[.string (s.extract 4 s.size)] w fun e w' => e = .returned (.int .u32 tt) ∧ w' = w) :
    Calls Tryz.prog 56 #[.string s] w (SetupR none w) := by
  have hil := i.toNat_lt
  have hjl := j.toNat_lt
  have i1 : ¬ (s.size : Int) < 10 := by omega
  have i2 : (8 : Int) < (s.size : Int) := by omega
  have i3 : (9 : Int) < (s.size : Int) := by omega
  have i5 : (4 : Int) ≤ (s.size : Int) := by omega
  have i6 : (10 : Int) ≤ (s.size : Int) := by omega
  have v1 : IntKind.i64.wrap (i.toNat : Int) = (i.toNat : Int) := IntWalk.i64_in _ (by omega)
  have v2 : IntKind.i64.wrap (j.toNat : Int) = (j.toNat : Int) := IntWalk.i64_in _ (by omega)
  have HONE : Hid ((#[.int .u32 fr, .int .u32 tt, .int .i64 (i.toNat : Int), .int .i64 (j.toNat : Int), .int .i64 b, .int .i64 si, .int .i64 wi, .int .i64 z, .int .i64 wa] : Array Value).all (·.oneCell') = true) := by show _ = true; simp [Value.oneCell']
  have HF := Lib.hid hf
  have HT := Lib.hid ht
  have HGO := Lib.hid ho
  clear hf ht ho hil hjl
  go_enter Tryz.func56, Tryz.ntmps56
  go_wp2_with (go_at_call 38; (with_reducible refine (HGO.out _).mono ?_); rintro e w2 ⟨rfl, hb⟩; have HB2 := Lib.hid (bal (bel_trans (bal (bel0 w) (.cells #[.int .u32 0, .int .u32 0, .int .i64 0, .int .i64 0, .int .i64 0, .int .i64 0, .int .i64 0, .int .i64 0, .int .i64 0] 64)) hb) (.cells #[.int .i64 b, .int .i64 si, .int .i64 wi, .int .i64 z, .int .i64 wa] 23)); have HR2 := Lib.hid (keep_at (keep_at (heap_alloc_new w (.cells #[.int .u32 0, .int .u32 0, .int .i64 0, .int .i64 0, .int .i64 0, .int .i64 0, .int .i64 0, .int .i64 0, .int .i64 0] 64)) hb) (bal (bel0 w2) (.cells #[.int .i64 b, .int .i64 si, .int .i64 wi, .int .i64 z, .int .i64 wa] 23))); have HO2 := Lib.hid (heap_alloc_new w2 (.cells #[.int .i64 b, .int .i64 si, .int .i64 wi, .int .i64 z, .int .i64 wa] 23)); have HLT2 : Hid (w.heap.size < w2.heap.size) := lt_at (keep_at (heap_alloc_new w (.cells #[.int .u32 0, .int .u32 0, .int .i64 0, .int .i64 0, .int .i64 0, .int .i64 0, .int .i64 0, .int .i64 0, .int .i64 0] 64)) hb); clear hb)
  obtain ⟨w3, hw3⟩ : ∃ w3, w3 = w2.alloc (.cells #[.int .i64 b, .int .i64 si, .int .i64 wi, .int .i64 z, .int .i64 wa] 23) := ⟨_, rfl⟩
  have HB_3 : Hid (Below w.heap.size w w3.drew) := by show Below _ _ _; rw [hw3]; exact HB2.out.drew
  have HR_3 : Hid (w3.drew.heap[w.heap.size]? = some (.cells #[.int .u32 0, .int .u32 0, .int .i64 0, .int .i64 0, .int .i64 0, .int .i64 0, .int .i64 0, .int .i64 0, .int .i64 0] 64 (0, 0))) := by show _ = _; rw [hw3]; exact HR2.out
  have HO3 : Hid (w3.heap[w2.heap.size]? = some (.cells #[.int .i64 b, .int .i64 si, .int .i64 wi, .int .i64 z, .int .i64 wa] 23 (0, 0))) := by show _ = _; rw [hw3]; exact HO2.out
  have HE_3 : Hid (Below w3.heap.size w3 w3.drew) := (bel0 w3).drew
  have HLT : Hid (w.heap.size < w3.heap.size) := lt_at HR_3.out
  have HLE : Hid (w.heap.size ≤ w3.heap.size) := Nat.le_of_lt HLT.out
  rw [← hw3]
  clear hw3
  refine' region_shared (fun W => Below w.heap.size w W ∧ W.heap[w.heap.size]? = some (.cells #[.int .u32 0, .int .u32 0, .int .i64 0, .int .i64 0, .int .i64 0, .int .i64 0, .int .i64 0, .int .i64 0, .int .i64 0] 64 (0, 0)) ∧ W.heap[w3.heap.size]? = some (.cells #[.int .u32 fr, .int .u32 tt, .int .i64 (i.toNat : Int), .int .i64 (j.toNat : Int), .int .i64 b, .int .i64 si, .int .i64 wi, .int .i64 z, .int .i64 wa] 64 (0, 0))) _ ?cont ?reg
  case reg =>
    intro hK
    refine rests_begin (From w3) (by kernel_rfl) ?_
    refine rests_take 0 (oi := _) (v := ?_) (by simp only [List.getElem?_toArray, List.getElem?_cons_zero]; rfl) (by kernel_rfl) (by kernel_rfl) (by kernel_rfl) (by exact fun _ _ _ h => h) (HE_3.out) (by rfl) ?_ ?_; rotate_left; (· intro W HW; go_simp; try with_reducible rfl)
    simp only [Act.put, List.setIfInBounds_toArray, List.set_cons_zero, List.set_cons_succ]
    refine rests_take 1 (oi := _) (v := ?_) (by simp only [List.getElem?_toArray, List.getElem?_cons_succ, List.getElem?_cons_zero]; rfl) (by kernel_rfl) (by kernel_rfl) (by kernel_rfl) (by exact fun _ _ _ h => h) (HE_3.out) (by rfl) ?_ ?_; rotate_left; (· intro W HW; go_simp; try with_reducible rfl)
    simp only [Act.put, List.setIfInBounds_toArray, List.set_cons_zero, List.set_cons_succ]
    refine rests_take 3 (oi := _) (v := ?_) (by simp only [List.getElem?_toArray, List.getElem?_cons_succ, List.getElem?_cons_zero]; rfl) (by kernel_rfl) (by kernel_rfl) (by kernel_rfl) (by exact fun _ _ _ h => h) (HE_3.out) (by rfl) ?_ ?_; rotate_left; (· intro W HW; go_simp; try with_reducible rfl)
    simp only [Act.put, List.setIfInBounds_toArray, List.set_cons_zero, List.set_cons_succ]
    refine rests_take 4 (oi := _) (v := ?_) (by simp only [List.getElem?_toArray, List.getElem?_cons_succ, List.getElem?_cons_zero]; rfl) (by kernel_rfl) (by kernel_rfl) (by kernel_rfl) (by exact fun _ _ _ h => h) (HE_3.out) (by rfl) ?_ ?_; rotate_left; (· intro W HW; go_simp; try with_reducible rfl)
    simp only [Act.put, List.setIfInBounds_toArray, List.set_cons_zero, List.set_cons_succ]
    refine rests_take 6 (oi := _) (v := ?_) (by simp only [List.getElem?_toArray, List.getElem?_cons_succ, List.getElem?_cons_zero]; rfl) (by kernel_rfl) (by kernel_rfl) (by kernel_rfl) (by exact fun _ _ _ h => h) (HE_3.out) (by rfl) ?_ ?_; rotate_left; (· intro W HW; go_simp; try with_reducible rfl)
    simp only [Act.put, List.setIfInBounds_toArray, List.set_cons_zero, List.set_cons_succ]
    refine rests_take 7 (oi := _) (v := ?_) (by simp only [List.getElem?_toArray, List.getElem?_cons_succ, List.getElem?_cons_zero]; rfl) (by kernel_rfl) (by kernel_rfl) (by kernel_rfl) (by exact fun _ _ _ h => h) (HE_3.out) (by rfl) ?_ ?_; rotate_left; (· intro W HW; go_simp; try with_reducible rfl)
    simp only [Act.put, List.setIfInBounds_toArray, List.set_cons_zero, List.set_cons_succ]
    refine rests_take 8 (oi := _) (v := ?_) (by simp only [List.getElem?_toArray, List.getElem?_cons_succ, List.getElem?_cons_zero]; rfl) (by kernel_rfl) (by kernel_rfl) (by kernel_rfl) (by exact fun _ _ _ h => h) (HE_3.out) (by rfl) ?_ ?_; rotate_left; (· intro W HW; go_simp; try with_reducible rfl)
    simp only [Act.put, List.setIfInBounds_toArray, List.set_cons_zero, List.set_cons_succ]
    refine rests_take 9 (oi := _) (v := ?_) (by simp only [List.getElem?_toArray, List.getElem?_cons_succ, List.getElem?_cons_zero]; rfl) (by kernel_rfl) (by kernel_rfl) (by kernel_rfl) (by exact fun _ _ _ h => h) (HE_3.out) (by rfl) ?_ ?_; rotate_left; (· intro W HW; go_simp; try with_reducible rfl)
    simp only [Act.put, List.setIfInBounds_toArray, List.set_cons_zero, List.set_cons_succ]
    refine rests_take 10 (oi := _) (v := ?_) (by simp only [List.getElem?_toArray, List.getElem?_cons_succ, List.getElem?_cons_zero]; rfl) (by kernel_rfl) (by kernel_rfl) (by kernel_rfl) (by exact fun _ _ _ h => h) (HE_3.out) (by rfl) ?_ ?_; rotate_left; (· intro W HW; go_simp; try with_reducible rfl)
    simp only [Act.put, List.setIfInBounds_toArray, List.set_cons_zero, List.set_cons_succ]
    refine rests_take 11 (oi := _) (v := ?_) (by simp only [List.getElem?_toArray, List.getElem?_cons_succ, List.getElem?_cons_zero]; rfl) (by kernel_rfl) (by kernel_rfl) (by kernel_rfl) (by exact fun _ _ _ h => h) (HE_3.out) (by rfl) ?_ ?_; rotate_left; (· intro W HW; go_simp; try with_reducible rfl)
    simp only [Act.put, List.setIfInBounds_toArray, List.set_cons_zero, List.set_cons_succ]
    refine rests_take 12 (oi := _) (v := ?_) (by simp only [List.getElem?_toArray, List.getElem?_cons_succ, List.getElem?_cons_zero]; rfl) (by kernel_rfl) (by kernel_rfl) (by kernel_rfl) (by exact fun _ _ _ h => h) (HE_3.out) (by rfl) ?_ ?_; rotate_left; (· intro W HW; go_simp; try with_reducible rfl)
    simp only [Act.put, List.setIfInBounds_toArray, List.set_cons_zero, List.set_cons_succ]
    refine rests_loadB 13 (oi := _) (by simp only [List.getElem?_toArray, List.getElem?_cons_succ, List.getElem?_cons_zero]; rfl) (by kernel_rfl) (by kernel_rfl) (by kernel_rfl) #[.int .i64 b, .int .i64 si, .int .i64 wi, .int .i64 z, .int .i64 wa] (by exact fun _ _ _ h => h) (HE_3.out) (by rfl) 23 (.tmp 4) rfl w2.heap.size rfl 23 (fun W HW => keep_at HO3.out HW) _ Tryz.underlying23 rfl (by kernel_rfl) ?_
    simp only [Act.put, List.setIfInBounds_toArray, List.set_cons_zero, List.set_cons_succ]
    refine rests_two 2 15 (oi := _) (oj := _) (by simp only [List.getElem?_toArray, List.getElem?_cons_succ, List.getElem?_cons_zero]; rfl) (by simp only [List.getElem?_toArray, List.getElem?_cons_succ, List.getElem?_cons_zero]; rfl) (by kernel_rfl) (by rfl) (by rfl) ?_ ?_
    · refine wp_enter (f := 86) (args := #[.string (s.extract 0 s.size)]) (by go_simp) (HF.out (w3.drew)) ?_
      rintro e w' ⟨rfl, hw'⟩; rw [hw']; clear hw'; refine ⟨_, rfl, HE_3.out, ?_⟩
      simp only [Act.put, List.setIfInBounds_toArray, List.set_cons_zero, List.set_cons_succ]
      refine rests_two 5 15 (oi := _) (oj := _) (by simp only [List.getElem?_toArray, List.getElem?_cons_succ, List.getElem?_cons_zero]; rfl) (by simp only [List.getElem?_toArray, List.getElem?_cons_succ, List.getElem?_cons_zero]; rfl) (by kernel_rfl) (by rfl) (by rfl) ?_ ?_
      · refine wp_enter (f := 86) (args := #[.string (s.extract 4 s.size)]) (by go_simp) (HT.out (w3.drew)) ?_
        rintro e w' ⟨rfl, hw'⟩; rw [hw']; clear hw'; refine ⟨_, rfl, HE_3.out, ?_⟩
        simp only [Act.put, List.setIfInBounds_toArray, List.set_cons_zero, List.set_cons_succ]
        refine rests_take 14 (oi := _) (v := ?_) (by simp only [List.getElem?_toArray, List.getElem?_cons_succ, List.getElem?_cons_zero]; rfl) (by kernel_rfl) (by kernel_rfl) (by kernel_rfl) (by exact fun _ _ _ h => h) (HE_3.out) (by rfl) ?_ ?_; rotate_left; (· intro W HW; go_simp; try with_reducible rfl)
        simp only [Act.put, List.setIfInBounds_toArray, List.set_cons_zero, List.set_cons_succ]
        refine rests_run 15 (oi := _) (by simp only [List.getElem?_toArray, List.getElem?_cons_succ, List.getElem?_cons_zero]; rfl) (by kernel_rfl) (by rfl) (.pointer (some ⟨w3.heap.size, 0, none⟩)) ((w3.drew).alloc (.cells #[.int .u32 0, .int .u32 0, .int .i64 0, .int .i64 0, .int .i64 0, .int .i64 0, .int .i64 0, .int .i64 0, .int .i64 0] 64)) (by go_simp) ⟨bal HE_3.out _, ?_⟩
        have HB_4 := Lib.hid (bal (w := w3.drew) HB_3.out (.cells #[.int .u32 0, .int .u32 0, .int .i64 0, .int .i64 0, .int .i64 0, .int .i64 0, .int .i64 0, .int .i64 0, .int .i64 0] 64)); have HE_4 := Lib.hid (bal (w := w3.drew) HE_3.out (.cells #[.int .u32 0, .int .u32 0, .int .i64 0, .int .i64 0, .int .i64 0, .int .i64 0, .int .i64 0, .int .i64 0, .int .i64 0] 64)); have HR_4 := Lib.hid (keep_at (w := w3.drew) HR_3.out (bal (bel0 (w3.drew)) (.cells #[.int .u32 0, .int .u32 0, .int .i64 0, .int .i64 0, .int .i64 0, .int .i64 0, .int .i64 0, .int .i64 0, .int .i64 0] 64))); have HX_4 := Lib.hid (heap_alloc_new (w3.drew) (.cells #[.int .u32 0, .int .u32 0, .int .i64 0, .int .i64 0, .int .i64 0, .int .i64 0, .int .i64 0, .int .i64 0, .int .i64 0] 64))
        simp only [Act.put, List.setIfInBounds_toArray, List.set_cons_zero, List.set_cons_succ]
        refine rests_storeB 16 (oi := _) (by simp only [List.getElem?_toArray, List.getElem?_cons_succ, List.getElem?_cons_zero]; rfl) (by kernel_rfl) (by rfl) 64 (.tmp 6) (.tmp 31) rfl w3.heap.size #[.int .u32 fr, .int .u32 tt, .int .i64 (i.toNat : Int), .int .i64 (j.toNat : Int), .int .i64 b, .int .i64 si, .int .i64 wi, .int .i64 z, .int .i64 wa] rfl rfl 64 _ HX_4.out (by kernel_rfl) rfl HONE.out ?_
        intro w5 hg5 hz5 hh5; have HB_5 := Lib.hid (bel_grown HB_4.out hg5 HLE.out); have HE_5 := Lib.hid (bel_grown HE_4.out hg5 (Nat.le_refl _)); have HR_5 := Lib.hid (keep_grown HR_4.out hg5 (Nat.ne_of_lt HLT.out)); have HX_5 := Lib.hid hh5; refine ⟨HE_5.out, ?_⟩; clear hg5 hz5 hh5
        simp only [Act.put, List.setIfInBounds_toArray, List.set_cons_zero, List.set_cons_succ]
        refine rests_done (by kernel_rfl) ?_
        exact hK _ ⟨HB_5.out, HR_5.out, HX_5.out⟩
      · refine wp_val (v := .pointer (some ⟨w3.heap.size, 0, none⟩)) (w' := (w3.drew).alloc (.cells #[.int .u32 0, .int .u32 0, .int .i64 0, .int .i64 0, .int .i64 0, .int .i64 0, .int .i64 0, .int .i64 0, .int .i64 0] 64)) (by go_simp) ⟨bal HE_3.out _, ?_⟩
        have HB_4 := Lib.hid (bal (w := w3.drew) HB_3.out (.cells #[.int .u32 0, .int .u32 0, .int .i64 0, .int .i64 0, .int .i64 0, .int .i64 0, .int .i64 0, .int .i64 0, .int .i64 0] 64)); have HE_4 := Lib.hid (bal (w := w3.drew) HE_3.out (.cells #[.int .u32 0, .int .u32 0, .int .i64 0, .int .i64 0, .int .i64 0, .int .i64 0, .int .i64 0, .int .i64 0, .int .i64 0] 64)); have HR_4 := Lib.hid (keep_at (w := w3.drew) HR_3.out (bal (bel0 (w3.drew)) (.cells #[.int .u32 0, .int .u32 0, .int .i64 0, .int .i64 0, .int .i64 0, .int .i64 0, .int .i64 0, .int .i64 0, .int .i64 0] 64))); have HX_4 := Lib.hid (heap_alloc_new (w3.drew) (.cells #[.int .u32 0, .int .u32 0, .int .i64 0, .int .i64 0, .int .i64 0, .int .i64 0, .int .i64 0, .int .i64 0, .int .i64 0] 64))
        simp only [Act.put, List.setIfInBounds_toArray, List.set_cons_zero, List.set_cons_succ]
        refine rests_call 5 (oi := _) (by simp only [List.getElem?_toArray, List.getElem?_cons_succ, List.getElem?_cons_zero]; rfl) 86 #[.string (s.extract 4 s.size)] _ (by kernel_rfl) (by rfl) (by go_simp) (HT.out (((w3.drew).alloc (.cells #[.int .u32 0, .int .u32 0, .int .i64 0, .int .i64 0, .int .i64 0, .int .i64 0, .int .i64 0, .int .i64 0, .int .i64 0] 64)))) ?_
        rintro e w' ⟨rfl, hw'⟩; rw [hw']; clear hw'; refine ⟨_, rfl, HE_4.out, ?_⟩
        simp only [Act.put, List.setIfInBounds_toArray, List.set_cons_zero, List.set_cons_succ]
        refine rests_take 14 (oi := _) (v := ?_) (by simp only [List.getElem?_toArray, List.getElem?_cons_succ, List.getElem?_cons_zero]; rfl) (by kernel_rfl) (by kernel_rfl) (by kernel_rfl) (by exact fun _ _ _ h => h) (HE_4.out) (by rfl) ?_ ?_; rotate_left; (· intro W HW; go_simp; try with_reducible rfl)
        simp only [Act.put, List.setIfInBounds_toArray, List.set_cons_zero, List.set_cons_succ]
        refine rests_storeB 16 (oi := _) (by simp only [List.getElem?_toArray, List.getElem?_cons_succ, List.getElem?_cons_zero]; rfl) (by kernel_rfl) (by rfl) 64 (.tmp 6) (.tmp 31) rfl w3.heap.size #[.int .u32 fr, .int .u32 tt, .int .i64 (i.toNat : Int), .int .i64 (j.toNat : Int), .int .i64 b, .int .i64 si, .int .i64 wi, .int .i64 z, .int .i64 wa] rfl rfl 64 _ HX_4.out (by kernel_rfl) rfl HONE.out ?_
        intro w5 hg5 hz5 hh5; have HB_5 := Lib.hid (bel_grown HB_4.out hg5 HLE.out); have HE_5 := Lib.hid (bel_grown HE_4.out hg5 (Nat.le_refl _)); have HR_5 := Lib.hid (keep_grown HR_4.out hg5 (Nat.ne_of_lt HLT.out)); have HX_5 := Lib.hid hh5; refine ⟨HE_5.out, ?_⟩; clear hg5 hz5 hh5
        simp only [Act.put, List.setIfInBounds_toArray, List.set_cons_zero, List.set_cons_succ]
        refine rests_done (by kernel_rfl) ?_
        exact hK _ ⟨HB_5.out, HR_5.out, HX_5.out⟩
    · refine wp_val (v := .pointer (some ⟨w3.heap.size, 0, none⟩)) (w' := (w3.drew).alloc (.cells #[.int .u32 0, .int .u32 0, .int .i64 0, .int .i64 0, .int .i64 0, .int .i64 0, .int .i64 0, .int .i64 0, .int .i64 0] 64)) (by go_simp) ⟨bal HE_3.out _, ?_⟩
      have HB_4 := Lib.hid (bal (w := w3.drew) HB_3.out (.cells #[.int .u32 0, .int .u32 0, .int .i64 0, .int .i64 0, .int .i64 0, .int .i64 0, .int .i64 0, .int .i64 0, .int .i64 0] 64)); have HE_4 := Lib.hid (bal (w := w3.drew) HE_3.out (.cells #[.int .u32 0, .int .u32 0, .int .i64 0, .int .i64 0, .int .i64 0, .int .i64 0, .int .i64 0, .int .i64 0, .int .i64 0] 64)); have HR_4 := Lib.hid (keep_at (w := w3.drew) HR_3.out (bal (bel0 (w3.drew)) (.cells #[.int .u32 0, .int .u32 0, .int .i64 0, .int .i64 0, .int .i64 0, .int .i64 0, .int .i64 0, .int .i64 0, .int .i64 0] 64))); have HX_4 := Lib.hid (heap_alloc_new (w3.drew) (.cells #[.int .u32 0, .int .u32 0, .int .i64 0, .int .i64 0, .int .i64 0, .int .i64 0, .int .i64 0, .int .i64 0, .int .i64 0] 64))
      simp only [Act.put, List.setIfInBounds_toArray, List.set_cons_zero, List.set_cons_succ]
      refine rests_call 2 (oi := _) (by simp only [List.getElem?_toArray, List.getElem?_cons_succ, List.getElem?_cons_zero]; rfl) 86 #[.string (s.extract 0 s.size)] _ (by kernel_rfl) (by rfl) (by go_simp) (HF.out (((w3.drew).alloc (.cells #[.int .u32 0, .int .u32 0, .int .i64 0, .int .i64 0, .int .i64 0, .int .i64 0, .int .i64 0, .int .i64 0, .int .i64 0] 64)))) ?_
      rintro e w' ⟨rfl, hw'⟩; rw [hw']; clear hw'; refine ⟨_, rfl, HE_4.out, ?_⟩
      simp only [Act.put, List.setIfInBounds_toArray, List.set_cons_zero, List.set_cons_succ]
      refine rests_call 5 (oi := _) (by simp only [List.getElem?_toArray, List.getElem?_cons_succ, List.getElem?_cons_zero]; rfl) 86 #[.string (s.extract 4 s.size)] _ (by kernel_rfl) (by rfl) (by go_simp) (HT.out (((w3.drew).alloc (.cells #[.int .u32 0, .int .u32 0, .int .i64 0, .int .i64 0, .int .i64 0, .int .i64 0, .int .i64 0, .int .i64 0, .int .i64 0] 64)))) ?_
      rintro e w' ⟨rfl, hw'⟩; rw [hw']; clear hw'; refine ⟨_, rfl, HE_4.out, ?_⟩
      simp only [Act.put, List.setIfInBounds_toArray, List.set_cons_zero, List.set_cons_succ]
      refine rests_take 14 (oi := _) (v := ?_) (by simp only [List.getElem?_toArray, List.getElem?_cons_succ, List.getElem?_cons_zero]; rfl) (by kernel_rfl) (by kernel_rfl) (by kernel_rfl) (by exact fun _ _ _ h => h) (HE_4.out) (by rfl) ?_ ?_; rotate_left; (· intro W HW; go_simp; try with_reducible rfl)
      simp only [Act.put, List.setIfInBounds_toArray, List.set_cons_zero, List.set_cons_succ]
      refine rests_storeB 16 (oi := _) (by simp only [List.getElem?_toArray, List.getElem?_cons_succ, List.getElem?_cons_zero]; rfl) (by kernel_rfl) (by rfl) 64 (.tmp 6) (.tmp 31) rfl w3.heap.size #[.int .u32 fr, .int .u32 tt, .int .i64 (i.toNat : Int), .int .i64 (j.toNat : Int), .int .i64 b, .int .i64 si, .int .i64 wi, .int .i64 z, .int .i64 wa] rfl rfl 64 _ HX_4.out (by kernel_rfl) rfl HONE.out ?_
      intro w5 hg5 hz5 hh5; have HB_5 := Lib.hid (bel_grown HB_4.out hg5 HLE.out); have HE_5 := Lib.hid (bel_grown HE_4.out hg5 (Nat.le_refl _)); have HR_5 := Lib.hid (keep_grown HR_4.out hg5 (Nat.ne_of_lt HLT.out)); have HX_5 := Lib.hid hh5; refine ⟨HE_5.out, ?_⟩; clear hg5 hz5 hh5
      simp only [Act.put, List.setIfInBounds_toArray, List.set_cons_zero, List.set_cons_succ]
      refine rests_done (by kernel_rfl) ?_
      exact hK _ ⟨HB_5.out, HR_5.out, HX_5.out⟩
  case cont =>
    rintro w4 ⟨hb4, hr4, hx4⟩
    have HB_4 := Lib.hid hb4
    have HR_4 := Lib.hid hr4
    have HX_4 := Lib.hid hx4
    clear hb4 hr4 hx4
    go_wp2_with ((with_reducible refine wpList_storeB rfl 64 (.tmp 2) _ rfl w.heap.size #[.int .u32 0, .int .u32 0, .int .i64 0, .int .i64 0, .int .i64 0, .int .i64 0, .int .i64 0, .int .i64 0, .int .i64 0] rfl rfl 64 _ HR_4.out (by kernel_rfl) (by kernel_rfl) (by kernel_rfl) ?_); intro wz hgz hzz hhz; have HBZ := Lib.hid (bel_grown HB_4.out hgz (Nat.le_refl _)); have HRZ := Lib.hid hhz; clear hgz hzz hhz)
    exact ⟨rfl, _, results_cell2 rfl _ _ w.heap.size _ _ _ _ (.bool false) rfl rfl HRZ.out Tryz.underlying64 rfl (by kernel_rfl), setupR_none rfl HBZ.out⟩

set_option maxRecDepth 100000 in
set_option maxHeartbeats 16000000 in
theorem SGet_bad (s : ByteArray) (w : World) (fr tt b si wi z wa : Int) (i j : UInt8) (h8 : 8 < s.size) (h9 : 9 < s.size) (e8 : s[8] = i) (e9 : s[9] = j) (hm : fineS ⟨fr, tt, (i.toNat : Int), (j.toNat : Int), ⟨b, si, wi, z, wa⟩⟩ = false)
    (ho : ∀ w, Calls Tryz.prog 38 #[.string (s.extract 10 s.size)] w fun e w' => e = .returned (.tuple #[.agg #[.int .i64 b, .int .i64 si, .int .i64 wi, .int .i64 z, .int .i64 wa], .bool true]) ∧ Below w.heap.size w w')
    (hf : ∀ w, Calls Tryz.prog 86 #[.string (s.extract 0 s.size)] w fun e w' => e = .returned (.int .u32 fr) ∧ w' = w) (ht : ∀ w, Calls Tryz.prog 86 #[.string (s.extract 4 s.size)] w fun e w' => e = .returned (.int .u32 tt) ∧ w' = w) :
    Calls Tryz.prog 56 #[.string s] w (SetupR none w) := by
  have hil := i.toNat_lt
  have hjl := j.toNat_lt
  have i1 : ¬ (s.size : Int) < 10 := by omega
  have i2 : (8 : Int) < (s.size : Int) := by omega
  have i3 : (9 : Int) < (s.size : Int) := by omega
  have i5 : (4 : Int) ≤ (s.size : Int) := by omega
  have i6 : (10 : Int) ≤ (s.size : Int) := by omega
  have v1 : IntKind.i64.wrap (i.toNat : Int) = (i.toNat : Int) := IntWalk.i64_in _ (by omega)
  have v2 : IntKind.i64.wrap (j.toNat : Int) = (j.toNat : Int) := IntWalk.i64_in _ (by omega)
  have HONE : Hid ((#[.int .u32 fr, .int .u32 tt, .int .i64 (i.toNat : Int), .int .i64 (j.toNat : Int), .int .i64 b, .int .i64 si, .int .i64 wi, .int .i64 z, .int .i64 wa] : Array Value).all (·.oneCell') = true) := by show _ = true; simp [Value.oneCell']
  have HF := Lib.hid hf
  have HT := Lib.hid ht
  have HGO := Lib.hid ho
  have HM := Lib.hid (show ∀ w, Calls Tryz.prog 94 #[.agg #[.int .u32 fr, .int .u32 tt, .int .i64 (i.toNat : Int), .int .i64 (j.toNat : Int), .int .i64 b, .int .i64 si, .int .i64 wi, .int .i64 z, .int .i64 wa]] w fun e w' => e = .returned (.bool false) ∧ Below w.heap.size w w' from fun w => by have h := SareFine_any ⟨fr, tt, (i.toNat : Int), (j.toNat : Int), ⟨b, si, wi, z, wa⟩⟩ w; rw [hm] at h; exact h)
  clear hm
  clear hf ht ho hil hjl
  go_enter Tryz.func56, Tryz.ntmps56
  go_wp2_with (go_at_call 38; (with_reducible refine (HGO.out _).mono ?_); rintro e w2 ⟨rfl, hb⟩; have HB2 := Lib.hid (bal (bel_trans (bal (bel0 w) (.cells #[.int .u32 0, .int .u32 0, .int .i64 0, .int .i64 0, .int .i64 0, .int .i64 0, .int .i64 0, .int .i64 0, .int .i64 0] 64)) hb) (.cells #[.int .i64 b, .int .i64 si, .int .i64 wi, .int .i64 z, .int .i64 wa] 23)); have HR2 := Lib.hid (keep_at (keep_at (heap_alloc_new w (.cells #[.int .u32 0, .int .u32 0, .int .i64 0, .int .i64 0, .int .i64 0, .int .i64 0, .int .i64 0, .int .i64 0, .int .i64 0] 64)) hb) (bal (bel0 w2) (.cells #[.int .i64 b, .int .i64 si, .int .i64 wi, .int .i64 z, .int .i64 wa] 23))); have HO2 := Lib.hid (heap_alloc_new w2 (.cells #[.int .i64 b, .int .i64 si, .int .i64 wi, .int .i64 z, .int .i64 wa] 23)); have HLT2 : Hid (w.heap.size < w2.heap.size) := lt_at (keep_at (heap_alloc_new w (.cells #[.int .u32 0, .int .u32 0, .int .i64 0, .int .i64 0, .int .i64 0, .int .i64 0, .int .i64 0, .int .i64 0, .int .i64 0] 64)) hb); clear hb)
  obtain ⟨w3, hw3⟩ : ∃ w3, w3 = w2.alloc (.cells #[.int .i64 b, .int .i64 si, .int .i64 wi, .int .i64 z, .int .i64 wa] 23) := ⟨_, rfl⟩
  have HB_3 : Hid (Below w.heap.size w w3.drew) := by show Below _ _ _; rw [hw3]; exact HB2.out.drew
  have HR_3 : Hid (w3.drew.heap[w.heap.size]? = some (.cells #[.int .u32 0, .int .u32 0, .int .i64 0, .int .i64 0, .int .i64 0, .int .i64 0, .int .i64 0, .int .i64 0, .int .i64 0] 64 (0, 0))) := by show _ = _; rw [hw3]; exact HR2.out
  have HO3 : Hid (w3.heap[w2.heap.size]? = some (.cells #[.int .i64 b, .int .i64 si, .int .i64 wi, .int .i64 z, .int .i64 wa] 23 (0, 0))) := by show _ = _; rw [hw3]; exact HO2.out
  have HE_3 : Hid (Below w3.heap.size w3 w3.drew) := (bel0 w3).drew
  have HLT : Hid (w.heap.size < w3.heap.size) := lt_at HR_3.out
  have HLE : Hid (w.heap.size ≤ w3.heap.size) := Nat.le_of_lt HLT.out
  rw [← hw3]
  clear hw3
  refine' region_shared (fun W => Below w.heap.size w W ∧ W.heap[w.heap.size]? = some (.cells #[.int .u32 0, .int .u32 0, .int .i64 0, .int .i64 0, .int .i64 0, .int .i64 0, .int .i64 0, .int .i64 0, .int .i64 0] 64 (0, 0)) ∧ W.heap[w3.heap.size]? = some (.cells #[.int .u32 fr, .int .u32 tt, .int .i64 (i.toNat : Int), .int .i64 (j.toNat : Int), .int .i64 b, .int .i64 si, .int .i64 wi, .int .i64 z, .int .i64 wa] 64 (0, 0))) _ ?cont ?reg
  case reg =>
    intro hK
    refine rests_begin (From w3) (by kernel_rfl) ?_
    refine rests_take 0 (oi := _) (v := ?_) (by simp only [List.getElem?_toArray, List.getElem?_cons_zero]; rfl) (by kernel_rfl) (by kernel_rfl) (by kernel_rfl) (by exact fun _ _ _ h => h) (HE_3.out) (by rfl) ?_ ?_; rotate_left; (· intro W HW; go_simp; try with_reducible rfl)
    simp only [Act.put, List.setIfInBounds_toArray, List.set_cons_zero, List.set_cons_succ]
    refine rests_take 1 (oi := _) (v := ?_) (by simp only [List.getElem?_toArray, List.getElem?_cons_succ, List.getElem?_cons_zero]; rfl) (by kernel_rfl) (by kernel_rfl) (by kernel_rfl) (by exact fun _ _ _ h => h) (HE_3.out) (by rfl) ?_ ?_; rotate_left; (· intro W HW; go_simp; try with_reducible rfl)
    simp only [Act.put, List.setIfInBounds_toArray, List.set_cons_zero, List.set_cons_succ]
    refine rests_take 3 (oi := _) (v := ?_) (by simp only [List.getElem?_toArray, List.getElem?_cons_succ, List.getElem?_cons_zero]; rfl) (by kernel_rfl) (by kernel_rfl) (by kernel_rfl) (by exact fun _ _ _ h => h) (HE_3.out) (by rfl) ?_ ?_; rotate_left; (· intro W HW; go_simp; try with_reducible rfl)
    simp only [Act.put, List.setIfInBounds_toArray, List.set_cons_zero, List.set_cons_succ]
    refine rests_take 4 (oi := _) (v := ?_) (by simp only [List.getElem?_toArray, List.getElem?_cons_succ, List.getElem?_cons_zero]; rfl) (by kernel_rfl) (by kernel_rfl) (by kernel_rfl) (by exact fun _ _ _ h => h) (HE_3.out) (by rfl) ?_ ?_; rotate_left; (· intro W HW; go_simp; try with_reducible rfl)
    simp only [Act.put, List.setIfInBounds_toArray, List.set_cons_zero, List.set_cons_succ]
    refine rests_take 6 (oi := _) (v := ?_) (by simp only [List.getElem?_toArray, List.getElem?_cons_succ, List.getElem?_cons_zero]; rfl) (by kernel_rfl) (by kernel_rfl) (by kernel_rfl) (by exact fun _ _ _ h => h) (HE_3.out) (by rfl) ?_ ?_; rotate_left; (· intro W HW; go_simp; try with_reducible rfl)
    simp only [Act.put, List.setIfInBounds_toArray, List.set_cons_zero, List.set_cons_succ]
    refine rests_take 7 (oi := _) (v := ?_) (by simp only [List.getElem?_toArray, List.getElem?_cons_succ, List.getElem?_cons_zero]; rfl) (by kernel_rfl) (by kernel_rfl) (by kernel_rfl) (by exact fun _ _ _ h => h) (HE_3.out) (by rfl) ?_ ?_; rotate_left; (· intro W HW; go_simp; try with_reducible rfl)
    simp only [Act.put, List.setIfInBounds_toArray, List.set_cons_zero, List.set_cons_succ]
    refine rests_take 8 (oi := _) (v := ?_) (by simp only [List.getElem?_toArray, List.getElem?_cons_succ, List.getElem?_cons_zero]; rfl) (by kernel_rfl) (by kernel_rfl) (by kernel_rfl) (by exact fun _ _ _ h => h) (HE_3.out) (by rfl) ?_ ?_; rotate_left; (· intro W HW; go_simp; try with_reducible rfl)
    simp only [Act.put, List.setIfInBounds_toArray, List.set_cons_zero, List.set_cons_succ]
    refine rests_take 9 (oi := _) (v := ?_) (by simp only [List.getElem?_toArray, List.getElem?_cons_succ, List.getElem?_cons_zero]; rfl) (by kernel_rfl) (by kernel_rfl) (by kernel_rfl) (by exact fun _ _ _ h => h) (HE_3.out) (by rfl) ?_ ?_; rotate_left; (· intro W HW; go_simp; try with_reducible rfl)
    simp only [Act.put, List.setIfInBounds_toArray, List.set_cons_zero, List.set_cons_succ]
    refine rests_take 10 (oi := _) (v := ?_) (by simp only [List.getElem?_toArray, List.getElem?_cons_succ, List.getElem?_cons_zero]; rfl) (by kernel_rfl) (by kernel_rfl) (by kernel_rfl) (by exact fun _ _ _ h => h) (HE_3.out) (by rfl) ?_ ?_; rotate_left; (· intro W HW; go_simp; try with_reducible rfl)
    simp only [Act.put, List.setIfInBounds_toArray, List.set_cons_zero, List.set_cons_succ]
    refine rests_take 11 (oi := _) (v := ?_) (by simp only [List.getElem?_toArray, List.getElem?_cons_succ, List.getElem?_cons_zero]; rfl) (by kernel_rfl) (by kernel_rfl) (by kernel_rfl) (by exact fun _ _ _ h => h) (HE_3.out) (by rfl) ?_ ?_; rotate_left; (· intro W HW; go_simp; try with_reducible rfl)
    simp only [Act.put, List.setIfInBounds_toArray, List.set_cons_zero, List.set_cons_succ]
    refine rests_take 12 (oi := _) (v := ?_) (by simp only [List.getElem?_toArray, List.getElem?_cons_succ, List.getElem?_cons_zero]; rfl) (by kernel_rfl) (by kernel_rfl) (by kernel_rfl) (by exact fun _ _ _ h => h) (HE_3.out) (by rfl) ?_ ?_; rotate_left; (· intro W HW; go_simp; try with_reducible rfl)
    simp only [Act.put, List.setIfInBounds_toArray, List.set_cons_zero, List.set_cons_succ]
    refine rests_loadB 13 (oi := _) (by simp only [List.getElem?_toArray, List.getElem?_cons_succ, List.getElem?_cons_zero]; rfl) (by kernel_rfl) (by kernel_rfl) (by kernel_rfl) #[.int .i64 b, .int .i64 si, .int .i64 wi, .int .i64 z, .int .i64 wa] (by exact fun _ _ _ h => h) (HE_3.out) (by rfl) 23 (.tmp 4) rfl w2.heap.size rfl 23 (fun W HW => keep_at HO3.out HW) _ Tryz.underlying23 rfl (by kernel_rfl) ?_
    simp only [Act.put, List.setIfInBounds_toArray, List.set_cons_zero, List.set_cons_succ]
    refine rests_two 2 15 (oi := _) (oj := _) (by simp only [List.getElem?_toArray, List.getElem?_cons_succ, List.getElem?_cons_zero]; rfl) (by simp only [List.getElem?_toArray, List.getElem?_cons_succ, List.getElem?_cons_zero]; rfl) (by kernel_rfl) (by rfl) (by rfl) ?_ ?_
    · refine wp_enter (f := 86) (args := #[.string (s.extract 0 s.size)]) (by go_simp) (HF.out (w3.drew)) ?_
      rintro e w' ⟨rfl, hw'⟩; rw [hw']; clear hw'; refine ⟨_, rfl, HE_3.out, ?_⟩
      simp only [Act.put, List.setIfInBounds_toArray, List.set_cons_zero, List.set_cons_succ]
      refine rests_two 5 15 (oi := _) (oj := _) (by simp only [List.getElem?_toArray, List.getElem?_cons_succ, List.getElem?_cons_zero]; rfl) (by simp only [List.getElem?_toArray, List.getElem?_cons_succ, List.getElem?_cons_zero]; rfl) (by kernel_rfl) (by rfl) (by rfl) ?_ ?_
      · refine wp_enter (f := 86) (args := #[.string (s.extract 4 s.size)]) (by go_simp) (HT.out (w3.drew)) ?_
        rintro e w' ⟨rfl, hw'⟩; rw [hw']; clear hw'; refine ⟨_, rfl, HE_3.out, ?_⟩
        simp only [Act.put, List.setIfInBounds_toArray, List.set_cons_zero, List.set_cons_succ]
        refine rests_take 14 (oi := _) (v := ?_) (by simp only [List.getElem?_toArray, List.getElem?_cons_succ, List.getElem?_cons_zero]; rfl) (by kernel_rfl) (by kernel_rfl) (by kernel_rfl) (by exact fun _ _ _ h => h) (HE_3.out) (by rfl) ?_ ?_; rotate_left; (· intro W HW; go_simp; try with_reducible rfl)
        simp only [Act.put, List.setIfInBounds_toArray, List.set_cons_zero, List.set_cons_succ]
        refine rests_run 15 (oi := _) (by simp only [List.getElem?_toArray, List.getElem?_cons_succ, List.getElem?_cons_zero]; rfl) (by kernel_rfl) (by rfl) (.pointer (some ⟨w3.heap.size, 0, none⟩)) ((w3.drew).alloc (.cells #[.int .u32 0, .int .u32 0, .int .i64 0, .int .i64 0, .int .i64 0, .int .i64 0, .int .i64 0, .int .i64 0, .int .i64 0] 64)) (by go_simp) ⟨bal HE_3.out _, ?_⟩
        have HB_4 := Lib.hid (bal (w := w3.drew) HB_3.out (.cells #[.int .u32 0, .int .u32 0, .int .i64 0, .int .i64 0, .int .i64 0, .int .i64 0, .int .i64 0, .int .i64 0, .int .i64 0] 64)); have HE_4 := Lib.hid (bal (w := w3.drew) HE_3.out (.cells #[.int .u32 0, .int .u32 0, .int .i64 0, .int .i64 0, .int .i64 0, .int .i64 0, .int .i64 0, .int .i64 0, .int .i64 0] 64)); have HR_4 := Lib.hid (keep_at (w := w3.drew) HR_3.out (bal (bel0 (w3.drew)) (.cells #[.int .u32 0, .int .u32 0, .int .i64 0, .int .i64 0, .int .i64 0, .int .i64 0, .int .i64 0, .int .i64 0, .int .i64 0] 64))); have HX_4 := Lib.hid (heap_alloc_new (w3.drew) (.cells #[.int .u32 0, .int .u32 0, .int .i64 0, .int .i64 0, .int .i64 0, .int .i64 0, .int .i64 0, .int .i64 0, .int .i64 0] 64))
        simp only [Act.put, List.setIfInBounds_toArray, List.set_cons_zero, List.set_cons_succ]
        refine rests_storeB 16 (oi := _) (by simp only [List.getElem?_toArray, List.getElem?_cons_succ, List.getElem?_cons_zero]; rfl) (by kernel_rfl) (by rfl) 64 (.tmp 6) (.tmp 31) rfl w3.heap.size #[.int .u32 fr, .int .u32 tt, .int .i64 (i.toNat : Int), .int .i64 (j.toNat : Int), .int .i64 b, .int .i64 si, .int .i64 wi, .int .i64 z, .int .i64 wa] rfl rfl 64 _ HX_4.out (by kernel_rfl) rfl HONE.out ?_
        intro w5 hg5 hz5 hh5; have HB_5 := Lib.hid (bel_grown HB_4.out hg5 HLE.out); have HE_5 := Lib.hid (bel_grown HE_4.out hg5 (Nat.le_refl _)); have HR_5 := Lib.hid (keep_grown HR_4.out hg5 (Nat.ne_of_lt HLT.out)); have HX_5 := Lib.hid hh5; refine ⟨HE_5.out, ?_⟩; clear hg5 hz5 hh5
        simp only [Act.put, List.setIfInBounds_toArray, List.set_cons_zero, List.set_cons_succ]
        refine rests_done (by kernel_rfl) ?_
        exact hK _ ⟨HB_5.out, HR_5.out, HX_5.out⟩
      · refine wp_val (v := .pointer (some ⟨w3.heap.size, 0, none⟩)) (w' := (w3.drew).alloc (.cells #[.int .u32 0, .int .u32 0, .int .i64 0, .int .i64 0, .int .i64 0, .int .i64 0, .int .i64 0, .int .i64 0, .int .i64 0] 64)) (by go_simp) ⟨bal HE_3.out _, ?_⟩
        have HB_4 := Lib.hid (bal (w := w3.drew) HB_3.out (.cells #[.int .u32 0, .int .u32 0, .int .i64 0, .int .i64 0, .int .i64 0, .int .i64 0, .int .i64 0, .int .i64 0, .int .i64 0] 64)); have HE_4 := Lib.hid (bal (w := w3.drew) HE_3.out (.cells #[.int .u32 0, .int .u32 0, .int .i64 0, .int .i64 0, .int .i64 0, .int .i64 0, .int .i64 0, .int .i64 0, .int .i64 0] 64)); have HR_4 := Lib.hid (keep_at (w := w3.drew) HR_3.out (bal (bel0 (w3.drew)) (.cells #[.int .u32 0, .int .u32 0, .int .i64 0, .int .i64 0, .int .i64 0, .int .i64 0, .int .i64 0, .int .i64 0, .int .i64 0] 64))); have HX_4 := Lib.hid (heap_alloc_new (w3.drew) (.cells #[.int .u32 0, .int .u32 0, .int .i64 0, .int .i64 0, .int .i64 0, .int .i64 0, .int .i64 0, .int .i64 0, .int .i64 0] 64))
        simp only [Act.put, List.setIfInBounds_toArray, List.set_cons_zero, List.set_cons_succ]
        refine rests_call 5 (oi := _) (by simp only [List.getElem?_toArray, List.getElem?_cons_succ, List.getElem?_cons_zero]; rfl) 86 #[.string (s.extract 4 s.size)] _ (by kernel_rfl) (by rfl) (by go_simp) (HT.out (((w3.drew).alloc (.cells #[.int .u32 0, .int .u32 0, .int .i64 0, .int .i64 0, .int .i64 0, .int .i64 0, .int .i64 0, .int .i64 0, .int .i64 0] 64)))) ?_
        rintro e w' ⟨rfl, hw'⟩; rw [hw']; clear hw'; refine ⟨_, rfl, HE_4.out, ?_⟩
        simp only [Act.put, List.setIfInBounds_toArray, List.set_cons_zero, List.set_cons_succ]
        refine rests_take 14 (oi := _) (v := ?_) (by simp only [List.getElem?_toArray, List.getElem?_cons_succ, List.getElem?_cons_zero]; rfl) (by kernel_rfl) (by kernel_rfl) (by kernel_rfl) (by exact fun _ _ _ h => h) (HE_4.out) (by rfl) ?_ ?_; rotate_left; (· intro W HW; go_simp; try with_reducible rfl)
        simp only [Act.put, List.setIfInBounds_toArray, List.set_cons_zero, List.set_cons_succ]
        refine rests_storeB 16 (oi := _) (by simp only [List.getElem?_toArray, List.getElem?_cons_succ, List.getElem?_cons_zero]; rfl) (by kernel_rfl) (by rfl) 64 (.tmp 6) (.tmp 31) rfl w3.heap.size #[.int .u32 fr, .int .u32 tt, .int .i64 (i.toNat : Int), .int .i64 (j.toNat : Int), .int .i64 b, .int .i64 si, .int .i64 wi, .int .i64 z, .int .i64 wa] rfl rfl 64 _ HX_4.out (by kernel_rfl) rfl HONE.out ?_
        intro w5 hg5 hz5 hh5; have HB_5 := Lib.hid (bel_grown HB_4.out hg5 HLE.out); have HE_5 := Lib.hid (bel_grown HE_4.out hg5 (Nat.le_refl _)); have HR_5 := Lib.hid (keep_grown HR_4.out hg5 (Nat.ne_of_lt HLT.out)); have HX_5 := Lib.hid hh5; refine ⟨HE_5.out, ?_⟩; clear hg5 hz5 hh5
        simp only [Act.put, List.setIfInBounds_toArray, List.set_cons_zero, List.set_cons_succ]
        refine rests_done (by kernel_rfl) ?_
        exact hK _ ⟨HB_5.out, HR_5.out, HX_5.out⟩
    · refine wp_val (v := .pointer (some ⟨w3.heap.size, 0, none⟩)) (w' := (w3.drew).alloc (.cells #[.int .u32 0, .int .u32 0, .int .i64 0, .int .i64 0, .int .i64 0, .int .i64 0, .int .i64 0, .int .i64 0, .int .i64 0] 64)) (by go_simp) ⟨bal HE_3.out _, ?_⟩
      have HB_4 := Lib.hid (bal (w := w3.drew) HB_3.out (.cells #[.int .u32 0, .int .u32 0, .int .i64 0, .int .i64 0, .int .i64 0, .int .i64 0, .int .i64 0, .int .i64 0, .int .i64 0] 64)); have HE_4 := Lib.hid (bal (w := w3.drew) HE_3.out (.cells #[.int .u32 0, .int .u32 0, .int .i64 0, .int .i64 0, .int .i64 0, .int .i64 0, .int .i64 0, .int .i64 0, .int .i64 0] 64)); have HR_4 := Lib.hid (keep_at (w := w3.drew) HR_3.out (bal (bel0 (w3.drew)) (.cells #[.int .u32 0, .int .u32 0, .int .i64 0, .int .i64 0, .int .i64 0, .int .i64 0, .int .i64 0, .int .i64 0, .int .i64 0] 64))); have HX_4 := Lib.hid (heap_alloc_new (w3.drew) (.cells #[.int .u32 0, .int .u32 0, .int .i64 0, .int .i64 0, .int .i64 0, .int .i64 0, .int .i64 0, .int .i64 0, .int .i64 0] 64))
      simp only [Act.put, List.setIfInBounds_toArray, List.set_cons_zero, List.set_cons_succ]
      refine rests_call 2 (oi := _) (by simp only [List.getElem?_toArray, List.getElem?_cons_succ, List.getElem?_cons_zero]; rfl) 86 #[.string (s.extract 0 s.size)] _ (by kernel_rfl) (by rfl) (by go_simp) (HF.out (((w3.drew).alloc (.cells #[.int .u32 0, .int .u32 0, .int .i64 0, .int .i64 0, .int .i64 0, .int .i64 0, .int .i64 0, .int .i64 0, .int .i64 0] 64)))) ?_
      rintro e w' ⟨rfl, hw'⟩; rw [hw']; clear hw'; refine ⟨_, rfl, HE_4.out, ?_⟩
      simp only [Act.put, List.setIfInBounds_toArray, List.set_cons_zero, List.set_cons_succ]
      refine rests_call 5 (oi := _) (by simp only [List.getElem?_toArray, List.getElem?_cons_succ, List.getElem?_cons_zero]; rfl) 86 #[.string (s.extract 4 s.size)] _ (by kernel_rfl) (by rfl) (by go_simp) (HT.out (((w3.drew).alloc (.cells #[.int .u32 0, .int .u32 0, .int .i64 0, .int .i64 0, .int .i64 0, .int .i64 0, .int .i64 0, .int .i64 0, .int .i64 0] 64)))) ?_
      rintro e w' ⟨rfl, hw'⟩; rw [hw']; clear hw'; refine ⟨_, rfl, HE_4.out, ?_⟩
      simp only [Act.put, List.setIfInBounds_toArray, List.set_cons_zero, List.set_cons_succ]
      refine rests_take 14 (oi := _) (v := ?_) (by simp only [List.getElem?_toArray, List.getElem?_cons_succ, List.getElem?_cons_zero]; rfl) (by kernel_rfl) (by kernel_rfl) (by kernel_rfl) (by exact fun _ _ _ h => h) (HE_4.out) (by rfl) ?_ ?_; rotate_left; (· intro W HW; go_simp; try with_reducible rfl)
      simp only [Act.put, List.setIfInBounds_toArray, List.set_cons_zero, List.set_cons_succ]
      refine rests_storeB 16 (oi := _) (by simp only [List.getElem?_toArray, List.getElem?_cons_succ, List.getElem?_cons_zero]; rfl) (by kernel_rfl) (by rfl) 64 (.tmp 6) (.tmp 31) rfl w3.heap.size #[.int .u32 fr, .int .u32 tt, .int .i64 (i.toNat : Int), .int .i64 (j.toNat : Int), .int .i64 b, .int .i64 si, .int .i64 wi, .int .i64 z, .int .i64 wa] rfl rfl 64 _ HX_4.out (by kernel_rfl) rfl HONE.out ?_
      intro w5 hg5 hz5 hh5; have HB_5 := Lib.hid (bel_grown HB_4.out hg5 HLE.out); have HE_5 := Lib.hid (bel_grown HE_4.out hg5 (Nat.le_refl _)); have HR_5 := Lib.hid (keep_grown HR_4.out hg5 (Nat.ne_of_lt HLT.out)); have HX_5 := Lib.hid hh5; refine ⟨HE_5.out, ?_⟩; clear hg5 hz5 hh5
      simp only [Act.put, List.setIfInBounds_toArray, List.set_cons_zero, List.set_cons_succ]
      refine rests_done (by kernel_rfl) ?_
      exact hK _ ⟨HB_5.out, HR_5.out, HX_5.out⟩
  case cont =>
    rintro w4 ⟨hb4, hr4, hx4⟩
    have HB_4 := Lib.hid hb4
    have HR_4 := Lib.hid hr4
    have HX_4 := Lib.hid hx4
    clear hb4 hr4 hx4
    go_wp2_with (first
      | (go_at_call 94; (with_reducible refine (HM.out _).mono ?_); rintro e wm ⟨rfl, hb⟩; have HBM := Lib.hid (bel_trans HB_4.out hb); have HRM := Lib.hid (keep_at HR_4.out hb); have HXM := Lib.hid (keep_at HX_4.out hb); clear hb)
      | (with_reducible refine wpList_loadG (by kernel_rfl) 64 (.tmp 6) rfl w3.heap.size rfl 64 #[.int .u32 fr, .int .u32 tt, .int .i64 (i.toNat : Int), .int .i64 (j.toNat : Int), .int .i64 b, .int .i64 si, .int .i64 wi, .int .i64 z, .int .i64 wa] HX_4.out _ Tryz.underlying64 rfl (by kernel_rfl) ?_)
      | ((with_reducible refine wpList_storeB rfl 64 (.tmp 2) _ rfl w.heap.size #[.int .u32 0, .int .u32 0, .int .i64 0, .int .i64 0, .int .i64 0, .int .i64 0, .int .i64 0, .int .i64 0, .int .i64 0] rfl rfl 64 _ HRM.out (by kernel_rfl) (by kernel_rfl) (by kernel_rfl) ?_); intro wz hgz hzz hhz; have HBZ := Lib.hid (bel_grown HBM.out hgz (Nat.le_refl _)); have HRZ := Lib.hid hhz; clear hgz hzz hhz))
    exact ⟨rfl, _, results_cell2 rfl _ _ w.heap.size _ _ _ _ (.bool false) rfl rfl HRZ.out Tryz.underlying64 rfl (by kernel_rfl), setupR_none rfl HBZ.out⟩

set_option maxRecDepth 100000 in
set_option maxHeartbeats 16000000 in
theorem SGet_good (s : ByteArray) (w : World) (fr tt b si wi z wa : Int) (i j : UInt8) (h8 : 8 < s.size) (h9 : 9 < s.size) (e8 : s[8] = i) (e9 : s[9] = j) (hm : fineS ⟨fr, tt, (i.toNat : Int), (j.toNat : Int), ⟨b, si, wi, z, wa⟩⟩ = true)
    (ho : ∀ w, Calls Tryz.prog 38 #[.string (s.extract 10 s.size)] w fun e w' => e = .returned (.tuple #[.agg #[.int .i64 b, .int .i64 si, .int .i64 wi, .int .i64 z, .int .i64 wa], .bool true]) ∧ Below w.heap.size w w')
    (hf : ∀ w, Calls Tryz.prog 86 #[.string (s.extract 0 s.size)] w fun e w' => e = .returned (.int .u32 fr) ∧ w' = w) (ht : ∀ w, Calls Tryz.prog 86 #[.string (s.extract 4 s.size)] w fun e w' => e = .returned (.int .u32 tt) ∧ w' = w) :
    Calls Tryz.prog 56 #[.string s] w (SetupR (some ⟨fr, tt, (i.toNat : Int), (j.toNat : Int), ⟨b, si, wi, z, wa⟩⟩) w) := by
  have hil := i.toNat_lt
  have hjl := j.toNat_lt
  have i1 : ¬ (s.size : Int) < 10 := by omega
  have i2 : (8 : Int) < (s.size : Int) := by omega
  have i3 : (9 : Int) < (s.size : Int) := by omega
  have i5 : (4 : Int) ≤ (s.size : Int) := by omega
  have i6 : (10 : Int) ≤ (s.size : Int) := by omega
  have v1 : IntKind.i64.wrap (i.toNat : Int) = (i.toNat : Int) := IntWalk.i64_in _ (by omega)
  have v2 : IntKind.i64.wrap (j.toNat : Int) = (j.toNat : Int) := IntWalk.i64_in _ (by omega)
  have HONE : Hid ((#[.int .u32 fr, .int .u32 tt, .int .i64 (i.toNat : Int), .int .i64 (j.toNat : Int), .int .i64 b, .int .i64 si, .int .i64 wi, .int .i64 z, .int .i64 wa] : Array Value).all (·.oneCell') = true) := by show _ = true; simp [Value.oneCell']
  have HF := Lib.hid hf
  have HT := Lib.hid ht
  have HGO := Lib.hid ho
  have HM := Lib.hid (show ∀ w, Calls Tryz.prog 94 #[.agg #[.int .u32 fr, .int .u32 tt, .int .i64 (i.toNat : Int), .int .i64 (j.toNat : Int), .int .i64 b, .int .i64 si, .int .i64 wi, .int .i64 z, .int .i64 wa]] w fun e w' => e = .returned (.bool true) ∧ Below w.heap.size w w' from fun w => by have h := SareFine_any ⟨fr, tt, (i.toNat : Int), (j.toNat : Int), ⟨b, si, wi, z, wa⟩⟩ w; rw [hm] at h; exact h)
  clear hm
  clear hf ht ho hil hjl
  go_enter Tryz.func56, Tryz.ntmps56
  go_wp2_with (go_at_call 38; (with_reducible refine (HGO.out _).mono ?_); rintro e w2 ⟨rfl, hb⟩; have HB2 := Lib.hid (bal (bel_trans (bal (bel0 w) (.cells #[.int .u32 0, .int .u32 0, .int .i64 0, .int .i64 0, .int .i64 0, .int .i64 0, .int .i64 0, .int .i64 0, .int .i64 0] 64)) hb) (.cells #[.int .i64 b, .int .i64 si, .int .i64 wi, .int .i64 z, .int .i64 wa] 23)); have HR2 := Lib.hid (keep_at (keep_at (heap_alloc_new w (.cells #[.int .u32 0, .int .u32 0, .int .i64 0, .int .i64 0, .int .i64 0, .int .i64 0, .int .i64 0, .int .i64 0, .int .i64 0] 64)) hb) (bal (bel0 w2) (.cells #[.int .i64 b, .int .i64 si, .int .i64 wi, .int .i64 z, .int .i64 wa] 23))); have HO2 := Lib.hid (heap_alloc_new w2 (.cells #[.int .i64 b, .int .i64 si, .int .i64 wi, .int .i64 z, .int .i64 wa] 23)); have HLT2 : Hid (w.heap.size < w2.heap.size) := lt_at (keep_at (heap_alloc_new w (.cells #[.int .u32 0, .int .u32 0, .int .i64 0, .int .i64 0, .int .i64 0, .int .i64 0, .int .i64 0, .int .i64 0, .int .i64 0] 64)) hb); clear hb)
  obtain ⟨w3, hw3⟩ : ∃ w3, w3 = w2.alloc (.cells #[.int .i64 b, .int .i64 si, .int .i64 wi, .int .i64 z, .int .i64 wa] 23) := ⟨_, rfl⟩
  have HB_3 : Hid (Below w.heap.size w w3.drew) := by show Below _ _ _; rw [hw3]; exact HB2.out.drew
  have HR_3 : Hid (w3.drew.heap[w.heap.size]? = some (.cells #[.int .u32 0, .int .u32 0, .int .i64 0, .int .i64 0, .int .i64 0, .int .i64 0, .int .i64 0, .int .i64 0, .int .i64 0] 64 (0, 0))) := by show _ = _; rw [hw3]; exact HR2.out
  have HO3 : Hid (w3.heap[w2.heap.size]? = some (.cells #[.int .i64 b, .int .i64 si, .int .i64 wi, .int .i64 z, .int .i64 wa] 23 (0, 0))) := by show _ = _; rw [hw3]; exact HO2.out
  have HE_3 : Hid (Below w3.heap.size w3 w3.drew) := (bel0 w3).drew
  have HLT : Hid (w.heap.size < w3.heap.size) := lt_at HR_3.out
  have HLE : Hid (w.heap.size ≤ w3.heap.size) := Nat.le_of_lt HLT.out
  rw [← hw3]
  clear hw3
  refine' region_shared (fun W => Below w.heap.size w W ∧ W.heap[w.heap.size]? = some (.cells #[.int .u32 0, .int .u32 0, .int .i64 0, .int .i64 0, .int .i64 0, .int .i64 0, .int .i64 0, .int .i64 0, .int .i64 0] 64 (0, 0)) ∧ W.heap[w3.heap.size]? = some (.cells #[.int .u32 fr, .int .u32 tt, .int .i64 (i.toNat : Int), .int .i64 (j.toNat : Int), .int .i64 b, .int .i64 si, .int .i64 wi, .int .i64 z, .int .i64 wa] 64 (0, 0))) _ ?cont ?reg
  case reg =>
    intro hK
    refine rests_begin (From w3) (by kernel_rfl) ?_
    refine rests_take 0 (oi := _) (v := ?_) (by simp only [List.getElem?_toArray, List.getElem?_cons_zero]; rfl) (by kernel_rfl) (by kernel_rfl) (by kernel_rfl) (by exact fun _ _ _ h => h) (HE_3.out) (by rfl) ?_ ?_; rotate_left; (· intro W HW; go_simp; try with_reducible rfl)
    simp only [Act.put, List.setIfInBounds_toArray, List.set_cons_zero, List.set_cons_succ]
    refine rests_take 1 (oi := _) (v := ?_) (by simp only [List.getElem?_toArray, List.getElem?_cons_succ, List.getElem?_cons_zero]; rfl) (by kernel_rfl) (by kernel_rfl) (by kernel_rfl) (by exact fun _ _ _ h => h) (HE_3.out) (by rfl) ?_ ?_; rotate_left; (· intro W HW; go_simp; try with_reducible rfl)
    simp only [Act.put, List.setIfInBounds_toArray, List.set_cons_zero, List.set_cons_succ]
    refine rests_take 3 (oi := _) (v := ?_) (by simp only [List.getElem?_toArray, List.getElem?_cons_succ, List.getElem?_cons_zero]; rfl) (by kernel_rfl) (by kernel_rfl) (by kernel_rfl) (by exact fun _ _ _ h => h) (HE_3.out) (by rfl) ?_ ?_; rotate_left; (· intro W HW; go_simp; try with_reducible rfl)
    simp only [Act.put, List.setIfInBounds_toArray, List.set_cons_zero, List.set_cons_succ]
    refine rests_take 4 (oi := _) (v := ?_) (by simp only [List.getElem?_toArray, List.getElem?_cons_succ, List.getElem?_cons_zero]; rfl) (by kernel_rfl) (by kernel_rfl) (by kernel_rfl) (by exact fun _ _ _ h => h) (HE_3.out) (by rfl) ?_ ?_; rotate_left; (· intro W HW; go_simp; try with_reducible rfl)
    simp only [Act.put, List.setIfInBounds_toArray, List.set_cons_zero, List.set_cons_succ]
    refine rests_take 6 (oi := _) (v := ?_) (by simp only [List.getElem?_toArray, List.getElem?_cons_succ, List.getElem?_cons_zero]; rfl) (by kernel_rfl) (by kernel_rfl) (by kernel_rfl) (by exact fun _ _ _ h => h) (HE_3.out) (by rfl) ?_ ?_; rotate_left; (· intro W HW; go_simp; try with_reducible rfl)
    simp only [Act.put, List.setIfInBounds_toArray, List.set_cons_zero, List.set_cons_succ]
    refine rests_take 7 (oi := _) (v := ?_) (by simp only [List.getElem?_toArray, List.getElem?_cons_succ, List.getElem?_cons_zero]; rfl) (by kernel_rfl) (by kernel_rfl) (by kernel_rfl) (by exact fun _ _ _ h => h) (HE_3.out) (by rfl) ?_ ?_; rotate_left; (· intro W HW; go_simp; try with_reducible rfl)
    simp only [Act.put, List.setIfInBounds_toArray, List.set_cons_zero, List.set_cons_succ]
    refine rests_take 8 (oi := _) (v := ?_) (by simp only [List.getElem?_toArray, List.getElem?_cons_succ, List.getElem?_cons_zero]; rfl) (by kernel_rfl) (by kernel_rfl) (by kernel_rfl) (by exact fun _ _ _ h => h) (HE_3.out) (by rfl) ?_ ?_; rotate_left; (· intro W HW; go_simp; try with_reducible rfl)
    simp only [Act.put, List.setIfInBounds_toArray, List.set_cons_zero, List.set_cons_succ]
    refine rests_take 9 (oi := _) (v := ?_) (by simp only [List.getElem?_toArray, List.getElem?_cons_succ, List.getElem?_cons_zero]; rfl) (by kernel_rfl) (by kernel_rfl) (by kernel_rfl) (by exact fun _ _ _ h => h) (HE_3.out) (by rfl) ?_ ?_; rotate_left; (· intro W HW; go_simp; try with_reducible rfl)
    simp only [Act.put, List.setIfInBounds_toArray, List.set_cons_zero, List.set_cons_succ]
    refine rests_take 10 (oi := _) (v := ?_) (by simp only [List.getElem?_toArray, List.getElem?_cons_succ, List.getElem?_cons_zero]; rfl) (by kernel_rfl) (by kernel_rfl) (by kernel_rfl) (by exact fun _ _ _ h => h) (HE_3.out) (by rfl) ?_ ?_; rotate_left; (· intro W HW; go_simp; try with_reducible rfl)
    simp only [Act.put, List.setIfInBounds_toArray, List.set_cons_zero, List.set_cons_succ]
    refine rests_take 11 (oi := _) (v := ?_) (by simp only [List.getElem?_toArray, List.getElem?_cons_succ, List.getElem?_cons_zero]; rfl) (by kernel_rfl) (by kernel_rfl) (by kernel_rfl) (by exact fun _ _ _ h => h) (HE_3.out) (by rfl) ?_ ?_; rotate_left; (· intro W HW; go_simp; try with_reducible rfl)
    simp only [Act.put, List.setIfInBounds_toArray, List.set_cons_zero, List.set_cons_succ]
    refine rests_take 12 (oi := _) (v := ?_) (by simp only [List.getElem?_toArray, List.getElem?_cons_succ, List.getElem?_cons_zero]; rfl) (by kernel_rfl) (by kernel_rfl) (by kernel_rfl) (by exact fun _ _ _ h => h) (HE_3.out) (by rfl) ?_ ?_; rotate_left; (· intro W HW; go_simp; try with_reducible rfl)
    simp only [Act.put, List.setIfInBounds_toArray, List.set_cons_zero, List.set_cons_succ]
    refine rests_loadB 13 (oi := _) (by simp only [List.getElem?_toArray, List.getElem?_cons_succ, List.getElem?_cons_zero]; rfl) (by kernel_rfl) (by kernel_rfl) (by kernel_rfl) #[.int .i64 b, .int .i64 si, .int .i64 wi, .int .i64 z, .int .i64 wa] (by exact fun _ _ _ h => h) (HE_3.out) (by rfl) 23 (.tmp 4) rfl w2.heap.size rfl 23 (fun W HW => keep_at HO3.out HW) _ Tryz.underlying23 rfl (by kernel_rfl) ?_
    simp only [Act.put, List.setIfInBounds_toArray, List.set_cons_zero, List.set_cons_succ]
    refine rests_two 2 15 (oi := _) (oj := _) (by simp only [List.getElem?_toArray, List.getElem?_cons_succ, List.getElem?_cons_zero]; rfl) (by simp only [List.getElem?_toArray, List.getElem?_cons_succ, List.getElem?_cons_zero]; rfl) (by kernel_rfl) (by rfl) (by rfl) ?_ ?_
    · refine wp_enter (f := 86) (args := #[.string (s.extract 0 s.size)]) (by go_simp) (HF.out (w3.drew)) ?_
      rintro e w' ⟨rfl, hw'⟩; rw [hw']; clear hw'; refine ⟨_, rfl, HE_3.out, ?_⟩
      simp only [Act.put, List.setIfInBounds_toArray, List.set_cons_zero, List.set_cons_succ]
      refine rests_two 5 15 (oi := _) (oj := _) (by simp only [List.getElem?_toArray, List.getElem?_cons_succ, List.getElem?_cons_zero]; rfl) (by simp only [List.getElem?_toArray, List.getElem?_cons_succ, List.getElem?_cons_zero]; rfl) (by kernel_rfl) (by rfl) (by rfl) ?_ ?_
      · refine wp_enter (f := 86) (args := #[.string (s.extract 4 s.size)]) (by go_simp) (HT.out (w3.drew)) ?_
        rintro e w' ⟨rfl, hw'⟩; rw [hw']; clear hw'; refine ⟨_, rfl, HE_3.out, ?_⟩
        simp only [Act.put, List.setIfInBounds_toArray, List.set_cons_zero, List.set_cons_succ]
        refine rests_take 14 (oi := _) (v := ?_) (by simp only [List.getElem?_toArray, List.getElem?_cons_succ, List.getElem?_cons_zero]; rfl) (by kernel_rfl) (by kernel_rfl) (by kernel_rfl) (by exact fun _ _ _ h => h) (HE_3.out) (by rfl) ?_ ?_; rotate_left; (· intro W HW; go_simp; try with_reducible rfl)
        simp only [Act.put, List.setIfInBounds_toArray, List.set_cons_zero, List.set_cons_succ]
        refine rests_run 15 (oi := _) (by simp only [List.getElem?_toArray, List.getElem?_cons_succ, List.getElem?_cons_zero]; rfl) (by kernel_rfl) (by rfl) (.pointer (some ⟨w3.heap.size, 0, none⟩)) ((w3.drew).alloc (.cells #[.int .u32 0, .int .u32 0, .int .i64 0, .int .i64 0, .int .i64 0, .int .i64 0, .int .i64 0, .int .i64 0, .int .i64 0] 64)) (by go_simp) ⟨bal HE_3.out _, ?_⟩
        have HB_4 := Lib.hid (bal (w := w3.drew) HB_3.out (.cells #[.int .u32 0, .int .u32 0, .int .i64 0, .int .i64 0, .int .i64 0, .int .i64 0, .int .i64 0, .int .i64 0, .int .i64 0] 64)); have HE_4 := Lib.hid (bal (w := w3.drew) HE_3.out (.cells #[.int .u32 0, .int .u32 0, .int .i64 0, .int .i64 0, .int .i64 0, .int .i64 0, .int .i64 0, .int .i64 0, .int .i64 0] 64)); have HR_4 := Lib.hid (keep_at (w := w3.drew) HR_3.out (bal (bel0 (w3.drew)) (.cells #[.int .u32 0, .int .u32 0, .int .i64 0, .int .i64 0, .int .i64 0, .int .i64 0, .int .i64 0, .int .i64 0, .int .i64 0] 64))); have HX_4 := Lib.hid (heap_alloc_new (w3.drew) (.cells #[.int .u32 0, .int .u32 0, .int .i64 0, .int .i64 0, .int .i64 0, .int .i64 0, .int .i64 0, .int .i64 0, .int .i64 0] 64))
        simp only [Act.put, List.setIfInBounds_toArray, List.set_cons_zero, List.set_cons_succ]
        refine rests_storeB 16 (oi := _) (by simp only [List.getElem?_toArray, List.getElem?_cons_succ, List.getElem?_cons_zero]; rfl) (by kernel_rfl) (by rfl) 64 (.tmp 6) (.tmp 31) rfl w3.heap.size #[.int .u32 fr, .int .u32 tt, .int .i64 (i.toNat : Int), .int .i64 (j.toNat : Int), .int .i64 b, .int .i64 si, .int .i64 wi, .int .i64 z, .int .i64 wa] rfl rfl 64 _ HX_4.out (by kernel_rfl) rfl HONE.out ?_
        intro w5 hg5 hz5 hh5; have HB_5 := Lib.hid (bel_grown HB_4.out hg5 HLE.out); have HE_5 := Lib.hid (bel_grown HE_4.out hg5 (Nat.le_refl _)); have HR_5 := Lib.hid (keep_grown HR_4.out hg5 (Nat.ne_of_lt HLT.out)); have HX_5 := Lib.hid hh5; refine ⟨HE_5.out, ?_⟩; clear hg5 hz5 hh5
        simp only [Act.put, List.setIfInBounds_toArray, List.set_cons_zero, List.set_cons_succ]
        refine rests_done (by kernel_rfl) ?_
        exact hK _ ⟨HB_5.out, HR_5.out, HX_5.out⟩
      · refine wp_val (v := .pointer (some ⟨w3.heap.size, 0, none⟩)) (w' := (w3.drew).alloc (.cells #[.int .u32 0, .int .u32 0, .int .i64 0, .int .i64 0, .int .i64 0, .int .i64 0, .int .i64 0, .int .i64 0, .int .i64 0] 64)) (by go_simp) ⟨bal HE_3.out _, ?_⟩
        have HB_4 := Lib.hid (bal (w := w3.drew) HB_3.out (.cells #[.int .u32 0, .int .u32 0, .int .i64 0, .int .i64 0, .int .i64 0, .int .i64 0, .int .i64 0, .int .i64 0, .int .i64 0] 64)); have HE_4 := Lib.hid (bal (w := w3.drew) HE_3.out (.cells #[.int .u32 0, .int .u32 0, .int .i64 0, .int .i64 0, .int .i64 0, .int .i64 0, .int .i64 0, .int .i64 0, .int .i64 0] 64)); have HR_4 := Lib.hid (keep_at (w := w3.drew) HR_3.out (bal (bel0 (w3.drew)) (.cells #[.int .u32 0, .int .u32 0, .int .i64 0, .int .i64 0, .int .i64 0, .int .i64 0, .int .i64 0, .int .i64 0, .int .i64 0] 64))); have HX_4 := Lib.hid (heap_alloc_new (w3.drew) (.cells #[.int .u32 0, .int .u32 0, .int .i64 0, .int .i64 0, .int .i64 0, .int .i64 0, .int .i64 0, .int .i64 0, .int .i64 0] 64))
        simp only [Act.put, List.setIfInBounds_toArray, List.set_cons_zero, List.set_cons_succ]
        refine rests_call 5 (oi := _) (by simp only [List.getElem?_toArray, List.getElem?_cons_succ, List.getElem?_cons_zero]; rfl) 86 #[.string (s.extract 4 s.size)] _ (by kernel_rfl) (by rfl) (by go_simp) (HT.out (((w3.drew).alloc (.cells #[.int .u32 0, .int .u32 0, .int .i64 0, .int .i64 0, .int .i64 0, .int .i64 0, .int .i64 0, .int .i64 0, .int .i64 0] 64)))) ?_
        rintro e w' ⟨rfl, hw'⟩; rw [hw']; clear hw'; refine ⟨_, rfl, HE_4.out, ?_⟩
        simp only [Act.put, List.setIfInBounds_toArray, List.set_cons_zero, List.set_cons_succ]
        refine rests_take 14 (oi := _) (v := ?_) (by simp only [List.getElem?_toArray, List.getElem?_cons_succ, List.getElem?_cons_zero]; rfl) (by kernel_rfl) (by kernel_rfl) (by kernel_rfl) (by exact fun _ _ _ h => h) (HE_4.out) (by rfl) ?_ ?_; rotate_left; (· intro W HW; go_simp; try with_reducible rfl)
        simp only [Act.put, List.setIfInBounds_toArray, List.set_cons_zero, List.set_cons_succ]
        refine rests_storeB 16 (oi := _) (by simp only [List.getElem?_toArray, List.getElem?_cons_succ, List.getElem?_cons_zero]; rfl) (by kernel_rfl) (by rfl) 64 (.tmp 6) (.tmp 31) rfl w3.heap.size #[.int .u32 fr, .int .u32 tt, .int .i64 (i.toNat : Int), .int .i64 (j.toNat : Int), .int .i64 b, .int .i64 si, .int .i64 wi, .int .i64 z, .int .i64 wa] rfl rfl 64 _ HX_4.out (by kernel_rfl) rfl HONE.out ?_
        intro w5 hg5 hz5 hh5; have HB_5 := Lib.hid (bel_grown HB_4.out hg5 HLE.out); have HE_5 := Lib.hid (bel_grown HE_4.out hg5 (Nat.le_refl _)); have HR_5 := Lib.hid (keep_grown HR_4.out hg5 (Nat.ne_of_lt HLT.out)); have HX_5 := Lib.hid hh5; refine ⟨HE_5.out, ?_⟩; clear hg5 hz5 hh5
        simp only [Act.put, List.setIfInBounds_toArray, List.set_cons_zero, List.set_cons_succ]
        refine rests_done (by kernel_rfl) ?_
        exact hK _ ⟨HB_5.out, HR_5.out, HX_5.out⟩
    · refine wp_val (v := .pointer (some ⟨w3.heap.size, 0, none⟩)) (w' := (w3.drew).alloc (.cells #[.int .u32 0, .int .u32 0, .int .i64 0, .int .i64 0, .int .i64 0, .int .i64 0, .int .i64 0, .int .i64 0, .int .i64 0] 64)) (by go_simp) ⟨bal HE_3.out _, ?_⟩
      have HB_4 := Lib.hid (bal (w := w3.drew) HB_3.out (.cells #[.int .u32 0, .int .u32 0, .int .i64 0, .int .i64 0, .int .i64 0, .int .i64 0, .int .i64 0, .int .i64 0, .int .i64 0] 64)); have HE_4 := Lib.hid (bal (w := w3.drew) HE_3.out (.cells #[.int .u32 0, .int .u32 0, .int .i64 0, .int .i64 0, .int .i64 0, .int .i64 0, .int .i64 0, .int .i64 0, .int .i64 0] 64)); have HR_4 := Lib.hid (keep_at (w := w3.drew) HR_3.out (bal (bel0 (w3.drew)) (.cells #[.int .u32 0, .int .u32 0, .int .i64 0, .int .i64 0, .int .i64 0, .int .i64 0, .int .i64 0, .int .i64 0, .int .i64 0] 64))); have HX_4 := Lib.hid (heap_alloc_new (w3.drew) (.cells #[.int .u32 0, .int .u32 0, .int .i64 0, .int .i64 0, .int .i64 0, .int .i64 0, .int .i64 0, .int .i64 0, .int .i64 0] 64))
      simp only [Act.put, List.setIfInBounds_toArray, List.set_cons_zero, List.set_cons_succ]
      refine rests_call 2 (oi := _) (by simp only [List.getElem?_toArray, List.getElem?_cons_succ, List.getElem?_cons_zero]; rfl) 86 #[.string (s.extract 0 s.size)] _ (by kernel_rfl) (by rfl) (by go_simp) (HF.out (((w3.drew).alloc (.cells #[.int .u32 0, .int .u32 0, .int .i64 0, .int .i64 0, .int .i64 0, .int .i64 0, .int .i64 0, .int .i64 0, .int .i64 0] 64)))) ?_
      rintro e w' ⟨rfl, hw'⟩; rw [hw']; clear hw'; refine ⟨_, rfl, HE_4.out, ?_⟩
      simp only [Act.put, List.setIfInBounds_toArray, List.set_cons_zero, List.set_cons_succ]
      refine rests_call 5 (oi := _) (by simp only [List.getElem?_toArray, List.getElem?_cons_succ, List.getElem?_cons_zero]; rfl) 86 #[.string (s.extract 4 s.size)] _ (by kernel_rfl) (by rfl) (by go_simp) (HT.out (((w3.drew).alloc (.cells #[.int .u32 0, .int .u32 0, .int .i64 0, .int .i64 0, .int .i64 0, .int .i64 0, .int .i64 0, .int .i64 0, .int .i64 0] 64)))) ?_
      rintro e w' ⟨rfl, hw'⟩; rw [hw']; clear hw'; refine ⟨_, rfl, HE_4.out, ?_⟩
      simp only [Act.put, List.setIfInBounds_toArray, List.set_cons_zero, List.set_cons_succ]
      refine rests_take 14 (oi := _) (v := ?_) (by simp only [List.getElem?_toArray, List.getElem?_cons_succ, List.getElem?_cons_zero]; rfl) (by kernel_rfl) (by kernel_rfl) (by kernel_rfl) (by exact fun _ _ _ h => h) (HE_4.out) (by rfl) ?_ ?_; rotate_left; (· intro W HW; go_simp; try with_reducible rfl)
      simp only [Act.put, List.setIfInBounds_toArray, List.set_cons_zero, List.set_cons_succ]
      refine rests_storeB 16 (oi := _) (by simp only [List.getElem?_toArray, List.getElem?_cons_succ, List.getElem?_cons_zero]; rfl) (by kernel_rfl) (by rfl) 64 (.tmp 6) (.tmp 31) rfl w3.heap.size #[.int .u32 fr, .int .u32 tt, .int .i64 (i.toNat : Int), .int .i64 (j.toNat : Int), .int .i64 b, .int .i64 si, .int .i64 wi, .int .i64 z, .int .i64 wa] rfl rfl 64 _ HX_4.out (by kernel_rfl) rfl HONE.out ?_
      intro w5 hg5 hz5 hh5; have HB_5 := Lib.hid (bel_grown HB_4.out hg5 HLE.out); have HE_5 := Lib.hid (bel_grown HE_4.out hg5 (Nat.le_refl _)); have HR_5 := Lib.hid (keep_grown HR_4.out hg5 (Nat.ne_of_lt HLT.out)); have HX_5 := Lib.hid hh5; refine ⟨HE_5.out, ?_⟩; clear hg5 hz5 hh5
      simp only [Act.put, List.setIfInBounds_toArray, List.set_cons_zero, List.set_cons_succ]
      refine rests_done (by kernel_rfl) ?_
      exact hK _ ⟨HB_5.out, HR_5.out, HX_5.out⟩
  case cont =>
    rintro w4 ⟨hb4, hr4, hx4⟩
    have HB_4 := Lib.hid hb4
    have HR_4 := Lib.hid hr4
    have HX_4 := Lib.hid hx4
    clear hb4 hr4 hx4
    go_wp2_with (first
      | (go_at_call 94; (with_reducible refine (HM.out _).mono ?_); rintro e wm ⟨rfl, hb⟩; have HBM := Lib.hid (bel_trans HB_4.out hb); have HRM := Lib.hid (keep_at HR_4.out hb); have HXM := Lib.hid (keep_at HX_4.out hb); clear hb)
      | (with_reducible refine wpList_loadG (by kernel_rfl) 64 (.tmp 6) rfl w3.heap.size rfl 64 #[.int .u32 fr, .int .u32 tt, .int .i64 (i.toNat : Int), .int .i64 (j.toNat : Int), .int .i64 b, .int .i64 si, .int .i64 wi, .int .i64 z, .int .i64 wa] HX_4.out _ Tryz.underlying64 rfl (by kernel_rfl) ?_)
      | (with_reducible refine wpList_loadB rfl 64 (.tmp 6) rfl w3.heap.size rfl 64 _ HXM.out _ Tryz.underlying64 rfl (by kernel_rfl) ?_)
      | ((with_reducible refine wpList_storeB rfl 64 (.tmp 2) _ rfl w.heap.size #[.int .u32 fr, .int .u32 tt, .int .i64 (i.toNat : Int), .int .i64 (j.toNat : Int), .int .i64 b, .int .i64 si, .int .i64 wi, .int .i64 z, .int .i64 wa] rfl rfl 64 _ HRM.out (by kernel_rfl) (by kernel_rfl) HONE.out ?_); intro wz hgz hzz hhz; have HBZ := Lib.hid (bel_grown HBM.out hgz (Nat.le_refl _)); have HRZ := Lib.hid hhz; clear hgz hzz hhz))
    exact ⟨rfl, _, results_cell2 rfl _ _ w.heap.size _ _ _ _ (.bool true) rfl rfl HRZ.out Tryz.underlying64 rfl (by kernel_rfl), setupR_some rfl HBZ.out⟩

theorem mayO_got {r : List UInt8} {o : Of5} (h : getO r = some o) : mayO o = true := by
  unfold getO at h
  cases hl : getT r with
  | none => rw [hl] at h; exact absurd h (by simp)
  | some l =>
    rw [hl, Option.bind_some] at h
    by_cases hm : mayO (offerT l) = true
    · rw [if_pos hm] at h
      injection h with h
      rw [← h]
      exact hm
    · rw [if_neg hm] at h
      exact absurd h (by simp)
theorem sg_offer (s : ByteArray) (r : List UInt8) (w : World) (hs : s.size ≤ 1000000) (hr : (s.extract 10 s.size).data.toList = r) : Calls Tryz.prog 38 #[.string (s.extract 10 s.size)] w (OfferR (getO r) w) := by
  have h := QGet_any (s.extract 10 s.size) w (by rw [ByteArray.size_extract]; unfold maxLen; omega)
  rw [hr] at h
  exact h
theorem sg_none {r : List UInt8} {s : ByteArray} (hg : getO r = none) (h : ∀ w, Calls Tryz.prog 38 #[.string (s.extract 10 s.size)] w (OfferR (getO r) w)) : ∀ w, Calls Tryz.prog 38 #[.string (s.extract 10 s.size)] w fun e w' => e = .returned (.tuple #[.agg #[.int .i64 0, .int .i64 0, .int .i64 0, .int .i64 0, .int .i64 0], .bool false]) ∧ Below w.heap.size w w' := by
  intro w
  have := h w
  rw [hg] at this
  exact this
theorem sg_some {r : List UInt8} {s : ByteArray} {o : Of5} (hg : getO r = some o) (h : ∀ w, Calls Tryz.prog 38 #[.string (s.extract 10 s.size)] w (OfferR (getO r) w)) : ∀ w, Calls Tryz.prog 38 #[.string (s.extract 10 s.size)] w fun e w' => e = .returned (.tuple #[.agg #[.int .i64 o.baud, .int .i64 o.silent, .int .i64 o.win, .int .i64 o.size, .int .i64 o.wait], .bool true]) ∧ Below w.heap.size w w' := by
  intro w
  have := h w
  rw [hg] at this
  exact this
theorem SGet_any (s : ByteArray) (w : World) (hs : s.size ≤ 1000000) : Calls Tryz.prog 56 #[.string s] w (SetupR (getS s.data.toList) w) := by
  have hl := ba_len s
  by_cases h10 : s.size < 10
  · rw [getS_short (by omega)]
    exact SGet_short s w h10
  · obtain ⟨a, b, c, d, e, f, g, h, i, j, r, hq⟩ := ten (l := s.data.toList) (by omega)
    have e8 := at_of hq 8 (by omega) (x := i) rfl
    have e9 := at_of hq 9 (by omega) (x := j) rfl
    have hr : (s.extract 10 s.size).data.toList = r := by rw [bl_from_toList, hq]; rfl
    have h0 : (s.extract 0 s.size).data.toList = a :: b :: c :: d :: e :: f :: g :: h :: i :: j :: r := by rw [bl_from_toList, hq]; rfl
    have h4 : (s.extract 4 s.size).data.toList = e :: f :: g :: h :: i :: j :: r := by rw [bl_from_toList, hq]; rfl
    have ho := fun w => sg_offer s r w hs hr
    cases hg : getO r with
    | none =>
      rw [hq, getS_none hg]
      exact SGet_no s w (num4 a b c d) (num4 e f g h) 0 0 0 0 0 i j (by omega) (by omega) e8 e9 (sg_none hg ho) (fun w => Xlead_any _ w h0) (fun w => Xlead_any _ w h4)
    | some o =>
      have hmo := mayO_got hg
      cases hm : fineS ⟨num4 a b c d, num4 e f g h, (i.toNat : Int), (j.toNat : Int), o⟩ with
      | false =>
        rw [hq, getS_bad hg (by rw [maySt_fine, hm]; rfl)]
        exact SGet_bad s w (num4 a b c d) (num4 e f g h) o.baud o.silent o.win o.size o.wait i j (by omega) (by omega) e8 e9 hm (sg_some hg ho) (fun w => Xlead_any _ w h0) (fun w => Xlead_any _ w h4)
      | true =>
        rw [hq, getS_good hg (by rw [maySt_fine, hm]; exact hmo)]
        exact SGet_good s w (num4 a b c d) (num4 e f g h) o.baud o.silent o.win o.size o.wait i j (by omega) (by omega) e8 e9 hm (sg_some hg ho) (fun w => Xlead_any _ w h0) (fun w => Xlead_any _ w h4)
end Go.Proofs.YtcmjdbljdkabpaaGreatDoor
