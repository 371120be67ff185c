/- Package xid (as landed at 554d44f): a device's word out of any bytes. -/
import Derived.Test.YtcmjdbljdkabpaaGreatDoorM8G
import Derived.Test.YtcmjdbljdkabpaaGreatDoorZA2
import Derived.Test.YtcmjdbljdkabpaaGreatDoorM8H

set_option linter.all false

namespace Go.Proofs.YtcmjdbljdkabpaaGreatDoor
open Go.RowKit M

set_option maxRecDepth 100000 in
set_option maxHeartbeats 2000000 in
theorem XGet_short (s : ByteArray) (w : World) (h : s.size < 11) : Calls Tryz.prog 50 #[.string s] w (XidR none w) := by
  have h1 : (s.size : Int) < 11 := by omega
  clear h
  go_enter Tryz.func50, Tryz.ntmps50
  go_wp2
  exact ⟨rfl, _, results_cell2 rfl _ _ w.heap.size _ _ _ _ (.bool false) rfl rfl (heap_alloc_new w _) Tryz.underlying51 rfl (by kernel_rfl), xidR_none rfl (bal (bel0 w) _)⟩
set_option maxRecDepth 100000 in
set_option maxHeartbeats 2000000 in
theorem XGet_anew (s : ByteArray) (w : World) (i : UInt8) (h8 : 8 < s.size) (h : 11 ≤ s.size) (e8 : s[8] = i) (hi : 1 < i.toNat) : Calls Tryz.prog 50 #[.string s] w (XidR none w) := by
  have h1 : ¬ (s.size : Int) < 11 := by omega
  have h2 : (8 : Int) < (s.size : Int) := by omega
  have h3 : (1 : Int) < (i.toNat : Int) := by omega
  clear h hi
  go_enter Tryz.func50, Tryz.ntmps50
  go_wp2
  exact ⟨rfl, _, results_cell2 rfl _ _ w.heap.size _ _ _ _ (.bool false) rfl rfl (heap_alloc_new w _) Tryz.underlying51 rfl (by kernel_rfl), xidR_none rfl (bal (bel0 w) _)⟩
set_option maxRecDepth 100000 in
set_option maxHeartbeats 16000000 in
theorem XGet_core (s : ByteArray) (w : World) (fr tt sl : Int) (i j k : UInt8) (an : Bool) (hs : s.size ≤ 1000000) (h8 : 8 < s.size) (h9 : 9 < s.size) (h10 : 10 < s.size) (e8 : s[8] = i) (e9 : s[9] = j) (e10 : s[10] = k) (hi : i.toNat ≤ 1) (han : ((i.toNat : Int) == 1) = an)
    (v2 : IntKind.i8.wrap (k.toNat : Int) = sl) (v3 : IntKind.i64.wrap sl = sl)
    (hf : ∀ w, Calls Tryz.prog 86 #[.string (s.extract 0 s.size)] w fun e w' => e = .returned (.int .u32 fr) ∧ w' = w) (ht : ∀ w, Calls Tryz.prog 86 #[.string (s.extract 4 s.size)] w fun e w' => e = .returned (.int .u32 tt) ∧ w' = w) :
    Calls Tryz.prog 50 #[.string s] w (XidR (if mayX (XIn.xd (⟨fr, tt, sl, (j.toNat : Int), an, (s.extract 11 s.size)⟩ : XIn)) then some (XIn.xd (⟨fr, tt, sl, (j.toNat : Int), an, (s.extract 11 s.size)⟩ : XIn)) else none) w) := by
  have hjl := j.toNat_lt
  have i1 : ¬ (s.size : Int) < 11 := by omega
  have i2 : (8 : Int) < (s.size : Int) := by omega
  have i3 : (9 : Int) < (s.size : Int) := by omega
  have i4 : (10 : Int) < (s.size : Int) := by omega
  have i5 : (4 : Int) ≤ (s.size : Int) := by omega
  have i6 : (11 : Int) ≤ (s.size : Int) := by omega
  have i7 : ¬ (1 : Int) < (i.toNat : Int) := by omega
  have v1 : IntKind.i64.wrap (j.toNat : Int) = (j.toNat : Int) := IntWalk.i64_in _ (by omega)
  have hnk : (s.extract 11 s.size).size ≤ 1000000 := by rw [ByteArray.size_extract]; omega
  have HCL := Lib.hid (fun w => SClone_any (s.extract 11 s.size) w hnk)
  have HONE0 := Lib.hid (xOne fr tt sl (j.toNat : Int) an (s.extract 11 s.size))
  have HF := Lib.hid hf
  have HT := Lib.hid ht
  obtain ⟨r, hr⟩ : ∃ r, r = (if mayX (XIn.xd (⟨fr, tt, sl, (j.toNat : Int), an, (s.extract 11 s.size)⟩ : XIn)) then some (XIn.xd (⟨fr, tt, sl, (j.toNat : Int), an, (s.extract 11 s.size)⟩ : XIn)) else none) := ⟨_, rfl⟩
  rw [← hr]
  have HRR := Lib.hid hr
  clear hr hf ht hi hjl hs
  go_enter Tryz.func50, Tryz.ntmps50
  go_wp2
  obtain ⟨w1, hw1⟩ : ∃ w1, w1 = w.alloc (.cells #[.int .u32 0, .int .u32 0, .int .i64 0, .int .i64 0, .bool false, .string ⟨#[]⟩] 51) := ⟨_, rfl⟩
  have HB_2 : Hid (Below w.heap.size w w1.drew) := by show Below _ _ _; rw [hw1]; exact (bal (bel0 w) _).drew
  have HR_2 : Hid (w1.drew.heap[w.heap.size]? = some (.cells #[.int .u32 0, .int .u32 0, .int .i64 0, .int .i64 0, .bool false, .string ⟨#[]⟩] 51 (0, 0))) := by show _ = _; rw [hw1]; exact heap_alloc_new w _
  have HE_2 : Hid (Below w1.heap.size w1 w1.drew) := (bel0 w1).drew
  have hlt : w.heap.size < w1.heap.size := lt_at HR_2.out
  have HG : Hid (w.heap.size ≤ w1.heap.size) := Nat.le_of_lt hlt
  rw [← hw1]
  clear hw1
  refine' region_shared (fun W => Below w.heap.size w W ∧ W.heap[w.heap.size]? = some (.cells #[.int .u32 0, .int .u32 0, .int .i64 0, .int .i64 0, .bool false, .string ⟨#[]⟩] 51 (0, 0)) ∧ W.heap[w1.heap.size]? = some (.cells #[.int .u32 fr, .int .u32 tt, .int .i64 sl, .int .i64 (j.toNat : Int), .bool an, .string (s.extract 11 s.size)] 51 (0, 0))) _ ?cont ?reg
  case reg =>
    intro hK
    refine rests_begin (From w1) (by kernel_rfl) ?_
    refine rests_take 0 (oi := _) (v := ?_) (by simp only [List.getElem?_toArray, List.getElem?_cons_zero]; rfl) (by kernel_rfl) (by kernel_rfl) (by kernel_rfl) (by exact fun _ _ _ h => h) (HE_2.out) (by rfl) ?_ ?_; rotate_left; (· intro W HW; go_simp; try with_reducible rfl)
    simp only [Act.put, List.setIfInBounds_toArray, List.set_cons_zero, List.set_cons_succ]
    refine rests_take 1 (oi := _) (v := ?_) (by simp only [List.getElem?_toArray, List.getElem?_cons_succ, List.getElem?_cons_zero]; rfl) (by kernel_rfl) (by kernel_rfl) (by kernel_rfl) (by exact fun _ _ _ h => h) (HE_2.out) (by rfl) ?_ ?_; rotate_left; (· intro W HW; go_simp; try with_reducible rfl)
    simp only [Act.put, List.setIfInBounds_toArray, List.set_cons_zero, List.set_cons_succ]
    refine rests_take 3 (oi := _) (v := ?_) (by simp only [List.getElem?_toArray, List.getElem?_cons_succ, List.getElem?_cons_zero]; rfl) (by kernel_rfl) (by kernel_rfl) (by kernel_rfl) (by exact fun _ _ _ h => h) (HE_2.out) (by rfl) ?_ ?_; rotate_left; (· intro W HW; go_simp; try with_reducible rfl)
    simp only [Act.put, List.setIfInBounds_toArray, List.set_cons_zero, List.set_cons_succ]
    refine rests_take 4 (oi := _) (v := ?_) (by simp only [List.getElem?_toArray, List.getElem?_cons_succ, List.getElem?_cons_zero]; rfl) (by kernel_rfl) (by kernel_rfl) (by kernel_rfl) (by exact fun _ _ _ h => h) (HE_2.out) (by rfl) ?_ ?_; rotate_left; (· intro W HW; go_simp; try with_reducible rfl)
    simp only [Act.put, List.setIfInBounds_toArray, List.set_cons_zero, List.set_cons_succ]
    refine rests_take 6 (oi := _) (v := ?_) (by simp only [List.getElem?_toArray, List.getElem?_cons_succ, List.getElem?_cons_zero]; rfl) (by kernel_rfl) (by kernel_rfl) (by kernel_rfl) (by exact fun _ _ _ h => h) (HE_2.out) (by rfl) ?_ ?_; rotate_left; (· intro W HW; go_simp; try with_reducible rfl)
    simp only [Act.put, List.setIfInBounds_toArray, List.set_cons_zero, List.set_cons_succ]
    refine rests_take 7 (oi := _) (v := ?_) (by simp only [List.getElem?_toArray, List.getElem?_cons_succ, List.getElem?_cons_zero]; rfl) (by kernel_rfl) (by kernel_rfl) (by kernel_rfl) (by exact fun _ _ _ h => h) (HE_2.out) (by rfl) ?_ ?_; rotate_left; (· intro W HW; go_simp; try with_reducible rfl)
    simp only [Act.put, List.setIfInBounds_toArray, List.set_cons_zero, List.set_cons_succ]
    refine rests_take 8 (oi := _) (v := ?_) (by simp only [List.getElem?_toArray, List.getElem?_cons_succ, List.getElem?_cons_zero]; rfl) (by kernel_rfl) (by kernel_rfl) (by kernel_rfl) (by exact fun _ _ _ h => h) (HE_2.out) (by rfl) ?_ ?_; rotate_left; (· intro W HW; go_simp; try with_reducible rfl)
    simp only [Act.put, List.setIfInBounds_toArray, List.set_cons_zero, List.set_cons_succ]
    refine rests_take 9 (oi := _) (v := ?_) (by simp only [List.getElem?_toArray, List.getElem?_cons_succ, List.getElem?_cons_zero]; rfl) (by kernel_rfl) (by kernel_rfl) (by kernel_rfl) (by exact fun _ _ _ h => h) (HE_2.out) (by rfl) ?_ ?_; rotate_left; (· intro W HW; go_simp; try with_reducible rfl)
    simp only [Act.put, List.setIfInBounds_toArray, List.set_cons_zero, List.set_cons_succ]
    refine rests_take 10 (oi := _) (v := ?_) (by simp only [List.getElem?_toArray, List.getElem?_cons_succ, List.getElem?_cons_zero]; rfl) (by kernel_rfl) (by kernel_rfl) (by kernel_rfl) (by exact fun _ _ _ h => h) (HE_2.out) (by rfl) ?_ ?_; rotate_left; (· intro W HW; go_simp; try with_reducible rfl)
    simp only [Act.put, List.setIfInBounds_toArray, List.set_cons_zero, List.set_cons_succ]
    refine rests_take 11 (oi := _) (v := ?_) (by simp only [List.getElem?_toArray, List.getElem?_cons_succ, List.getElem?_cons_zero]; rfl) (by kernel_rfl) (by kernel_rfl) (by kernel_rfl) (by exact fun _ _ _ h => h) (HE_2.out) (by rfl) ?_ ?_; rotate_left; (· intro W HW; go_simp; try with_reducible rfl)
    simp only [Act.put, List.setIfInBounds_toArray, List.set_cons_zero, List.set_cons_succ]
    refine rests_take 12 (oi := _) (v := ?_) (by simp only [List.getElem?_toArray, List.getElem?_cons_succ, List.getElem?_cons_zero]; rfl) (by kernel_rfl) (by kernel_rfl) (by kernel_rfl) (by exact fun _ _ _ h => h) (HE_2.out) (by rfl) ?_ ?_; rotate_left; (· intro W HW; go_simp; try with_reducible rfl)
    simp only [Act.put, List.setIfInBounds_toArray, List.set_cons_zero, List.set_cons_succ]
    refine rests_take 13 (oi := _) (v := ?_) (by simp only [List.getElem?_toArray, List.getElem?_cons_succ, List.getElem?_cons_zero]; rfl) (by kernel_rfl) (by kernel_rfl) (by kernel_rfl) (by exact fun _ _ _ h => h) (HE_2.out) (by rfl) ?_ ?_; rotate_left; (· intro W HW; go_simp; try with_reducible rfl)
    simp only [Act.put, List.setIfInBounds_toArray, List.set_cons_zero, List.set_cons_succ]
    refine rests_take 14 (oi := _) (v := ?_) (by simp only [List.getElem?_toArray, List.getElem?_cons_succ, List.getElem?_cons_zero]; rfl) (by kernel_rfl) (by kernel_rfl) (by kernel_rfl) (by exact fun _ _ _ h => h) (HE_2.out) (by rfl) ?_ ?_; rotate_left; (· intro W HW; go_simp; try with_reducible rfl)
    simp only [Act.put, List.setIfInBounds_toArray, List.set_cons_zero, List.set_cons_succ]
    refine rests_take 15 (oi := _) (v := ?_) (by simp only [List.getElem?_toArray, List.getElem?_cons_succ, List.getElem?_cons_zero]; rfl) (by kernel_rfl) (by kernel_rfl) (by kernel_rfl) (by exact fun _ _ _ h => h) (HE_2.out) (by rfl) ?_ ?_; rotate_left; (· intro W HW; go_simp; try with_reducible rfl)
    simp only [Act.put, List.setIfInBounds_toArray, List.set_cons_zero, List.set_cons_succ]
    refine rests_take 16 (oi := _) (v := ?_) (by simp only [List.getElem?_toArray, List.getElem?_cons_succ, List.getElem?_cons_zero]; rfl) (by kernel_rfl) (by kernel_rfl) (by kernel_rfl) (by exact fun _ _ _ h => h) (HE_2.out) (by rfl) ?_ ?_; rotate_left; (· intro W HW; go_simp; try with_reducible rfl)
    simp only [Act.put, List.setIfInBounds_toArray, List.set_cons_zero, List.set_cons_succ]
    refine rests_take 17 (oi := _) (v := ?_) (by simp only [List.getElem?_toArray, List.getElem?_cons_succ, List.getElem?_cons_zero]; rfl) (by kernel_rfl) (by kernel_rfl) (by kernel_rfl) (by exact fun _ _ _ h => h) (HE_2.out) (by rfl) ?_ ?_; rotate_left; (· intro W HW; go_simp; try with_reducible rfl)
    simp only [Act.put, List.setIfInBounds_toArray, List.set_cons_zero, List.set_cons_succ]
    refine rests_two 2 19 (oi := _) (oj := _) (by simp only [List.getElem?_toArray, List.getElem?_cons_succ, List.getElem?_cons_zero]; rfl) (by simp only [List.getElem?_toArray, List.getElem?_cons_succ, List.getElem?_cons_zero]; rfl) (by kernel_rfl) (by rfl) (by rfl) ?_ ?_
    · refine wp_enter (f := 86) (args := #[.string (s.extract 0 s.size)]) (by go_simp) (HF.out (w1.drew)) ?_
      rintro e w' ⟨rfl, hw'⟩; rw [hw']; clear hw'; refine ⟨_, rfl, HE_2.out, ?_⟩
      simp only [Act.put, List.setIfInBounds_toArray, List.set_cons_zero, List.set_cons_succ]
      refine rests_two 5 19 (oi := _) (oj := _) (by simp only [List.getElem?_toArray, List.getElem?_cons_succ, List.getElem?_cons_zero]; rfl) (by simp only [List.getElem?_toArray, List.getElem?_cons_succ, List.getElem?_cons_zero]; rfl) (by kernel_rfl) (by rfl) (by rfl) ?_ ?_
      · refine wp_enter (f := 86) (args := #[.string (s.extract 4 s.size)]) (by go_simp) (HT.out (w1.drew)) ?_
        rintro e w' ⟨rfl, hw'⟩; rw [hw']; clear hw'; refine ⟨_, rfl, HE_2.out, ?_⟩
        simp only [Act.put, List.setIfInBounds_toArray, List.set_cons_zero, List.set_cons_succ]
        refine rests_take 18 (oi := _) (v := ?_) (by simp only [List.getElem?_toArray, List.getElem?_cons_succ, List.getElem?_cons_zero]; rfl) (by kernel_rfl) (by kernel_rfl) (by kernel_rfl) (by exact fun _ _ _ h => h) (HE_2.out) (by rfl) ?_ ?_; rotate_left; (· intro W HW; go_simp; try with_reducible rfl)
        simp only [Act.put, List.setIfInBounds_toArray, List.set_cons_zero, List.set_cons_succ]
        refine rests_run 19 (oi := _) (by simp only [List.getElem?_toArray, List.getElem?_cons_succ, List.getElem?_cons_zero]; rfl) (by kernel_rfl) (by rfl) (.pointer (some ⟨w1.heap.size, 0, none⟩)) ((w1.drew).alloc (.cells #[.int .u32 0, .int .u32 0, .int .i64 0, .int .i64 0, .bool false, .string ⟨#[]⟩] 51)) (by go_simp) ⟨bal HE_2.out _, ?_⟩
        have HB_3 := Lib.hid (bal (w := w1.drew) HB_2.out (.cells #[.int .u32 0, .int .u32 0, .int .i64 0, .int .i64 0, .bool false, .string ⟨#[]⟩] 51)); have HE_3 := Lib.hid (bal (w := w1.drew) HE_2.out (.cells #[.int .u32 0, .int .u32 0, .int .i64 0, .int .i64 0, .bool false, .string ⟨#[]⟩] 51)); have HR_3 := Lib.hid (keep_at (w := w1.drew) HR_2.out (bal (bel0 (w1.drew)) (.cells #[.int .u32 0, .int .u32 0, .int .i64 0, .int .i64 0, .bool false, .string ⟨#[]⟩] 51))); have HX_3 := Lib.hid (heap_alloc_new (w1.drew) (.cells #[.int .u32 0, .int .u32 0, .int .i64 0, .int .i64 0, .bool false, .string ⟨#[]⟩] 51))
        simp only [Act.put, List.setIfInBounds_toArray, List.set_cons_zero, List.set_cons_succ]
        refine rests_storeB 20 (oi := _) (by simp only [List.getElem?_toArray, List.getElem?_cons_succ, List.getElem?_cons_zero]; rfl) (by kernel_rfl) (by rfl) 51 (.tmp 4) (.tmp 32) rfl w1.heap.size #[.int .u32 fr, .int .u32 tt, .int .i64 sl, .int .i64 (j.toNat : Int), .bool an, .string (s.extract 11 s.size)] rfl rfl 51 _ HX_3.out (by kernel_rfl) rfl HONE0.out ?_
        intro w4 hg4 hz4 hh4; have HB_4 := Lib.hid (bel_grown HB_3.out hg4 (Nat.le_of_lt hlt)); have HE_4 := Lib.hid (bel_grown HE_3.out hg4 (Nat.le_refl _)); have HR_4 := Lib.hid (keep_grown HR_3.out hg4 (Nat.ne_of_lt hlt)); have HX_4 := Lib.hid hh4; refine ⟨HE_4.out, ?_⟩; clear hg4 hz4 hh4
        simp only [Act.put, List.setIfInBounds_toArray, List.set_cons_zero, List.set_cons_succ]
        refine rests_done (by kernel_rfl) ?_
        exact hK _ ⟨HB_4.out, HR_4.out, HX_4.out⟩
      · refine wp_val (v := .pointer (some ⟨w1.heap.size, 0, none⟩)) (w' := (w1.drew).alloc (.cells #[.int .u32 0, .int .u32 0, .int .i64 0, .int .i64 0, .bool false, .string ⟨#[]⟩] 51)) (by go_simp) ⟨bal HE_2.out _, ?_⟩
        have HB_3 := Lib.hid (bal (w := w1.drew) HB_2.out (.cells #[.int .u32 0, .int .u32 0, .int .i64 0, .int .i64 0, .bool false, .string ⟨#[]⟩] 51)); have HE_3 := Lib.hid (bal (w := w1.drew) HE_2.out (.cells #[.int .u32 0, .int .u32 0, .int .i64 0, .int .i64 0, .bool false, .string ⟨#[]⟩] 51)); have HR_3 := Lib.hid (keep_at (w := w1.drew) HR_2.out (bal (bel0 (w1.drew)) (.cells #[.int .u32 0, .int .u32 0, .int .i64 0, .int .i64 0, .bool false, .string ⟨#[]⟩] 51))); have HX_3 := Lib.hid (heap_alloc_new (w1.drew) (.cells #[.int .u32 0, .int .u32 0, .int .i64 0, .int .i64 0, .bool false, .string ⟨#[]⟩] 51))
        simp only [Act.put, List.setIfInBounds_toArray, List.set_cons_zero, List.set_cons_succ]
        refine rests_call 5 (oi := _) (by simp only [List.getElem?_toArray, List.getElem?_cons_succ, List.getElem?_cons_zero]; rfl) 86 #[.string (s.extract 4 s.size)] _ (by kernel_rfl) (by rfl) (by go_simp) (HT.out (((w1.drew).alloc (.cells #[.int .u32 0, .int .u32 0, .int .i64 0, .int .i64 0, .bool false, .string ⟨#[]⟩] 51)))) ?_
        rintro e w' ⟨rfl, hw'⟩; rw [hw']; clear hw'; refine ⟨_, rfl, HE_3.out, ?_⟩
        simp only [Act.put, List.setIfInBounds_toArray, List.set_cons_zero, List.set_cons_succ]
        refine rests_take 18 (oi := _) (v := ?_) (by simp only [List.getElem?_toArray, List.getElem?_cons_succ, List.getElem?_cons_zero]; rfl) (by kernel_rfl) (by kernel_rfl) (by kernel_rfl) (by exact fun _ _ _ h => h) (HE_3.out) (by rfl) ?_ ?_; rotate_left; (· intro W HW; go_simp; try with_reducible rfl)
        simp only [Act.put, List.setIfInBounds_toArray, List.set_cons_zero, List.set_cons_succ]
        refine rests_storeB 20 (oi := _) (by simp only [List.getElem?_toArray, List.getElem?_cons_succ, List.getElem?_cons_zero]; rfl) (by kernel_rfl) (by rfl) 51 (.tmp 4) (.tmp 32) rfl w1.heap.size #[.int .u32 fr, .int .u32 tt, .int .i64 sl, .int .i64 (j.toNat : Int), .bool an, .string (s.extract 11 s.size)] rfl rfl 51 _ HX_3.out (by kernel_rfl) rfl HONE0.out ?_
        intro w4 hg4 hz4 hh4; have HB_4 := Lib.hid (bel_grown HB_3.out hg4 (Nat.le_of_lt hlt)); have HE_4 := Lib.hid (bel_grown HE_3.out hg4 (Nat.le_refl _)); have HR_4 := Lib.hid (keep_grown HR_3.out hg4 (Nat.ne_of_lt hlt)); have HX_4 := Lib.hid hh4; refine ⟨HE_4.out, ?_⟩; clear hg4 hz4 hh4
        simp only [Act.put, List.setIfInBounds_toArray, List.set_cons_zero, List.set_cons_succ]
        refine rests_done (by kernel_rfl) ?_
        exact hK _ ⟨HB_4.out, HR_4.out, HX_4.out⟩
    · refine wp_val (v := .pointer (some ⟨w1.heap.size, 0, none⟩)) (w' := (w1.drew).alloc (.cells #[.int .u32 0, .int .u32 0, .int .i64 0, .int .i64 0, .bool false, .string ⟨#[]⟩] 51)) (by go_simp) ⟨bal HE_2.out _, ?_⟩
      have HB_3 := Lib.hid (bal (w := w1.drew) HB_2.out (.cells #[.int .u32 0, .int .u32 0, .int .i64 0, .int .i64 0, .bool false, .string ⟨#[]⟩] 51)); have HE_3 := Lib.hid (bal (w := w1.drew) HE_2.out (.cells #[.int .u32 0, .int .u32 0, .int .i64 0, .int .i64 0, .bool false, .string ⟨#[]⟩] 51)); have HR_3 := Lib.hid (keep_at (w := w1.drew) HR_2.out (bal (bel0 (w1.drew)) (.cells #[.int .u32 0, .int .u32 0, .int .i64 0, .int .i64 0, .bool false, .string ⟨#[]⟩] 51))); have HX_3 := Lib.hid (heap_alloc_new (w1.drew) (.cells #[.int .u32 0, .int .u32 0, .int .i64 0, .int .i64 0, .bool false, .string ⟨#[]⟩] 51))
      simp only [Act.put, List.setIfInBounds_toArray, List.set_cons_zero, List.set_cons_succ]
      refine rests_call 2 (oi := _) (by simp only [List.getElem?_toArray, List.getElem?_cons_succ, List.getElem?_cons_zero]; rfl) 86 #[.string (s.extract 0 s.size)] _ (by kernel_rfl) (by rfl) (by go_simp) (HF.out (((w1.drew).alloc (.cells #[.int .u32 0, .int .u32 0, .int .i64 0, .int .i64 0, .bool false, .string ⟨#[]⟩] 51)))) ?_
      rintro e w' ⟨rfl, hw'⟩; rw [hw']; clear hw'; refine ⟨_, rfl, HE_3.out, ?_⟩
      simp only [Act.put, List.setIfInBounds_toArray, List.set_cons_zero, List.set_cons_succ]
      refine rests_call 5 (oi := _) (by simp only [List.getElem?_toArray, List.getElem?_cons_succ, List.getElem?_cons_zero]; rfl) 86 #[.string (s.extract 4 s.size)] _ (by kernel_rfl) (by rfl) (by go_simp) (HT.out (((w1.drew).alloc (.cells #[.int .u32 0, .int .u32 0, .int .i64 0, .int .i64 0, .bool false, .string ⟨#[]⟩] 51)))) ?_
      rintro e w' ⟨rfl, hw'⟩; rw [hw']; clear hw'; refine ⟨_, rfl, HE_3.out, ?_⟩
      simp only [Act.put, List.setIfInBounds_toArray, List.set_cons_zero, List.set_cons_succ]
      refine rests_take 18 (oi := _) (v := ?_) (by simp only [List.getElem?_toArray, List.getElem?_cons_succ, List.getElem?_cons_zero]; rfl) (by kernel_rfl) (by kernel_rfl) (by kernel_rfl) (by exact fun _ _ _ h => h) (HE_3.out) (by rfl) ?_ ?_; rotate_left; (· intro W HW; go_simp; try with_reducible rfl)
      simp only [Act.put, List.setIfInBounds_toArray, List.set_cons_zero, List.set_cons_succ]
      refine rests_storeB 20 (oi := _) (by simp only [List.getElem?_toArray, List.getElem?_cons_succ, List.getElem?_cons_zero]; rfl) (by kernel_rfl) (by rfl) 51 (.tmp 4) (.tmp 32) rfl w1.heap.size #[.int .u32 fr, .int .u32 tt, .int .i64 sl, .int .i64 (j.toNat : Int), .bool an, .string (s.extract 11 s.size)] rfl rfl 51 _ HX_3.out (by kernel_rfl) rfl HONE0.out ?_
      intro w4 hg4 hz4 hh4; have HB_4 := Lib.hid (bel_grown HB_3.out hg4 (Nat.le_of_lt hlt)); have HE_4 := Lib.hid (bel_grown HE_3.out hg4 (Nat.le_refl _)); have HR_4 := Lib.hid (keep_grown HR_3.out hg4 (Nat.ne_of_lt hlt)); have HX_4 := Lib.hid hh4; refine ⟨HE_4.out, ?_⟩; clear hg4 hz4 hh4
      simp only [Act.put, List.setIfInBounds_toArray, List.set_cons_zero, List.set_cons_succ]
      refine rests_done (by kernel_rfl) ?_
      exact hK _ ⟨HB_4.out, HR_4.out, HX_4.out⟩
  case cont =>
    rintro w4 ⟨hb4, hr4, hx4⟩
    have HB_4 := Lib.hid hb4
    have HR_4 := Lib.hid hr4
    have HX_4 := Lib.hid hx4
    clear hb4 hr4 hx4
    have hmay := fun w => XMay_all (⟨fr, tt, sl, (j.toNat : Int), an, (s.extract 11 s.size)⟩ : XIn) w
    rcases hm : mayX (XIn.xd (⟨fr, tt, sl, (j.toNat : Int), an, (s.extract 11 s.size)⟩ : XIn)) with _ | _
    · rw [hm] at hmay
      have HM := Lib.hid hmay
      have HO : Hid ((if mayX (XIn.xd (⟨fr, tt, sl, (j.toNat : Int), an, (s.extract 11 s.size)⟩ : XIn)) then some (XIn.xd (⟨fr, tt, sl, (j.toNat : Int), an, (s.extract 11 s.size)⟩ : XIn)) else none) = none) := by show (if _ then _ else _) = _; rw [hm]; rfl
      clear hmay hm
      go_wp2_with (first
        | (go_at_call 49; (with_reducible refine (HM.out _).mono ?_); rintro e wm ⟨rfl, hb⟩; have HBM := Lib.hid (bel_trans (w := w4) HB_4.out hb); have HRM := Lib.hid (keep_at (w := w4) HR_4.out hb); have HXM := Lib.hid (keep_at (w := w4) HX_4.out hb); have c5 := cell_at HXM.out 5 _ rfl; clear hb)
        | (with_reducible refine wpList_loadB rfl 51 (.tmp 4) rfl w1.heap.size rfl 51 _ HX_4.out _ Tryz.underlying51 rfl (by kernel_rfl) ?_)
        | ((with_reducible refine wpList_storeB rfl 51 (.tmp 2) _ rfl w.heap.size #[.int .u32 0, .int .u32 0, .int .i64 0, .int .i64 0, .bool false, .string ⟨#[]⟩] rfl rfl 51 _ HRM.out (by kernel_rfl) (by kernel_rfl) (by kernel_rfl) ?_); intro wz hgz hzz hhz; have HBZ := Lib.hid (bel_grown HBM.out hgz (Nat.le_refl _)); have HRZ := Lib.hid hhz; clear hgz hzz hhz))
      exact ⟨rfl, _, results_cell2 rfl _ _ w.heap.size _ _ _ _ (.bool false) rfl rfl HRZ.out Tryz.underlying51 rfl (by kernel_rfl), xidR_none (HRR.out.trans HO.out) HBZ.out⟩
    · rw [hm] at hmay
      have HM := Lib.hid hmay
      have HO : Hid ((if mayX (XIn.xd (⟨fr, tt, sl, (j.toNat : Int), an, (s.extract 11 s.size)⟩ : XIn)) then some (XIn.xd (⟨fr, tt, sl, (j.toNat : Int), an, (s.extract 11 s.size)⟩ : XIn)) else none) = some (XIn.xd (⟨fr, tt, sl, (j.toNat : Int), an, (s.extract 11 s.size)⟩ : XIn))) := by show (if _ then _ else _) = _; rw [hm]; rfl
      clear hmay hm
      go_wp2_with (first
        | (go_at_call 49; (with_reducible refine (HM.out _).mono ?_); rintro e wm ⟨rfl, hb⟩; have HBM := Lib.hid (bel_trans (w := w4) HB_4.out hb); have HRM := Lib.hid (keep_at (w := w4) HR_4.out hb); have HXM := Lib.hid (keep_at (w := w4) HX_4.out hb); have c5 := cell_at HXM.out 5 _ rfl; clear hb)
        | (go_at_call 87; (with_reducible refine (HCL.out _).mono ?_); rintro e wc ⟨rfl, hb⟩; have HBC := Lib.hid (bel_trans (w := wm) HBM.out hb); have HRC := Lib.hid (keep_at (w := wm) HRM.out hb); have HXC := Lib.hid (keep_at (w := wm) HXM.out hb); clear hb)
        | (with_reducible refine wpList_loadB rfl 51 (.tmp 4) rfl w1.heap.size rfl 51 _ HX_4.out _ Tryz.underlying51 rfl (by kernel_rfl) ?_)
        | ((with_reducible refine wpList_store1 rfl 9 (.tmp 40) (.tmp 39) rfl w1.heap.size 5 (.string (s.extract 11 s.size)) rfl rfl 51 _ HXC.out (by simp) (storeStr w1.heap.size 5 (s.extract 11 s.size)) ?_); intro ws hgs hhs; have HBS := Lib.hid (bel_grown HBC.out hgs HG.out); have HRS := Lib.hid (keep_grown HRC.out hgs (Nat.ne_of_lt hlt)); have HXS : Hid (ws.heap[w1.heap.size]? = some (.cells #[.int .u32 fr, .int .u32 tt, .int .i64 sl, .int .i64 (j.toNat : Int), .bool an, .string (s.extract 11 s.size)] 51 (0, 0))) := hhs; clear hgs hhs)
        | (with_reducible refine wpList_loadB rfl 51 (.tmp 4) rfl w1.heap.size rfl 51 _ HXS.out _ Tryz.underlying51 rfl (by kernel_rfl) ?_)
        | ((with_reducible refine wpList_storeB rfl 51 (.tmp 2) _ rfl w.heap.size #[.int .u32 fr, .int .u32 tt, .int .i64 sl, .int .i64 (j.toNat : Int), .bool an, .string (s.extract 11 s.size)] rfl rfl 51 _ HRS.out (by kernel_rfl) (by kernel_rfl) HONE0.out ?_); intro wz hgz hzz hhz; have HBZ := Lib.hid (bel_grown HBS.out hgz (Nat.le_refl _)); have HRZ := Lib.hid hhz; clear hgz hzz hhz))
      exact ⟨rfl, _, results_cell2 rfl _ _ w.heap.size _ _ _ _ (.bool true) rfl rfl HRZ.out Tryz.underlying51 rfl (by kernel_rfl), xidR_of (HRR.out.trans HO.out) rfl HBZ.out⟩

theorem i8_of (k : UInt8) : IntKind.i8.wrap (k.toNat : Int) = if k.toNat < 128 then (k.toNat : Int) else (k.toNat : Int) - 256 := by
  have h : ∀ c : Fin 256, IntKind.i8.wrap ((c.1 : Nat) : Int) = if c.1 < 128 then (c.1 : Int) else (c.1 : Int) - 256 := by decide +kernel
  exact h ⟨k.toNat, k.toNat_lt⟩
/-- A byte's slot, as it is read with its sign: the same beginnings may be. -/
theorem slot_i8 (f t : Int) (k : UInt8) (n : Int) (a : Bool) (r : List UInt8) (sl : Int) (h : sl = if k.toNat < 128 then (k.toNat : Int) else (k.toNat : Int) - 256) :
    (if mayX ⟨f, t, sl, n, a, r⟩ then some (⟨f, t, sl, n, a, r⟩ : Xd) else none) = (if mayX ⟨f, t, slotOf k, n, a, r⟩ then some ⟨f, t, slotOf k, n, a, r⟩ else none) := by
  have hk := k.toNat_lt
  by_cases h1 : k.toNat < 128
  · rw [if_pos h1] at h
    rw [show slotOf k = sl by unfold slotOf; rw [if_neg (by omega), h]]
  · rw [if_neg h1] at h
    by_cases h2 : k.toNat = 255
    · rw [show slotOf k = sl by unfold slotOf; rw [if_pos h2, h]; omega]
    · have e1 : slotOf k = (k.toNat : Int) := by unfold slotOf; rw [if_neg h2]
      have a1 : mayX ⟨f, t, sl, n, a, r⟩ = false := by
        unfold mayX
        have : decide (-1 ≤ sl ∧ sl < n) = false := decide_eq_false (by omega)
        simp only [this, Bool.and_false, Bool.false_and]
      have a2 : mayX ⟨f, t, slotOf k, n, a, r⟩ = false := by
        unfold mayX
        simp only [e1]
        by_cases hn : n = 1 ∨ n = 6 ∨ n = 8
        · have : decide (-1 ≤ (k.toNat : Int) ∧ (k.toNat : Int) < n) = false := decide_eq_false (by omega)
          simp only [this, Bool.and_false, Bool.false_and]
        · simp only [decide_eq_false hn, Bool.and_false, Bool.false_and]
      rw [a1, a2]
      rfl
theorem XGet_any (s : ByteArray) (w : World) (hs : s.size ≤ 1000000) : Calls Tryz.prog 50 #[.string s] w (XidR (getX s.data.toList) w) := by
  have hl := ba_len s
  by_cases h11 : s.size < 11
  · rw [getX_short (by omega)]
    exact XGet_short s w h11
  · obtain ⟨a, b, c, d, e, f, g, h, i, j, k, r, hq⟩ := eleven (l := s.data.toList) (by omega)
    have e8 := at_of hq 8 (by omega) (x := i) rfl
    have e9 := at_of hq 9 (by omega) (x := j) rfl
    have e10 := at_of hq 10 (by omega) (x := k) rfl
    have hk : getX s.data.toList = if i.toNat ≤ 1 then (if mayX ⟨num4 a b c d, num4 e f g h, slotOf k, (j.toNat : Int), i.toNat == 1, r⟩ then some ⟨num4 a b c d, num4 e f g h, slotOf k, (j.toNat : Int), i.toNat == 1, r⟩ else none) else none := by rw [hq]; rfl
    rw [hk]
    by_cases hi : i.toNat ≤ 1
    · rw [if_pos hi]
      have hr : (s.extract 11 s.size).data.toList = r := by rw [bl_from_toList, hq]; rfl
      have h0 : (s.extract 0 s.size).data.toList = a :: b :: c :: d :: e :: f :: g :: h :: i :: j :: k :: r := by rw [bl_from_toList, hq]; rfl
      have h4 : (s.extract 4 s.size).data.toList = e :: f :: g :: h :: i :: j :: k :: r := by rw [bl_from_toList, hq]; rfl
      obtain ⟨sl, hsl⟩ : ∃ sl, sl = if k.toNat < 128 then (k.toNat : Int) else (k.toNat : Int) - 256 := ⟨_, rfl⟩
      have hx : (XIn.xd ⟨num4 a b c d, num4 e f g h, sl, (j.toNat : Int), i.toNat == 1, s.extract 11 s.size⟩) = ⟨num4 a b c d, num4 e f g h, sl, (j.toNat : Int), i.toNat == 1, r⟩ := by
        unfold XIn.xd
        rw [hr]
      have hkl := k.toNat_lt
      have := XGet_core s w (num4 a b c d) (num4 e f g h) sl i j k (i.toNat == 1) hs (by omega) (by omega) (by omega) e8 e9 e10 hi (by
        rw [Bool.eq_iff_iff, beq_iff_eq, beq_iff_eq]; omega) (by rw [i8_of, hsl]) (IntWalk.i64_in _ (by rw [hsl]; split <;> omega)) (fun w => Xlead_any _ w h0) (fun w => Xlead_any _ w h4)
      rw [hx, slot_i8 _ _ k _ _ _ sl hsl] at this
      exact this
    · rw [if_neg hi]
      exact XGet_anew s w i (by omega) (by omega) e8 (by omega)
end Go.Proofs.YtcmjdbljdkabpaaGreatDoor
