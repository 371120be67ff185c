/- Of layer 8: Ref8h, Ref8i. -/
import Derived.Test.YtcmjdbljdkabpaaGreatDoorM8D
import Derived.Test.YtcmjdbljdkabpaaGreatDoorM4E

set_option linter.all false

namespace Go.Proofs.YtcmjdbljdkabpaaGreatDoor
open Go.RowKit M

theorem heap_drew {w : World} {g : Nat} {o : Obj} (h : w.heap[g]? = some o) : w.drew.heap[g]? = some o := h
theorem xOne (a b c d : Int) (e : Bool) (f : ByteArray) : (#[.int .u32 a, .int .u32 b, .int .i64 c, .int .i64 d, .bool e, .string f] : Array Value).all (·.oneCell') = true := by simp [Value.oneCell']
set_option maxRecDepth 100000 in
set_option maxHeartbeats 2000000 in
theorem RGetX_short (s : ByteArray) (w : World) (h : s.size < 11) : Calls Tryz.prog 51 #[.string s] w (XidR none w) := by
  have h1 : (s.size : Int) < 11 := by omega
  clear h
  go_enter Tryz.func51, Tryz.ntmps51
  go_wp2
  exact ⟨rfl, _, results_cell2 rfl _ _ w.heap.size _ _ _ _ (.bool false) rfl rfl (heap_alloc_new w _) Tryz.underlying51 rfl (by kernel_rfl), xidR_none rfl (bal (bel0 w) _)⟩
set_option maxRecDepth 100000 in
set_option maxHeartbeats 2000000 in
theorem RGetX_anew (s : ByteArray) (w : World) (i : UInt8) (h8 : 8 < s.size) (h : 11 ≤ s.size) (e8 : s[8] = i) (hi : 1 < i.toNat) : Calls Tryz.prog 51 #[.string s] w (XidR none w) := by
  have h1 : ¬ (s.size : Int) < 11 := by omega
  have h2 : (8 : Int) < (s.size : Int) := by omega
  have h3 : (1 : Int) < (i.toNat : Int) := by omega
  clear h hi
  go_enter Tryz.func51, Tryz.ntmps51
  go_wp2
  exact ⟨rfl, _, results_cell2 rfl _ _ w.heap.size _ _ _ _ (.bool false) rfl rfl (heap_alloc_new w _) Tryz.underlying51 rfl (by kernel_rfl), xidR_none rfl (bal (bel0 w) _)⟩

theorem slot_not {k : UInt8} (h : ((k.toNat : Int) == 255) = false) : slotOf k = (k.toNat : Int) := by
  have := beq_eq_false_iff_ne.1 h
  unfold slotOf
  rw [if_neg (by omega)]
theorem slot_255 {k : UInt8} (h : ((k.toNat : Int) == 255) = true) : slotOf k = -1 := by
  have := beq_iff_eq.1 h
  unfold slotOf
  rw [if_pos (by omega)]
theorem xidR_of {r : Option Xd} {x : XIn} {w w' : World} {v : Value} (h : r = some x.xd) (hv : v = x.val) (hb : Below w.heap.size w w') : XidR r w (.returned (.tuple #[v, .bool true])) w' := by
  subst h; subst hv
  exact ⟨by show _ = Ending.returned (.tuple #[x.xd.xin.val, .bool true]); rw [XIn.back], hb⟩
set_option maxRecDepth 100000 in
set_option maxHeartbeats 16000000 in
theorem RGetX_core (s : ByteArray) (w : World) (fr tt : Int) (i j k : UInt8) (an : Bool) (hs : s.size ≤ 1000000) (h8 : 8 < s.size) (h9 : 9 < s.size) (h10 : 10 < s.size) (e8 : s[8] = i) (e9 : s[9] = j) (e10 : s[10] = k) (hi : i.toNat ≤ 1) (han : ((i.toNat : Int) == 1) = an)
    (hf : ∀ w, Calls Tryz.prog 88 #[.string s] w fun e w' => e = .returned (.int .u32 fr) ∧ w' = w.drew) (ht : ∀ w, Calls Tryz.prog 88 #[.string (s.extract 4 s.size)] w fun e w' => e = .returned (.int .u32 tt) ∧ w' = w.drew) :
    Calls Tryz.prog 51 #[.string s] w (XidR (if mayX (XIn.xd ⟨fr, tt, slotOf k, (j.toNat : Int), an, (s.extract 11 s.size)⟩) then some (XIn.xd ⟨fr, tt, slotOf k, (j.toNat : Int), an, (s.extract 11 s.size)⟩) else none) w) := by
  have hjl := j.toNat_lt
  have hkl := k.toNat_lt
  have i1 : ¬ (s.size : Int) < 11 := by omega
  have i2 : (8 : Int) < (s.size : Int) := by omega
  have i3 : (9 : Int) < (s.size : Int) := by omega
  have i4 : (10 : Int) < (s.size : Int) := by omega
  have i5 : (4 : Int) ≤ (s.size : Int) := by omega
  have i6 : (11 : Int) ≤ (s.size : Int) := by omega
  have i7 : ¬ (1 : Int) < (i.toNat : Int) := by omega
  have v1 : IntKind.i64.wrap (j.toNat : Int) = (j.toNat : Int) := IntWalk.i64_in _ (by omega)
  have v2 : IntKind.i64.wrap (k.toNat : Int) = (k.toNat : Int) := IntWalk.i64_in _ (by omega)
  have hnk : (s.extract 11 s.size).size ≤ 1000000 := by rw [ByteArray.size_extract]; omega
  have HONE0 := Lib.hid (xOne fr tt (k.toNat : Int) (j.toNat : Int) an (s.extract 11 s.size))
  have HF := Lib.hid hf
  have HT := Lib.hid ht
  obtain ⟨r, hr⟩ : ∃ r, r = (if mayX (XIn.xd ⟨fr, tt, slotOf k, (j.toNat : Int), an, (s.extract 11 s.size)⟩) then some (XIn.xd ⟨fr, tt, slotOf k, (j.toNat : Int), an, (s.extract 11 s.size)⟩) else none) := ⟨_, rfl⟩
  rw [← hr]
  have HRR := Lib.hid hr
  clear hr hf ht hi hjl hkl hs
  go_enter Tryz.func51, Tryz.ntmps51
  go_wp2
  obtain ⟨w1, hw1⟩ : ∃ w1, w1 = w.alloc (.cells #[.int .u32 0, .int .u32 0, .int .i64 0, .int .i64 0, .bool false, .string ⟨#[]⟩] 51) := ⟨_, rfl⟩
  have HB_2 : Hid (Below w.heap.size w w1.drew) := by show Below _ _ _; rw [hw1]; exact (bal (bel0 w) _).drew
  have HR_2 : Hid (w1.drew.heap[w.heap.size]? = some (.cells #[.int .u32 0, .int .u32 0, .int .i64 0, .int .i64 0, .bool false, .string ⟨#[]⟩] 51 (0, 0))) := by show _ = _; rw [hw1]; exact heap_alloc_new w _
  have HE_2 : Hid (Below w1.heap.size w1 w1.drew) := (bel0 w1).drew
  have hlt : w.heap.size < w1.heap.size := lt_at HR_2.out
  rw [← hw1]
  clear hw1
  refine' region_shared (fun W => Below w.heap.size w W ∧ W.heap[w.heap.size]? = some (.cells #[.int .u32 0, .int .u32 0, .int .i64 0, .int .i64 0, .bool false, .string ⟨#[]⟩] 51 (0, 0)) ∧ W.heap[w1.heap.size]? = some (.cells #[.int .u32 fr, .int .u32 tt, .int .i64 (k.toNat : Int), .int .i64 (j.toNat : Int), .bool an, .string (s.extract 11 s.size)] 51 (0, 0))) _ ?cont ?reg
  case reg =>
    intro hK
    refine rests_begin (From w1) (by kernel_rfl) ?_
    refine rests_take 0 (oi := _) (v := ?_) (by simp only [List.getElem?_toArray, List.getElem?_cons_zero]; rfl) (by kernel_rfl) (by kernel_rfl) (by kernel_rfl) (by exact fun _ _ _ h => h) (HE_2.out) (by rfl) ?_ ?_; rotate_left; (· intro W HW; go_simp; try with_reducible rfl)
    simp only [Act.put, List.setIfInBounds_toArray, List.set_cons_zero, List.set_cons_succ]
    refine rests_take 2 (oi := _) (v := ?_) (by simp only [List.getElem?_toArray, List.getElem?_cons_succ, List.getElem?_cons_zero]; rfl) (by kernel_rfl) (by kernel_rfl) (by kernel_rfl) (by exact fun _ _ _ h => h) (HE_2.out) (by rfl) ?_ ?_; rotate_left; (· intro W HW; go_simp; try with_reducible rfl)
    simp only [Act.put, List.setIfInBounds_toArray, List.set_cons_zero, List.set_cons_succ]
    refine rests_take 3 (oi := _) (v := ?_) (by simp only [List.getElem?_toArray, List.getElem?_cons_succ, List.getElem?_cons_zero]; rfl) (by kernel_rfl) (by kernel_rfl) (by kernel_rfl) (by exact fun _ _ _ h => h) (HE_2.out) (by rfl) ?_ ?_; rotate_left; (· intro W HW; go_simp; try with_reducible rfl)
    simp only [Act.put, List.setIfInBounds_toArray, List.set_cons_zero, List.set_cons_succ]
    refine rests_take 5 (oi := _) (v := ?_) (by simp only [List.getElem?_toArray, List.getElem?_cons_succ, List.getElem?_cons_zero]; rfl) (by kernel_rfl) (by kernel_rfl) (by kernel_rfl) (by exact fun _ _ _ h => h) (HE_2.out) (by rfl) ?_ ?_; rotate_left; (· intro W HW; go_simp; try with_reducible rfl)
    simp only [Act.put, List.setIfInBounds_toArray, List.set_cons_zero, List.set_cons_succ]
    refine rests_take 6 (oi := _) (v := ?_) (by simp only [List.getElem?_toArray, List.getElem?_cons_succ, List.getElem?_cons_zero]; rfl) (by kernel_rfl) (by kernel_rfl) (by kernel_rfl) (by exact fun _ _ _ h => h) (HE_2.out) (by rfl) ?_ ?_; rotate_left; (· intro W HW; go_simp; try with_reducible rfl)
    simp only [Act.put, List.setIfInBounds_toArray, List.set_cons_zero, List.set_cons_succ]
    refine rests_take 7 (oi := _) (v := ?_) (by simp only [List.getElem?_toArray, List.getElem?_cons_succ, List.getElem?_cons_zero]; rfl) (by kernel_rfl) (by kernel_rfl) (by kernel_rfl) (by exact fun _ _ _ h => h) (HE_2.out) (by rfl) ?_ ?_; rotate_left; (· intro W HW; go_simp; try with_reducible rfl)
    simp only [Act.put, List.setIfInBounds_toArray, List.set_cons_zero, List.set_cons_succ]
    refine rests_take 8 (oi := _) (v := ?_) (by simp only [List.getElem?_toArray, List.getElem?_cons_succ, List.getElem?_cons_zero]; rfl) (by kernel_rfl) (by kernel_rfl) (by kernel_rfl) (by exact fun _ _ _ h => h) (HE_2.out) (by rfl) ?_ ?_; rotate_left; (· intro W HW; go_simp; try with_reducible rfl)
    simp only [Act.put, List.setIfInBounds_toArray, List.set_cons_zero, List.set_cons_succ]
    refine rests_take 9 (oi := _) (v := ?_) (by simp only [List.getElem?_toArray, List.getElem?_cons_succ, List.getElem?_cons_zero]; rfl) (by kernel_rfl) (by kernel_rfl) (by kernel_rfl) (by exact fun _ _ _ h => h) (HE_2.out) (by rfl) ?_ ?_; rotate_left; (· intro W HW; go_simp; try with_reducible rfl)
    simp only [Act.put, List.setIfInBounds_toArray, List.set_cons_zero, List.set_cons_succ]
    refine rests_take 10 (oi := _) (v := ?_) (by simp only [List.getElem?_toArray, List.getElem?_cons_succ, List.getElem?_cons_zero]; rfl) (by kernel_rfl) (by kernel_rfl) (by kernel_rfl) (by exact fun _ _ _ h => h) (HE_2.out) (by rfl) ?_ ?_; rotate_left; (· intro W HW; go_simp; try with_reducible rfl)
    simp only [Act.put, List.setIfInBounds_toArray, List.set_cons_zero, List.set_cons_succ]
    refine rests_take 11 (oi := _) (v := ?_) (by simp only [List.getElem?_toArray, List.getElem?_cons_succ, List.getElem?_cons_zero]; rfl) (by kernel_rfl) (by kernel_rfl) (by kernel_rfl) (by exact fun _ _ _ h => h) (HE_2.out) (by rfl) ?_ ?_; rotate_left; (· intro W HW; go_simp; try with_reducible rfl)
    simp only [Act.put, List.setIfInBounds_toArray, List.set_cons_zero, List.set_cons_succ]
    refine rests_take 12 (oi := _) (v := ?_) (by simp only [List.getElem?_toArray, List.getElem?_cons_succ, List.getElem?_cons_zero]; rfl) (by kernel_rfl) (by kernel_rfl) (by kernel_rfl) (by exact fun _ _ _ h => h) (HE_2.out) (by rfl) ?_ ?_; rotate_left; (· intro W HW; go_simp; try with_reducible rfl)
    simp only [Act.put, List.setIfInBounds_toArray, List.set_cons_zero, List.set_cons_succ]
    refine rests_take 13 (oi := _) (v := ?_) (by simp only [List.getElem?_toArray, List.getElem?_cons_succ, List.getElem?_cons_zero]; rfl) (by kernel_rfl) (by kernel_rfl) (by kernel_rfl) (by exact fun _ _ _ h => h) (HE_2.out) (by rfl) ?_ ?_; rotate_left; (· intro W HW; go_simp; try with_reducible rfl)
    simp only [Act.put, List.setIfInBounds_toArray, List.set_cons_zero, List.set_cons_succ]
    refine rests_take 14 (oi := _) (v := ?_) (by simp only [List.getElem?_toArray, List.getElem?_cons_succ, List.getElem?_cons_zero]; rfl) (by kernel_rfl) (by kernel_rfl) (by kernel_rfl) (by exact fun _ _ _ h => h) (HE_2.out) (by rfl) ?_ ?_; rotate_left; (· intro W HW; go_simp; try with_reducible rfl)
    simp only [Act.put, List.setIfInBounds_toArray, List.set_cons_zero, List.set_cons_succ]
    refine rests_take 15 (oi := _) (v := ?_) (by simp only [List.getElem?_toArray, List.getElem?_cons_succ, List.getElem?_cons_zero]; rfl) (by kernel_rfl) (by kernel_rfl) (by kernel_rfl) (by exact fun _ _ _ h => h) (HE_2.out) (by rfl) ?_ ?_; rotate_left; (· intro W HW; go_simp; try with_reducible rfl)
    simp only [Act.put, List.setIfInBounds_toArray, List.set_cons_zero, List.set_cons_succ]
    refine rests_two 1 17 (oi := _) (oj := _) (by simp only [List.getElem?_toArray, List.getElem?_cons_succ, List.getElem?_cons_zero]; rfl) (by simp only [List.getElem?_toArray, List.getElem?_cons_succ, List.getElem?_cons_zero]; rfl) (by kernel_rfl) (by rfl) (by rfl) ?_ ?_
    · refine wp_enter (f := 88) (args := #[.string s]) (by go_simp) (HF.out (w1.drew)) ?_
      rintro e w' ⟨rfl, rfl⟩; have HB_3 := Lib.hid (HB_2.out).drew; have HE_3 := Lib.hid (HE_2.out).drew; have HR_3 := Lib.hid (heap_drew (w := w1.drew) HR_2.out); refine ⟨_, rfl, HE_3.out, ?_⟩
      simp only [Act.put, List.setIfInBounds_toArray, List.set_cons_zero, List.set_cons_succ]
      refine rests_two 4 17 (oi := _) (oj := _) (by simp only [List.getElem?_toArray, List.getElem?_cons_succ, List.getElem?_cons_zero]; rfl) (by simp only [List.getElem?_toArray, List.getElem?_cons_succ, List.getElem?_cons_zero]; rfl) (by kernel_rfl) (by rfl) (by rfl) ?_ ?_
      · refine wp_enter (f := 88) (args := #[.string (s.extract 4 s.size)]) (by go_simp) (HT.out ((w1.drew).drew)) ?_
        rintro e w' ⟨rfl, rfl⟩; have HB_4 := Lib.hid (HB_3.out).drew; have HE_4 := Lib.hid (HE_3.out).drew; have HR_4 := Lib.hid (heap_drew (w := (w1.drew).drew) HR_3.out); refine ⟨_, rfl, HE_4.out, ?_⟩
        simp only [Act.put, List.setIfInBounds_toArray, List.set_cons_zero, List.set_cons_succ]
        refine rests_take 16 (oi := _) (v := ?_) (by simp only [List.getElem?_toArray, List.getElem?_cons_succ, List.getElem?_cons_zero]; rfl) (by kernel_rfl) (by kernel_rfl) (by kernel_rfl) (by exact fun _ _ _ h => h) (HE_4.out) (by rfl) ?_ ?_; rotate_left; (· intro W HW; go_simp; try with_reducible rfl)
        simp only [Act.put, List.setIfInBounds_toArray, List.set_cons_zero, List.set_cons_succ]
        refine rests_run 17 (oi := _) (by simp only [List.getElem?_toArray, List.getElem?_cons_succ, List.getElem?_cons_zero]; rfl) (by kernel_rfl) (by rfl) (.pointer (some ⟨w1.heap.size, 0, none⟩)) ((((w1.drew).drew).drew).alloc (.cells #[.int .u32 0, .int .u32 0, .int .i64 0, .int .i64 0, .bool false, .string ⟨#[]⟩] 51)) (by go_simp) ⟨bal HE_4.out _, ?_⟩
        have HB_5 := Lib.hid (bal (w := ((w1.drew).drew).drew) HB_4.out (.cells #[.int .u32 0, .int .u32 0, .int .i64 0, .int .i64 0, .bool false, .string ⟨#[]⟩] 51)); have HE_5 := Lib.hid (bal (w := ((w1.drew).drew).drew) HE_4.out (.cells #[.int .u32 0, .int .u32 0, .int .i64 0, .int .i64 0, .bool false, .string ⟨#[]⟩] 51)); have HR_5 := Lib.hid (keep_at (w := ((w1.drew).drew).drew) HR_4.out (bal (bel0 (((w1.drew).drew).drew)) (.cells #[.int .u32 0, .int .u32 0, .int .i64 0, .int .i64 0, .bool false, .string ⟨#[]⟩] 51))); have HX_5 := Lib.hid (heap_alloc_new (((w1.drew).drew).drew) (.cells #[.int .u32 0, .int .u32 0, .int .i64 0, .int .i64 0, .bool false, .string ⟨#[]⟩] 51))
        simp only [Act.put, List.setIfInBounds_toArray, List.set_cons_zero, List.set_cons_succ]
        refine rests_storeB 18 (oi := _) (by simp only [List.getElem?_toArray, List.getElem?_cons_succ, List.getElem?_cons_zero]; rfl) (by kernel_rfl) (by rfl) 51 (.tmp 4) (.tmp 30) rfl w1.heap.size #[.int .u32 fr, .int .u32 tt, .int .i64 (k.toNat : Int), .int .i64 (j.toNat : Int), .bool an, .string (s.extract 11 s.size)] rfl rfl 51 _ HX_5.out (by kernel_rfl) rfl HONE0.out ?_
        intro w6 hg6 hz6 hh6; have HB_6 := Lib.hid (bel_grown HB_5.out hg6 (Nat.le_of_lt hlt)); have HE_6 := Lib.hid (bel_grown HE_5.out hg6 (Nat.le_refl _)); have HR_6 := Lib.hid (keep_grown HR_5.out hg6 (Nat.ne_of_lt hlt)); have HX_6 := Lib.hid hh6; refine ⟨HE_6.out, ?_⟩; clear hg6 hz6 hh6
        simp only [Act.put, List.setIfInBounds_toArray, List.set_cons_zero, List.set_cons_succ]
        refine rests_done (by kernel_rfl) ?_
        exact hK _ ⟨HB_6.out, HR_6.out, HX_6.out⟩
      · refine wp_val (v := .pointer (some ⟨w1.heap.size, 0, none⟩)) (w' := ((w1.drew).drew).alloc (.cells #[.int .u32 0, .int .u32 0, .int .i64 0, .int .i64 0, .bool false, .string ⟨#[]⟩] 51)) (by go_simp) ⟨bal HE_3.out _, ?_⟩
        have HB_4 := Lib.hid (bal (w := (w1.drew).drew) HB_3.out (.cells #[.int .u32 0, .int .u32 0, .int .i64 0, .int .i64 0, .bool false, .string ⟨#[]⟩] 51)); have HE_4 := Lib.hid (bal (w := (w1.drew).drew) HE_3.out (.cells #[.int .u32 0, .int .u32 0, .int .i64 0, .int .i64 0, .bool false, .string ⟨#[]⟩] 51)); have HR_4 := Lib.hid (keep_at (w := (w1.drew).drew) HR_3.out (bal (bel0 ((w1.drew).drew)) (.cells #[.int .u32 0, .int .u32 0, .int .i64 0, .int .i64 0, .bool false, .string ⟨#[]⟩] 51))); have HX_4 := Lib.hid (heap_alloc_new ((w1.drew).drew) (.cells #[.int .u32 0, .int .u32 0, .int .i64 0, .int .i64 0, .bool false, .string ⟨#[]⟩] 51))
        simp only [Act.put, List.setIfInBounds_toArray, List.set_cons_zero, List.set_cons_succ]
        refine rests_call 4 (oi := _) (by simp only [List.getElem?_toArray, List.getElem?_cons_succ, List.getElem?_cons_zero]; rfl) 88 #[.string (s.extract 4 s.size)] _ (by kernel_rfl) (by rfl) (by go_simp) (HT.out ((((w1.drew).drew).alloc (.cells #[.int .u32 0, .int .u32 0, .int .i64 0, .int .i64 0, .bool false, .string ⟨#[]⟩] 51)))) ?_
        rintro e w' ⟨rfl, rfl⟩; have HB_5 := Lib.hid (HB_4.out).drew; have HE_5 := Lib.hid (HE_4.out).drew; have HR_5 := Lib.hid (heap_drew (w := (((w1.drew).drew).alloc (.cells #[.int .u32 0, .int .u32 0, .int .i64 0, .int .i64 0, .bool false, .string ⟨#[]⟩] 51))) HR_4.out); have HX_5 := Lib.hid (heap_drew (w := (((w1.drew).drew).alloc (.cells #[.int .u32 0, .int .u32 0, .int .i64 0, .int .i64 0, .bool false, .string ⟨#[]⟩] 51))) HX_4.out); refine ⟨_, rfl, HE_5.out, ?_⟩
        simp only [Act.put, List.setIfInBounds_toArray, List.set_cons_zero, List.set_cons_succ]
        refine rests_take 16 (oi := _) (v := ?_) (by simp only [List.getElem?_toArray, List.getElem?_cons_succ, List.getElem?_cons_zero]; rfl) (by kernel_rfl) (by kernel_rfl) (by kernel_rfl) (by exact fun _ _ _ h => h) (HE_5.out) (by rfl) ?_ ?_; rotate_left; (· intro W HW; go_simp; try with_reducible rfl)
        simp only [Act.put, List.setIfInBounds_toArray, List.set_cons_zero, List.set_cons_succ]
        refine rests_storeB 18 (oi := _) (by simp only [List.getElem?_toArray, List.getElem?_cons_succ, List.getElem?_cons_zero]; rfl) (by kernel_rfl) (by rfl) 51 (.tmp 4) (.tmp 30) rfl w1.heap.size #[.int .u32 fr, .int .u32 tt, .int .i64 (k.toNat : Int), .int .i64 (j.toNat : Int), .bool an, .string (s.extract 11 s.size)] rfl rfl 51 _ HX_5.out (by kernel_rfl) rfl HONE0.out ?_
        intro w6 hg6 hz6 hh6; have HB_6 := Lib.hid (bel_grown HB_5.out hg6 (Nat.le_of_lt hlt)); have HE_6 := Lib.hid (bel_grown HE_5.out hg6 (Nat.le_refl _)); have HR_6 := Lib.hid (keep_grown HR_5.out hg6 (Nat.ne_of_lt hlt)); have HX_6 := Lib.hid hh6; refine ⟨HE_6.out, ?_⟩; clear hg6 hz6 hh6
        simp only [Act.put, List.setIfInBounds_toArray, List.set_cons_zero, List.set_cons_succ]
        refine rests_done (by kernel_rfl) ?_
        exact hK _ ⟨HB_6.out, HR_6.out, HX_6.out⟩
    · refine wp_val (v := .pointer (some ⟨w1.heap.size, 0, none⟩)) (w' := (w1.drew).alloc (.cells #[.int .u32 0, .int .u32 0, .int .i64 0, .int .i64 0, .bool false, .string ⟨#[]⟩] 51)) (by go_simp) ⟨bal HE_2.out _, ?_⟩
      have HB_3 := Lib.hid (bal (w := w1.drew) HB_2.out (.cells #[.int .u32 0, .int .u32 0, .int .i64 0, .int .i64 0, .bool false, .string ⟨#[]⟩] 51)); have HE_3 := Lib.hid (bal (w := w1.drew) HE_2.out (.cells #[.int .u32 0, .int .u32 0, .int .i64 0, .int .i64 0, .bool false, .string ⟨#[]⟩] 51)); have HR_3 := Lib.hid (keep_at (w := w1.drew) HR_2.out (bal (bel0 (w1.drew)) (.cells #[.int .u32 0, .int .u32 0, .int .i64 0, .int .i64 0, .bool false, .string ⟨#[]⟩] 51))); have HX_3 := Lib.hid (heap_alloc_new (w1.drew) (.cells #[.int .u32 0, .int .u32 0, .int .i64 0, .int .i64 0, .bool false, .string ⟨#[]⟩] 51))
      simp only [Act.put, List.setIfInBounds_toArray, List.set_cons_zero, List.set_cons_succ]
      refine rests_call 1 (oi := _) (by simp only [List.getElem?_toArray, List.getElem?_cons_succ, List.getElem?_cons_zero]; rfl) 88 #[.string s] _ (by kernel_rfl) (by rfl) (by go_simp) (HF.out (((w1.drew).alloc (.cells #[.int .u32 0, .int .u32 0, .int .i64 0, .int .i64 0, .bool false, .string ⟨#[]⟩] 51)))) ?_
      rintro e w' ⟨rfl, rfl⟩; have HB_4 := Lib.hid (HB_3.out).drew; have HE_4 := Lib.hid (HE_3.out).drew; have HR_4 := Lib.hid (heap_drew (w := ((w1.drew).alloc (.cells #[.int .u32 0, .int .u32 0, .int .i64 0, .int .i64 0, .bool false, .string ⟨#[]⟩] 51))) HR_3.out); have HX_4 := Lib.hid (heap_drew (w := ((w1.drew).alloc (.cells #[.int .u32 0, .int .u32 0, .int .i64 0, .int .i64 0, .bool false, .string ⟨#[]⟩] 51))) HX_3.out); refine ⟨_, rfl, HE_4.out, ?_⟩
      simp only [Act.put, List.setIfInBounds_toArray, List.set_cons_zero, List.set_cons_succ]
      refine rests_call 4 (oi := _) (by simp only [List.getElem?_toArray, List.getElem?_cons_succ, List.getElem?_cons_zero]; rfl) 88 #[.string (s.extract 4 s.size)] _ (by kernel_rfl) (by rfl) (by go_simp) (HT.out ((((w1.drew).alloc (.cells #[.int .u32 0, .int .u32 0, .int .i64 0, .int .i64 0, .bool false, .string ⟨#[]⟩] 51))).drew)) ?_
      rintro e w' ⟨rfl, rfl⟩; have HB_5 := Lib.hid (HB_4.out).drew; have HE_5 := Lib.hid (HE_4.out).drew; have HR_5 := Lib.hid (heap_drew (w := (((w1.drew).alloc (.cells #[.int .u32 0, .int .u32 0, .int .i64 0, .int .i64 0, .bool false, .string ⟨#[]⟩] 51))).drew) HR_4.out); have HX_5 := Lib.hid (heap_drew (w := (((w1.drew).alloc (.cells #[.int .u32 0, .int .u32 0, .int .i64 0, .int .i64 0, .bool false, .string ⟨#[]⟩] 51))).drew) HX_4.out); refine ⟨_, rfl, HE_5.out, ?_⟩
      simp only [Act.put, List.setIfInBounds_toArray, List.set_cons_zero, List.set_cons_succ]
      refine rests_take 16 (oi := _) (v := ?_) (by simp only [List.getElem?_toArray, List.getElem?_cons_succ, List.getElem?_cons_zero]; rfl) (by kernel_rfl) (by kernel_rfl) (by kernel_rfl) (by exact fun _ _ _ h => h) (HE_5.out) (by rfl) ?_ ?_; rotate_left; (· intro W HW; go_simp; try with_reducible rfl)
      simp only [Act.put, List.setIfInBounds_toArray, List.set_cons_zero, List.set_cons_succ]
      refine rests_storeB 18 (oi := _) (by simp only [List.getElem?_toArray, List.getElem?_cons_succ, List.getElem?_cons_zero]; rfl) (by kernel_rfl) (by rfl) 51 (.tmp 4) (.tmp 30) rfl w1.heap.size #[.int .u32 fr, .int .u32 tt, .int .i64 (k.toNat : Int), .int .i64 (j.toNat : Int), .bool an, .string (s.extract 11 s.size)] rfl rfl 51 _ HX_5.out (by kernel_rfl) rfl HONE0.out ?_
      intro w6 hg6 hz6 hh6; have HB_6 := Lib.hid (bel_grown HB_5.out hg6 (Nat.le_of_lt hlt)); have HE_6 := Lib.hid (bel_grown HE_5.out hg6 (Nat.le_refl _)); have HR_6 := Lib.hid (keep_grown HR_5.out hg6 (Nat.ne_of_lt hlt)); have HX_6 := Lib.hid hh6; refine ⟨HE_6.out, ?_⟩; clear hg6 hz6 hh6
      simp only [Act.put, List.setIfInBounds_toArray, List.set_cons_zero, List.set_cons_succ]
      refine rests_done (by kernel_rfl) ?_
      exact hK _ ⟨HB_6.out, HR_6.out, HX_6.out⟩
  case cont =>
    rintro w4 ⟨hb4, hr4, hx4⟩
    have HB_4 := Lib.hid hb4
    have HR_4 := Lib.hid hr4
    have HX_4 := Lib.hid hx4
    have HG_4 : Hid (w.heap.size ≤ w1.heap.size) := Nat.le_of_lt hlt
    have HG1_4 : Hid (w1.heap.size ≤ w1.heap.size) := Nat.le_refl _
    clear hb4 hr4 hx4
    rcases hk : ((k.toNat : Int) == 255) with _ | _
    · have hq : (if mayX (XIn.xd ⟨fr, tt, slotOf k, (j.toNat : Int), an, (s.extract 11 s.size)⟩) then some (XIn.xd ⟨fr, tt, slotOf k, (j.toNat : Int), an, (s.extract 11 s.size)⟩) else none) = (if mayX (XIn.xd ⟨fr, tt, (k.toNat : Int), (j.toNat : Int), an, (s.extract 11 s.size)⟩) then some (XIn.xd ⟨fr, tt, (k.toNat : Int), (j.toNat : Int), an, (s.extract 11 s.size)⟩) else none) := by rw [slot_not hk]
      have HQ := Lib.hid hq
      clear hq
      have HONE := Lib.hid (xOne fr tt (k.toNat : Int) (j.toNat : Int) an (s.extract 11 s.size))
      have hmay := fun w => RMayX_any (⟨fr, tt, (k.toNat : Int), (j.toNat : Int), an, (s.extract 11 s.size)⟩ : XIn) w hnk
      rcases hm : mayX (XIn.xd (⟨fr, tt, (k.toNat : Int), (j.toNat : Int), an, (s.extract 11 s.size)⟩ : XIn)) with _ | _
      · rw [hm] at hmay
        have HM := Lib.hid hmay
        have HO : Hid ((if mayX (XIn.xd (⟨fr, tt, (k.toNat : Int), (j.toNat : Int), an, (s.extract 11 s.size)⟩ : XIn)) then some (XIn.xd (⟨fr, tt, (k.toNat : Int), (j.toNat : Int), an, (s.extract 11 s.size)⟩ : XIn)) else none) = none) := by show (if _ then _ else _) = _; rw [hm]; rfl
        clear hmay hm
        go_wp2_with (first
          | (go_at_call 81; (with_reducible refine (HM.out _).mono ?_); rintro e wm ⟨rfl, hb⟩; have HBM := Lib.hid (bel_trans (w := w4) HB_4.out hb); have HRM := Lib.hid (keep_at (w := w4) HR_4.out hb); have HXM := Lib.hid (keep_at (w := w4) HX_4.out hb); clear hb)
          | (with_reducible refine wpList_loadB rfl 51 (.tmp 4) rfl w1.heap.size rfl 51 _ HX_4.out _ Tryz.underlying51 rfl (by kernel_rfl) ?_)
          | ((with_reducible refine wpList_storeB rfl 51 (.tmp 2) _ rfl w.heap.size #[.int .u32 0, .int .u32 0, .int .i64 0, .int .i64 0, .bool false, .string ⟨#[]⟩] rfl rfl 51 _ HRM.out (by kernel_rfl) (by kernel_rfl) (by kernel_rfl) ?_); intro wz hgz hzz hhz; have HBZ := Lib.hid (bel_grown HBM.out hgz (Nat.le_refl _)); have HRZ := Lib.hid hhz; clear hgz hzz hhz))
        exact ⟨rfl, _, results_cell2 rfl _ _ w.heap.size _ _ _ _ (.bool false) rfl rfl HRZ.out Tryz.underlying51 rfl (by kernel_rfl), xidR_none (HRR.out.trans (HQ.out.trans HO.out)) HBZ.out⟩
      · rw [hm] at hmay
        have HM := Lib.hid hmay
        have HO : Hid ((if mayX (XIn.xd (⟨fr, tt, (k.toNat : Int), (j.toNat : Int), an, (s.extract 11 s.size)⟩ : XIn)) then some (XIn.xd (⟨fr, tt, (k.toNat : Int), (j.toNat : Int), an, (s.extract 11 s.size)⟩ : XIn)) else none) = some (XIn.xd (⟨fr, tt, (k.toNat : Int), (j.toNat : Int), an, (s.extract 11 s.size)⟩ : XIn))) := by show (if _ then _ else _) = _; rw [hm]; rfl
        clear hmay hm
        go_wp2_with (first
          | (go_at_call 81; (with_reducible refine (HM.out _).mono ?_); rintro e wm ⟨rfl, hb⟩; have HBM := Lib.hid (bel_trans (w := w4) HB_4.out hb); have HRM := Lib.hid (keep_at (w := w4) HR_4.out hb); have HXM := Lib.hid (keep_at (w := w4) HX_4.out hb); clear hb)
          | (with_reducible refine wpList_loadB rfl 51 (.tmp 4) rfl w1.heap.size rfl 51 _ HX_4.out _ Tryz.underlying51 rfl (by kernel_rfl) ?_)
          | (with_reducible refine wpList_loadB rfl 51 (.tmp 4) rfl w1.heap.size rfl 51 _ HXM.out _ Tryz.underlying51 rfl (by kernel_rfl) ?_)
          | ((with_reducible refine wpList_storeB rfl 51 (.tmp 2) _ rfl w.heap.size #[.int .u32 fr, .int .u32 tt, .int .i64 (k.toNat : Int), .int .i64 (j.toNat : Int), .bool an, .string (s.extract 11 s.size)] rfl rfl 51 _ HRM.out (by kernel_rfl) (by kernel_rfl) HONE.out ?_); intro wz hgz hzz hhz; have HBZ := Lib.hid (bel_grown HBM.out hgz (Nat.le_refl _)); have HRZ := Lib.hid hhz; clear hgz hzz hhz))
        exact ⟨rfl, _, results_cell2 rfl _ _ w.heap.size _ _ _ _ (.bool true) rfl rfl HRZ.out Tryz.underlying51 rfl (by kernel_rfl), xidR_of (HRR.out.trans (HQ.out.trans HO.out)) rfl HBZ.out⟩
    · have hq : (if mayX (XIn.xd ⟨fr, tt, slotOf k, (j.toNat : Int), an, (s.extract 11 s.size)⟩) then some (XIn.xd ⟨fr, tt, slotOf k, (j.toNat : Int), an, (s.extract 11 s.size)⟩) else none) = (if mayX (XIn.xd ⟨fr, tt, -1, (j.toNat : Int), an, (s.extract 11 s.size)⟩) then some (XIn.xd ⟨fr, tt, -1, (j.toNat : Int), an, (s.extract 11 s.size)⟩) else none) := by rw [slot_255 hk]
      have HQ := Lib.hid hq
      clear hq
      have HONE := Lib.hid (xOne fr tt (-1) (j.toNat : Int) an (s.extract 11 s.size))
      have hmay := fun w => RMayX_any (⟨fr, tt, (-1), (j.toNat : Int), an, (s.extract 11 s.size)⟩ : XIn) w hnk
      rcases hm : mayX (XIn.xd (⟨fr, tt, (-1), (j.toNat : Int), an, (s.extract 11 s.size)⟩ : XIn)) with _ | _
      · rw [hm] at hmay
        have HM := Lib.hid hmay
        have HO : Hid ((if mayX (XIn.xd (⟨fr, tt, (-1), (j.toNat : Int), an, (s.extract 11 s.size)⟩ : XIn)) then some (XIn.xd (⟨fr, tt, (-1), (j.toNat : Int), an, (s.extract 11 s.size)⟩ : XIn)) else none) = none) := by show (if _ then _ else _) = _; rw [hm]; rfl
        clear hmay hm
        go_wp2_with (first
          | ((with_reducible refine wpList_store1 rfl 3 (.tmp 34) (.const (.int .i64 (-1))) rfl w1.heap.size 2 (.int .i64 (-1)) rfl rfl 51 _ HX_4.out (by simp) (storeInt w1.heap.size 2 (-1)) ?_); intro ws hgs hhs; have HBS := Lib.hid (bel_grown HB_4.out hgs HG_4.out); have HRS := Lib.hid (keep_grown HR_4.out hgs (Nat.ne_of_lt hlt)); have HXS : Hid (ws.heap[w1.heap.size]? = some (.cells #[.int .u32 fr, .int .u32 tt, .int .i64 (-1), .int .i64 (j.toNat : Int), .bool an, .string (s.extract 11 s.size)] 51 (0, 0))) := hhs; clear hgs hhs)
          | (go_at_call 81; (with_reducible refine (HM.out _).mono ?_); rintro e wm ⟨rfl, hb⟩; have HBM := Lib.hid (bel_trans (w := ws) HBS.out hb); have HRM := Lib.hid (keep_at (w := ws) HRS.out hb); have HXM := Lib.hid (keep_at (w := ws) HXS.out hb); clear hb)
          | (with_reducible refine wpList_loadB rfl 51 (.tmp 4) rfl w1.heap.size rfl 51 _ HXS.out _ Tryz.underlying51 rfl (by kernel_rfl) ?_)
          | ((with_reducible refine wpList_storeB rfl 51 (.tmp 2) _ rfl w.heap.size #[.int .u32 0, .int .u32 0, .int .i64 0, .int .i64 0, .bool false, .string ⟨#[]⟩] rfl rfl 51 _ HRM.out (by kernel_rfl) (by kernel_rfl) (by kernel_rfl) ?_); intro wz hgz hzz hhz; have HBZ := Lib.hid (bel_grown HBM.out hgz (Nat.le_refl _)); have HRZ := Lib.hid hhz; clear hgz hzz hhz))
        exact ⟨rfl, _, results_cell2 rfl _ _ w.heap.size _ _ _ _ (.bool false) rfl rfl HRZ.out Tryz.underlying51 rfl (by kernel_rfl), xidR_none (HRR.out.trans (HQ.out.trans HO.out)) HBZ.out⟩
      · rw [hm] at hmay
        have HM := Lib.hid hmay
        have HO : Hid ((if mayX (XIn.xd (⟨fr, tt, (-1), (j.toNat : Int), an, (s.extract 11 s.size)⟩ : XIn)) then some (XIn.xd (⟨fr, tt, (-1), (j.toNat : Int), an, (s.extract 11 s.size)⟩ : XIn)) else none) = some (XIn.xd (⟨fr, tt, (-1), (j.toNat : Int), an, (s.extract 11 s.size)⟩ : XIn))) := by show (if _ then _ else _) = _; rw [hm]; rfl
        clear hmay hm
        go_wp2_with (first
          | ((with_reducible refine wpList_store1 rfl 3 (.tmp 34) (.const (.int .i64 (-1))) rfl w1.heap.size 2 (.int .i64 (-1)) rfl rfl 51 _ HX_4.out (by simp) (storeInt w1.heap.size 2 (-1)) ?_); intro ws hgs hhs; have HBS := Lib.hid (bel_grown HB_4.out hgs HG_4.out); have HRS := Lib.hid (keep_grown HR_4.out hgs (Nat.ne_of_lt hlt)); have HXS : Hid (ws.heap[w1.heap.size]? = some (.cells #[.int .u32 fr, .int .u32 tt, .int .i64 (-1), .int .i64 (j.toNat : Int), .bool an, .string (s.extract 11 s.size)] 51 (0, 0))) := hhs; clear hgs hhs)
          | (go_at_call 81; (with_reducible refine (HM.out _).mono ?_); rintro e wm ⟨rfl, hb⟩; have HBM := Lib.hid (bel_trans (w := ws) HBS.out hb); have HRM := Lib.hid (keep_at (w := ws) HRS.out hb); have HXM := Lib.hid (keep_at (w := ws) HXS.out hb); clear hb)
          | (with_reducible refine wpList_loadB rfl 51 (.tmp 4) rfl w1.heap.size rfl 51 _ HXS.out _ Tryz.underlying51 rfl (by kernel_rfl) ?_)
          | (with_reducible refine wpList_loadB rfl 51 (.tmp 4) rfl w1.heap.size rfl 51 _ HXM.out _ Tryz.underlying51 rfl (by kernel_rfl) ?_)
          | ((with_reducible refine wpList_storeB rfl 51 (.tmp 2) _ rfl w.heap.size #[.int .u32 fr, .int .u32 tt, .int .i64 (-1), .int .i64 (j.toNat : Int), .bool an, .string (s.extract 11 s.size)] rfl rfl 51 _ HRM.out (by kernel_rfl) (by kernel_rfl) HONE.out ?_); intro wz hgz hzz hhz; have HBZ := Lib.hid (bel_grown HBM.out hgz (Nat.le_refl _)); have HRZ := Lib.hid hhz; clear hgz hzz hhz))
        exact ⟨rfl, _, results_cell2 rfl _ _ w.heap.size _ _ _ _ (.bool true) rfl rfl HRZ.out Tryz.underlying51 rfl (by kernel_rfl), xidR_of (HRR.out.trans (HQ.out.trans HO.out)) rfl HBZ.out⟩
end Go.Proofs.YtcmjdbljdkabpaaGreatDoor

namespace Go.Proofs.YtcmjdbljdkabpaaGreatDoor
open Go.RowKit M

theorem at_of {s : ByteArray} {l : List UInt8} (h : s.data.toList = l) (i : Nat) (hi : i < s.size) {x : UInt8} (hx : l[i]? = some x) : s[i] = x := by
  subst h
  show s.data[i]'hi = x
  rw [← Array.getElem_toList]
  rw [List.getElem?_eq_getElem (by rw [Array.length_toList]; exact hi)] at hx
  injection hx
theorem bl_from_toList (s : ByteArray) (k : Nat) : (s.extract k s.size).data.toList = s.data.toList.drop k := bl_from s k
theorem eleven {l : List UInt8} (h : 11 ≤ l.length) : ∃ a b c d e f g h' i j k r, l = a :: b :: c :: d :: e :: f :: g :: h' :: i :: j :: k :: r := by
  match l, h with
  | a :: b :: c :: d :: e :: f :: g :: h' :: i :: j :: k :: r, _ => exact ⟨a, b, c, d, e, f, g, h', i, j, k, r, rfl⟩
theorem RGetX_any (s : ByteArray) (w : World) (hs : s.size ≤ 1000000) : Calls Tryz.prog 51 #[.string s] w (XidR (getX s.data.toList) w) := by
  have hl := ba_len s
  by_cases h11 : s.size < 11
  · rw [getX_short (by omega)]
    exact RGetX_short s w h11
  · obtain ⟨a, b, c, d, e, f, g, h, i, j, k, r, hq⟩ := eleven (l := s.data.toList) (by omega)
    have e8 := at_of hq 8 (by omega) (x := i) rfl
    have e9 := at_of hq 9 (by omega) (x := j) rfl
    have e10 := at_of hq 10 (by omega) (x := k) rfl
    have hk : getX s.data.toList = if i.toNat ≤ 1 then (if mayX ⟨num4 a b c d, num4 e f g h, slotOf k, (j.toNat : Int), i.toNat == 1, r⟩ then some ⟨num4 a b c d, num4 e f g h, slotOf k, (j.toNat : Int), i.toNat == 1, r⟩ else none) else none := by rw [hq]; rfl
    rw [hk]
    by_cases hi : i.toNat ≤ 1
    · rw [if_pos hi]
      have hr : (s.extract 11 s.size).data.toList = r := by rw [bl_from_toList, hq]; rfl
      have h4 : (s.extract 4 s.size).data.toList = e :: f :: g :: h :: i :: j :: k :: r := by rw [bl_from_toList, hq]; rfl
      have hx : (XIn.xd ⟨num4 a b c d, num4 e f g h, slotOf k, (j.toNat : Int), i.toNat == 1, s.extract 11 s.size⟩) = ⟨num4 a b c d, num4 e f g h, slotOf k, (j.toNat : Int), i.toNat == 1, r⟩ := by
        unfold XIn.xd
        rw [hr]
      have := RGetX_core s w (num4 a b c d) (num4 e f g h) i j k (i.toNat == 1) hs (by omega) (by omega) (by omega) e8 e9 e10 hi (by
        rw [Bool.eq_iff_iff, beq_iff_eq, beq_iff_eq]; omega) (fun w => Rnumber_any s w hq) (fun w => Rnumber_any _ w h4)
      rw [hx] at this
      exact this
    · rw [if_neg hi]
      exact RGetX_anew s w i (by omega) (by omega) e8 (by omega)
end Go.Proofs.YtcmjdbljdkabpaaGreatDoor
