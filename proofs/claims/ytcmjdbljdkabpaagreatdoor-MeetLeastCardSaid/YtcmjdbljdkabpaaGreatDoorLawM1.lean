/- The law MeetLeast. -/
import Derived.Test.YtcmjdbljdkabpaaGreatDoorQ8S
import Derived.Test.YtcmjdbljdkabpaaGreatDoorM8E
import Derived.Test.YtcmjdbljdkabpaaGreatDoorM8M
import Derived.Test.YtcmjdbljdkabpaaGreatDoorBegun8
import Derived.Test.YtcmjdbljdkabpaaGreatDoorM4H

set_option linter.all false

namespace Go.Proofs.YtcmjdbljdkabpaaGreatDoor
open Go.RowKit M

theorem least_may : mayO ⟨1, 1, 1, 1, 1⟩ = true := by decide
theorem least_ok : Of5.ok ⟨1, 1, 1, 1, 1⟩ := Of5.ok_of least_may
set_option maxRecDepth 100000 in
set_option maxHeartbeats 8000000 in
theorem MeetLeast_not (b s wi z wa : Int) (w : World) (ho : Of5.ok ⟨b, s, wi, z, wa⟩) (hm : mayO ⟨b, s, wi, z, wa⟩ = false) (hC : Codes w) : Calls Tryz.prog 19 #[.agg #[.int .i64 b, .int .i64 s, .int .i64 wi, .int .i64 z, .int .i64 wa]] w (Holds8 w) := by
  have HC := Lib.hid hC
  have hd1 := fun w => MDeal_any ⟨b, s, wi, z, wa⟩ ⟨1, 1, 1, 1, 1⟩ w ho least_ok
  have hd2 := fun w => MDeal_any ⟨1, 1, 1, 1, 1⟩ ⟨b, s, wi, z, wa⟩ w least_ok ho
  have hrm := fun w => RMayO_any ⟨b, s, wi, z, wa⟩ w
  unfold DealR at hd1 hd2
  rw [show dealM ⟨b, s, wi, z, wa⟩ ⟨1, 1, 1, 1, 1⟩ = none by unfold dealM; rw [hm]; rfl] at hd1
  rw [show dealM ⟨1, 1, 1, 1, 1⟩ ⟨b, s, wi, z, wa⟩ = none by unfold dealM; rw [hm, Bool.and_false]; rfl] at hd2
  rw [hm] at hrm
  simp only [Option.getD_none, Option.isSome_none] at hd1 hd2
  have HD1 := Lib.hid hd1
  have HD2 := Lib.hid hd2
  have HRM := Lib.hid hrm
  clear hd1 hd2 hrm ho hm hC
  go_enter Tryz.func19, Tryz.ntmps19
  go_wp2_with (first
    | ((with_reducible refine wpList_boxS rfl 23 _ (.tmp 0) rfl rfl (run_boxOf ⟨b, s, wi, z, wa⟩) ?_); intro w1 hb1 hlt1 hh1; have HB1 := Lib.hid hb1; have HH1 := Lib.hid hh1; clear hb1 hh1)
    | (go_at_call 21; (with_reducible refine (begun8_any _ (HC.out.below HB1.out)).mono ?_); rintro e w2 ⟨rfl, hb⟩; have HB2 := Lib.hid (bal (bel_trans HB1.out hb) (.cells #[.int .i64 1, .int .i64 1, .int .i64 1, .int .i64 1, .int .i64 1] 23)); have HA2 := Lib.hid (keep_at (keep_at HH1.out hb) (bal (bel0 w2) (.cells #[.int .i64 1, .int .i64 1, .int .i64 1, .int .i64 1, .int .i64 1] 23))); have HO2 := Lib.hid (heap_alloc_new w2 (.cells #[.int .i64 1, .int .i64 1, .int .i64 1, .int .i64 1, .int .i64 1] 23)); clear hb)
    | (with_reducible refine wpList_loadB rfl 23 (.tmp 1) rfl w.heap.size rfl 23 _ HA2.out _ Tryz.underlying23 rfl (by kernel_rfl) ?_)
    | (with_reducible refine wpList_loadB rfl 23 (.tmp 4) rfl w2.heap.size rfl 23 _ HO2.out _ Tryz.underlying23 rfl (by kernel_rfl) ?_)
    | (go_at_call 42; first
      | ((with_reducible refine (HD1.out _).mono ?_); rintro e w4 ⟨rfl, hb⟩; have HB4 := Lib.hid (bal (bel_trans HB2.out hb) (.cells #[.int .i64 0, .int .i64 0, .int .i64 0, .int .i64 0, .int .i64 0] 42)); have HA4 := Lib.hid (keep_at (keep_at HA2.out hb) (bal (bel0 w4) (.cells #[.int .i64 0, .int .i64 0, .int .i64 0, .int .i64 0, .int .i64 0] 42))); have HO4 := Lib.hid (keep_at (keep_at HO2.out hb) (bal (bel0 w4) (.cells #[.int .i64 0, .int .i64 0, .int .i64 0, .int .i64 0, .int .i64 0] 42))); have HD4 := Lib.hid (heap_alloc_new w4 (.cells #[.int .i64 0, .int .i64 0, .int .i64 0, .int .i64 0, .int .i64 0] 42)); clear hb)
      | ((with_reducible refine (HD2.out _).mono ?_); rintro e w5' ⟨rfl, hb⟩; have HB5' := Lib.hid (bal (bel_trans HB4.out hb) (.cells #[.int .i64 0, .int .i64 0, .int .i64 0, .int .i64 0, .int .i64 0] 42)); have HA5' := Lib.hid (keep_at (keep_at HA4.out hb) (bal (bel0 w5') (.cells #[.int .i64 0, .int .i64 0, .int .i64 0, .int .i64 0, .int .i64 0] 42))); have HD5' := Lib.hid (keep_at (keep_at HD4.out hb) (bal (bel0 w5') (.cells #[.int .i64 0, .int .i64 0, .int .i64 0, .int .i64 0, .int .i64 0] 42))); have HE5' := Lib.hid (heap_alloc_new w5' (.cells #[.int .i64 0, .int .i64 0, .int .i64 0, .int .i64 0, .int .i64 0] 42)); clear hb))
    | (with_reducible refine wpList_loadB rfl 23 (.tmp 1) rfl w.heap.size rfl 23 _ HA4.out _ Tryz.underlying23 rfl (by kernel_rfl) ?_)
    | (with_reducible refine wpList_loadB rfl 23 (.tmp 4) rfl w2.heap.size rfl 23 _ HO4.out _ Tryz.underlying23 rfl (by kernel_rfl) ?_)
    | (with_reducible refine wpList_loadB rfl 23 (.tmp 1) rfl w.heap.size rfl 23 _ HA5'.out _ Tryz.underlying23 rfl (by kernel_rfl) ?_)
    | (go_at_call 58; (with_reducible refine (HRM.out _).mono ?_); rintro e w6 ⟨rfl, hb⟩; have HB6 := Lib.hid (bel_trans HB5'.out hb); clear hb))
  go_ret
  exact ⟨rfl, HB6.out⟩
set_option maxRecDepth 100000 in
set_option maxHeartbeats 8000000 in
theorem MeetLeast_may (b s wi z wa : Int) (w : World) (ho : Of5.ok ⟨b, s, wi, z, wa⟩) (hm : mayO ⟨b, s, wi, z, wa⟩ = true) (hC : Codes w) : Calls Tryz.prog 19 #[.agg #[.int .i64 b, .int .i64 s, .int .i64 wi, .int .i64 z, .int .i64 wa]] w (Holds8 w) := by
  have HC := Lib.hid hC
  have hd1 := fun w => MDeal_any ⟨b, s, wi, z, wa⟩ ⟨1, 1, 1, 1, 1⟩ w ho least_ok
  have hd2 := fun w => MDeal_any ⟨1, 1, 1, 1, 1⟩ ⟨b, s, wi, z, wa⟩ w least_ok ho
  unfold DealR at hd1 hd2
  obtain ⟨l1, l2⟩ := least_deal hm
  have l3 : (dealD ⟨1, 1, 1, 1, 1⟩ ⟨b, s, wi, z, wa⟩).size = sizeQ (high z) := rfl
  obtain ⟨ew, hew⟩ : ∃ q, q = (dealD ⟨1, 1, 1, 1, 1⟩ ⟨b, s, wi, z, wa⟩).win := ⟨_, rfl⟩
  obtain ⟨ea, hea⟩ : ∃ q, q = (dealD ⟨1, 1, 1, 1, 1⟩ ⟨b, s, wi, z, wa⟩).wait := ⟨_, rfl⟩
  obtain ⟨hz, hhz⟩ : ∃ q, high z = q := ⟨_, rfl⟩
  obtain ⟨es, hes⟩ : ∃ q, sizeQ hz = q := ⟨_, rfl⟩
  have he : dealD ⟨1, 1, 1, 1, 1⟩ ⟨b, s, wi, z, wa⟩ = ⟨32, 200, ew, es, ea⟩ := by
    rw [hew, hea, ← l1, ← l2, ← hes, ← hhz, ← l3]
  have hzb := highB_lt z 16
  have hqh := fun w => QHigh_any z w ho.2.2.2.1
  rw [hhz] at hqh
  have hqs := fun w => QSize_any hz w (wf64 (by rw [← hhz]; unfold high; omega))
  rw [hes] at hqs
  rw [show dealM ⟨b, s, wi, z, wa⟩ ⟨1, 1, 1, 1, 1⟩ = some ⟨32, 200, 1, 8, 0⟩ by unfold dealM; rw [hm, least_may, ← deal_least hm]; rfl] at hd1
  rw [show dealM ⟨1, 1, 1, 1, 1⟩ ⟨b, s, wi, z, wa⟩ = some ⟨32, 200, ew, es, ea⟩ by unfold dealM; rw [hm, least_may, he]; rfl] at hd2
  simp only [Option.getD_some, Option.isSome_some] at hd1 hd2
  have HD1 := Lib.hid hd1
  have HD2 := Lib.hid hd2
  have HQH := Lib.hid hqh
  have HQS := Lib.hid hqs
  have HEQ : Hid (∀ W, (binOp .eql 42 (.agg #[.int .i64 32, .int .i64 200, .int .i64 1, .int .i64 8, .int .i64 0]) (.agg #[.int .i64 32, .int .i64 200, .int .i64 1, .int .i64 8, .int .i64 0])).run Tryz.prog W = .ok (.bool true) W) := by
    show ∀ W, _
    intro W
    have := eql_De5 ⟨32, 200, 1, 8, 0⟩ ⟨32, 200, 1, 8, 0⟩ W
    rw [decide_eq_true rfl] at this
    exact this
  have b3 : (es == es) = true := beq_self_eq_true es
  clear hd1 hd2 hqh hqs ho hm hC l1 l2 l3 hew hea he hhz hes hzb
  go_enter Tryz.func19, Tryz.ntmps19
  go_wp2_with (first
    | ((with_reducible refine wpList_boxS rfl 23 _ (.tmp 0) rfl rfl (run_boxOf ⟨b, s, wi, z, wa⟩) ?_); intro w1 hb1 hlt1 hh1; have HB1 := Lib.hid hb1; have HH1 := Lib.hid hh1; clear hb1 hh1)
    | (go_at_call 21; (with_reducible refine (begun8_any _ (HC.out.below HB1.out)).mono ?_); rintro e w2 ⟨rfl, hb⟩; have HB2 := Lib.hid (bal (bel_trans HB1.out hb) (.cells #[.int .i64 1, .int .i64 1, .int .i64 1, .int .i64 1, .int .i64 1] 23)); have HA2 := Lib.hid (keep_at (keep_at HH1.out hb) (bal (bel0 w2) (.cells #[.int .i64 1, .int .i64 1, .int .i64 1, .int .i64 1, .int .i64 1] 23))); have HO2 := Lib.hid (heap_alloc_new w2 (.cells #[.int .i64 1, .int .i64 1, .int .i64 1, .int .i64 1, .int .i64 1] 23)); clear hb)
    | (with_reducible refine wpList_loadB rfl 23 (.tmp 1) rfl w.heap.size rfl 23 _ HA2.out _ Tryz.underlying23 rfl (by kernel_rfl) ?_)
    | (with_reducible refine wpList_loadB rfl 23 (.tmp 4) rfl w2.heap.size rfl 23 _ HO2.out _ Tryz.underlying23 rfl (by kernel_rfl) ?_)
    | (go_at_call 42; first
      | ((with_reducible refine (HD1.out _).mono ?_); rintro e w4 ⟨rfl, hb⟩; have HB4 := Lib.hid (bal (bel_trans HB2.out hb) (.cells #[.int .i64 32, .int .i64 200, .int .i64 1, .int .i64 8, .int .i64 0] 42)); have HA4 := Lib.hid (keep_at (keep_at HA2.out hb) (bal (bel0 w4) (.cells #[.int .i64 32, .int .i64 200, .int .i64 1, .int .i64 8, .int .i64 0] 42))); have HO4 := Lib.hid (keep_at (keep_at HO2.out hb) (bal (bel0 w4) (.cells #[.int .i64 32, .int .i64 200, .int .i64 1, .int .i64 8, .int .i64 0] 42))); have HD4 := Lib.hid (heap_alloc_new w4 (.cells #[.int .i64 32, .int .i64 200, .int .i64 1, .int .i64 8, .int .i64 0] 42)); clear hb)
      | ((with_reducible refine (HD2.out _).mono ?_); rintro e w5' ⟨rfl, hb⟩; have HB5' := Lib.hid (bal (bel_trans HB4.out hb) (.cells #[.int .i64 32, .int .i64 200, .int .i64 ew, .int .i64 es, .int .i64 ea] 42)); have HA5' := Lib.hid (keep_at (keep_at HA4.out hb) (bal (bel0 w5') (.cells #[.int .i64 32, .int .i64 200, .int .i64 ew, .int .i64 es, .int .i64 ea] 42))); have HD5' := Lib.hid (keep_at (keep_at HD4.out hb) (bal (bel0 w5') (.cells #[.int .i64 32, .int .i64 200, .int .i64 ew, .int .i64 es, .int .i64 ea] 42))); have HE5' := Lib.hid (heap_alloc_new w5' (.cells #[.int .i64 32, .int .i64 200, .int .i64 ew, .int .i64 es, .int .i64 ea] 42)); clear hb))
    | (with_reducible refine wpList_loadB rfl 23 (.tmp 1) rfl w.heap.size rfl 23 _ HA4.out _ Tryz.underlying23 rfl (by kernel_rfl) ?_)
    | (with_reducible refine wpList_loadB rfl 23 (.tmp 4) rfl w2.heap.size rfl 23 _ HO4.out _ Tryz.underlying23 rfl (by kernel_rfl) ?_))
  obtain ⟨w5, hw5⟩ : ∃ w5, w5 = w5'.alloc (.cells #[.int .i64 32, .int .i64 200, .int .i64 ew, .int .i64 es, .int .i64 ea] 42) := ⟨_, rfl⟩
  have HB5 : Hid (Below w.heap.size w w5) := by show Below _ _ _; rw [hw5]; exact HB5'.out
  have HA5 : Hid (w5.heap[w.heap.size]? = some (.cells #[.int .i64 b, .int .i64 s, .int .i64 wi, .int .i64 z, .int .i64 wa] 23 (0, 0))) := by show _ = _; rw [hw5]; exact HA5'.out
  have HD5 : Hid (w5.heap[w4.heap.size]? = some (.cells #[.int .i64 32, .int .i64 200, .int .i64 1, .int .i64 8, .int .i64 0] 42 (0, 0))) := by show _ = _; rw [hw5]; exact HD5'.out
  have HE5 : Hid (w5.heap[w5'.heap.size]? = some (.cells #[.int .i64 32, .int .i64 200, .int .i64 ew, .int .i64 es, .int .i64 ea] 42 (0, 0))) := by show _ = _; rw [hw5]; exact HE5'.out
  rw [← hw5]
  clear hw5
  refine rest_begin (by kernel_rfl) ?_
  refine rest_loadB 0 (oi := _) (by simp only [List.getElem?_toArray, List.getElem?_cons_zero]; rfl) (by kernel_rfl) (by kernel_rfl) (by kernel_rfl) #[.int .i64 32, .int .i64 200, .int .i64 1, .int .i64 8, .int .i64 0] (by exact fun _ _ _ h => h) (by rfl) 42 (.tmp 5) rfl _ rfl _ (HD5.out) _ Tryz.underlying42 rfl (by kernel_rfl) ?_
  simp only [Act.put, List.setIfInBounds_toArray, List.set_cons_zero, List.set_cons_succ]
  refine rest_take 1 (oi := _) (v := ?_) (by simp only [List.getElem?_toArray, List.getElem?_cons_succ, List.getElem?_cons_zero]; rfl) (by kernel_rfl) (by kernel_rfl) (by kernel_rfl) (by exact fun _ _ _ h => h) (by rfl) ?_ ?_; rotate_left; (· intro W HW; go_simp; try with_reducible rfl)
  simp only [Act.put, List.setIfInBounds_toArray, List.set_cons_zero, List.set_cons_succ]
  refine rest_take 2 (oi := _) (v := .bool true) (by simp only [List.getElem?_toArray, List.getElem?_cons_succ, List.getElem?_cons_zero]; rfl) (by kernel_rfl) (by kernel_rfl) (by kernel_rfl) (by exact fun _ _ _ h => h) (by rfl) (fun W HW => exec_cmp rfl rfl rfl (guard_De5 .eql _ _ _ _ W) (HEQ.out W)) ?_
  simp only [Act.put, List.setIfInBounds_toArray, List.set_cons_zero, List.set_cons_succ]
  refine rest_take 3 (oi := _) (v := ?_) (by simp only [List.getElem?_toArray, List.getElem?_cons_succ, List.getElem?_cons_zero]; rfl) (by kernel_rfl) (by kernel_rfl) (by kernel_rfl) (by exact fun _ _ _ h => h) (by rfl) ?_ ?_; rotate_left; (· intro W HW; go_simp; try with_reducible rfl)
  simp only [Act.put, List.setIfInBounds_toArray, List.set_cons_zero, List.set_cons_succ]
  refine rest_take 4 (oi := _) (v := ?_) (by simp only [List.getElem?_toArray, List.getElem?_cons_succ, List.getElem?_cons_zero]; rfl) (by kernel_rfl) (by kernel_rfl) (by kernel_rfl) (by exact fun _ _ _ h => h) (by rfl) ?_ ?_; rotate_left; (· intro W HW; go_simp; try with_reducible rfl)
  simp only [Act.put, List.setIfInBounds_toArray, List.set_cons_zero, List.set_cons_succ]
  refine rest_take 5 (oi := _) (v := ?_) (by simp only [List.getElem?_toArray, List.getElem?_cons_succ, List.getElem?_cons_zero]; rfl) (by kernel_rfl) (by kernel_rfl) (by kernel_rfl) (by exact fun _ _ _ h => h) (by rfl) ?_ ?_; rotate_left; (· intro W HW; have cw := cell_at (keep_at (w := w5.drew) HE5.out HW) 0 _ rfl; go_simp; try with_reducible rfl)
  simp only [Act.put, List.setIfInBounds_toArray, List.set_cons_zero, List.set_cons_succ]
  refine rest_take 6 (oi := _) (v := ?_) (by simp only [List.getElem?_toArray, List.getElem?_cons_succ, List.getElem?_cons_zero]; rfl) (by kernel_rfl) (by kernel_rfl) (by kernel_rfl) (by exact fun _ _ _ h => h) (by rfl) ?_ ?_; rotate_left; (· intro W HW; go_simp; try with_reducible rfl)
  simp only [Act.put, List.setIfInBounds_toArray, List.set_cons_zero, List.set_cons_succ]
  refine rest_take 7 (oi := _) (v := ?_) (by simp only [List.getElem?_toArray, List.getElem?_cons_succ, List.getElem?_cons_zero]; rfl) (by kernel_rfl) (by kernel_rfl) (by kernel_rfl) (by exact fun _ _ _ h => h) (by rfl) ?_ ?_; rotate_left; (· intro W HW; go_simp; try with_reducible rfl)
  simp only [Act.put, List.setIfInBounds_toArray, List.set_cons_zero, List.set_cons_succ]
  refine rest_take 8 (oi := _) (v := ?_) (by simp only [List.getElem?_toArray, List.getElem?_cons_succ, List.getElem?_cons_zero]; rfl) (by kernel_rfl) (by kernel_rfl) (by kernel_rfl) (by exact fun _ _ _ h => h) (by rfl) ?_ ?_; rotate_left; (· intro W HW; go_simp; try with_reducible rfl)
  simp only [Act.put, List.setIfInBounds_toArray, List.set_cons_zero, List.set_cons_succ]
  refine rest_take 9 (oi := _) (v := ?_) (by simp only [List.getElem?_toArray, List.getElem?_cons_succ, List.getElem?_cons_zero]; rfl) (by kernel_rfl) (by kernel_rfl) (by kernel_rfl) (by exact fun _ _ _ h => h) (by rfl) ?_ ?_; rotate_left; (· intro W HW; go_simp; try with_reducible rfl)
  simp only [Act.put, List.setIfInBounds_toArray, List.set_cons_zero, List.set_cons_succ]
  refine rest_take 10 (oi := _) (v := ?_) (by simp only [List.getElem?_toArray, List.getElem?_cons_succ, List.getElem?_cons_zero]; rfl) (by kernel_rfl) (by kernel_rfl) (by kernel_rfl) (by exact fun _ _ _ h => h) (by rfl) ?_ ?_; rotate_left; (· intro W HW; have cw := cell_at (keep_at (w := w5.drew) HE5.out HW) 1 _ rfl; go_simp; try with_reducible rfl)
  simp only [Act.put, List.setIfInBounds_toArray, List.set_cons_zero, List.set_cons_succ]
  refine rest_take 11 (oi := _) (v := ?_) (by simp only [List.getElem?_toArray, List.getElem?_cons_succ, List.getElem?_cons_zero]; rfl) (by kernel_rfl) (by kernel_rfl) (by kernel_rfl) (by exact fun _ _ _ h => h) (by rfl) ?_ ?_; rotate_left; (· intro W HW; go_simp; try with_reducible rfl)
  simp only [Act.put, List.setIfInBounds_toArray, List.set_cons_zero, List.set_cons_succ]
  refine rest_take 12 (oi := _) (v := ?_) (by simp only [List.getElem?_toArray, List.getElem?_cons_succ, List.getElem?_cons_zero]; rfl) (by kernel_rfl) (by kernel_rfl) (by kernel_rfl) (by exact fun _ _ _ h => h) (by rfl) ?_ ?_; rotate_left; (· intro W HW; go_simp; try with_reducible rfl)
  simp only [Act.put, List.setIfInBounds_toArray, List.set_cons_zero, List.set_cons_succ]
  refine rest_take 13 (oi := _) (v := ?_) (by simp only [List.getElem?_toArray, List.getElem?_cons_succ, List.getElem?_cons_zero]; rfl) (by kernel_rfl) (by kernel_rfl) (by kernel_rfl) (by exact fun _ _ _ h => h) (by rfl) ?_ ?_; rotate_left; (· intro W HW; go_simp; try with_reducible rfl)
  simp only [Act.put, List.setIfInBounds_toArray, List.set_cons_zero, List.set_cons_succ]
  refine rest_take 14 (oi := _) (v := ?_) (by simp only [List.getElem?_toArray, List.getElem?_cons_succ, List.getElem?_cons_zero]; rfl) (by kernel_rfl) (by kernel_rfl) (by kernel_rfl) (by exact fun _ _ _ h => h) (by rfl) ?_ ?_; rotate_left; (· intro W HW; go_simp; try with_reducible rfl)
  simp only [Act.put, List.setIfInBounds_toArray, List.set_cons_zero, List.set_cons_succ]
  refine rest_take 15 (oi := _) (v := ?_) (by simp only [List.getElem?_toArray, List.getElem?_cons_succ, List.getElem?_cons_zero]; rfl) (by kernel_rfl) (by kernel_rfl) (by kernel_rfl) (by exact fun _ _ _ h => h) (by rfl) ?_ ?_; rotate_left; (· intro W HW; have cw := cell_at (keep_at (w := w5.drew) HE5.out HW) 3 _ rfl; go_simp; try with_reducible rfl)
  simp only [Act.put, List.setIfInBounds_toArray, List.set_cons_zero, List.set_cons_succ]
  refine rest_take 16 (oi := _) (v := ?_) (by simp only [List.getElem?_toArray, List.getElem?_cons_succ, List.getElem?_cons_zero]; rfl) (by kernel_rfl) (by kernel_rfl) (by kernel_rfl) (by exact fun _ _ _ h => h) (by rfl) ?_ ?_; rotate_left; (· intro W HW; go_simp; try with_reducible rfl)
  simp only [Act.put, List.setIfInBounds_toArray, List.set_cons_zero, List.set_cons_succ]
  refine rest_take 17 (oi := _) (v := ?_) (by simp only [List.getElem?_toArray, List.getElem?_cons_succ, List.getElem?_cons_zero]; rfl) (by kernel_rfl) (by kernel_rfl) (by kernel_rfl) (by exact fun _ _ _ h => h) (by rfl) ?_ ?_; rotate_left; (· intro W HW; have cw := cell_at (keep_at (w := w5.drew) HA5.out HW) 3 _ rfl; go_simp; try with_reducible rfl)
  simp only [Act.put, List.setIfInBounds_toArray, List.set_cons_zero, List.set_cons_succ]
  refine rest_call 18 (oi := _) (by simp only [List.getElem?_toArray, List.getElem?_cons_succ, List.getElem?_cons_zero]; rfl) 26 #[.int .i64 z] _ (by kernel_rfl) (by rfl) (by go_simp) (HQH.out _) ?_
  rintro e w6 ⟨rfl, hb⟩; refine ⟨_, rfl, hb, ?_⟩; have HB6 := Lib.hid (bel_trans (w := w5.drew) HB5.out.drew hb); clear hb
  simp only [Act.put, List.setIfInBounds_toArray, List.set_cons_zero, List.set_cons_succ]
  refine rest_call 19 (oi := _) (by simp only [List.getElem?_toArray, List.getElem?_cons_succ, List.getElem?_cons_zero]; rfl) 34 #[.int .i64 hz] _ (by kernel_rfl) (by rfl) (by go_simp) (HQS.out _) ?_
  rintro e w7 ⟨rfl, hb⟩; refine ⟨_, rfl, hb, ?_⟩; have HB7 := Lib.hid (bel_trans HB6.out hb); clear hb
  simp only [Act.put, List.setIfInBounds_toArray, List.set_cons_zero, List.set_cons_succ]
  refine rest_take 20 (oi := _) (v := ?_) (by simp only [List.getElem?_toArray, List.getElem?_cons_succ, List.getElem?_cons_zero]; rfl) (by kernel_rfl) (by kernel_rfl) (by kernel_rfl) (by exact fun _ _ _ h => h) (by rfl) ?_ ?_; rotate_left; (· intro W HW; go_simp; try with_reducible rfl)
  simp only [Act.put, List.setIfInBounds_toArray, List.set_cons_zero, List.set_cons_succ]
  refine rest_take 21 (oi := _) (v := ?_) (by simp only [List.getElem?_toArray, List.getElem?_cons_succ, List.getElem?_cons_zero]; rfl) (by kernel_rfl) (by kernel_rfl) (by kernel_rfl) (by exact fun _ _ _ h => h) (by rfl) ?_ ?_; rotate_left; (· intro W HW; go_simp; try with_reducible rfl)
  simp only [Act.put, List.setIfInBounds_toArray, List.set_cons_zero, List.set_cons_succ]
  refine rest_take 22 (oi := _) (v := ?_) (by simp only [List.getElem?_toArray, List.getElem?_cons_succ, List.getElem?_cons_zero]; rfl) (by kernel_rfl) (by kernel_rfl) (by kernel_rfl) (by exact fun _ _ _ h => h) (by rfl) ?_ ?_; rotate_left; (· intro W HW; go_simp; try with_reducible rfl)
  simp only [Act.put, List.setIfInBounds_toArray, List.set_cons_zero, List.set_cons_succ]
  refine rest_done (by kernel_rfl) ?_
  go_wp2
  go_ret
  exact ⟨rfl, HB7.out⟩
theorem MeetLeast_law (o : Of5) (w : World) (ho : o.ok) (hC : Codes w) : Calls Tryz.prog 19 #[o.val] w (Holds8 w) := by
  cases hm : mayO o with
  | false => exact MeetLeast_not o.baud o.silent o.win o.size o.wait w ho hm hC
  | true => exact MeetLeast_may o.baud o.silent o.win o.size o.wait w ho hm hC
end Go.Proofs.YtcmjdbljdkabpaaGreatDoor
