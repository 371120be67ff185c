/- The law QosTurn. -/
import Derived.Test.YtcmjdbljdkabpaaGreatDoorQ8S
import Derived.Test.YtcmjdbljdkabpaaGreatDoorM8E
import Derived.Test.YtcmjdbljdkabpaaGreatDoorBegun8

set_option linter.all false

namespace Go.Proofs.YtcmjdbljdkabpaaGreatDoor
open Go.RowKit M

theorem rem5 {x : Int} : (x.tmod 5 + 5) % 5 = 0 ∨ (x.tmod 5 + 5) % 5 = 1 ∨ (x.tmod 5 + 5) % 5 = 2 ∨ (x.tmod 5 + 5) % 5 = 3 ∨ (x.tmod 5 + 5) % 5 = 4 := by omega

set_option maxRecDepth 100000 in
set_option maxHeartbeats 8000000 in
theorem QosTurn_0 (b s wi z wa q n : Int) (w : World) (ho : Of5.ok ⟨n, s, wi, z, wa⟩) (hq : (Lit.int .i64 q).wf = true) (hm : (q.tmod 5 + 5) % 5 = 0) (hC : Codes w) : Calls Tryz.prog 10 #[.agg #[.int .i64 b, .int .i64 s, .int .i64 wi, .int .i64 z, .int .i64 wa], .int .i64 q, .int .i64 n] w (Holds8 w) := by
  have HC := Lib.hid hC
  have a1 : -4 ≤ q.tmod 5 := by have := Int.lt_tmod_of_pos q (show (0 : Int) < 5 by decide); omega
  have a2 : q.tmod 5 ≤ 4 := by have := Int.tmod_lt_of_pos q (show (0 : Int) < 5 by decide); omega
  obtain ⟨m, hmay⟩ : ∃ m, mayO ⟨n, s, wi, z, wa⟩ = m := ⟨_, rfl⟩
  obtain ⟨pv, hput⟩ : ∃ pv, putO ⟨n, s, wi, z, wa⟩ = pv := ⟨_, rfl⟩
  have hps : pv.isSome = m := by rw [← hput, ← hmay]; unfold putO; cases mayO ⟨n, s, wi, z, wa⟩ <;> rfl
  have hqm := fun w => QMay_any ⟨n, s, wi, z, wa⟩ w ho
  have hrm := fun w => RMayO_any ⟨n, s, wi, z, wa⟩ w
  have hqp := fun w => QPut_any ⟨n, s, wi, z, wa⟩ w ho
  unfold PutR at hqp
  rw [hmay] at hqm hrm
  rw [hput, hps] at hqp
  have HQM := Lib.hid hqm
  have HRM := Lib.hid hrm
  have HQP := Lib.hid hqp
  clear hqm hrm hqp ho hq hC hmay hput hps
  go_enter Tryz.func10, Tryz.ntmps10
  go_wp2_with (first
    | ((with_reducible refine wpList_boxS rfl 23 _ (.tmp 0) rfl rfl (run_boxOf ⟨b, s, wi, z, wa⟩) ?_); intro w1 hb1 hlt1 hh1; have HB1 := Lib.hid hb1; have HH1 := Lib.hid hh1; clear hb1 hh1)
    | (go_at_call 21; (with_reducible refine (begun8_any _ (HC.out.below HB1.out)).mono ?_); rintro e w2 ⟨rfl, hb⟩; have HB2 := Lib.hid (bel_trans HB1.out hb); have HH2 := Lib.hid (keep_at HH1.out hb); clear hb)
    | ((with_reducible refine wpList_store1 rfl 3 (.tmp 22) (.tmp 21) rfl w.heap.size 0 (.int .i64 n) rfl rfl 23 _ HH2.out (by simp) (storeInt w.heap.size 0 _) ?_); intro w3 hg3 hh3; have HB3 := Lib.hid (bel_grown HB2.out hg3 (Nat.le_refl _)); have HO3 : Hid (w3.heap[w.heap.size]? = some (.cells #[.int .i64 n, .int .i64 s, .int .i64 wi, .int .i64 z, .int .i64 wa] 23 (0, 0))) := hh3; clear hg3 hh3)
    | (with_reducible refine wpList_loadB rfl 23 (.tmp 3) rfl w.heap.size rfl 23 _ HO3.out _ Tryz.underlying23 rfl (by kernel_rfl) ?_)
    | (go_at_call 23; (with_reducible refine (HQP.out _).mono ?_); rintro e w4 ⟨rfl, hb⟩; have HB4 := Lib.hid (bel_trans HB3.out hb); have HO4 := Lib.hid (keep_at HO3.out hb); clear hb))
  have mm : (m == m) = true := by cases m <;> rfl
  refine rest_begin (by kernel_rfl) ?_
  refine rest_loadB 0 (oi := _) (by simp only [List.getElem?_toArray, List.getElem?_cons_zero]; rfl) (by kernel_rfl) (by kernel_rfl) (by kernel_rfl) #[.int .i64 n, .int .i64 s, .int .i64 wi, .int .i64 z, .int .i64 wa] (by exact fun _ _ _ h => h) (by rfl) 23 (.tmp 3) rfl _ rfl _ (HO4.out) _ Tryz.underlying23 rfl (by kernel_rfl) ?_
  simp only [Act.put, List.setIfInBounds_toArray, List.set_cons_zero, List.set_cons_succ]
  refine rest_loadB 2 (oi := _) (by simp only [List.getElem?_toArray, List.getElem?_cons_succ, List.getElem?_cons_zero]; rfl) (by kernel_rfl) (by kernel_rfl) (by kernel_rfl) #[.int .i64 n, .int .i64 s, .int .i64 wi, .int .i64 z, .int .i64 wa] (by exact fun _ _ _ h => h) (by rfl) 23 (.tmp 3) rfl _ rfl _ (HO4.out) _ Tryz.underlying23 rfl (by kernel_rfl) ?_
  simp only [Act.put, List.setIfInBounds_toArray, List.set_cons_zero, List.set_cons_succ]
  refine rest_call 1 (oi := _) (by simp only [List.getElem?_toArray, List.getElem?_cons_succ, List.getElem?_cons_zero]; rfl) 25 #[.agg #[.int .i64 n, .int .i64 s, .int .i64 wi, .int .i64 z, .int .i64 wa]] _ (by kernel_rfl) (by rfl) (by go_simp) (HQM.out _) ?_
  rintro e w5 ⟨rfl, hb⟩; refine ⟨_, rfl, hb, ?_⟩; have HB5 := Lib.hid (bel_trans HB4.out.drew hb); have HO5 := Lib.hid (keep_at (w := w4.drew) HO4.out hb); clear hb
  simp only [Act.put, List.setIfInBounds_toArray, List.set_cons_zero, List.set_cons_succ]
  refine rest_call 3 (oi := _) (by simp only [List.getElem?_toArray, List.getElem?_cons_succ, List.getElem?_cons_zero]; rfl) 58 #[.agg #[.int .i64 n, .int .i64 s, .int .i64 wi, .int .i64 z, .int .i64 wa]] _ (by kernel_rfl) (by rfl) (by go_simp) (HRM.out _) ?_
  rintro e w6 ⟨rfl, hb⟩; refine ⟨_, rfl, hb, ?_⟩; have HB6 := Lib.hid (bel_trans HB5.out hb); have HO6 := Lib.hid (keep_at HO5.out hb); clear hb
  simp only [Act.put, List.setIfInBounds_toArray, List.set_cons_zero, List.set_cons_succ]
  refine rest_take 4 (oi := _) (v := ?_) (by simp only [List.getElem?_toArray, List.getElem?_cons_succ, List.getElem?_cons_zero]; rfl) (by kernel_rfl) (by kernel_rfl) (by kernel_rfl) (by exact fun _ _ _ h => h) (by rfl) ?_ ?_; rotate_left; (· intro W HW; go_simp; try with_reducible rfl)
  simp only [Act.put, List.setIfInBounds_toArray, List.set_cons_zero, List.set_cons_succ]
  refine rest_take 5 (oi := _) (v := ?_) (by simp only [List.getElem?_toArray, List.getElem?_cons_succ, List.getElem?_cons_zero]; rfl) (by kernel_rfl) (by kernel_rfl) (by kernel_rfl) (by exact fun _ _ _ h => h) (by rfl) ?_ ?_; rotate_left; (· intro W HW; go_simp; try with_reducible rfl)
  simp only [Act.put, List.setIfInBounds_toArray, List.set_cons_zero, List.set_cons_succ]
  refine rest_take 6 (oi := _) (v := ?_) (by simp only [List.getElem?_toArray, List.getElem?_cons_succ, List.getElem?_cons_zero]; rfl) (by kernel_rfl) (by kernel_rfl) (by kernel_rfl) (by exact fun _ _ _ h => h) (by rfl) ?_ ?_; rotate_left; (· intro W HW; go_simp; try with_reducible rfl)
  simp only [Act.put, List.setIfInBounds_toArray, List.set_cons_zero, List.set_cons_succ]
  refine rest_loadB 7 (oi := _) (by simp only [List.getElem?_toArray, List.getElem?_cons_succ, List.getElem?_cons_zero]; rfl) (by kernel_rfl) (by kernel_rfl) (by kernel_rfl) #[.int .i64 n, .int .i64 s, .int .i64 wi, .int .i64 z, .int .i64 wa] (by exact fun _ _ _ h => h) (by rfl) 23 (.tmp 3) rfl _ rfl _ (HO6.out) _ Tryz.underlying23 rfl (by kernel_rfl) ?_
  simp only [Act.put, List.setIfInBounds_toArray, List.set_cons_zero, List.set_cons_succ]
  refine rest_call 8 (oi := _) (by simp only [List.getElem?_toArray, List.getElem?_cons_succ, List.getElem?_cons_zero]; rfl) 25 #[.agg #[.int .i64 n, .int .i64 s, .int .i64 wi, .int .i64 z, .int .i64 wa]] _ (by kernel_rfl) (by rfl) (by go_simp) (HQM.out _) ?_
  rintro e w7 ⟨rfl, hb⟩; refine ⟨_, rfl, hb, ?_⟩; have HB7 := Lib.hid (bel_trans HB6.out hb); clear hb
  simp only [Act.put, List.setIfInBounds_toArray, List.set_cons_zero, List.set_cons_succ]
  refine rest_take 9 (oi := _) (v := ?_) (by simp only [List.getElem?_toArray, List.getElem?_cons_succ, List.getElem?_cons_zero]; rfl) (by kernel_rfl) (by kernel_rfl) (by kernel_rfl) (by exact fun _ _ _ h => h) (by rfl) ?_ ?_; rotate_left; (· intro W HW; go_simp; try with_reducible rfl)
  simp only [Act.put, List.setIfInBounds_toArray, List.set_cons_zero, List.set_cons_succ]
  refine rest_take 10 (oi := _) (v := ?_) (by simp only [List.getElem?_toArray, List.getElem?_cons_succ, List.getElem?_cons_zero]; rfl) (by kernel_rfl) (by kernel_rfl) (by kernel_rfl) (by exact fun _ _ _ h => h) (by rfl) ?_ ?_; rotate_left; (· intro W HW; go_simp; try with_reducible rfl)
  simp only [Act.put, List.setIfInBounds_toArray, List.set_cons_zero, List.set_cons_succ]
  refine rest_take 11 (oi := _) (v := ?_) (by simp only [List.getElem?_toArray, List.getElem?_cons_succ, List.getElem?_cons_zero]; rfl) (by kernel_rfl) (by kernel_rfl) (by kernel_rfl) (by exact fun _ _ _ h => h) (by rfl) ?_ ?_; rotate_left; (· intro W HW; go_simp; try with_reducible rfl)
  simp only [Act.put, List.setIfInBounds_toArray, List.set_cons_zero, List.set_cons_succ]
  refine rest_done (by kernel_rfl) ?_
  go_wp2
  go_ret
  exact ⟨rfl, HB7.out⟩

set_option maxRecDepth 100000 in
set_option maxHeartbeats 8000000 in
theorem QosTurn_1 (b s wi z wa q n : Int) (w : World) (ho : Of5.ok ⟨b, n, wi, z, wa⟩) (hq : (Lit.int .i64 q).wf = true) (hm : (q.tmod 5 + 5) % 5 = 1) (hC : Codes w) : Calls Tryz.prog 10 #[.agg #[.int .i64 b, .int .i64 s, .int .i64 wi, .int .i64 z, .int .i64 wa], .int .i64 q, .int .i64 n] w (Holds8 w) := by
  have HC := Lib.hid hC
  have a1 : -4 ≤ q.tmod 5 := by have := Int.lt_tmod_of_pos q (show (0 : Int) < 5 by decide); omega
  have a2 : q.tmod 5 ≤ 4 := by have := Int.tmod_lt_of_pos q (show (0 : Int) < 5 by decide); omega
  obtain ⟨m, hmay⟩ : ∃ m, mayO ⟨b, n, wi, z, wa⟩ = m := ⟨_, rfl⟩
  obtain ⟨pv, hput⟩ : ∃ pv, putO ⟨b, n, wi, z, wa⟩ = pv := ⟨_, rfl⟩
  have hps : pv.isSome = m := by rw [← hput, ← hmay]; unfold putO; cases mayO ⟨b, n, wi, z, wa⟩ <;> rfl
  have hqm := fun w => QMay_any ⟨b, n, wi, z, wa⟩ w ho
  have hrm := fun w => RMayO_any ⟨b, n, wi, z, wa⟩ w
  have hqp := fun w => QPut_any ⟨b, n, wi, z, wa⟩ w ho
  unfold PutR at hqp
  rw [hmay] at hqm hrm
  rw [hput, hps] at hqp
  have HQM := Lib.hid hqm
  have HRM := Lib.hid hrm
  have HQP := Lib.hid hqp
  clear hqm hrm hqp ho hq hC hmay hput hps
  go_enter Tryz.func10, Tryz.ntmps10
  go_wp2_with (first
    | ((with_reducible refine wpList_boxS rfl 23 _ (.tmp 0) rfl rfl (run_boxOf ⟨b, s, wi, z, wa⟩) ?_); intro w1 hb1 hlt1 hh1; have HB1 := Lib.hid hb1; have HH1 := Lib.hid hh1; clear hb1 hh1)
    | (go_at_call 21; (with_reducible refine (begun8_any _ (HC.out.below HB1.out)).mono ?_); rintro e w2 ⟨rfl, hb⟩; have HB2 := Lib.hid (bel_trans HB1.out hb); have HH2 := Lib.hid (keep_at HH1.out hb); clear hb)
    | ((with_reducible refine wpList_store1 rfl 3 (.tmp 26) (.tmp 25) rfl w.heap.size 1 (.int .i64 n) rfl rfl 23 _ HH2.out (by simp) (storeInt w.heap.size 1 _) ?_); intro w3 hg3 hh3; have HB3 := Lib.hid (bel_grown HB2.out hg3 (Nat.le_refl _)); have HO3 : Hid (w3.heap[w.heap.size]? = some (.cells #[.int .i64 b, .int .i64 n, .int .i64 wi, .int .i64 z, .int .i64 wa] 23 (0, 0))) := hh3; clear hg3 hh3)
    | (with_reducible refine wpList_loadB rfl 23 (.tmp 3) rfl w.heap.size rfl 23 _ HO3.out _ Tryz.underlying23 rfl (by kernel_rfl) ?_)
    | (go_at_call 23; (with_reducible refine (HQP.out _).mono ?_); rintro e w4 ⟨rfl, hb⟩; have HB4 := Lib.hid (bel_trans HB3.out hb); have HO4 := Lib.hid (keep_at HO3.out hb); clear hb))
  have mm : (m == m) = true := by cases m <;> rfl
  refine rest_begin (by kernel_rfl) ?_
  refine rest_loadB 0 (oi := _) (by simp only [List.getElem?_toArray, List.getElem?_cons_zero]; rfl) (by kernel_rfl) (by kernel_rfl) (by kernel_rfl) #[.int .i64 b, .int .i64 n, .int .i64 wi, .int .i64 z, .int .i64 wa] (by exact fun _ _ _ h => h) (by rfl) 23 (.tmp 3) rfl _ rfl _ (HO4.out) _ Tryz.underlying23 rfl (by kernel_rfl) ?_
  simp only [Act.put, List.setIfInBounds_toArray, List.set_cons_zero, List.set_cons_succ]
  refine rest_loadB 2 (oi := _) (by simp only [List.getElem?_toArray, List.getElem?_cons_succ, List.getElem?_cons_zero]; rfl) (by kernel_rfl) (by kernel_rfl) (by kernel_rfl) #[.int .i64 b, .int .i64 n, .int .i64 wi, .int .i64 z, .int .i64 wa] (by exact fun _ _ _ h => h) (by rfl) 23 (.tmp 3) rfl _ rfl _ (HO4.out) _ Tryz.underlying23 rfl (by kernel_rfl) ?_
  simp only [Act.put, List.setIfInBounds_toArray, List.set_cons_zero, List.set_cons_succ]
  refine rest_call 1 (oi := _) (by simp only [List.getElem?_toArray, List.getElem?_cons_succ, List.getElem?_cons_zero]; rfl) 25 #[.agg #[.int .i64 b, .int .i64 n, .int .i64 wi, .int .i64 z, .int .i64 wa]] _ (by kernel_rfl) (by rfl) (by go_simp) (HQM.out _) ?_
  rintro e w5 ⟨rfl, hb⟩; refine ⟨_, rfl, hb, ?_⟩; have HB5 := Lib.hid (bel_trans HB4.out.drew hb); have HO5 := Lib.hid (keep_at (w := w4.drew) HO4.out hb); clear hb
  simp only [Act.put, List.setIfInBounds_toArray, List.set_cons_zero, List.set_cons_succ]
  refine rest_call 3 (oi := _) (by simp only [List.getElem?_toArray, List.getElem?_cons_succ, List.getElem?_cons_zero]; rfl) 58 #[.agg #[.int .i64 b, .int .i64 n, .int .i64 wi, .int .i64 z, .int .i64 wa]] _ (by kernel_rfl) (by rfl) (by go_simp) (HRM.out _) ?_
  rintro e w6 ⟨rfl, hb⟩; refine ⟨_, rfl, hb, ?_⟩; have HB6 := Lib.hid (bel_trans HB5.out hb); have HO6 := Lib.hid (keep_at HO5.out hb); clear hb
  simp only [Act.put, List.setIfInBounds_toArray, List.set_cons_zero, List.set_cons_succ]
  refine rest_take 4 (oi := _) (v := ?_) (by simp only [List.getElem?_toArray, List.getElem?_cons_succ, List.getElem?_cons_zero]; rfl) (by kernel_rfl) (by kernel_rfl) (by kernel_rfl) (by exact fun _ _ _ h => h) (by rfl) ?_ ?_; rotate_left; (· intro W HW; go_simp; try with_reducible rfl)
  simp only [Act.put, List.setIfInBounds_toArray, List.set_cons_zero, List.set_cons_succ]
  refine rest_take 5 (oi := _) (v := ?_) (by simp only [List.getElem?_toArray, List.getElem?_cons_succ, List.getElem?_cons_zero]; rfl) (by kernel_rfl) (by kernel_rfl) (by kernel_rfl) (by exact fun _ _ _ h => h) (by rfl) ?_ ?_; rotate_left; (· intro W HW; go_simp; try with_reducible rfl)
  simp only [Act.put, List.setIfInBounds_toArray, List.set_cons_zero, List.set_cons_succ]
  refine rest_take 6 (oi := _) (v := ?_) (by simp only [List.getElem?_toArray, List.getElem?_cons_succ, List.getElem?_cons_zero]; rfl) (by kernel_rfl) (by kernel_rfl) (by kernel_rfl) (by exact fun _ _ _ h => h) (by rfl) ?_ ?_; rotate_left; (· intro W HW; go_simp; try with_reducible rfl)
  simp only [Act.put, List.setIfInBounds_toArray, List.set_cons_zero, List.set_cons_succ]
  refine rest_loadB 7 (oi := _) (by simp only [List.getElem?_toArray, List.getElem?_cons_succ, List.getElem?_cons_zero]; rfl) (by kernel_rfl) (by kernel_rfl) (by kernel_rfl) #[.int .i64 b, .int .i64 n, .int .i64 wi, .int .i64 z, .int .i64 wa] (by exact fun _ _ _ h => h) (by rfl) 23 (.tmp 3) rfl _ rfl _ (HO6.out) _ Tryz.underlying23 rfl (by kernel_rfl) ?_
  simp only [Act.put, List.setIfInBounds_toArray, List.set_cons_zero, List.set_cons_succ]
  refine rest_call 8 (oi := _) (by simp only [List.getElem?_toArray, List.getElem?_cons_succ, List.getElem?_cons_zero]; rfl) 25 #[.agg #[.int .i64 b, .int .i64 n, .int .i64 wi, .int .i64 z, .int .i64 wa]] _ (by kernel_rfl) (by rfl) (by go_simp) (HQM.out _) ?_
  rintro e w7 ⟨rfl, hb⟩; refine ⟨_, rfl, hb, ?_⟩; have HB7 := Lib.hid (bel_trans HB6.out hb); clear hb
  simp only [Act.put, List.setIfInBounds_toArray, List.set_cons_zero, List.set_cons_succ]
  refine rest_take 9 (oi := _) (v := ?_) (by simp only [List.getElem?_toArray, List.getElem?_cons_succ, List.getElem?_cons_zero]; rfl) (by kernel_rfl) (by kernel_rfl) (by kernel_rfl) (by exact fun _ _ _ h => h) (by rfl) ?_ ?_; rotate_left; (· intro W HW; go_simp; try with_reducible rfl)
  simp only [Act.put, List.setIfInBounds_toArray, List.set_cons_zero, List.set_cons_succ]
  refine rest_take 10 (oi := _) (v := ?_) (by simp only [List.getElem?_toArray, List.getElem?_cons_succ, List.getElem?_cons_zero]; rfl) (by kernel_rfl) (by kernel_rfl) (by kernel_rfl) (by exact fun _ _ _ h => h) (by rfl) ?_ ?_; rotate_left; (· intro W HW; go_simp; try with_reducible rfl)
  simp only [Act.put, List.setIfInBounds_toArray, List.set_cons_zero, List.set_cons_succ]
  refine rest_take 11 (oi := _) (v := ?_) (by simp only [List.getElem?_toArray, List.getElem?_cons_succ, List.getElem?_cons_zero]; rfl) (by kernel_rfl) (by kernel_rfl) (by kernel_rfl) (by exact fun _ _ _ h => h) (by rfl) ?_ ?_; rotate_left; (· intro W HW; go_simp; try with_reducible rfl)
  simp only [Act.put, List.setIfInBounds_toArray, List.set_cons_zero, List.set_cons_succ]
  refine rest_done (by kernel_rfl) ?_
  go_wp2
  go_ret
  exact ⟨rfl, HB7.out⟩

set_option maxRecDepth 100000 in
set_option maxHeartbeats 8000000 in
theorem QosTurn_2 (b s wi z wa q n : Int) (w : World) (ho : Of5.ok ⟨b, s, n, z, wa⟩) (hq : (Lit.int .i64 q).wf = true) (hm : (q.tmod 5 + 5) % 5 = 2) (hC : Codes w) : Calls Tryz.prog 10 #[.agg #[.int .i64 b, .int .i64 s, .int .i64 wi, .int .i64 z, .int .i64 wa], .int .i64 q, .int .i64 n] w (Holds8 w) := by
  have HC := Lib.hid hC
  have a1 : -4 ≤ q.tmod 5 := by have := Int.lt_tmod_of_pos q (show (0 : Int) < 5 by decide); omega
  have a2 : q.tmod 5 ≤ 4 := by have := Int.tmod_lt_of_pos q (show (0 : Int) < 5 by decide); omega
  obtain ⟨m, hmay⟩ : ∃ m, mayO ⟨b, s, n, z, wa⟩ = m := ⟨_, rfl⟩
  obtain ⟨pv, hput⟩ : ∃ pv, putO ⟨b, s, n, z, wa⟩ = pv := ⟨_, rfl⟩
  have hps : pv.isSome = m := by rw [← hput, ← hmay]; unfold putO; cases mayO ⟨b, s, n, z, wa⟩ <;> rfl
  have hqm := fun w => QMay_any ⟨b, s, n, z, wa⟩ w ho
  have hrm := fun w => RMayO_any ⟨b, s, n, z, wa⟩ w
  have hqp := fun w => QPut_any ⟨b, s, n, z, wa⟩ w ho
  unfold PutR at hqp
  rw [hmay] at hqm hrm
  rw [hput, hps] at hqp
  have HQM := Lib.hid hqm
  have HRM := Lib.hid hrm
  have HQP := Lib.hid hqp
  clear hqm hrm hqp ho hq hC hmay hput hps
  go_enter Tryz.func10, Tryz.ntmps10
  go_wp2_with (first
    | ((with_reducible refine wpList_boxS rfl 23 _ (.tmp 0) rfl rfl (run_boxOf ⟨b, s, wi, z, wa⟩) ?_); intro w1 hb1 hlt1 hh1; have HB1 := Lib.hid hb1; have HH1 := Lib.hid hh1; clear hb1 hh1)
    | (go_at_call 21; (with_reducible refine (begun8_any _ (HC.out.below HB1.out)).mono ?_); rintro e w2 ⟨rfl, hb⟩; have HB2 := Lib.hid (bel_trans HB1.out hb); have HH2 := Lib.hid (keep_at HH1.out hb); clear hb)
    | ((with_reducible refine wpList_store1 rfl 3 (.tmp 30) (.tmp 29) rfl w.heap.size 2 (.int .i64 n) rfl rfl 23 _ HH2.out (by simp) (storeInt w.heap.size 2 _) ?_); intro w3 hg3 hh3; have HB3 := Lib.hid (bel_grown HB2.out hg3 (Nat.le_refl _)); have HO3 : Hid (w3.heap[w.heap.size]? = some (.cells #[.int .i64 b, .int .i64 s, .int .i64 n, .int .i64 z, .int .i64 wa] 23 (0, 0))) := hh3; clear hg3 hh3)
    | (with_reducible refine wpList_loadB rfl 23 (.tmp 3) rfl w.heap.size rfl 23 _ HO3.out _ Tryz.underlying23 rfl (by kernel_rfl) ?_)
    | (go_at_call 23; (with_reducible refine (HQP.out _).mono ?_); rintro e w4 ⟨rfl, hb⟩; have HB4 := Lib.hid (bel_trans HB3.out hb); have HO4 := Lib.hid (keep_at HO3.out hb); clear hb))
  have mm : (m == m) = true := by cases m <;> rfl
  refine rest_begin (by kernel_rfl) ?_
  refine rest_loadB 0 (oi := _) (by simp only [List.getElem?_toArray, List.getElem?_cons_zero]; rfl) (by kernel_rfl) (by kernel_rfl) (by kernel_rfl) #[.int .i64 b, .int .i64 s, .int .i64 n, .int .i64 z, .int .i64 wa] (by exact fun _ _ _ h => h) (by rfl) 23 (.tmp 3) rfl _ rfl _ (HO4.out) _ Tryz.underlying23 rfl (by kernel_rfl) ?_
  simp only [Act.put, List.setIfInBounds_toArray, List.set_cons_zero, List.set_cons_succ]
  refine rest_loadB 2 (oi := _) (by simp only [List.getElem?_toArray, List.getElem?_cons_succ, List.getElem?_cons_zero]; rfl) (by kernel_rfl) (by kernel_rfl) (by kernel_rfl) #[.int .i64 b, .int .i64 s, .int .i64 n, .int .i64 z, .int .i64 wa] (by exact fun _ _ _ h => h) (by rfl) 23 (.tmp 3) rfl _ rfl _ (HO4.out) _ Tryz.underlying23 rfl (by kernel_rfl) ?_
  simp only [Act.put, List.setIfInBounds_toArray, List.set_cons_zero, List.set_cons_succ]
  refine rest_call 1 (oi := _) (by simp only [List.getElem?_toArray, List.getElem?_cons_succ, List.getElem?_cons_zero]; rfl) 25 #[.agg #[.int .i64 b, .int .i64 s, .int .i64 n, .int .i64 z, .int .i64 wa]] _ (by kernel_rfl) (by rfl) (by go_simp) (HQM.out _) ?_
  rintro e w5 ⟨rfl, hb⟩; refine ⟨_, rfl, hb, ?_⟩; have HB5 := Lib.hid (bel_trans HB4.out.drew hb); have HO5 := Lib.hid (keep_at (w := w4.drew) HO4.out hb); clear hb
  simp only [Act.put, List.setIfInBounds_toArray, List.set_cons_zero, List.set_cons_succ]
  refine rest_call 3 (oi := _) (by simp only [List.getElem?_toArray, List.getElem?_cons_succ, List.getElem?_cons_zero]; rfl) 58 #[.agg #[.int .i64 b, .int .i64 s, .int .i64 n, .int .i64 z, .int .i64 wa]] _ (by kernel_rfl) (by rfl) (by go_simp) (HRM.out _) ?_
  rintro e w6 ⟨rfl, hb⟩; refine ⟨_, rfl, hb, ?_⟩; have HB6 := Lib.hid (bel_trans HB5.out hb); have HO6 := Lib.hid (keep_at HO5.out hb); clear hb
  simp only [Act.put, List.setIfInBounds_toArray, List.set_cons_zero, List.set_cons_succ]
  refine rest_take 4 (oi := _) (v := ?_) (by simp only [List.getElem?_toArray, List.getElem?_cons_succ, List.getElem?_cons_zero]; rfl) (by kernel_rfl) (by kernel_rfl) (by kernel_rfl) (by exact fun _ _ _ h => h) (by rfl) ?_ ?_; rotate_left; (· intro W HW; go_simp; try with_reducible rfl)
  simp only [Act.put, List.setIfInBounds_toArray, List.set_cons_zero, List.set_cons_succ]
  refine rest_take 5 (oi := _) (v := ?_) (by simp only [List.getElem?_toArray, List.getElem?_cons_succ, List.getElem?_cons_zero]; rfl) (by kernel_rfl) (by kernel_rfl) (by kernel_rfl) (by exact fun _ _ _ h => h) (by rfl) ?_ ?_; rotate_left; (· intro W HW; go_simp; try with_reducible rfl)
  simp only [Act.put, List.setIfInBounds_toArray, List.set_cons_zero, List.set_cons_succ]
  refine rest_take 6 (oi := _) (v := ?_) (by simp only [List.getElem?_toArray, List.getElem?_cons_succ, List.getElem?_cons_zero]; rfl) (by kernel_rfl) (by kernel_rfl) (by kernel_rfl) (by exact fun _ _ _ h => h) (by rfl) ?_ ?_; rotate_left; (· intro W HW; go_simp; try with_reducible rfl)
  simp only [Act.put, List.setIfInBounds_toArray, List.set_cons_zero, List.set_cons_succ]
  refine rest_loadB 7 (oi := _) (by simp only [List.getElem?_toArray, List.getElem?_cons_succ, List.getElem?_cons_zero]; rfl) (by kernel_rfl) (by kernel_rfl) (by kernel_rfl) #[.int .i64 b, .int .i64 s, .int .i64 n, .int .i64 z, .int .i64 wa] (by exact fun _ _ _ h => h) (by rfl) 23 (.tmp 3) rfl _ rfl _ (HO6.out) _ Tryz.underlying23 rfl (by kernel_rfl) ?_
  simp only [Act.put, List.setIfInBounds_toArray, List.set_cons_zero, List.set_cons_succ]
  refine rest_call 8 (oi := _) (by simp only [List.getElem?_toArray, List.getElem?_cons_succ, List.getElem?_cons_zero]; rfl) 25 #[.agg #[.int .i64 b, .int .i64 s, .int .i64 n, .int .i64 z, .int .i64 wa]] _ (by kernel_rfl) (by rfl) (by go_simp) (HQM.out _) ?_
  rintro e w7 ⟨rfl, hb⟩; refine ⟨_, rfl, hb, ?_⟩; have HB7 := Lib.hid (bel_trans HB6.out hb); clear hb
  simp only [Act.put, List.setIfInBounds_toArray, List.set_cons_zero, List.set_cons_succ]
  refine rest_take 9 (oi := _) (v := ?_) (by simp only [List.getElem?_toArray, List.getElem?_cons_succ, List.getElem?_cons_zero]; rfl) (by kernel_rfl) (by kernel_rfl) (by kernel_rfl) (by exact fun _ _ _ h => h) (by rfl) ?_ ?_; rotate_left; (· intro W HW; go_simp; try with_reducible rfl)
  simp only [Act.put, List.setIfInBounds_toArray, List.set_cons_zero, List.set_cons_succ]
  refine rest_take 10 (oi := _) (v := ?_) (by simp only [List.getElem?_toArray, List.getElem?_cons_succ, List.getElem?_cons_zero]; rfl) (by kernel_rfl) (by kernel_rfl) (by kernel_rfl) (by exact fun _ _ _ h => h) (by rfl) ?_ ?_; rotate_left; (· intro W HW; go_simp; try with_reducible rfl)
  simp only [Act.put, List.setIfInBounds_toArray, List.set_cons_zero, List.set_cons_succ]
  refine rest_take 11 (oi := _) (v := ?_) (by simp only [List.getElem?_toArray, List.getElem?_cons_succ, List.getElem?_cons_zero]; rfl) (by kernel_rfl) (by kernel_rfl) (by kernel_rfl) (by exact fun _ _ _ h => h) (by rfl) ?_ ?_; rotate_left; (· intro W HW; go_simp; try with_reducible rfl)
  simp only [Act.put, List.setIfInBounds_toArray, List.set_cons_zero, List.set_cons_succ]
  refine rest_done (by kernel_rfl) ?_
  go_wp2
  go_ret
  exact ⟨rfl, HB7.out⟩

set_option maxRecDepth 100000 in
set_option maxHeartbeats 8000000 in
theorem QosTurn_3 (b s wi z wa q n : Int) (w : World) (ho : Of5.ok ⟨b, s, wi, n, wa⟩) (hq : (Lit.int .i64 q).wf = true) (hm : (q.tmod 5 + 5) % 5 = 3) (hC : Codes w) : Calls Tryz.prog 10 #[.agg #[.int .i64 b, .int .i64 s, .int .i64 wi, .int .i64 z, .int .i64 wa], .int .i64 q, .int .i64 n] w (Holds8 w) := by
  have HC := Lib.hid hC
  have a1 : -4 ≤ q.tmod 5 := by have := Int.lt_tmod_of_pos q (show (0 : Int) < 5 by decide); omega
  have a2 : q.tmod 5 ≤ 4 := by have := Int.tmod_lt_of_pos q (show (0 : Int) < 5 by decide); omega
  obtain ⟨m, hmay⟩ : ∃ m, mayO ⟨b, s, wi, n, wa⟩ = m := ⟨_, rfl⟩
  obtain ⟨pv, hput⟩ : ∃ pv, putO ⟨b, s, wi, n, wa⟩ = pv := ⟨_, rfl⟩
  have hps : pv.isSome = m := by rw [← hput, ← hmay]; unfold putO; cases mayO ⟨b, s, wi, n, wa⟩ <;> rfl
  have hqm := fun w => QMay_any ⟨b, s, wi, n, wa⟩ w ho
  have hrm := fun w => RMayO_any ⟨b, s, wi, n, wa⟩ w
  have hqp := fun w => QPut_any ⟨b, s, wi, n, wa⟩ w ho
  unfold PutR at hqp
  rw [hmay] at hqm hrm
  rw [hput, hps] at hqp
  have HQM := Lib.hid hqm
  have HRM := Lib.hid hrm
  have HQP := Lib.hid hqp
  clear hqm hrm hqp ho hq hC hmay hput hps
  go_enter Tryz.func10, Tryz.ntmps10
  go_wp2_with (first
    | ((with_reducible refine wpList_boxS rfl 23 _ (.tmp 0) rfl rfl (run_boxOf ⟨b, s, wi, z, wa⟩) ?_); intro w1 hb1 hlt1 hh1; have HB1 := Lib.hid hb1; have HH1 := Lib.hid hh1; clear hb1 hh1)
    | (go_at_call 21; (with_reducible refine (begun8_any _ (HC.out.below HB1.out)).mono ?_); rintro e w2 ⟨rfl, hb⟩; have HB2 := Lib.hid (bel_trans HB1.out hb); have HH2 := Lib.hid (keep_at HH1.out hb); clear hb)
    | ((with_reducible refine wpList_store1 rfl 3 (.tmp 34) (.tmp 33) rfl w.heap.size 3 (.int .i64 n) rfl rfl 23 _ HH2.out (by simp) (storeInt w.heap.size 3 _) ?_); intro w3 hg3 hh3; have HB3 := Lib.hid (bel_grown HB2.out hg3 (Nat.le_refl _)); have HO3 : Hid (w3.heap[w.heap.size]? = some (.cells #[.int .i64 b, .int .i64 s, .int .i64 wi, .int .i64 n, .int .i64 wa] 23 (0, 0))) := hh3; clear hg3 hh3)
    | (with_reducible refine wpList_loadB rfl 23 (.tmp 3) rfl w.heap.size rfl 23 _ HO3.out _ Tryz.underlying23 rfl (by kernel_rfl) ?_)
    | (go_at_call 23; (with_reducible refine (HQP.out _).mono ?_); rintro e w4 ⟨rfl, hb⟩; have HB4 := Lib.hid (bel_trans HB3.out hb); have HO4 := Lib.hid (keep_at HO3.out hb); clear hb))
  have mm : (m == m) = true := by cases m <;> rfl
  refine rest_begin (by kernel_rfl) ?_
  refine rest_loadB 0 (oi := _) (by simp only [List.getElem?_toArray, List.getElem?_cons_zero]; rfl) (by kernel_rfl) (by kernel_rfl) (by kernel_rfl) #[.int .i64 b, .int .i64 s, .int .i64 wi, .int .i64 n, .int .i64 wa] (by exact fun _ _ _ h => h) (by rfl) 23 (.tmp 3) rfl _ rfl _ (HO4.out) _ Tryz.underlying23 rfl (by kernel_rfl) ?_
  simp only [Act.put, List.setIfInBounds_toArray, List.set_cons_zero, List.set_cons_succ]
  refine rest_loadB 2 (oi := _) (by simp only [List.getElem?_toArray, List.getElem?_cons_succ, List.getElem?_cons_zero]; rfl) (by kernel_rfl) (by kernel_rfl) (by kernel_rfl) #[.int .i64 b, .int .i64 s, .int .i64 wi, .int .i64 n, .int .i64 wa] (by exact fun _ _ _ h => h) (by rfl) 23 (.tmp 3) rfl _ rfl _ (HO4.out) _ Tryz.underlying23 rfl (by kernel_rfl) ?_
  simp only [Act.put, List.setIfInBounds_toArray, List.set_cons_zero, List.set_cons_succ]
  refine rest_call 1 (oi := _) (by simp only [List.getElem?_toArray, List.getElem?_cons_succ, List.getElem?_cons_zero]; rfl) 25 #[.agg #[.int .i64 b, .int .i64 s, .int .i64 wi, .int .i64 n, .int .i64 wa]] _ (by kernel_rfl) (by rfl) (by go_simp) (HQM.out _) ?_
  rintro e w5 ⟨rfl, hb⟩; refine ⟨_, rfl, hb, ?_⟩; have HB5 := Lib.hid (bel_trans HB4.out.drew hb); have HO5 := Lib.hid (keep_at (w := w4.drew) HO4.out hb); clear hb
  simp only [Act.put, List.setIfInBounds_toArray, List.set_cons_zero, List.set_cons_succ]
  refine rest_call 3 (oi := _) (by simp only [List.getElem?_toArray, List.getElem?_cons_succ, List.getElem?_cons_zero]; rfl) 58 #[.agg #[.int .i64 b, .int .i64 s, .int .i64 wi, .int .i64 n, .int .i64 wa]] _ (by kernel_rfl) (by rfl) (by go_simp) (HRM.out _) ?_
  rintro e w6 ⟨rfl, hb⟩; refine ⟨_, rfl, hb, ?_⟩; have HB6 := Lib.hid (bel_trans HB5.out hb); have HO6 := Lib.hid (keep_at HO5.out hb); clear hb
  simp only [Act.put, List.setIfInBounds_toArray, List.set_cons_zero, List.set_cons_succ]
  refine rest_take 4 (oi := _) (v := ?_) (by simp only [List.getElem?_toArray, List.getElem?_cons_succ, List.getElem?_cons_zero]; rfl) (by kernel_rfl) (by kernel_rfl) (by kernel_rfl) (by exact fun _ _ _ h => h) (by rfl) ?_ ?_; rotate_left; (· intro W HW; go_simp; try with_reducible rfl)
  simp only [Act.put, List.setIfInBounds_toArray, List.set_cons_zero, List.set_cons_succ]
  refine rest_take 5 (oi := _) (v := ?_) (by simp only [List.getElem?_toArray, List.getElem?_cons_succ, List.getElem?_cons_zero]; rfl) (by kernel_rfl) (by kernel_rfl) (by kernel_rfl) (by exact fun _ _ _ h => h) (by rfl) ?_ ?_; rotate_left; (· intro W HW; go_simp; try with_reducible rfl)
  simp only [Act.put, List.setIfInBounds_toArray, List.set_cons_zero, List.set_cons_succ]
  refine rest_take 6 (oi := _) (v := ?_) (by simp only [List.getElem?_toArray, List.getElem?_cons_succ, List.getElem?_cons_zero]; rfl) (by kernel_rfl) (by kernel_rfl) (by kernel_rfl) (by exact fun _ _ _ h => h) (by rfl) ?_ ?_; rotate_left; (· intro W HW; go_simp; try with_reducible rfl)
  simp only [Act.put, List.setIfInBounds_toArray, List.set_cons_zero, List.set_cons_succ]
  refine rest_loadB 7 (oi := _) (by simp only [List.getElem?_toArray, List.getElem?_cons_succ, List.getElem?_cons_zero]; rfl) (by kernel_rfl) (by kernel_rfl) (by kernel_rfl) #[.int .i64 b, .int .i64 s, .int .i64 wi, .int .i64 n, .int .i64 wa] (by exact fun _ _ _ h => h) (by rfl) 23 (.tmp 3) rfl _ rfl _ (HO6.out) _ Tryz.underlying23 rfl (by kernel_rfl) ?_
  simp only [Act.put, List.setIfInBounds_toArray, List.set_cons_zero, List.set_cons_succ]
  refine rest_call 8 (oi := _) (by simp only [List.getElem?_toArray, List.getElem?_cons_succ, List.getElem?_cons_zero]; rfl) 25 #[.agg #[.int .i64 b, .int .i64 s, .int .i64 wi, .int .i64 n, .int .i64 wa]] _ (by kernel_rfl) (by rfl) (by go_simp) (HQM.out _) ?_
  rintro e w7 ⟨rfl, hb⟩; refine ⟨_, rfl, hb, ?_⟩; have HB7 := Lib.hid (bel_trans HB6.out hb); clear hb
  simp only [Act.put, List.setIfInBounds_toArray, List.set_cons_zero, List.set_cons_succ]
  refine rest_take 9 (oi := _) (v := ?_) (by simp only [List.getElem?_toArray, List.getElem?_cons_succ, List.getElem?_cons_zero]; rfl) (by kernel_rfl) (by kernel_rfl) (by kernel_rfl) (by exact fun _ _ _ h => h) (by rfl) ?_ ?_; rotate_left; (· intro W HW; go_simp; try with_reducible rfl)
  simp only [Act.put, List.setIfInBounds_toArray, List.set_cons_zero, List.set_cons_succ]
  refine rest_take 10 (oi := _) (v := ?_) (by simp only [List.getElem?_toArray, List.getElem?_cons_succ, List.getElem?_cons_zero]; rfl) (by kernel_rfl) (by kernel_rfl) (by kernel_rfl) (by exact fun _ _ _ h => h) (by rfl) ?_ ?_; rotate_left; (· intro W HW; go_simp; try with_reducible rfl)
  simp only [Act.put, List.setIfInBounds_toArray, List.set_cons_zero, List.set_cons_succ]
  refine rest_take 11 (oi := _) (v := ?_) (by simp only [List.getElem?_toArray, List.getElem?_cons_succ, List.getElem?_cons_zero]; rfl) (by kernel_rfl) (by kernel_rfl) (by kernel_rfl) (by exact fun _ _ _ h => h) (by rfl) ?_ ?_; rotate_left; (· intro W HW; go_simp; try with_reducible rfl)
  simp only [Act.put, List.setIfInBounds_toArray, List.set_cons_zero, List.set_cons_succ]
  refine rest_done (by kernel_rfl) ?_
  go_wp2
  go_ret
  exact ⟨rfl, HB7.out⟩

set_option maxRecDepth 100000 in
set_option maxHeartbeats 8000000 in
theorem QosTurn_4 (b s wi z wa q n : Int) (w : World) (ho : Of5.ok ⟨b, s, wi, z, n⟩) (hq : (Lit.int .i64 q).wf = true) (hm : (q.tmod 5 + 5) % 5 = 4) (hC : Codes w) : Calls Tryz.prog 10 #[.agg #[.int .i64 b, .int .i64 s, .int .i64 wi, .int .i64 z, .int .i64 wa], .int .i64 q, .int .i64 n] w (Holds8 w) := by
  have HC := Lib.hid hC
  have a1 : -4 ≤ q.tmod 5 := by have := Int.lt_tmod_of_pos q (show (0 : Int) < 5 by decide); omega
  have a2 : q.tmod 5 ≤ 4 := by have := Int.tmod_lt_of_pos q (show (0 : Int) < 5 by decide); omega
  obtain ⟨m, hmay⟩ : ∃ m, mayO ⟨b, s, wi, z, n⟩ = m := ⟨_, rfl⟩
  obtain ⟨pv, hput⟩ : ∃ pv, putO ⟨b, s, wi, z, n⟩ = pv := ⟨_, rfl⟩
  have hps : pv.isSome = m := by rw [← hput, ← hmay]; unfold putO; cases mayO ⟨b, s, wi, z, n⟩ <;> rfl
  have hqm := fun w => QMay_any ⟨b, s, wi, z, n⟩ w ho
  have hrm := fun w => RMayO_any ⟨b, s, wi, z, n⟩ w
  have hqp := fun w => QPut_any ⟨b, s, wi, z, n⟩ w ho
  unfold PutR at hqp
  rw [hmay] at hqm hrm
  rw [hput, hps] at hqp
  have HQM := Lib.hid hqm
  have HRM := Lib.hid hrm
  have HQP := Lib.hid hqp
  clear hqm hrm hqp ho hq hC hmay hput hps
  go_enter Tryz.func10, Tryz.ntmps10
  go_wp2_with (first
    | ((with_reducible refine wpList_boxS rfl 23 _ (.tmp 0) rfl rfl (run_boxOf ⟨b, s, wi, z, wa⟩) ?_); intro w1 hb1 hlt1 hh1; have HB1 := Lib.hid hb1; have HH1 := Lib.hid hh1; clear hb1 hh1)
    | (go_at_call 21; (with_reducible refine (begun8_any _ (HC.out.below HB1.out)).mono ?_); rintro e w2 ⟨rfl, hb⟩; have HB2 := Lib.hid (bel_trans HB1.out hb); have HH2 := Lib.hid (keep_at HH1.out hb); clear hb)
    | ((with_reducible refine wpList_store1 rfl 3 (.tmp 18) (.tmp 17) rfl w.heap.size 4 (.int .i64 n) rfl rfl 23 _ HH2.out (by simp) (storeInt w.heap.size 4 _) ?_); intro w3 hg3 hh3; have HB3 := Lib.hid (bel_grown HB2.out hg3 (Nat.le_refl _)); have HO3 : Hid (w3.heap[w.heap.size]? = some (.cells #[.int .i64 b, .int .i64 s, .int .i64 wi, .int .i64 z, .int .i64 n] 23 (0, 0))) := hh3; clear hg3 hh3)
    | (with_reducible refine wpList_loadB rfl 23 (.tmp 3) rfl w.heap.size rfl 23 _ HO3.out _ Tryz.underlying23 rfl (by kernel_rfl) ?_)
    | (go_at_call 23; (with_reducible refine (HQP.out _).mono ?_); rintro e w4 ⟨rfl, hb⟩; have HB4 := Lib.hid (bel_trans HB3.out hb); have HO4 := Lib.hid (keep_at HO3.out hb); clear hb))
  have mm : (m == m) = true := by cases m <;> rfl
  refine rest_begin (by kernel_rfl) ?_
  refine rest_loadB 0 (oi := _) (by simp only [List.getElem?_toArray, List.getElem?_cons_zero]; rfl) (by kernel_rfl) (by kernel_rfl) (by kernel_rfl) #[.int .i64 b, .int .i64 s, .int .i64 wi, .int .i64 z, .int .i64 n] (by exact fun _ _ _ h => h) (by rfl) 23 (.tmp 3) rfl _ rfl _ (HO4.out) _ Tryz.underlying23 rfl (by kernel_rfl) ?_
  simp only [Act.put, List.setIfInBounds_toArray, List.set_cons_zero, List.set_cons_succ]
  refine rest_loadB 2 (oi := _) (by simp only [List.getElem?_toArray, List.getElem?_cons_succ, List.getElem?_cons_zero]; rfl) (by kernel_rfl) (by kernel_rfl) (by kernel_rfl) #[.int .i64 b, .int .i64 s, .int .i64 wi, .int .i64 z, .int .i64 n] (by exact fun _ _ _ h => h) (by rfl) 23 (.tmp 3) rfl _ rfl _ (HO4.out) _ Tryz.underlying23 rfl (by kernel_rfl) ?_
  simp only [Act.put, List.setIfInBounds_toArray, List.set_cons_zero, List.set_cons_succ]
  refine rest_call 1 (oi := _) (by simp only [List.getElem?_toArray, List.getElem?_cons_succ, List.getElem?_cons_zero]; rfl) 25 #[.agg #[.int .i64 b, .int .i64 s, .int .i64 wi, .int .i64 z, .int .i64 n]] _ (by kernel_rfl) (by rfl) (by go_simp) (HQM.out _) ?_
  rintro e w5 ⟨rfl, hb⟩; refine ⟨_, rfl, hb, ?_⟩; have HB5 := Lib.hid (bel_trans HB4.out.drew hb); have HO5 := Lib.hid (keep_at (w := w4.drew) HO4.out hb); clear hb
  simp only [Act.put, List.setIfInBounds_toArray, List.set_cons_zero, List.set_cons_succ]
  refine rest_call 3 (oi := _) (by simp only [List.getElem?_toArray, List.getElem?_cons_succ, List.getElem?_cons_zero]; rfl) 58 #[.agg #[.int .i64 b, .int .i64 s, .int .i64 wi, .int .i64 z, .int .i64 n]] _ (by kernel_rfl) (by rfl) (by go_simp) (HRM.out _) ?_
  rintro e w6 ⟨rfl, hb⟩; refine ⟨_, rfl, hb, ?_⟩; have HB6 := Lib.hid (bel_trans HB5.out hb); have HO6 := Lib.hid (keep_at HO5.out hb); clear hb
  simp only [Act.put, List.setIfInBounds_toArray, List.set_cons_zero, List.set_cons_succ]
  refine rest_take 4 (oi := _) (v := ?_) (by simp only [List.getElem?_toArray, List.getElem?_cons_succ, List.getElem?_cons_zero]; rfl) (by kernel_rfl) (by kernel_rfl) (by kernel_rfl) (by exact fun _ _ _ h => h) (by rfl) ?_ ?_; rotate_left; (· intro W HW; go_simp; try with_reducible rfl)
  simp only [Act.put, List.setIfInBounds_toArray, List.set_cons_zero, List.set_cons_succ]
  refine rest_take 5 (oi := _) (v := ?_) (by simp only [List.getElem?_toArray, List.getElem?_cons_succ, List.getElem?_cons_zero]; rfl) (by kernel_rfl) (by kernel_rfl) (by kernel_rfl) (by exact fun _ _ _ h => h) (by rfl) ?_ ?_; rotate_left; (· intro W HW; go_simp; try with_reducible rfl)
  simp only [Act.put, List.setIfInBounds_toArray, List.set_cons_zero, List.set_cons_succ]
  refine rest_take 6 (oi := _) (v := ?_) (by simp only [List.getElem?_toArray, List.getElem?_cons_succ, List.getElem?_cons_zero]; rfl) (by kernel_rfl) (by kernel_rfl) (by kernel_rfl) (by exact fun _ _ _ h => h) (by rfl) ?_ ?_; rotate_left; (· intro W HW; go_simp; try with_reducible rfl)
  simp only [Act.put, List.setIfInBounds_toArray, List.set_cons_zero, List.set_cons_succ]
  refine rest_loadB 7 (oi := _) (by simp only [List.getElem?_toArray, List.getElem?_cons_succ, List.getElem?_cons_zero]; rfl) (by kernel_rfl) (by kernel_rfl) (by kernel_rfl) #[.int .i64 b, .int .i64 s, .int .i64 wi, .int .i64 z, .int .i64 n] (by exact fun _ _ _ h => h) (by rfl) 23 (.tmp 3) rfl _ rfl _ (HO6.out) _ Tryz.underlying23 rfl (by kernel_rfl) ?_
  simp only [Act.put, List.setIfInBounds_toArray, List.set_cons_zero, List.set_cons_succ]
  refine rest_call 8 (oi := _) (by simp only [List.getElem?_toArray, List.getElem?_cons_succ, List.getElem?_cons_zero]; rfl) 25 #[.agg #[.int .i64 b, .int .i64 s, .int .i64 wi, .int .i64 z, .int .i64 n]] _ (by kernel_rfl) (by rfl) (by go_simp) (HQM.out _) ?_
  rintro e w7 ⟨rfl, hb⟩; refine ⟨_, rfl, hb, ?_⟩; have HB7 := Lib.hid (bel_trans HB6.out hb); clear hb
  simp only [Act.put, List.setIfInBounds_toArray, List.set_cons_zero, List.set_cons_succ]
  refine rest_take 9 (oi := _) (v := ?_) (by simp only [List.getElem?_toArray, List.getElem?_cons_succ, List.getElem?_cons_zero]; rfl) (by kernel_rfl) (by kernel_rfl) (by kernel_rfl) (by exact fun _ _ _ h => h) (by rfl) ?_ ?_; rotate_left; (· intro W HW; go_simp; try with_reducible rfl)
  simp only [Act.put, List.setIfInBounds_toArray, List.set_cons_zero, List.set_cons_succ]
  refine rest_take 10 (oi := _) (v := ?_) (by simp only [List.getElem?_toArray, List.getElem?_cons_succ, List.getElem?_cons_zero]; rfl) (by kernel_rfl) (by kernel_rfl) (by kernel_rfl) (by exact fun _ _ _ h => h) (by rfl) ?_ ?_; rotate_left; (· intro W HW; go_simp; try with_reducible rfl)
  simp only [Act.put, List.setIfInBounds_toArray, List.set_cons_zero, List.set_cons_succ]
  refine rest_take 11 (oi := _) (v := ?_) (by simp only [List.getElem?_toArray, List.getElem?_cons_succ, List.getElem?_cons_zero]; rfl) (by kernel_rfl) (by kernel_rfl) (by kernel_rfl) (by exact fun _ _ _ h => h) (by rfl) ?_ ?_; rotate_left; (· intro W HW; go_simp; try with_reducible rfl)
  simp only [Act.put, List.setIfInBounds_toArray, List.set_cons_zero, List.set_cons_succ]
  refine rest_done (by kernel_rfl) ?_
  go_wp2
  go_ret
  exact ⟨rfl, HB7.out⟩

theorem QosTurn_law (o : Of5) (q n : Int) (w : World) (ho : o.ok) (hq : (Lit.int .i64 q).wf = true) (hn : (Lit.int .i64 n).wf = true) (hC : Codes w) : Calls Tryz.prog 10 #[o.val, .int .i64 q, .int .i64 n] w (Holds8 w) := by
  obtain ⟨b, s, wi, z, wa⟩ := o
  obtain ⟨h1, h2, h3, h4, h5⟩ := ho
  rcases rem5 (x := q) with h | h | h | h | h
  · exact QosTurn_0 b s wi z wa q n w ⟨hn, h2, h3, h4, h5⟩ hq h hC
  · exact QosTurn_1 b s wi z wa q n w ⟨h1, hn, h3, h4, h5⟩ hq h hC
  · exact QosTurn_2 b s wi z wa q n w ⟨h1, h2, hn, h4, h5⟩ hq h hC
  · exact QosTurn_3 b s wi z wa q n w ⟨h1, h2, h3, hn, h5⟩ hq h hC
  · exact QosTurn_4 b s wi z wa q n w ⟨h1, h2, h3, h4, hn⟩ hq h hC
end Go.Proofs.YtcmjdbljdkabpaaGreatDoor
