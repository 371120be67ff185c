/- The law MeetMine. -/
import Derived.Test.YtcmjdbljdkabpaaGreatDoorQ8S
import Derived.Test.YtcmjdbljdkabpaaGreatDoorM8E
import Derived.Test.YtcmjdbljdkabpaaGreatDoorM8M
import Derived.Test.YtcmjdbljdkabpaaGreatDoorBegun8

set_option linter.all false

namespace Go.Proofs.YtcmjdbljdkabpaaGreatDoor
open Go.RowKit M

set_option maxRecDepth 100000 in
set_option maxHeartbeats 8000000 in
theorem MeetMine_none (a0 a1 a2 a3 a4 b0 b1 b2 b3 b4 c0 c1 c2 c3 c4 d0 d1 d2 d3 d4 e0 e1 e2 e3 e4 : Int) (k : Bool) (w : World) (hC : Codes w)
    (hd1 : ∀ w, Calls Tryz.prog 42 #[.agg #[.int .i64 a0, .int .i64 a1, .int .i64 a2, .int .i64 a3, .int .i64 a4], .agg #[.int .i64 b0, .int .i64 b1, .int .i64 b2, .int .i64 b3, .int .i64 b4]] w fun e w' => e = .returned (.tuple #[.agg #[.int .i64 d0, .int .i64 d1, .int .i64 d2, .int .i64 d3, .int .i64 d4], .bool false]) ∧ Below w.heap.size w w')
    (hd2 : ∀ w, Calls Tryz.prog 42 #[.agg #[.int .i64 a0, .int .i64 c1, .int .i64 c2, .int .i64 c3, .int .i64 c4], .agg #[.int .i64 b0, .int .i64 b1, .int .i64 b2, .int .i64 b3, .int .i64 b4]] w fun e w' => e = .returned (.tuple #[.agg #[.int .i64 e0, .int .i64 e1, .int .i64 e2, .int .i64 e3, .int .i64 e4], .bool k]) ∧ Below w.heap.size w w') :
    Calls Tryz.prog 14 #[.agg #[.int .i64 a0, .int .i64 a1, .int .i64 a2, .int .i64 a3, .int .i64 a4], .agg #[.int .i64 b0, .int .i64 b1, .int .i64 b2, .int .i64 b3, .int .i64 b4], .agg #[.int .i64 c0, .int .i64 c1, .int .i64 c2, .int .i64 c3, .int .i64 c4]] w (Holds8 w) := by
  have HC := Lib.hid hC
  have HD1 := Lib.hid hd1
  have HD2 := Lib.hid hd2
  clear hC hd1 hd2
  go_enter Tryz.func14, Tryz.ntmps14
  go_wp2_with (first
    | ((with_reducible refine wpList_boxS rfl 23 _ (.tmp 0) rfl rfl (run_boxOf ⟨a0, a1, a2, a3, a4⟩) ?_); intro w1 hb hlt hh; have HB1 := Lib.hid hb; have HA1 := Lib.hid hh; clear hb hlt hh)
    | ((with_reducible refine wpList_boxS rfl 23 _ (.tmp 1) rfl rfl (run_boxOf ⟨b0, b1, b2, b3, b4⟩) ?_); intro w2 hb hlt hh; have HB2 := Lib.hid (bel_trans HB1.out hb); have HA2 := Lib.hid (keep_at HA1.out hb); have HP2 := Lib.hid hh; have HL2 := Lib.hid (lt_at HA1.out); clear hb hlt hh)
    | ((with_reducible refine wpList_boxS rfl 23 _ (.tmp 2) rfl rfl (run_boxOf ⟨c0, c1, c2, c3, c4⟩) ?_); intro w3 hb hlt hh; have HB3 := Lib.hid (bel_trans HB2.out hb); have HA3 := Lib.hid (keep_at HA2.out hb); have HP3 := Lib.hid (keep_at HP2.out hb); have HC3 := Lib.hid hh; have HL3 := Lib.hid (lt_at HP2.out); clear hb hlt hh)
    | (go_at_call 21; (with_reducible refine (begun8_any _ (HC.out.below HB3.out)).mono ?_); rintro e w4 ⟨rfl, hb⟩; have HB4 := Lib.hid (bel_trans HB3.out hb); have HA4 := Lib.hid (keep_at HA3.out hb); have HP4 := Lib.hid (keep_at HP3.out hb); have HC4 := Lib.hid (keep_at HC3.out hb); clear hb)
    | (with_reducible refine wpList_loadB rfl 23 (.tmp 3) rfl w.heap.size rfl 23 _ HA4.out _ Tryz.underlying23 rfl (by kernel_rfl) ?_)
    | (with_reducible refine wpList_loadB rfl 23 (.tmp 4) rfl w1.heap.size rfl 23 _ HP4.out _ Tryz.underlying23 rfl (by kernel_rfl) ?_)
    | (go_at_call 42; (with_reducible refine (HD1.out _).mono ?_); rintro e w5 ⟨rfl, hb⟩; have HB5 := Lib.hid (bal (bel_trans HB4.out hb) (.cells #[.int .i64 d0, .int .i64 d1, .int .i64 d2, .int .i64 d3, .int .i64 d4] 42)); have HP5 := Lib.hid (keep_at (keep_at HP4.out hb) (bal (bel0 w5) (.cells #[.int .i64 d0, .int .i64 d1, .int .i64 d2, .int .i64 d3, .int .i64 d4] 42))); have HC5 := Lib.hid (keep_at (keep_at HC4.out hb) (bal (bel0 w5) (.cells #[.int .i64 d0, .int .i64 d1, .int .i64 d2, .int .i64 d3, .int .i64 d4] 42))); have HD5 := Lib.hid (heap_alloc_new w5 (.cells #[.int .i64 d0, .int .i64 d1, .int .i64 d2, .int .i64 d3, .int .i64 d4] 42)); have HL5 : Hid (w2.heap.size < w5.heap.size) := lt_at (keep_at HC4.out hb); have a0c := cell_at (keep_at (keep_at HA4.out hb) (bal (bel0 w5) (.cells #[.int .i64 d0, .int .i64 d1, .int .i64 d2, .int .i64 d3, .int .i64 d4] 42))) 0 _ rfl; clear hb)
    | ((with_reducible refine wpList_store1 rfl 3 (.tmp 23) (.tmp 22) rfl w2.heap.size 0 (.int .i64 a0) rfl rfl 23 _ HC5.out (by simp) (storeInt w2.heap.size 0 _) ?_); intro w6 hg hh; have HB6 := Lib.hid (bel_grown HB5.out hg (Nat.le_trans (Nat.le_of_lt HL2.out) (Nat.le_of_lt HL3.out))); have HP6 := Lib.hid (keep_grown HP5.out hg (Nat.ne_of_lt HL3.out)); have HD6 := Lib.hid (keep_grown HD5.out hg (Nat.ne_of_gt HL5.out)); have HC6 : Hid (w6.heap[w2.heap.size]? = some (.cells #[.int .i64 a0, .int .i64 c1, .int .i64 c2, .int .i64 c3, .int .i64 c4] 23 (0, 0))) := hh; clear hg hh)
    | (with_reducible refine wpList_loadB rfl 23 (.tmp 5) rfl w2.heap.size rfl 23 _ HC6.out _ Tryz.underlying23 rfl (by kernel_rfl) ?_)
    | (with_reducible refine wpList_loadB rfl 23 (.tmp 4) rfl w1.heap.size rfl 23 _ HP6.out _ Tryz.underlying23 rfl (by kernel_rfl) ?_)
    | (go_at_call 42; (with_reducible refine (HD2.out _).mono ?_); rintro e w7 ⟨rfl, hb⟩; have HB7 := Lib.hid (bal (bel_trans HB6.out hb) (.cells #[.int .i64 e0, .int .i64 e1, .int .i64 e2, .int .i64 e3, .int .i64 e4] 42)); have hd7 := keep_at (keep_at HD6.out hb) (bal (bel0 w7) (.cells #[.int .i64 e0, .int .i64 e1, .int .i64 e2, .int .i64 e3, .int .i64 e4] 42)); have he7 := heap_alloc_new w7 (.cells #[.int .i64 e0, .int .i64 e1, .int .i64 e2, .int .i64 e3, .int .i64 e4] 42); have dd0 := cell_at hd7 0 _ rfl; have dd2 := cell_at hd7 2 _ rfl; have dd3 := cell_at hd7 3 _ rfl; have dd4 := cell_at hd7 4 _ rfl; have ee0 := cell_at he7 0 _ rfl; have ee2 := cell_at he7 2 _ rfl; have ee3 := cell_at he7 3 _ rfl; have ee4 := cell_at he7 4 _ rfl; clear hb hd7 he7))
  go_ret
  refine ⟨?_, HB7.out⟩
  simp

set_option maxRecDepth 100000 in
set_option maxHeartbeats 8000000 in
theorem MeetMine_no2 (a0 a1 a2 a3 a4 b0 b1 b2 b3 b4 c0 c1 c2 c3 c4 d0 d1 d2 d3 d4 e0 e1 e2 e3 e4 : Int) (w : World) (hC : Codes w)
    (hd1 : ∀ w, Calls Tryz.prog 42 #[.agg #[.int .i64 a0, .int .i64 a1, .int .i64 a2, .int .i64 a3, .int .i64 a4], .agg #[.int .i64 b0, .int .i64 b1, .int .i64 b2, .int .i64 b3, .int .i64 b4]] w fun e w' => e = .returned (.tuple #[.agg #[.int .i64 d0, .int .i64 d1, .int .i64 d2, .int .i64 d3, .int .i64 d4], .bool true]) ∧ Below w.heap.size w w')
    (hd2 : ∀ w, Calls Tryz.prog 42 #[.agg #[.int .i64 a0, .int .i64 c1, .int .i64 c2, .int .i64 c3, .int .i64 c4], .agg #[.int .i64 b0, .int .i64 b1, .int .i64 b2, .int .i64 b3, .int .i64 b4]] w fun e w' => e = .returned (.tuple #[.agg #[.int .i64 e0, .int .i64 e1, .int .i64 e2, .int .i64 e3, .int .i64 e4], .bool false]) ∧ Below w.heap.size w w') :
    Calls Tryz.prog 14 #[.agg #[.int .i64 a0, .int .i64 a1, .int .i64 a2, .int .i64 a3, .int .i64 a4], .agg #[.int .i64 b0, .int .i64 b1, .int .i64 b2, .int .i64 b3, .int .i64 b4], .agg #[.int .i64 c0, .int .i64 c1, .int .i64 c2, .int .i64 c3, .int .i64 c4]] w (Holds8 w) := by
  have HC := Lib.hid hC
  have HD1 := Lib.hid hd1
  have HD2 := Lib.hid hd2
  clear hC hd1 hd2
  go_enter Tryz.func14, Tryz.ntmps14
  go_wp2_with (first
    | ((with_reducible refine wpList_boxS rfl 23 _ (.tmp 0) rfl rfl (run_boxOf ⟨a0, a1, a2, a3, a4⟩) ?_); intro w1 hb hlt hh; have HB1 := Lib.hid hb; have HA1 := Lib.hid hh; clear hb hlt hh)
    | ((with_reducible refine wpList_boxS rfl 23 _ (.tmp 1) rfl rfl (run_boxOf ⟨b0, b1, b2, b3, b4⟩) ?_); intro w2 hb hlt hh; have HB2 := Lib.hid (bel_trans HB1.out hb); have HA2 := Lib.hid (keep_at HA1.out hb); have HP2 := Lib.hid hh; have HL2 := Lib.hid (lt_at HA1.out); clear hb hlt hh)
    | ((with_reducible refine wpList_boxS rfl 23 _ (.tmp 2) rfl rfl (run_boxOf ⟨c0, c1, c2, c3, c4⟩) ?_); intro w3 hb hlt hh; have HB3 := Lib.hid (bel_trans HB2.out hb); have HA3 := Lib.hid (keep_at HA2.out hb); have HP3 := Lib.hid (keep_at HP2.out hb); have HC3 := Lib.hid hh; have HL3 := Lib.hid (lt_at HP2.out); clear hb hlt hh)
    | (go_at_call 21; (with_reducible refine (begun8_any _ (HC.out.below HB3.out)).mono ?_); rintro e w4 ⟨rfl, hb⟩; have HB4 := Lib.hid (bel_trans HB3.out hb); have HA4 := Lib.hid (keep_at HA3.out hb); have HP4 := Lib.hid (keep_at HP3.out hb); have HC4 := Lib.hid (keep_at HC3.out hb); clear hb)
    | (with_reducible refine wpList_loadB rfl 23 (.tmp 3) rfl w.heap.size rfl 23 _ HA4.out _ Tryz.underlying23 rfl (by kernel_rfl) ?_)
    | (with_reducible refine wpList_loadB rfl 23 (.tmp 4) rfl w1.heap.size rfl 23 _ HP4.out _ Tryz.underlying23 rfl (by kernel_rfl) ?_)
    | (go_at_call 42; (with_reducible refine (HD1.out _).mono ?_); rintro e w5 ⟨rfl, hb⟩; have HB5 := Lib.hid (bal (bel_trans HB4.out hb) (.cells #[.int .i64 d0, .int .i64 d1, .int .i64 d2, .int .i64 d3, .int .i64 d4] 42)); have HP5 := Lib.hid (keep_at (keep_at HP4.out hb) (bal (bel0 w5) (.cells #[.int .i64 d0, .int .i64 d1, .int .i64 d2, .int .i64 d3, .int .i64 d4] 42))); have HC5 := Lib.hid (keep_at (keep_at HC4.out hb) (bal (bel0 w5) (.cells #[.int .i64 d0, .int .i64 d1, .int .i64 d2, .int .i64 d3, .int .i64 d4] 42))); have HD5 := Lib.hid (heap_alloc_new w5 (.cells #[.int .i64 d0, .int .i64 d1, .int .i64 d2, .int .i64 d3, .int .i64 d4] 42)); have HL5 : Hid (w2.heap.size < w5.heap.size) := lt_at (keep_at HC4.out hb); have a0c := cell_at (keep_at (keep_at HA4.out hb) (bal (bel0 w5) (.cells #[.int .i64 d0, .int .i64 d1, .int .i64 d2, .int .i64 d3, .int .i64 d4] 42))) 0 _ rfl; clear hb)
    | ((with_reducible refine wpList_store1 rfl 3 (.tmp 23) (.tmp 22) rfl w2.heap.size 0 (.int .i64 a0) rfl rfl 23 _ HC5.out (by simp) (storeInt w2.heap.size 0 _) ?_); intro w6 hg hh; have HB6 := Lib.hid (bel_grown HB5.out hg (Nat.le_trans (Nat.le_of_lt HL2.out) (Nat.le_of_lt HL3.out))); have HP6 := Lib.hid (keep_grown HP5.out hg (Nat.ne_of_lt HL3.out)); have HD6 := Lib.hid (keep_grown HD5.out hg (Nat.ne_of_gt HL5.out)); have HC6 : Hid (w6.heap[w2.heap.size]? = some (.cells #[.int .i64 a0, .int .i64 c1, .int .i64 c2, .int .i64 c3, .int .i64 c4] 23 (0, 0))) := hh; clear hg hh)
    | (with_reducible refine wpList_loadB rfl 23 (.tmp 5) rfl w2.heap.size rfl 23 _ HC6.out _ Tryz.underlying23 rfl (by kernel_rfl) ?_)
    | (with_reducible refine wpList_loadB rfl 23 (.tmp 4) rfl w1.heap.size rfl 23 _ HP6.out _ Tryz.underlying23 rfl (by kernel_rfl) ?_)
    | (go_at_call 42; (with_reducible refine (HD2.out _).mono ?_); rintro e w7 ⟨rfl, hb⟩; have HB7 := Lib.hid (bal (bel_trans HB6.out hb) (.cells #[.int .i64 e0, .int .i64 e1, .int .i64 e2, .int .i64 e3, .int .i64 e4] 42)); have hd7 := keep_at (keep_at HD6.out hb) (bal (bel0 w7) (.cells #[.int .i64 e0, .int .i64 e1, .int .i64 e2, .int .i64 e3, .int .i64 e4] 42)); have he7 := heap_alloc_new w7 (.cells #[.int .i64 e0, .int .i64 e1, .int .i64 e2, .int .i64 e3, .int .i64 e4] 42); have dd0 := cell_at hd7 0 _ rfl; have dd2 := cell_at hd7 2 _ rfl; have dd3 := cell_at hd7 3 _ rfl; have dd4 := cell_at hd7 4 _ rfl; have ee0 := cell_at he7 0 _ rfl; have ee2 := cell_at he7 2 _ rfl; have ee3 := cell_at he7 3 _ rfl; have ee4 := cell_at he7 4 _ rfl; clear hb hd7 he7))
  go_ret
  refine ⟨?_, HB7.out⟩
  simp

set_option maxRecDepth 100000 in
set_option maxHeartbeats 8000000 in
theorem MeetMine_both (a0 a1 a2 a3 a4 b0 b1 b2 b3 b4 c0 c1 c2 c3 c4 d0 d1 d2 d3 d4 e1 : Int) (w : World) (hC : Codes w)
    (hd1 : ∀ w, Calls Tryz.prog 42 #[.agg #[.int .i64 a0, .int .i64 a1, .int .i64 a2, .int .i64 a3, .int .i64 a4], .agg #[.int .i64 b0, .int .i64 b1, .int .i64 b2, .int .i64 b3, .int .i64 b4]] w fun e w' => e = .returned (.tuple #[.agg #[.int .i64 d0, .int .i64 d1, .int .i64 d2, .int .i64 d3, .int .i64 d4], .bool true]) ∧ Below w.heap.size w w')
    (hd2 : ∀ w, Calls Tryz.prog 42 #[.agg #[.int .i64 a0, .int .i64 c1, .int .i64 c2, .int .i64 c3, .int .i64 c4], .agg #[.int .i64 b0, .int .i64 b1, .int .i64 b2, .int .i64 b3, .int .i64 b4]] w fun e w' => e = .returned (.tuple #[.agg #[.int .i64 d0, .int .i64 e1, .int .i64 d2, .int .i64 d3, .int .i64 d4], .bool true]) ∧ Below w.heap.size w w') :
    Calls Tryz.prog 14 #[.agg #[.int .i64 a0, .int .i64 a1, .int .i64 a2, .int .i64 a3, .int .i64 a4], .agg #[.int .i64 b0, .int .i64 b1, .int .i64 b2, .int .i64 b3, .int .i64 b4], .agg #[.int .i64 c0, .int .i64 c1, .int .i64 c2, .int .i64 c3, .int .i64 c4]] w (Holds8 w) := by
  have HC := Lib.hid hC
  have HD1 := Lib.hid hd1
  have HD2 := Lib.hid hd2
  clear hC hd1 hd2
  go_enter Tryz.func14, Tryz.ntmps14
  go_wp2_with (first
    | ((with_reducible refine wpList_boxS rfl 23 _ (.tmp 0) rfl rfl (run_boxOf ⟨a0, a1, a2, a3, a4⟩) ?_); intro w1 hb hlt hh; have HB1 := Lib.hid hb; have HA1 := Lib.hid hh; clear hb hlt hh)
    | ((with_reducible refine wpList_boxS rfl 23 _ (.tmp 1) rfl rfl (run_boxOf ⟨b0, b1, b2, b3, b4⟩) ?_); intro w2 hb hlt hh; have HB2 := Lib.hid (bel_trans HB1.out hb); have HA2 := Lib.hid (keep_at HA1.out hb); have HP2 := Lib.hid hh; have HL2 := Lib.hid (lt_at HA1.out); clear hb hlt hh)
    | ((with_reducible refine wpList_boxS rfl 23 _ (.tmp 2) rfl rfl (run_boxOf ⟨c0, c1, c2, c3, c4⟩) ?_); intro w3 hb hlt hh; have HB3 := Lib.hid (bel_trans HB2.out hb); have HA3 := Lib.hid (keep_at HA2.out hb); have HP3 := Lib.hid (keep_at HP2.out hb); have HC3 := Lib.hid hh; have HL3 := Lib.hid (lt_at HP2.out); clear hb hlt hh)
    | (go_at_call 21; (with_reducible refine (begun8_any _ (HC.out.below HB3.out)).mono ?_); rintro e w4 ⟨rfl, hb⟩; have HB4 := Lib.hid (bel_trans HB3.out hb); have HA4 := Lib.hid (keep_at HA3.out hb); have HP4 := Lib.hid (keep_at HP3.out hb); have HC4 := Lib.hid (keep_at HC3.out hb); clear hb)
    | (with_reducible refine wpList_loadB rfl 23 (.tmp 3) rfl w.heap.size rfl 23 _ HA4.out _ Tryz.underlying23 rfl (by kernel_rfl) ?_)
    | (with_reducible refine wpList_loadB rfl 23 (.tmp 4) rfl w1.heap.size rfl 23 _ HP4.out _ Tryz.underlying23 rfl (by kernel_rfl) ?_)
    | (go_at_call 42; (with_reducible refine (HD1.out _).mono ?_); rintro e w5 ⟨rfl, hb⟩; have HB5 := Lib.hid (bal (bel_trans HB4.out hb) (.cells #[.int .i64 d0, .int .i64 d1, .int .i64 d2, .int .i64 d3, .int .i64 d4] 42)); have HP5 := Lib.hid (keep_at (keep_at HP4.out hb) (bal (bel0 w5) (.cells #[.int .i64 d0, .int .i64 d1, .int .i64 d2, .int .i64 d3, .int .i64 d4] 42))); have HC5 := Lib.hid (keep_at (keep_at HC4.out hb) (bal (bel0 w5) (.cells #[.int .i64 d0, .int .i64 d1, .int .i64 d2, .int .i64 d3, .int .i64 d4] 42))); have HD5 := Lib.hid (heap_alloc_new w5 (.cells #[.int .i64 d0, .int .i64 d1, .int .i64 d2, .int .i64 d3, .int .i64 d4] 42)); have HL5 : Hid (w2.heap.size < w5.heap.size) := lt_at (keep_at HC4.out hb); have a0c := cell_at (keep_at (keep_at HA4.out hb) (bal (bel0 w5) (.cells #[.int .i64 d0, .int .i64 d1, .int .i64 d2, .int .i64 d3, .int .i64 d4] 42))) 0 _ rfl; clear hb)
    | ((with_reducible refine wpList_store1 rfl 3 (.tmp 23) (.tmp 22) rfl w2.heap.size 0 (.int .i64 a0) rfl rfl 23 _ HC5.out (by simp) (storeInt w2.heap.size 0 _) ?_); intro w6 hg hh; have HB6 := Lib.hid (bel_grown HB5.out hg (Nat.le_trans (Nat.le_of_lt HL2.out) (Nat.le_of_lt HL3.out))); have HP6 := Lib.hid (keep_grown HP5.out hg (Nat.ne_of_lt HL3.out)); have HD6 := Lib.hid (keep_grown HD5.out hg (Nat.ne_of_gt HL5.out)); have HC6 : Hid (w6.heap[w2.heap.size]? = some (.cells #[.int .i64 a0, .int .i64 c1, .int .i64 c2, .int .i64 c3, .int .i64 c4] 23 (0, 0))) := hh; clear hg hh)
    | (with_reducible refine wpList_loadB rfl 23 (.tmp 5) rfl w2.heap.size rfl 23 _ HC6.out _ Tryz.underlying23 rfl (by kernel_rfl) ?_)
    | (with_reducible refine wpList_loadB rfl 23 (.tmp 4) rfl w1.heap.size rfl 23 _ HP6.out _ Tryz.underlying23 rfl (by kernel_rfl) ?_)
    | (go_at_call 42; (with_reducible refine (HD2.out _).mono ?_); rintro e w7 ⟨rfl, hb⟩; have HB7 := Lib.hid (bal (bel_trans HB6.out hb) (.cells #[.int .i64 d0, .int .i64 e1, .int .i64 d2, .int .i64 d3, .int .i64 d4] 42)); have hd7 := keep_at (keep_at HD6.out hb) (bal (bel0 w7) (.cells #[.int .i64 d0, .int .i64 e1, .int .i64 d2, .int .i64 d3, .int .i64 d4] 42)); have he7 := heap_alloc_new w7 (.cells #[.int .i64 d0, .int .i64 e1, .int .i64 d2, .int .i64 d3, .int .i64 d4] 42); have dd0 := cell_at hd7 0 _ rfl; have dd2 := cell_at hd7 2 _ rfl; have dd3 := cell_at hd7 3 _ rfl; have dd4 := cell_at hd7 4 _ rfl; have ee0 := cell_at he7 0 _ rfl; have ee2 := cell_at he7 2 _ rfl; have ee3 := cell_at he7 3 _ rfl; have ee4 := cell_at he7 4 _ rfl; clear hb hd7 he7))
  go_ret
  refine ⟨?_, HB7.out⟩
  simp

theorem MeetMine_law (a b c : Of5) (w : World) (ha : a.ok) (hb : b.ok) (hc : c.ok) (hC : Codes w) : Calls Tryz.prog 14 #[a.val, b.val, c.val] w (Holds8 w) := by
  have h1 := fun w => MDeal_any a b w ha hb
  have h2 := fun w => MDeal_any ⟨a.baud, c.silent, c.win, c.size, c.wait⟩ b w ⟨ha.1, hc.2⟩ hb
  unfold DealR at h1 h2
  cases e1 : dealM a b with
  | none =>
    rw [e1] at h1
    exact MeetMine_none a.baud a.silent a.win a.size a.wait b.baud b.silent b.win b.size b.wait c.baud c.silent c.win c.size c.wait 0 0 0 0 0 _ _ _ _ _ _ w hC h1 h2
  | some d =>
    rw [e1] at h1
    cases e2 : dealM ⟨a.baud, c.silent, c.win, c.size, c.wait⟩ b with
    | none =>
      rw [e2] at h2
      exact MeetMine_no2 a.baud a.silent a.win a.size a.wait b.baud b.silent b.win b.size b.wait c.baud c.silent c.win c.size c.wait d.baud d.silent d.win d.size d.wait 0 0 0 0 0 w hC h1 h2
    | some e =>
      rw [e2] at h2
      unfold dealM at e1 e2
      split at e1
      · split at e2
        · injection e1 with e1
          injection e2 with e2
          subst e1; subst e2
          exact MeetMine_both a.baud a.silent a.win a.size a.wait b.baud b.silent b.win b.size b.wait c.baud c.silent c.win c.size c.wait _ _ _ _ _ _ w hC h1 h2
        · cases e2
      · cases e1
end Go.Proofs.YtcmjdbljdkabpaaGreatDoor
