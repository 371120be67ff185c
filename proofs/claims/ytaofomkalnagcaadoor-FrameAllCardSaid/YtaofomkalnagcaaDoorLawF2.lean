/- The law FrameAll. -/
import Derived.Test.YtaofomkalnagcaaDoorM4H
import Derived.Test.YtaofomkalnagcaaDoorBegun4

set_option linter.all false

namespace Go.Proofs.YtaofomkalnagcaaDoor
open Go.RowKit M

set_option maxRecDepth 100000 in
set_option maxHeartbeats 8000000 in
theorem FrameAll_ff (p q P Q : PIn) (w : World) (hlp : ∀ w, Calls Tryd.prog 32 #[p.val] w fun e w' => e = .returned P.val ∧ Below w.heap.size w w') (hlq : ∀ w, Calls Tryd.prog 32 #[q.val] w fun e w' => e = .returned Q.val ∧ Below w.heap.size w w')
    (hP : P.ok) (hQ : Q.ok) (hC : Codes w) (hmp : decide (mayF P.pl) = false) (hmq : decide (mayF Q.pl) = false) : Calls Tryd.prog 7 #[p.val, q.val] w (Holds4 w) := by
  have HC := Lib.hid hC
  have HLP := Lib.hid hlp
  have HLQ := Lib.hid hlq
  have HOP := Lib.hid (fun w hC => FOf_is2 (p := P) w hP hmp hC)
  have HOQ := Lib.hid (fun w hC => FOf_is2 (p := Q) w hQ hmq hC)
  have HMP := Lib.hid (fun w => RMay_is (p := P) w hmp)
  have HMQ := Lib.hid (fun w => RMay_is (p := Q) w hmq)
  clear hC hlp hlq hP hQ hmp hmq
  go_enter Tryd.func7, Tryd.ntmps7
  go_wp2_with (first
    | ((with_reducible refine wpList_boxS rfl 34 _ (.tmp 0) rfl rfl (run_boxPl p.seat p.count p.cmd p.kind p.sort p.nr p.ns p.pf p.body) ?_); intro w1 hb1 hlt1 hh1; have HB1 := Lib.hid hb1; have HP1 := Lib.hid hh1; clear hb1 hh1)
    | ((with_reducible refine wpList_boxS rfl 34 _ (.tmp 1) rfl rfl (run_boxPl q.seat q.count q.cmd q.kind q.sort q.nr q.ns q.pf q.body) ?_); intro w2 hb2 hlt2 hh2; have HB2 := Lib.hid (bel_trans HB1.out hb2); have HP2 := Lib.hid (keep_at HP1.out hb2); have HQ2 := Lib.hid hh2; clear hb2 hh2)
    | (go_at_call 20; refine (begun4_any _ (HC.out.below HB2.out)).mono ?_; rintro e w3 ⟨rfl, hb⟩; have HB3 := Lib.hid (bel_trans HB2.out hb); have HP3 := Lib.hid (keep_at HP2.out hb); have HQ3 := Lib.hid (keep_at HQ2.out hb); clear hb))
  have hlt01 : w.heap.size ≤ w1.heap.size := HB1.out.size
  have hne : w.heap.size ≠ w1.heap.size := Nat.ne_of_lt (lt_at HP1.out)
  have HBs : Hid (From w w3.drew) := by show From _ _; exact HB3.out.drew
  have HPs : Hid (w3.drew.heap[w.heap.size]? = some (.cells #[.int .i64 p.seat, .int .i64 p.count, .bool p.cmd, .int .i64 p.kind, .int .i64 p.sort, .int .i64 p.nr, .int .i64 p.ns, .bool p.pf, .string p.body] 34 (0, 0))) := by show _ = _; exact HP3.out
  have HQs : Hid (w3.drew.heap[w1.heap.size]? = some (.cells #[.int .i64 q.seat, .int .i64 q.count, .bool q.cmd, .int .i64 q.kind, .int .i64 q.sort, .int .i64 q.nr, .int .i64 q.ns, .bool q.pf, .string q.body] 34 (0, 0))) := by show _ = _; exact HQ3.out
  refine' region_shared (fun W => From w W ∧ W.heap[w.heap.size]? = some (.cells #[.int .i64 P.seat, .int .i64 P.count, .bool P.cmd, .int .i64 P.kind, .int .i64 P.sort, .int .i64 P.nr, .int .i64 P.ns, .bool P.pf, .string P.body] 34 (0, 0)) ∧ W.heap[w1.heap.size]? = some (.cells #[.int .i64 Q.seat, .int .i64 Q.count, .bool Q.cmd, .int .i64 Q.kind, .int .i64 Q.sort, .int .i64 Q.nr, .int .i64 Q.ns, .bool Q.pf, .string Q.body] 34 (0, 0))) _ ?cont ?reg
  case reg =>
    intro hK
    refine rests_begin (From w) (by kernel_rfl) ?_
    refine rests_two 0 2 (oi := _) (oj := _) (by simp only [List.getElem?_toArray, List.getElem?_cons_zero]; rfl) (by simp only [List.getElem?_toArray, List.getElem?_cons_succ, List.getElem?_cons_zero]; rfl) (by kernel_rfl) (by rfl) (by rfl) ?_ ?_
    · skip
      refine wp_val (v := .agg #[.int .i64 p.seat, .int .i64 p.count, .bool p.cmd, .int .i64 p.kind, .int .i64 p.sort, .int .i64 p.nr, .int .i64 p.ns, .bool p.pf, .string p.body]) (exec_loadB rfl rfl HPs.out Tryd.underlying34 rfl (by kernel_rfl)) ⟨HBs.out, ?_⟩
      simp only [Act.put, List.setIfInBounds_toArray, List.set_cons_zero, List.set_cons_succ]
      refine rests_two 1 2 (oi := _) (oj := _) (by simp only [List.getElem?_toArray, List.getElem?_cons_succ, List.getElem?_cons_zero]; rfl) (by simp only [List.getElem?_toArray, List.getElem?_cons_succ, List.getElem?_cons_zero]; rfl) (by kernel_rfl) (by rfl) (by rfl) ?_ ?_
      · skip
        refine wp_enter (f := 32) (args := #[.agg #[.int .i64 p.seat, .int .i64 p.count, .bool p.cmd, .int .i64 p.kind, .int .i64 p.sort, .int .i64 p.nr, .int .i64 p.ns, .bool p.pf, .string p.body]]) (by go_simp) (HLP.out _) ?_
        rintro e w4 ⟨rfl, hb⟩; have HB4 := Lib.hid (bel_trans HBs.out hb); have HP4 := Lib.hid (keep_at HPs.out hb); have HQ4 := Lib.hid (keep_at HQs.out hb); refine ⟨_, rfl, HB4.out, ?_⟩; clear hb
        simp only [Act.put, List.setIfInBounds_toArray, List.set_cons_zero, List.set_cons_succ]
        refine rests_run 2 (oi := _) (by simp only [List.getElem?_toArray, List.getElem?_cons_succ, List.getElem?_cons_zero]; rfl) (by kernel_rfl) (by rfl) (.agg #[.int .i64 q.seat, .int .i64 q.count, .bool q.cmd, .int .i64 q.kind, .int .i64 q.sort, .int .i64 q.nr, .int .i64 q.ns, .bool q.pf, .string q.body]) _ (exec_loadB rfl rfl HQ4.out Tryd.underlying34 rfl (by kernel_rfl)) ⟨HB4.out, ?_⟩
        simp only [Act.put, List.setIfInBounds_toArray, List.set_cons_zero, List.set_cons_succ]
        refine rests_call 3 (oi := _) (by simp only [List.getElem?_toArray, List.getElem?_cons_succ, List.getElem?_cons_zero]; rfl) 32 #[.agg #[.int .i64 q.seat, .int .i64 q.count, .bool q.cmd, .int .i64 q.kind, .int .i64 q.sort, .int .i64 q.nr, .int .i64 q.ns, .bool q.pf, .string q.body]] _ (by kernel_rfl) (by rfl) (by go_simp) (HLQ.out _) ?_
        rintro e w5 ⟨rfl, hb⟩; have HB5 := Lib.hid (bel_trans HB4.out hb); have HP5 := Lib.hid (keep_at HP4.out hb); have HQ5 := Lib.hid (keep_at HQ4.out hb); refine ⟨_, rfl, HB5.out, ?_⟩; clear hb
        simp only [Act.put, List.setIfInBounds_toArray, List.set_cons_zero, List.set_cons_succ]
        refine rests_storeB 4 (oi := _) (by simp only [List.getElem?_toArray, List.getElem?_cons_succ, List.getElem?_cons_zero]; rfl) (by kernel_rfl) (by rfl) 34 (.tmp 2) (.tmp 18) rfl w.heap.size #[.int .i64 P.seat, .int .i64 P.count, .bool P.cmd, .int .i64 P.kind, .int .i64 P.sort, .int .i64 P.nr, .int .i64 P.ns, .bool P.pf, .string P.body] rfl rfl 34 _ HP5.out (by kernel_rfl) rfl (by kernel_rfl) ?_
        intro w6 hg6 hz6 hh6; have HB6 := Lib.hid (bel_grown HB5.out hg6 (Nat.le_refl _)); have HP6 := Lib.hid hh6; have HQ6 := Lib.hid (keep_grown HQ5.out hg6 hne.symm); refine ⟨HB6.out, ?_⟩; clear hg6 hz6 hh6
        simp only [Act.put, List.setIfInBounds_toArray, List.set_cons_zero, List.set_cons_succ]
        refine rests_storeB 5 (oi := _) (by simp only [List.getElem?_toArray, List.getElem?_cons_succ, List.getElem?_cons_zero]; rfl) (by kernel_rfl) (by rfl) 34 (.tmp 3) (.tmp 20) rfl w1.heap.size #[.int .i64 Q.seat, .int .i64 Q.count, .bool Q.cmd, .int .i64 Q.kind, .int .i64 Q.sort, .int .i64 Q.nr, .int .i64 Q.ns, .bool Q.pf, .string Q.body] rfl rfl 34 _ HQ6.out (by kernel_rfl) rfl (by kernel_rfl) ?_
        intro w7 hg7 hz7 hh7; have HB7 := Lib.hid (bel_grown HB6.out hg7 hlt01); have HQ7 := Lib.hid hh7; have HP7 := Lib.hid (keep_grown HP6.out hg7 hne); refine ⟨HB7.out, ?_⟩; clear hg7 hz7 hh7
        simp only [Act.put, List.setIfInBounds_toArray, List.set_cons_zero, List.set_cons_succ]
        refine rests_done (by kernel_rfl) ?_
        exact hK w7 ⟨HB7.out, HP7.out, HQ7.out⟩
      · skip
        refine wp_val (v := .agg #[.int .i64 q.seat, .int .i64 q.count, .bool q.cmd, .int .i64 q.kind, .int .i64 q.sort, .int .i64 q.nr, .int .i64 q.ns, .bool q.pf, .string q.body]) (exec_loadB rfl rfl HQs.out Tryd.underlying34 rfl (by kernel_rfl)) ⟨HBs.out, ?_⟩
        simp only [Act.put, List.setIfInBounds_toArray, List.set_cons_zero, List.set_cons_succ]
        refine rests_call 1 (oi := _) (by simp only [List.getElem?_toArray, List.getElem?_cons_succ, List.getElem?_cons_zero]; rfl) 32 #[.agg #[.int .i64 p.seat, .int .i64 p.count, .bool p.cmd, .int .i64 p.kind, .int .i64 p.sort, .int .i64 p.nr, .int .i64 p.ns, .bool p.pf, .string p.body]] _ (by kernel_rfl) (by rfl) (by go_simp) (HLP.out _) ?_
        rintro e w4 ⟨rfl, hb⟩; have HB4 := Lib.hid (bel_trans HBs.out hb); have HP4 := Lib.hid (keep_at HPs.out hb); have HQ4 := Lib.hid (keep_at HQs.out hb); refine ⟨_, rfl, HB4.out, ?_⟩; clear hb
        simp only [Act.put, List.setIfInBounds_toArray, List.set_cons_zero, List.set_cons_succ]
        refine rests_call 3 (oi := _) (by simp only [List.getElem?_toArray, List.getElem?_cons_succ, List.getElem?_cons_zero]; rfl) 32 #[.agg #[.int .i64 q.seat, .int .i64 q.count, .bool q.cmd, .int .i64 q.kind, .int .i64 q.sort, .int .i64 q.nr, .int .i64 q.ns, .bool q.pf, .string q.body]] _ (by kernel_rfl) (by rfl) (by go_simp) (HLQ.out _) ?_
        rintro e w5 ⟨rfl, hb⟩; have HB5 := Lib.hid (bel_trans HB4.out hb); have HP5 := Lib.hid (keep_at HP4.out hb); have HQ5 := Lib.hid (keep_at HQ4.out hb); refine ⟨_, rfl, HB5.out, ?_⟩; clear hb
        simp only [Act.put, List.setIfInBounds_toArray, List.set_cons_zero, List.set_cons_succ]
        refine rests_storeB 4 (oi := _) (by simp only [List.getElem?_toArray, List.getElem?_cons_succ, List.getElem?_cons_zero]; rfl) (by kernel_rfl) (by rfl) 34 (.tmp 2) (.tmp 18) rfl w.heap.size #[.int .i64 P.seat, .int .i64 P.count, .bool P.cmd, .int .i64 P.kind, .int .i64 P.sort, .int .i64 P.nr, .int .i64 P.ns, .bool P.pf, .string P.body] rfl rfl 34 _ HP5.out (by kernel_rfl) rfl (by kernel_rfl) ?_
        intro w6 hg6 hz6 hh6; have HB6 := Lib.hid (bel_grown HB5.out hg6 (Nat.le_refl _)); have HP6 := Lib.hid hh6; have HQ6 := Lib.hid (keep_grown HQ5.out hg6 hne.symm); refine ⟨HB6.out, ?_⟩; clear hg6 hz6 hh6
        simp only [Act.put, List.setIfInBounds_toArray, List.set_cons_zero, List.set_cons_succ]
        refine rests_storeB 5 (oi := _) (by simp only [List.getElem?_toArray, List.getElem?_cons_succ, List.getElem?_cons_zero]; rfl) (by kernel_rfl) (by rfl) 34 (.tmp 3) (.tmp 20) rfl w1.heap.size #[.int .i64 Q.seat, .int .i64 Q.count, .bool Q.cmd, .int .i64 Q.kind, .int .i64 Q.sort, .int .i64 Q.nr, .int .i64 Q.ns, .bool Q.pf, .string Q.body] rfl rfl 34 _ HQ6.out (by kernel_rfl) rfl (by kernel_rfl) ?_
        intro w7 hg7 hz7 hh7; have HB7 := Lib.hid (bel_grown HB6.out hg7 hlt01); have HQ7 := Lib.hid hh7; have HP7 := Lib.hid (keep_grown HP6.out hg7 hne); refine ⟨HB7.out, ?_⟩; clear hg7 hz7 hh7
        simp only [Act.put, List.setIfInBounds_toArray, List.set_cons_zero, List.set_cons_succ]
        refine rests_done (by kernel_rfl) ?_
        exact hK w7 ⟨HB7.out, HP7.out, HQ7.out⟩
    · skip
      refine wp_val (v := .agg #[.int .i64 q.seat, .int .i64 q.count, .bool q.cmd, .int .i64 q.kind, .int .i64 q.sort, .int .i64 q.nr, .int .i64 q.ns, .bool q.pf, .string q.body]) (exec_loadB rfl rfl HQs.out Tryd.underlying34 rfl (by kernel_rfl)) ⟨HBs.out, ?_⟩
      simp only [Act.put, List.setIfInBounds_toArray, List.set_cons_zero, List.set_cons_succ]
      refine rests_run 0 (oi := _) (by simp only [List.getElem?_toArray, List.getElem?_cons_zero]; rfl) (by kernel_rfl) (by rfl) (.agg #[.int .i64 p.seat, .int .i64 p.count, .bool p.cmd, .int .i64 p.kind, .int .i64 p.sort, .int .i64 p.nr, .int .i64 p.ns, .bool p.pf, .string p.body]) _ (exec_loadB rfl rfl HPs.out Tryd.underlying34 rfl (by kernel_rfl)) ⟨HBs.out, ?_⟩
      simp only [Act.put, List.setIfInBounds_toArray, List.set_cons_zero, List.set_cons_succ]
      refine rests_call 1 (oi := _) (by simp only [List.getElem?_toArray, List.getElem?_cons_succ, List.getElem?_cons_zero]; rfl) 32 #[.agg #[.int .i64 p.seat, .int .i64 p.count, .bool p.cmd, .int .i64 p.kind, .int .i64 p.sort, .int .i64 p.nr, .int .i64 p.ns, .bool p.pf, .string p.body]] _ (by kernel_rfl) (by rfl) (by go_simp) (HLP.out _) ?_
      rintro e w4 ⟨rfl, hb⟩; have HB4 := Lib.hid (bel_trans HBs.out hb); have HP4 := Lib.hid (keep_at HPs.out hb); have HQ4 := Lib.hid (keep_at HQs.out hb); refine ⟨_, rfl, HB4.out, ?_⟩; clear hb
      simp only [Act.put, List.setIfInBounds_toArray, List.set_cons_zero, List.set_cons_succ]
      refine rests_call 3 (oi := _) (by simp only [List.getElem?_toArray, List.getElem?_cons_succ, List.getElem?_cons_zero]; rfl) 32 #[.agg #[.int .i64 q.seat, .int .i64 q.count, .bool q.cmd, .int .i64 q.kind, .int .i64 q.sort, .int .i64 q.nr, .int .i64 q.ns, .bool q.pf, .string q.body]] _ (by kernel_rfl) (by rfl) (by go_simp) (HLQ.out _) ?_
      rintro e w5 ⟨rfl, hb⟩; have HB5 := Lib.hid (bel_trans HB4.out hb); have HP5 := Lib.hid (keep_at HP4.out hb); have HQ5 := Lib.hid (keep_at HQ4.out hb); refine ⟨_, rfl, HB5.out, ?_⟩; clear hb
      simp only [Act.put, List.setIfInBounds_toArray, List.set_cons_zero, List.set_cons_succ]
      refine rests_storeB 4 (oi := _) (by simp only [List.getElem?_toArray, List.getElem?_cons_succ, List.getElem?_cons_zero]; rfl) (by kernel_rfl) (by rfl) 34 (.tmp 2) (.tmp 18) rfl w.heap.size #[.int .i64 P.seat, .int .i64 P.count, .bool P.cmd, .int .i64 P.kind, .int .i64 P.sort, .int .i64 P.nr, .int .i64 P.ns, .bool P.pf, .string P.body] rfl rfl 34 _ HP5.out (by kernel_rfl) rfl (by kernel_rfl) ?_
      intro w6 hg6 hz6 hh6; have HB6 := Lib.hid (bel_grown HB5.out hg6 (Nat.le_refl _)); have HP6 := Lib.hid hh6; have HQ6 := Lib.hid (keep_grown HQ5.out hg6 hne.symm); refine ⟨HB6.out, ?_⟩; clear hg6 hz6 hh6
      simp only [Act.put, List.setIfInBounds_toArray, List.set_cons_zero, List.set_cons_succ]
      refine rests_storeB 5 (oi := _) (by simp only [List.getElem?_toArray, List.getElem?_cons_succ, List.getElem?_cons_zero]; rfl) (by kernel_rfl) (by rfl) 34 (.tmp 3) (.tmp 20) rfl w1.heap.size #[.int .i64 Q.seat, .int .i64 Q.count, .bool Q.cmd, .int .i64 Q.kind, .int .i64 Q.sort, .int .i64 Q.nr, .int .i64 Q.ns, .bool Q.pf, .string Q.body] rfl rfl 34 _ HQ6.out (by kernel_rfl) rfl (by kernel_rfl) ?_
      intro w7 hg7 hz7 hh7; have HB7 := Lib.hid (bel_grown HB6.out hg7 hlt01); have HQ7 := Lib.hid hh7; have HP7 := Lib.hid (keep_grown HP6.out hg7 hne); refine ⟨HB7.out, ?_⟩; clear hg7 hz7 hh7
      simp only [Act.put, List.setIfInBounds_toArray, List.set_cons_zero, List.set_cons_succ]
      refine rests_done (by kernel_rfl) ?_
      exact hK w7 ⟨HB7.out, HP7.out, HQ7.out⟩
  case cont =>
    clear HBs HPs HQs HP3 HQ3 HP2 HQ2 HP1 hlt1 hlt2
    rintro w7 ⟨hb7, hp7, hq7⟩
    have HB7 := Lib.hid hb7
    have HP7 := Lib.hid hp7
    have HQ7 := Lib.hid hq7
    clear hb7 hp7 hq7
    go_wp2_with (first
      | (with_reducible refine wpList_loadB rfl 34 (.tmp 2) rfl w.heap.size rfl 34 #[.int .i64 P.seat, .int .i64 P.count, .bool P.cmd, .int .i64 P.kind, .int .i64 P.sort, .int .i64 P.nr, .int .i64 P.ns, .bool P.pf, .string P.body] HP7.out _ Tryd.underlying34 rfl (by kernel_rfl) ?_)
      | (go_at_call_of 45 (Value.agg #[.int .i64 P.seat, .int .i64 P.count, .bool P.cmd, .int .i64 P.kind, .int .i64 P.sort, .int .i64 P.nr, .int .i64 P.ns, .bool P.pf, .string P.body]); ((with_reducible refine (HOP.out _ (HC.out.below HB7.out)).mono ?_); rintro e w8 ⟨rfl, hb⟩; have HB8 := Lib.hid (bel_trans HB7.out hb); have HP8 := Lib.hid (keep_at HP7.out hb); have HQ8 := Lib.hid (keep_at HQ7.out hb); clear hb))
      | ((with_reducible refine wpList_storeB rfl 60 (.tmp 6) _ rfl w8.heap.size #[.int .i64 0, .int .i64 0, .bool false, .nilIface, .string ⟨#[]⟩] rfl rfl 60 _ (heap_alloc_new w8 _) (by kernel_rfl) rfl (by kernel_rfl) ?_); intro w9 hg hz hh; have HB9 := Lib.hid (bel_grown (bal HB8.out _) hg HB8.out.size); have HF9 := Lib.hid hh; have HP9 := Lib.hid (keep_grown (keep_at HP8.out (bal (bel0 w8) _)) hg (Nat.ne_of_lt (lt_at HP8.out))); have HQ9 := Lib.hid (keep_grown (keep_at HQ8.out (bal (bel0 w8) _)) hg (Nat.ne_of_lt (lt_at HQ8.out))); clear hg hz hh)
      | (with_reducible refine wpList_loadB rfl 34 (.tmp 3) rfl w1.heap.size rfl 34 #[.int .i64 Q.seat, .int .i64 Q.count, .bool Q.cmd, .int .i64 Q.kind, .int .i64 Q.sort, .int .i64 Q.nr, .int .i64 Q.ns, .bool Q.pf, .string Q.body] HQ9.out _ Tryd.underlying34 rfl (by kernel_rfl) ?_)
      | (go_at_call_of 45 (Value.agg #[.int .i64 Q.seat, .int .i64 Q.count, .bool Q.cmd, .int .i64 Q.kind, .int .i64 Q.sort, .int .i64 Q.nr, .int .i64 Q.ns, .bool Q.pf, .string Q.body]); ((with_reducible refine (HOQ.out _ (HC.out.below HB9.out)).mono ?_); rintro e w10 ⟨rfl, hb⟩; have HB10 := Lib.hid (bel_trans HB9.out hb); have HP10 := Lib.hid (keep_at HP9.out hb); have HQ10 := Lib.hid (keep_at HQ9.out hb); have HF10 := Lib.hid (keep_at HF9.out hb); clear hb))
      | ((with_reducible refine wpList_storeB rfl 60 (.tmp 8) _ rfl w10.heap.size #[.int .i64 0, .int .i64 0, .bool false, .nilIface, .string ⟨#[]⟩] rfl rfl 60 _ (heap_alloc_new w10 _) (by kernel_rfl) rfl (by kernel_rfl) ?_); intro w11 hg hz hh; have HB11 := Lib.hid (bel_grown (bal HB10.out _) hg HB10.out.size); have HG11 := Lib.hid hh; have HP11 := Lib.hid (keep_grown (keep_at HP10.out (bal (bel0 w10) _)) hg (Nat.ne_of_lt (lt_at HP10.out))); have HQ11 := Lib.hid (keep_grown (keep_at HQ10.out (bal (bel0 w10) _)) hg (Nat.ne_of_lt (lt_at HQ10.out))); have HF11 := Lib.hid (keep_grown (keep_at HF10.out (bal (bel0 w10) _)) hg (Nat.ne_of_lt (lt_at HF10.out))); clear hg hz hh)
      | (with_reducible refine wpList_loadB rfl 34 (.tmp 2) rfl w.heap.size rfl 34 #[.int .i64 P.seat, .int .i64 P.count, .bool P.cmd, .int .i64 P.kind, .int .i64 P.sort, .int .i64 P.nr, .int .i64 P.ns, .bool P.pf, .string P.body] HP11.out _ Tryd.underlying34 rfl (by kernel_rfl) ?_)
      | (go_at_call_of 46 (Value.agg #[.int .i64 P.seat, .int .i64 P.count, .bool P.cmd, .int .i64 P.kind, .int .i64 P.sort, .int .i64 P.nr, .int .i64 P.ns, .bool P.pf, .string P.body]); ((with_reducible refine (HMP.out _).mono ?_); rintro e w12 ⟨rfl, hb⟩; have HB12 := Lib.hid (bel_trans HB11.out hb); have HP12 := Lib.hid (keep_at HP11.out hb); have HQ12 := Lib.hid (keep_at HQ11.out hb); have HF12 := Lib.hid (keep_at HF11.out hb); have HG12 := Lib.hid (keep_at HG11.out hb); have k0 := cell_at HQ12.out 0 _ rfl; have k1 := cell_at HQ12.out 1 _ rfl; have k2 := cell_at HQ12.out 2 _ rfl; have k3 := cell_at HQ12.out 3 _ rfl; have k4 := cell_at HQ12.out 4 _ rfl; have k5 := cell_at HQ12.out 5 _ rfl; have k6 := cell_at HQ12.out 6 _ rfl; have k7 := cell_at HQ12.out 7 _ rfl; have k8 := cell_at HQ12.out 8 _ rfl; clear hb))
      | (with_reducible refine wpList_loadB rfl 34 (.tmp 3) rfl w1.heap.size rfl 34 #[.int .i64 Q.seat, .int .i64 Q.count, .bool Q.cmd, .int .i64 Q.kind, .int .i64 Q.sort, .int .i64 Q.nr, .int .i64 Q.ns, .bool Q.pf, .string Q.body] HQ12.out _ Tryd.underlying34 rfl (by kernel_rfl) ?_)
      | (go_at_call_of 46 (Value.agg #[.int .i64 Q.seat, .int .i64 Q.count, .bool Q.cmd, .int .i64 Q.kind, .int .i64 Q.sort, .int .i64 Q.nr, .int .i64 Q.ns, .bool Q.pf, .string Q.body]); ((with_reducible refine (HMQ.out _).mono ?_); rintro e w13 ⟨rfl, hb⟩; have HB13 := Lib.hid (bel_trans HB12.out hb); have HP13 := Lib.hid (keep_at HP12.out hb); have HQ13 := Lib.hid (keep_at HQ12.out hb); have HF13 := Lib.hid (keep_at HF12.out hb); have HG13 := Lib.hid (keep_at HG12.out hb); have e3 := cell_at HF13.out 3 _ rfl; have e4 := cell_at HF13.out 4 _ rfl; clear hb)))
    go_ret
    exact ⟨rfl, HB13.out⟩

set_option maxRecDepth 100000 in
set_option maxHeartbeats 8000000 in
theorem FrameAll_ft (p q P Q : PIn) (w : World) (hlp : ∀ w, Calls Tryd.prog 32 #[p.val] w fun e w' => e = .returned P.val ∧ Below w.heap.size w w') (hlq : ∀ w, Calls Tryd.prog 32 #[q.val] w fun e w' => e = .returned Q.val ∧ Below w.heap.size w w')
    (hP : P.ok) (hQ : Q.ok) (hC : Codes w) (hmp : decide (mayF P.pl) = false) (hmq : decide (mayF Q.pl) = true) : Calls Tryd.prog 7 #[p.val, q.val] w (Holds4 w) := by
  have HC := Lib.hid hC
  have HLP := Lib.hid hlp
  have HLQ := Lib.hid hlq
  have HOP := Lib.hid (fun w hC => FOf_is2 (p := P) w hP hmp hC)
  have HOQ := Lib.hid (fun w hC => FOf_is2 (p := Q) w hQ hmq hC)
  have HMP := Lib.hid (fun w => RMay_is (p := P) w hmp)
  have HMQ := Lib.hid (fun w => RMay_is (p := Q) w hmq)
  clear hC hlp hlq hP hQ hmp hmq
  go_enter Tryd.func7, Tryd.ntmps7
  go_wp2_with (first
    | ((with_reducible refine wpList_boxS rfl 34 _ (.tmp 0) rfl rfl (run_boxPl p.seat p.count p.cmd p.kind p.sort p.nr p.ns p.pf p.body) ?_); intro w1 hb1 hlt1 hh1; have HB1 := Lib.hid hb1; have HP1 := Lib.hid hh1; clear hb1 hh1)
    | ((with_reducible refine wpList_boxS rfl 34 _ (.tmp 1) rfl rfl (run_boxPl q.seat q.count q.cmd q.kind q.sort q.nr q.ns q.pf q.body) ?_); intro w2 hb2 hlt2 hh2; have HB2 := Lib.hid (bel_trans HB1.out hb2); have HP2 := Lib.hid (keep_at HP1.out hb2); have HQ2 := Lib.hid hh2; clear hb2 hh2)
    | (go_at_call 20; refine (begun4_any _ (HC.out.below HB2.out)).mono ?_; rintro e w3 ⟨rfl, hb⟩; have HB3 := Lib.hid (bel_trans HB2.out hb); have HP3 := Lib.hid (keep_at HP2.out hb); have HQ3 := Lib.hid (keep_at HQ2.out hb); clear hb))
  have hlt01 : w.heap.size ≤ w1.heap.size := HB1.out.size
  have hne : w.heap.size ≠ w1.heap.size := Nat.ne_of_lt (lt_at HP1.out)
  have HBs : Hid (From w w3.drew) := by show From _ _; exact HB3.out.drew
  have HPs : Hid (w3.drew.heap[w.heap.size]? = some (.cells #[.int .i64 p.seat, .int .i64 p.count, .bool p.cmd, .int .i64 p.kind, .int .i64 p.sort, .int .i64 p.nr, .int .i64 p.ns, .bool p.pf, .string p.body] 34 (0, 0))) := by show _ = _; exact HP3.out
  have HQs : Hid (w3.drew.heap[w1.heap.size]? = some (.cells #[.int .i64 q.seat, .int .i64 q.count, .bool q.cmd, .int .i64 q.kind, .int .i64 q.sort, .int .i64 q.nr, .int .i64 q.ns, .bool q.pf, .string q.body] 34 (0, 0))) := by show _ = _; exact HQ3.out
  refine' region_shared (fun W => From w W ∧ W.heap[w.heap.size]? = some (.cells #[.int .i64 P.seat, .int .i64 P.count, .bool P.cmd, .int .i64 P.kind, .int .i64 P.sort, .int .i64 P.nr, .int .i64 P.ns, .bool P.pf, .string P.body] 34 (0, 0)) ∧ W.heap[w1.heap.size]? = some (.cells #[.int .i64 Q.seat, .int .i64 Q.count, .bool Q.cmd, .int .i64 Q.kind, .int .i64 Q.sort, .int .i64 Q.nr, .int .i64 Q.ns, .bool Q.pf, .string Q.body] 34 (0, 0))) _ ?cont ?reg
  case reg =>
    intro hK
    refine rests_begin (From w) (by kernel_rfl) ?_
    refine rests_two 0 2 (oi := _) (oj := _) (by simp only [List.getElem?_toArray, List.getElem?_cons_zero]; rfl) (by simp only [List.getElem?_toArray, List.getElem?_cons_succ, List.getElem?_cons_zero]; rfl) (by kernel_rfl) (by rfl) (by rfl) ?_ ?_
    · skip
      refine wp_val (v := .agg #[.int .i64 p.seat, .int .i64 p.count, .bool p.cmd, .int .i64 p.kind, .int .i64 p.sort, .int .i64 p.nr, .int .i64 p.ns, .bool p.pf, .string p.body]) (exec_loadB rfl rfl HPs.out Tryd.underlying34 rfl (by kernel_rfl)) ⟨HBs.out, ?_⟩
      simp only [Act.put, List.setIfInBounds_toArray, List.set_cons_zero, List.set_cons_succ]
      refine rests_two 1 2 (oi := _) (oj := _) (by simp only [List.getElem?_toArray, List.getElem?_cons_succ, List.getElem?_cons_zero]; rfl) (by simp only [List.getElem?_toArray, List.getElem?_cons_succ, List.getElem?_cons_zero]; rfl) (by kernel_rfl) (by rfl) (by rfl) ?_ ?_
      · skip
        refine wp_enter (f := 32) (args := #[.agg #[.int .i64 p.seat, .int .i64 p.count, .bool p.cmd, .int .i64 p.kind, .int .i64 p.sort, .int .i64 p.nr, .int .i64 p.ns, .bool p.pf, .string p.body]]) (by go_simp) (HLP.out _) ?_
        rintro e w4 ⟨rfl, hb⟩; have HB4 := Lib.hid (bel_trans HBs.out hb); have HP4 := Lib.hid (keep_at HPs.out hb); have HQ4 := Lib.hid (keep_at HQs.out hb); refine ⟨_, rfl, HB4.out, ?_⟩; clear hb
        simp only [Act.put, List.setIfInBounds_toArray, List.set_cons_zero, List.set_cons_succ]
        refine rests_run 2 (oi := _) (by simp only [List.getElem?_toArray, List.getElem?_cons_succ, List.getElem?_cons_zero]; rfl) (by kernel_rfl) (by rfl) (.agg #[.int .i64 q.seat, .int .i64 q.count, .bool q.cmd, .int .i64 q.kind, .int .i64 q.sort, .int .i64 q.nr, .int .i64 q.ns, .bool q.pf, .string q.body]) _ (exec_loadB rfl rfl HQ4.out Tryd.underlying34 rfl (by kernel_rfl)) ⟨HB4.out, ?_⟩
        simp only [Act.put, List.setIfInBounds_toArray, List.set_cons_zero, List.set_cons_succ]
        refine rests_call 3 (oi := _) (by simp only [List.getElem?_toArray, List.getElem?_cons_succ, List.getElem?_cons_zero]; rfl) 32 #[.agg #[.int .i64 q.seat, .int .i64 q.count, .bool q.cmd, .int .i64 q.kind, .int .i64 q.sort, .int .i64 q.nr, .int .i64 q.ns, .bool q.pf, .string q.body]] _ (by kernel_rfl) (by rfl) (by go_simp) (HLQ.out _) ?_
        rintro e w5 ⟨rfl, hb⟩; have HB5 := Lib.hid (bel_trans HB4.out hb); have HP5 := Lib.hid (keep_at HP4.out hb); have HQ5 := Lib.hid (keep_at HQ4.out hb); refine ⟨_, rfl, HB5.out, ?_⟩; clear hb
        simp only [Act.put, List.setIfInBounds_toArray, List.set_cons_zero, List.set_cons_succ]
        refine rests_storeB 4 (oi := _) (by simp only [List.getElem?_toArray, List.getElem?_cons_succ, List.getElem?_cons_zero]; rfl) (by kernel_rfl) (by rfl) 34 (.tmp 2) (.tmp 18) rfl w.heap.size #[.int .i64 P.seat, .int .i64 P.count, .bool P.cmd, .int .i64 P.kind, .int .i64 P.sort, .int .i64 P.nr, .int .i64 P.ns, .bool P.pf, .string P.body] rfl rfl 34 _ HP5.out (by kernel_rfl) rfl (by kernel_rfl) ?_
        intro w6 hg6 hz6 hh6; have HB6 := Lib.hid (bel_grown HB5.out hg6 (Nat.le_refl _)); have HP6 := Lib.hid hh6; have HQ6 := Lib.hid (keep_grown HQ5.out hg6 hne.symm); refine ⟨HB6.out, ?_⟩; clear hg6 hz6 hh6
        simp only [Act.put, List.setIfInBounds_toArray, List.set_cons_zero, List.set_cons_succ]
        refine rests_storeB 5 (oi := _) (by simp only [List.getElem?_toArray, List.getElem?_cons_succ, List.getElem?_cons_zero]; rfl) (by kernel_rfl) (by rfl) 34 (.tmp 3) (.tmp 20) rfl w1.heap.size #[.int .i64 Q.seat, .int .i64 Q.count, .bool Q.cmd, .int .i64 Q.kind, .int .i64 Q.sort, .int .i64 Q.nr, .int .i64 Q.ns, .bool Q.pf, .string Q.body] rfl rfl 34 _ HQ6.out (by kernel_rfl) rfl (by kernel_rfl) ?_
        intro w7 hg7 hz7 hh7; have HB7 := Lib.hid (bel_grown HB6.out hg7 hlt01); have HQ7 := Lib.hid hh7; have HP7 := Lib.hid (keep_grown HP6.out hg7 hne); refine ⟨HB7.out, ?_⟩; clear hg7 hz7 hh7
        simp only [Act.put, List.setIfInBounds_toArray, List.set_cons_zero, List.set_cons_succ]
        refine rests_done (by kernel_rfl) ?_
        exact hK w7 ⟨HB7.out, HP7.out, HQ7.out⟩
      · skip
        refine wp_val (v := .agg #[.int .i64 q.seat, .int .i64 q.count, .bool q.cmd, .int .i64 q.kind, .int .i64 q.sort, .int .i64 q.nr, .int .i64 q.ns, .bool q.pf, .string q.body]) (exec_loadB rfl rfl HQs.out Tryd.underlying34 rfl (by kernel_rfl)) ⟨HBs.out, ?_⟩
        simp only [Act.put, List.setIfInBounds_toArray, List.set_cons_zero, List.set_cons_succ]
        refine rests_call 1 (oi := _) (by simp only [List.getElem?_toArray, List.getElem?_cons_succ, List.getElem?_cons_zero]; rfl) 32 #[.agg #[.int .i64 p.seat, .int .i64 p.count, .bool p.cmd, .int .i64 p.kind, .int .i64 p.sort, .int .i64 p.nr, .int .i64 p.ns, .bool p.pf, .string p.body]] _ (by kernel_rfl) (by rfl) (by go_simp) (HLP.out _) ?_
        rintro e w4 ⟨rfl, hb⟩; have HB4 := Lib.hid (bel_trans HBs.out hb); have HP4 := Lib.hid (keep_at HPs.out hb); have HQ4 := Lib.hid (keep_at HQs.out hb); refine ⟨_, rfl, HB4.out, ?_⟩; clear hb
        simp only [Act.put, List.setIfInBounds_toArray, List.set_cons_zero, List.set_cons_succ]
        refine rests_call 3 (oi := _) (by simp only [List.getElem?_toArray, List.getElem?_cons_succ, List.getElem?_cons_zero]; rfl) 32 #[.agg #[.int .i64 q.seat, .int .i64 q.count, .bool q.cmd, .int .i64 q.kind, .int .i64 q.sort, .int .i64 q.nr, .int .i64 q.ns, .bool q.pf, .string q.body]] _ (by kernel_rfl) (by rfl) (by go_simp) (HLQ.out _) ?_
        rintro e w5 ⟨rfl, hb⟩; have HB5 := Lib.hid (bel_trans HB4.out hb); have HP5 := Lib.hid (keep_at HP4.out hb); have HQ5 := Lib.hid (keep_at HQ4.out hb); refine ⟨_, rfl, HB5.out, ?_⟩; clear hb
        simp only [Act.put, List.setIfInBounds_toArray, List.set_cons_zero, List.set_cons_succ]
        refine rests_storeB 4 (oi := _) (by simp only [List.getElem?_toArray, List.getElem?_cons_succ, List.getElem?_cons_zero]; rfl) (by kernel_rfl) (by rfl) 34 (.tmp 2) (.tmp 18) rfl w.heap.size #[.int .i64 P.seat, .int .i64 P.count, .bool P.cmd, .int .i64 P.kind, .int .i64 P.sort, .int .i64 P.nr, .int .i64 P.ns, .bool P.pf, .string P.body] rfl rfl 34 _ HP5.out (by kernel_rfl) rfl (by kernel_rfl) ?_
        intro w6 hg6 hz6 hh6; have HB6 := Lib.hid (bel_grown HB5.out hg6 (Nat.le_refl _)); have HP6 := Lib.hid hh6; have HQ6 := Lib.hid (keep_grown HQ5.out hg6 hne.symm); refine ⟨HB6.out, ?_⟩; clear hg6 hz6 hh6
        simp only [Act.put, List.setIfInBounds_toArray, List.set_cons_zero, List.set_cons_succ]
        refine rests_storeB 5 (oi := _) (by simp only [List.getElem?_toArray, List.getElem?_cons_succ, List.getElem?_cons_zero]; rfl) (by kernel_rfl) (by rfl) 34 (.tmp 3) (.tmp 20) rfl w1.heap.size #[.int .i64 Q.seat, .int .i64 Q.count, .bool Q.cmd, .int .i64 Q.kind, .int .i64 Q.sort, .int .i64 Q.nr, .int .i64 Q.ns, .bool Q.pf, .string Q.body] rfl rfl 34 _ HQ6.out (by kernel_rfl) rfl (by kernel_rfl) ?_
        intro w7 hg7 hz7 hh7; have HB7 := Lib.hid (bel_grown HB6.out hg7 hlt01); have HQ7 := Lib.hid hh7; have HP7 := Lib.hid (keep_grown HP6.out hg7 hne); refine ⟨HB7.out, ?_⟩; clear hg7 hz7 hh7
        simp only [Act.put, List.setIfInBounds_toArray, List.set_cons_zero, List.set_cons_succ]
        refine rests_done (by kernel_rfl) ?_
        exact hK w7 ⟨HB7.out, HP7.out, HQ7.out⟩
    · skip
      refine wp_val (v := .agg #[.int .i64 q.seat, .int .i64 q.count, .bool q.cmd, .int .i64 q.kind, .int .i64 q.sort, .int .i64 q.nr, .int .i64 q.ns, .bool q.pf, .string q.body]) (exec_loadB rfl rfl HQs.out Tryd.underlying34 rfl (by kernel_rfl)) ⟨HBs.out, ?_⟩
      simp only [Act.put, List.setIfInBounds_toArray, List.set_cons_zero, List.set_cons_succ]
      refine rests_run 0 (oi := _) (by simp only [List.getElem?_toArray, List.getElem?_cons_zero]; rfl) (by kernel_rfl) (by rfl) (.agg #[.int .i64 p.seat, .int .i64 p.count, .bool p.cmd, .int .i64 p.kind, .int .i64 p.sort, .int .i64 p.nr, .int .i64 p.ns, .bool p.pf, .string p.body]) _ (exec_loadB rfl rfl HPs.out Tryd.underlying34 rfl (by kernel_rfl)) ⟨HBs.out, ?_⟩
      simp only [Act.put, List.setIfInBounds_toArray, List.set_cons_zero, List.set_cons_succ]
      refine rests_call 1 (oi := _) (by simp only [List.getElem?_toArray, List.getElem?_cons_succ, List.getElem?_cons_zero]; rfl) 32 #[.agg #[.int .i64 p.seat, .int .i64 p.count, .bool p.cmd, .int .i64 p.kind, .int .i64 p.sort, .int .i64 p.nr, .int .i64 p.ns, .bool p.pf, .string p.body]] _ (by kernel_rfl) (by rfl) (by go_simp) (HLP.out _) ?_
      rintro e w4 ⟨rfl, hb⟩; have HB4 := Lib.hid (bel_trans HBs.out hb); have HP4 := Lib.hid (keep_at HPs.out hb); have HQ4 := Lib.hid (keep_at HQs.out hb); refine ⟨_, rfl, HB4.out, ?_⟩; clear hb
      simp only [Act.put, List.setIfInBounds_toArray, List.set_cons_zero, List.set_cons_succ]
      refine rests_call 3 (oi := _) (by simp only [List.getElem?_toArray, List.getElem?_cons_succ, List.getElem?_cons_zero]; rfl) 32 #[.agg #[.int .i64 q.seat, .int .i64 q.count, .bool q.cmd, .int .i64 q.kind, .int .i64 q.sort, .int .i64 q.nr, .int .i64 q.ns, .bool q.pf, .string q.body]] _ (by kernel_rfl) (by rfl) (by go_simp) (HLQ.out _) ?_
      rintro e w5 ⟨rfl, hb⟩; have HB5 := Lib.hid (bel_trans HB4.out hb); have HP5 := Lib.hid (keep_at HP4.out hb); have HQ5 := Lib.hid (keep_at HQ4.out hb); refine ⟨_, rfl, HB5.out, ?_⟩; clear hb
      simp only [Act.put, List.setIfInBounds_toArray, List.set_cons_zero, List.set_cons_succ]
      refine rests_storeB 4 (oi := _) (by simp only [List.getElem?_toArray, List.getElem?_cons_succ, List.getElem?_cons_zero]; rfl) (by kernel_rfl) (by rfl) 34 (.tmp 2) (.tmp 18) rfl w.heap.size #[.int .i64 P.seat, .int .i64 P.count, .bool P.cmd, .int .i64 P.kind, .int .i64 P.sort, .int .i64 P.nr, .int .i64 P.ns, .bool P.pf, .string P.body] rfl rfl 34 _ HP5.out (by kernel_rfl) rfl (by kernel_rfl) ?_
      intro w6 hg6 hz6 hh6; have HB6 := Lib.hid (bel_grown HB5.out hg6 (Nat.le_refl _)); have HP6 := Lib.hid hh6; have HQ6 := Lib.hid (keep_grown HQ5.out hg6 hne.symm); refine ⟨HB6.out, ?_⟩; clear hg6 hz6 hh6
      simp only [Act.put, List.setIfInBounds_toArray, List.set_cons_zero, List.set_cons_succ]
      refine rests_storeB 5 (oi := _) (by simp only [List.getElem?_toArray, List.getElem?_cons_succ, List.getElem?_cons_zero]; rfl) (by kernel_rfl) (by rfl) 34 (.tmp 3) (.tmp 20) rfl w1.heap.size #[.int .i64 Q.seat, .int .i64 Q.count, .bool Q.cmd, .int .i64 Q.kind, .int .i64 Q.sort, .int .i64 Q.nr, .int .i64 Q.ns, .bool Q.pf, .string Q.body] rfl rfl 34 _ HQ6.out (by kernel_rfl) rfl (by kernel_rfl) ?_
      intro w7 hg7 hz7 hh7; have HB7 := Lib.hid (bel_grown HB6.out hg7 hlt01); have HQ7 := Lib.hid hh7; have HP7 := Lib.hid (keep_grown HP6.out hg7 hne); refine ⟨HB7.out, ?_⟩; clear hg7 hz7 hh7
      simp only [Act.put, List.setIfInBounds_toArray, List.set_cons_zero, List.set_cons_succ]
      refine rests_done (by kernel_rfl) ?_
      exact hK w7 ⟨HB7.out, HP7.out, HQ7.out⟩
  case cont =>
    clear HBs HPs HQs HP3 HQ3 HP2 HQ2 HP1 hlt1 hlt2
    rintro w7 ⟨hb7, hp7, hq7⟩
    have HB7 := Lib.hid hb7
    have HP7 := Lib.hid hp7
    have HQ7 := Lib.hid hq7
    clear hb7 hp7 hq7
    go_wp2_with (first
      | (with_reducible refine wpList_loadB rfl 34 (.tmp 2) rfl w.heap.size rfl 34 #[.int .i64 P.seat, .int .i64 P.count, .bool P.cmd, .int .i64 P.kind, .int .i64 P.sort, .int .i64 P.nr, .int .i64 P.ns, .bool P.pf, .string P.body] HP7.out _ Tryd.underlying34 rfl (by kernel_rfl) ?_)
      | (go_at_call_of 45 (Value.agg #[.int .i64 P.seat, .int .i64 P.count, .bool P.cmd, .int .i64 P.kind, .int .i64 P.sort, .int .i64 P.nr, .int .i64 P.ns, .bool P.pf, .string P.body]); ((with_reducible refine (HOP.out _ (HC.out.below HB7.out)).mono ?_); rintro e w8 ⟨rfl, hb⟩; have HB8 := Lib.hid (bel_trans HB7.out hb); have HP8 := Lib.hid (keep_at HP7.out hb); have HQ8 := Lib.hid (keep_at HQ7.out hb); clear hb))
      | ((with_reducible refine wpList_storeB rfl 60 (.tmp 6) _ rfl w8.heap.size #[.int .i64 0, .int .i64 0, .bool false, .nilIface, .string ⟨#[]⟩] rfl rfl 60 _ (heap_alloc_new w8 _) (by kernel_rfl) rfl (by kernel_rfl) ?_); intro w9 hg hz hh; have HB9 := Lib.hid (bel_grown (bal HB8.out _) hg HB8.out.size); have HF9 := Lib.hid hh; have HP9 := Lib.hid (keep_grown (keep_at HP8.out (bal (bel0 w8) _)) hg (Nat.ne_of_lt (lt_at HP8.out))); have HQ9 := Lib.hid (keep_grown (keep_at HQ8.out (bal (bel0 w8) _)) hg (Nat.ne_of_lt (lt_at HQ8.out))); clear hg hz hh)
      | (with_reducible refine wpList_loadB rfl 34 (.tmp 3) rfl w1.heap.size rfl 34 #[.int .i64 Q.seat, .int .i64 Q.count, .bool Q.cmd, .int .i64 Q.kind, .int .i64 Q.sort, .int .i64 Q.nr, .int .i64 Q.ns, .bool Q.pf, .string Q.body] HQ9.out _ Tryd.underlying34 rfl (by kernel_rfl) ?_)
      | (go_at_call_of 45 (Value.agg #[.int .i64 Q.seat, .int .i64 Q.count, .bool Q.cmd, .int .i64 Q.kind, .int .i64 Q.sort, .int .i64 Q.nr, .int .i64 Q.ns, .bool Q.pf, .string Q.body]); ((with_reducible refine (HOQ.out _ (HC.out.below HB9.out)).mono ?_); rintro e w10 ⟨rfl, hb⟩; have HB10 := Lib.hid (bel_trans HB9.out hb); have HP10 := Lib.hid (keep_at HP9.out hb); have HQ10 := Lib.hid (keep_at HQ9.out hb); have HF10 := Lib.hid (keep_at HF9.out hb); clear hb))
      | ((with_reducible refine wpList_storeB rfl 60 (.tmp 8) _ rfl w10.heap.size #[.int .i64 Q.seat, .int .i64 Q.count, .bool Q.cmd, cv ⟨Q.kind, Q.sort, Q.nr, Q.ns, Q.pf⟩, .string Q.body] rfl rfl 60 _ (heap_alloc_new w10 _) (by kernel_rfl) rfl (frone _ _ _ _ _) ?_); intro w11 hg hz hh; have HB11 := Lib.hid (bel_grown (bal HB10.out _) hg HB10.out.size); have HG11 := Lib.hid hh; have HP11 := Lib.hid (keep_grown (keep_at HP10.out (bal (bel0 w10) _)) hg (Nat.ne_of_lt (lt_at HP10.out))); have HQ11 := Lib.hid (keep_grown (keep_at HQ10.out (bal (bel0 w10) _)) hg (Nat.ne_of_lt (lt_at HQ10.out))); have HF11 := Lib.hid (keep_grown (keep_at HF10.out (bal (bel0 w10) _)) hg (Nat.ne_of_lt (lt_at HF10.out))); clear hg hz hh)
      | (with_reducible refine wpList_loadB rfl 34 (.tmp 2) rfl w.heap.size rfl 34 #[.int .i64 P.seat, .int .i64 P.count, .bool P.cmd, .int .i64 P.kind, .int .i64 P.sort, .int .i64 P.nr, .int .i64 P.ns, .bool P.pf, .string P.body] HP11.out _ Tryd.underlying34 rfl (by kernel_rfl) ?_)
      | (go_at_call_of 46 (Value.agg #[.int .i64 P.seat, .int .i64 P.count, .bool P.cmd, .int .i64 P.kind, .int .i64 P.sort, .int .i64 P.nr, .int .i64 P.ns, .bool P.pf, .string P.body]); ((with_reducible refine (HMP.out _).mono ?_); rintro e w12 ⟨rfl, hb⟩; have HB12 := Lib.hid (bel_trans HB11.out hb); have HP12 := Lib.hid (keep_at HP11.out hb); have HQ12 := Lib.hid (keep_at HQ11.out hb); have HF12 := Lib.hid (keep_at HF11.out hb); have HG12 := Lib.hid (keep_at HG11.out hb); have k0 := cell_at HQ12.out 0 _ rfl; have k1 := cell_at HQ12.out 1 _ rfl; have k2 := cell_at HQ12.out 2 _ rfl; have k3 := cell_at HQ12.out 3 _ rfl; have k4 := cell_at HQ12.out 4 _ rfl; have k5 := cell_at HQ12.out 5 _ rfl; have k6 := cell_at HQ12.out 6 _ rfl; have k7 := cell_at HQ12.out 7 _ rfl; have k8 := cell_at HQ12.out 8 _ rfl; clear hb))
      | (with_reducible refine wpList_loadB rfl 34 (.tmp 3) rfl w1.heap.size rfl 34 #[.int .i64 Q.seat, .int .i64 Q.count, .bool Q.cmd, .int .i64 Q.kind, .int .i64 Q.sort, .int .i64 Q.nr, .int .i64 Q.ns, .bool Q.pf, .string Q.body] HQ12.out _ Tryd.underlying34 rfl (by kernel_rfl) ?_)
      | (go_at_call_of 46 (Value.agg #[.int .i64 Q.seat, .int .i64 Q.count, .bool Q.cmd, .int .i64 Q.kind, .int .i64 Q.sort, .int .i64 Q.nr, .int .i64 Q.ns, .bool Q.pf, .string Q.body]); ((with_reducible refine (HMQ.out _).mono ?_); rintro e w13 ⟨rfl, hb⟩; have HB13 := Lib.hid (bel_trans HB12.out hb); have HP13 := Lib.hid (keep_at HP12.out hb); have HQ13 := Lib.hid (keep_at HQ12.out hb); have HF13 := Lib.hid (keep_at HF12.out hb); have HG13 := Lib.hid (keep_at HG12.out hb); have e3 := cell_at HF13.out 3 _ rfl; have e4 := cell_at HF13.out 4 _ rfl; clear hb)))
    go_ret
    exact ⟨rfl, HB13.out⟩

set_option maxRecDepth 100000 in
set_option maxHeartbeats 8000000 in
theorem FrameAll_tf (p q P Q : PIn) (w : World) (hlp : ∀ w, Calls Tryd.prog 32 #[p.val] w fun e w' => e = .returned P.val ∧ Below w.heap.size w w') (hlq : ∀ w, Calls Tryd.prog 32 #[q.val] w fun e w' => e = .returned Q.val ∧ Below w.heap.size w w')
    (hP : P.ok) (hQ : Q.ok) (hC : Codes w) (hmp : decide (mayF P.pl) = true) (hmq : decide (mayF Q.pl) = false) : Calls Tryd.prog 7 #[p.val, q.val] w (Holds4 w) := by
  have HC := Lib.hid hC
  have HLP := Lib.hid hlp
  have HLQ := Lib.hid hlq
  have HOP := Lib.hid (fun w hC => FOf_is2 (p := P) w hP hmp hC)
  have HOQ := Lib.hid (fun w hC => FOf_is2 (p := Q) w hQ hmq hC)
  have HMP := Lib.hid (fun w => RMay_is (p := P) w hmp)
  have HMQ := Lib.hid (fun w => RMay_is (p := Q) w hmq)
  have hm := of_decide_eq_true hmp
  have HPU := Lib.hid (fun w hC => FPut_yes P w hm hC)
  have HGT := Lib.hid (fun v w hr hC => FGet_yes v (putF P.pl) P.pl w hr (getF_pl hm) hC)
  have HRP := Lib.hid (fun w => RPut_is (p := P) w hm)
  have HEH : Hid (∀ w, Calls Tryd.prog 50 #[frI P, frI P] w fun e w' => e = .returned (.bool true) ∧ Below w.heap.size w w') := by
    show ∀ w, _
    intro w
    have h := FEq_any P P w hm hm
    rw [decide_eq_true rfl] at h
    exact h
  have HPN := Lib.hid (fun w => FPlain_yes P w hm)
  have HFM := Lib.hid (fun w => FMay_yes P w hm)
  have HPP : Hid (∀ W, (binOp .eql 34 P.val P.val).run Tryd.prog W = .ok (.bool true) W) := by
    show ∀ W, _
    intro W
    rw [eql_pin, decide_eq_true rfl]
  clear hm
  clear hC hlp hlq hP hQ hmp hmq
  go_enter Tryd.func7, Tryd.ntmps7
  go_wp2_with (first
    | ((with_reducible refine wpList_boxS rfl 34 _ (.tmp 0) rfl rfl (run_boxPl p.seat p.count p.cmd p.kind p.sort p.nr p.ns p.pf p.body) ?_); intro w1 hb1 hlt1 hh1; have HB1 := Lib.hid hb1; have HP1 := Lib.hid hh1; clear hb1 hh1)
    | ((with_reducible refine wpList_boxS rfl 34 _ (.tmp 1) rfl rfl (run_boxPl q.seat q.count q.cmd q.kind q.sort q.nr q.ns q.pf q.body) ?_); intro w2 hb2 hlt2 hh2; have HB2 := Lib.hid (bel_trans HB1.out hb2); have HP2 := Lib.hid (keep_at HP1.out hb2); have HQ2 := Lib.hid hh2; clear hb2 hh2)
    | (go_at_call 20; refine (begun4_any _ (HC.out.below HB2.out)).mono ?_; rintro e w3 ⟨rfl, hb⟩; have HB3 := Lib.hid (bel_trans HB2.out hb); have HP3 := Lib.hid (keep_at HP2.out hb); have HQ3 := Lib.hid (keep_at HQ2.out hb); clear hb))
  have hlt01 : w.heap.size ≤ w1.heap.size := HB1.out.size
  have hne : w.heap.size ≠ w1.heap.size := Nat.ne_of_lt (lt_at HP1.out)
  have HBs : Hid (From w w3.drew) := by show From _ _; exact HB3.out.drew
  have HPs : Hid (w3.drew.heap[w.heap.size]? = some (.cells #[.int .i64 p.seat, .int .i64 p.count, .bool p.cmd, .int .i64 p.kind, .int .i64 p.sort, .int .i64 p.nr, .int .i64 p.ns, .bool p.pf, .string p.body] 34 (0, 0))) := by show _ = _; exact HP3.out
  have HQs : Hid (w3.drew.heap[w1.heap.size]? = some (.cells #[.int .i64 q.seat, .int .i64 q.count, .bool q.cmd, .int .i64 q.kind, .int .i64 q.sort, .int .i64 q.nr, .int .i64 q.ns, .bool q.pf, .string q.body] 34 (0, 0))) := by show _ = _; exact HQ3.out
  refine' region_shared (fun W => From w W ∧ W.heap[w.heap.size]? = some (.cells #[.int .i64 P.seat, .int .i64 P.count, .bool P.cmd, .int .i64 P.kind, .int .i64 P.sort, .int .i64 P.nr, .int .i64 P.ns, .bool P.pf, .string P.body] 34 (0, 0)) ∧ W.heap[w1.heap.size]? = some (.cells #[.int .i64 Q.seat, .int .i64 Q.count, .bool Q.cmd, .int .i64 Q.kind, .int .i64 Q.sort, .int .i64 Q.nr, .int .i64 Q.ns, .bool Q.pf, .string Q.body] 34 (0, 0))) _ ?cont ?reg
  case reg =>
    intro hK
    refine rests_begin (From w) (by kernel_rfl) ?_
    refine rests_two 0 2 (oi := _) (oj := _) (by simp only [List.getElem?_toArray, List.getElem?_cons_zero]; rfl) (by simp only [List.getElem?_toArray, List.getElem?_cons_succ, List.getElem?_cons_zero]; rfl) (by kernel_rfl) (by rfl) (by rfl) ?_ ?_
    · skip
      refine wp_val (v := .agg #[.int .i64 p.seat, .int .i64 p.count, .bool p.cmd, .int .i64 p.kind, .int .i64 p.sort, .int .i64 p.nr, .int .i64 p.ns, .bool p.pf, .string p.body]) (exec_loadB rfl rfl HPs.out Tryd.underlying34 rfl (by kernel_rfl)) ⟨HBs.out, ?_⟩
      simp only [Act.put, List.setIfInBounds_toArray, List.set_cons_zero, List.set_cons_succ]
      refine rests_two 1 2 (oi := _) (oj := _) (by simp only [List.getElem?_toArray, List.getElem?_cons_succ, List.getElem?_cons_zero]; rfl) (by simp only [List.getElem?_toArray, List.getElem?_cons_succ, List.getElem?_cons_zero]; rfl) (by kernel_rfl) (by rfl) (by rfl) ?_ ?_
      · skip
        refine wp_enter (f := 32) (args := #[.agg #[.int .i64 p.seat, .int .i64 p.count, .bool p.cmd, .int .i64 p.kind, .int .i64 p.sort, .int .i64 p.nr, .int .i64 p.ns, .bool p.pf, .string p.body]]) (by go_simp) (HLP.out _) ?_
        rintro e w4 ⟨rfl, hb⟩; have HB4 := Lib.hid (bel_trans HBs.out hb); have HP4 := Lib.hid (keep_at HPs.out hb); have HQ4 := Lib.hid (keep_at HQs.out hb); refine ⟨_, rfl, HB4.out, ?_⟩; clear hb
        simp only [Act.put, List.setIfInBounds_toArray, List.set_cons_zero, List.set_cons_succ]
        refine rests_run 2 (oi := _) (by simp only [List.getElem?_toArray, List.getElem?_cons_succ, List.getElem?_cons_zero]; rfl) (by kernel_rfl) (by rfl) (.agg #[.int .i64 q.seat, .int .i64 q.count, .bool q.cmd, .int .i64 q.kind, .int .i64 q.sort, .int .i64 q.nr, .int .i64 q.ns, .bool q.pf, .string q.body]) _ (exec_loadB rfl rfl HQ4.out Tryd.underlying34 rfl (by kernel_rfl)) ⟨HB4.out, ?_⟩
        simp only [Act.put, List.setIfInBounds_toArray, List.set_cons_zero, List.set_cons_succ]
        refine rests_call 3 (oi := _) (by simp only [List.getElem?_toArray, List.getElem?_cons_succ, List.getElem?_cons_zero]; rfl) 32 #[.agg #[.int .i64 q.seat, .int .i64 q.count, .bool q.cmd, .int .i64 q.kind, .int .i64 q.sort, .int .i64 q.nr, .int .i64 q.ns, .bool q.pf, .string q.body]] _ (by kernel_rfl) (by rfl) (by go_simp) (HLQ.out _) ?_
        rintro e w5 ⟨rfl, hb⟩; have HB5 := Lib.hid (bel_trans HB4.out hb); have HP5 := Lib.hid (keep_at HP4.out hb); have HQ5 := Lib.hid (keep_at HQ4.out hb); refine ⟨_, rfl, HB5.out, ?_⟩; clear hb
        simp only [Act.put, List.setIfInBounds_toArray, List.set_cons_zero, List.set_cons_succ]
        refine rests_storeB 4 (oi := _) (by simp only [List.getElem?_toArray, List.getElem?_cons_succ, List.getElem?_cons_zero]; rfl) (by kernel_rfl) (by rfl) 34 (.tmp 2) (.tmp 18) rfl w.heap.size #[.int .i64 P.seat, .int .i64 P.count, .bool P.cmd, .int .i64 P.kind, .int .i64 P.sort, .int .i64 P.nr, .int .i64 P.ns, .bool P.pf, .string P.body] rfl rfl 34 _ HP5.out (by kernel_rfl) rfl (by kernel_rfl) ?_
        intro w6 hg6 hz6 hh6; have HB6 := Lib.hid (bel_grown HB5.out hg6 (Nat.le_refl _)); have HP6 := Lib.hid hh6; have HQ6 := Lib.hid (keep_grown HQ5.out hg6 hne.symm); refine ⟨HB6.out, ?_⟩; clear hg6 hz6 hh6
        simp only [Act.put, List.setIfInBounds_toArray, List.set_cons_zero, List.set_cons_succ]
        refine rests_storeB 5 (oi := _) (by simp only [List.getElem?_toArray, List.getElem?_cons_succ, List.getElem?_cons_zero]; rfl) (by kernel_rfl) (by rfl) 34 (.tmp 3) (.tmp 20) rfl w1.heap.size #[.int .i64 Q.seat, .int .i64 Q.count, .bool Q.cmd, .int .i64 Q.kind, .int .i64 Q.sort, .int .i64 Q.nr, .int .i64 Q.ns, .bool Q.pf, .string Q.body] rfl rfl 34 _ HQ6.out (by kernel_rfl) rfl (by kernel_rfl) ?_
        intro w7 hg7 hz7 hh7; have HB7 := Lib.hid (bel_grown HB6.out hg7 hlt01); have HQ7 := Lib.hid hh7; have HP7 := Lib.hid (keep_grown HP6.out hg7 hne); refine ⟨HB7.out, ?_⟩; clear hg7 hz7 hh7
        simp only [Act.put, List.setIfInBounds_toArray, List.set_cons_zero, List.set_cons_succ]
        refine rests_done (by kernel_rfl) ?_
        exact hK w7 ⟨HB7.out, HP7.out, HQ7.out⟩
      · skip
        refine wp_val (v := .agg #[.int .i64 q.seat, .int .i64 q.count, .bool q.cmd, .int .i64 q.kind, .int .i64 q.sort, .int .i64 q.nr, .int .i64 q.ns, .bool q.pf, .string q.body]) (exec_loadB rfl rfl HQs.out Tryd.underlying34 rfl (by kernel_rfl)) ⟨HBs.out, ?_⟩
        simp only [Act.put, List.setIfInBounds_toArray, List.set_cons_zero, List.set_cons_succ]
        refine rests_call 1 (oi := _) (by simp only [List.getElem?_toArray, List.getElem?_cons_succ, List.getElem?_cons_zero]; rfl) 32 #[.agg #[.int .i64 p.seat, .int .i64 p.count, .bool p.cmd, .int .i64 p.kind, .int .i64 p.sort, .int .i64 p.nr, .int .i64 p.ns, .bool p.pf, .string p.body]] _ (by kernel_rfl) (by rfl) (by go_simp) (HLP.out _) ?_
        rintro e w4 ⟨rfl, hb⟩; have HB4 := Lib.hid (bel_trans HBs.out hb); have HP4 := Lib.hid (keep_at HPs.out hb); have HQ4 := Lib.hid (keep_at HQs.out hb); refine ⟨_, rfl, HB4.out, ?_⟩; clear hb
        simp only [Act.put, List.setIfInBounds_toArray, List.set_cons_zero, List.set_cons_succ]
        refine rests_call 3 (oi := _) (by simp only [List.getElem?_toArray, List.getElem?_cons_succ, List.getElem?_cons_zero]; rfl) 32 #[.agg #[.int .i64 q.seat, .int .i64 q.count, .bool q.cmd, .int .i64 q.kind, .int .i64 q.sort, .int .i64 q.nr, .int .i64 q.ns, .bool q.pf, .string q.body]] _ (by kernel_rfl) (by rfl) (by go_simp) (HLQ.out _) ?_
        rintro e w5 ⟨rfl, hb⟩; have HB5 := Lib.hid (bel_trans HB4.out hb); have HP5 := Lib.hid (keep_at HP4.out hb); have HQ5 := Lib.hid (keep_at HQ4.out hb); refine ⟨_, rfl, HB5.out, ?_⟩; clear hb
        simp only [Act.put, List.setIfInBounds_toArray, List.set_cons_zero, List.set_cons_succ]
        refine rests_storeB 4 (oi := _) (by simp only [List.getElem?_toArray, List.getElem?_cons_succ, List.getElem?_cons_zero]; rfl) (by kernel_rfl) (by rfl) 34 (.tmp 2) (.tmp 18) rfl w.heap.size #[.int .i64 P.seat, .int .i64 P.count, .bool P.cmd, .int .i64 P.kind, .int .i64 P.sort, .int .i64 P.nr, .int .i64 P.ns, .bool P.pf, .string P.body] rfl rfl 34 _ HP5.out (by kernel_rfl) rfl (by kernel_rfl) ?_
        intro w6 hg6 hz6 hh6; have HB6 := Lib.hid (bel_grown HB5.out hg6 (Nat.le_refl _)); have HP6 := Lib.hid hh6; have HQ6 := Lib.hid (keep_grown HQ5.out hg6 hne.symm); refine ⟨HB6.out, ?_⟩; clear hg6 hz6 hh6
        simp only [Act.put, List.setIfInBounds_toArray, List.set_cons_zero, List.set_cons_succ]
        refine rests_storeB 5 (oi := _) (by simp only [List.getElem?_toArray, List.getElem?_cons_succ, List.getElem?_cons_zero]; rfl) (by kernel_rfl) (by rfl) 34 (.tmp 3) (.tmp 20) rfl w1.heap.size #[.int .i64 Q.seat, .int .i64 Q.count, .bool Q.cmd, .int .i64 Q.kind, .int .i64 Q.sort, .int .i64 Q.nr, .int .i64 Q.ns, .bool Q.pf, .string Q.body] rfl rfl 34 _ HQ6.out (by kernel_rfl) rfl (by kernel_rfl) ?_
        intro w7 hg7 hz7 hh7; have HB7 := Lib.hid (bel_grown HB6.out hg7 hlt01); have HQ7 := Lib.hid hh7; have HP7 := Lib.hid (keep_grown HP6.out hg7 hne); refine ⟨HB7.out, ?_⟩; clear hg7 hz7 hh7
        simp only [Act.put, List.setIfInBounds_toArray, List.set_cons_zero, List.set_cons_succ]
        refine rests_done (by kernel_rfl) ?_
        exact hK w7 ⟨HB7.out, HP7.out, HQ7.out⟩
    · skip
      refine wp_val (v := .agg #[.int .i64 q.seat, .int .i64 q.count, .bool q.cmd, .int .i64 q.kind, .int .i64 q.sort, .int .i64 q.nr, .int .i64 q.ns, .bool q.pf, .string q.body]) (exec_loadB rfl rfl HQs.out Tryd.underlying34 rfl (by kernel_rfl)) ⟨HBs.out, ?_⟩
      simp only [Act.put, List.setIfInBounds_toArray, List.set_cons_zero, List.set_cons_succ]
      refine rests_run 0 (oi := _) (by simp only [List.getElem?_toArray, List.getElem?_cons_zero]; rfl) (by kernel_rfl) (by rfl) (.agg #[.int .i64 p.seat, .int .i64 p.count, .bool p.cmd, .int .i64 p.kind, .int .i64 p.sort, .int .i64 p.nr, .int .i64 p.ns, .bool p.pf, .string p.body]) _ (exec_loadB rfl rfl HPs.out Tryd.underlying34 rfl (by kernel_rfl)) ⟨HBs.out, ?_⟩
      simp only [Act.put, List.setIfInBounds_toArray, List.set_cons_zero, List.set_cons_succ]
      refine rests_call 1 (oi := _) (by simp only [List.getElem?_toArray, List.getElem?_cons_succ, List.getElem?_cons_zero]; rfl) 32 #[.agg #[.int .i64 p.seat, .int .i64 p.count, .bool p.cmd, .int .i64 p.kind, .int .i64 p.sort, .int .i64 p.nr, .int .i64 p.ns, .bool p.pf, .string p.body]] _ (by kernel_rfl) (by rfl) (by go_simp) (HLP.out _) ?_
      rintro e w4 ⟨rfl, hb⟩; have HB4 := Lib.hid (bel_trans HBs.out hb); have HP4 := Lib.hid (keep_at HPs.out hb); have HQ4 := Lib.hid (keep_at HQs.out hb); refine ⟨_, rfl, HB4.out, ?_⟩; clear hb
      simp only [Act.put, List.setIfInBounds_toArray, List.set_cons_zero, List.set_cons_succ]
      refine rests_call 3 (oi := _) (by simp only [List.getElem?_toArray, List.getElem?_cons_succ, List.getElem?_cons_zero]; rfl) 32 #[.agg #[.int .i64 q.seat, .int .i64 q.count, .bool q.cmd, .int .i64 q.kind, .int .i64 q.sort, .int .i64 q.nr, .int .i64 q.ns, .bool q.pf, .string q.body]] _ (by kernel_rfl) (by rfl) (by go_simp) (HLQ.out _) ?_
      rintro e w5 ⟨rfl, hb⟩; have HB5 := Lib.hid (bel_trans HB4.out hb); have HP5 := Lib.hid (keep_at HP4.out hb); have HQ5 := Lib.hid (keep_at HQ4.out hb); refine ⟨_, rfl, HB5.out, ?_⟩; clear hb
      simp only [Act.put, List.setIfInBounds_toArray, List.set_cons_zero, List.set_cons_succ]
      refine rests_storeB 4 (oi := _) (by simp only [List.getElem?_toArray, List.getElem?_cons_succ, List.getElem?_cons_zero]; rfl) (by kernel_rfl) (by rfl) 34 (.tmp 2) (.tmp 18) rfl w.heap.size #[.int .i64 P.seat, .int .i64 P.count, .bool P.cmd, .int .i64 P.kind, .int .i64 P.sort, .int .i64 P.nr, .int .i64 P.ns, .bool P.pf, .string P.body] rfl rfl 34 _ HP5.out (by kernel_rfl) rfl (by kernel_rfl) ?_
      intro w6 hg6 hz6 hh6; have HB6 := Lib.hid (bel_grown HB5.out hg6 (Nat.le_refl _)); have HP6 := Lib.hid hh6; have HQ6 := Lib.hid (keep_grown HQ5.out hg6 hne.symm); refine ⟨HB6.out, ?_⟩; clear hg6 hz6 hh6
      simp only [Act.put, List.setIfInBounds_toArray, List.set_cons_zero, List.set_cons_succ]
      refine rests_storeB 5 (oi := _) (by simp only [List.getElem?_toArray, List.getElem?_cons_succ, List.getElem?_cons_zero]; rfl) (by kernel_rfl) (by rfl) 34 (.tmp 3) (.tmp 20) rfl w1.heap.size #[.int .i64 Q.seat, .int .i64 Q.count, .bool Q.cmd, .int .i64 Q.kind, .int .i64 Q.sort, .int .i64 Q.nr, .int .i64 Q.ns, .bool Q.pf, .string Q.body] rfl rfl 34 _ HQ6.out (by kernel_rfl) rfl (by kernel_rfl) ?_
      intro w7 hg7 hz7 hh7; have HB7 := Lib.hid (bel_grown HB6.out hg7 hlt01); have HQ7 := Lib.hid hh7; have HP7 := Lib.hid (keep_grown HP6.out hg7 hne); refine ⟨HB7.out, ?_⟩; clear hg7 hz7 hh7
      simp only [Act.put, List.setIfInBounds_toArray, List.set_cons_zero, List.set_cons_succ]
      refine rests_done (by kernel_rfl) ?_
      exact hK w7 ⟨HB7.out, HP7.out, HQ7.out⟩
  case cont =>
    clear HBs HPs HQs HP3 HQ3 HP2 HQ2 HP1 hlt1 hlt2
    rintro w7 ⟨hb7, hp7, hq7⟩
    have HB7 := Lib.hid hb7
    have HP7 := Lib.hid hp7
    have HQ7 := Lib.hid hq7
    clear hb7 hp7 hq7
    go_wp2_with (first
      | (with_reducible refine wpList_loadB rfl 34 (.tmp 2) rfl w.heap.size rfl 34 #[.int .i64 P.seat, .int .i64 P.count, .bool P.cmd, .int .i64 P.kind, .int .i64 P.sort, .int .i64 P.nr, .int .i64 P.ns, .bool P.pf, .string P.body] HP7.out _ Tryd.underlying34 rfl (by kernel_rfl) ?_)
      | (go_at_call_of 45 (Value.agg #[.int .i64 P.seat, .int .i64 P.count, .bool P.cmd, .int .i64 P.kind, .int .i64 P.sort, .int .i64 P.nr, .int .i64 P.ns, .bool P.pf, .string P.body]); ((with_reducible refine (HOP.out _ (HC.out.below HB7.out)).mono ?_); rintro e w8 ⟨rfl, hb⟩; have HB8 := Lib.hid (bel_trans HB7.out hb); have HP8 := Lib.hid (keep_at HP7.out hb); have HQ8 := Lib.hid (keep_at HQ7.out hb); clear hb))
      | ((with_reducible refine wpList_storeB rfl 60 (.tmp 6) _ rfl w8.heap.size #[.int .i64 P.seat, .int .i64 P.count, .bool P.cmd, cv ⟨P.kind, P.sort, P.nr, P.ns, P.pf⟩, .string P.body] rfl rfl 60 _ (heap_alloc_new w8 _) (by kernel_rfl) rfl (frone _ _ _ _ _) ?_); intro w9 hg hz hh; have HB9 := Lib.hid (bel_grown (bal HB8.out _) hg HB8.out.size); have HF9 := Lib.hid hh; have HP9 := Lib.hid (keep_grown (keep_at HP8.out (bal (bel0 w8) _)) hg (Nat.ne_of_lt (lt_at HP8.out))); have HQ9 := Lib.hid (keep_grown (keep_at HQ8.out (bal (bel0 w8) _)) hg (Nat.ne_of_lt (lt_at HQ8.out))); clear hg hz hh)
      | (with_reducible refine wpList_loadB rfl 34 (.tmp 3) rfl w1.heap.size rfl 34 #[.int .i64 Q.seat, .int .i64 Q.count, .bool Q.cmd, .int .i64 Q.kind, .int .i64 Q.sort, .int .i64 Q.nr, .int .i64 Q.ns, .bool Q.pf, .string Q.body] HQ9.out _ Tryd.underlying34 rfl (by kernel_rfl) ?_)
      | (go_at_call_of 45 (Value.agg #[.int .i64 Q.seat, .int .i64 Q.count, .bool Q.cmd, .int .i64 Q.kind, .int .i64 Q.sort, .int .i64 Q.nr, .int .i64 Q.ns, .bool Q.pf, .string Q.body]); ((with_reducible refine (HOQ.out _ (HC.out.below HB9.out)).mono ?_); rintro e w10 ⟨rfl, hb⟩; have HB10 := Lib.hid (bel_trans HB9.out hb); have HP10 := Lib.hid (keep_at HP9.out hb); have HQ10 := Lib.hid (keep_at HQ9.out hb); have HF10 := Lib.hid (keep_at HF9.out hb); clear hb))
      | ((with_reducible refine wpList_storeB rfl 60 (.tmp 8) _ rfl w10.heap.size #[.int .i64 0, .int .i64 0, .bool false, .nilIface, .string ⟨#[]⟩] rfl rfl 60 _ (heap_alloc_new w10 _) (by kernel_rfl) rfl (by kernel_rfl) ?_); intro w11 hg hz hh; have HB11 := Lib.hid (bel_grown (bal HB10.out _) hg HB10.out.size); have HG11 := Lib.hid hh; have HP11 := Lib.hid (keep_grown (keep_at HP10.out (bal (bel0 w10) _)) hg (Nat.ne_of_lt (lt_at HP10.out))); have HQ11 := Lib.hid (keep_grown (keep_at HQ10.out (bal (bel0 w10) _)) hg (Nat.ne_of_lt (lt_at HQ10.out))); have HF11 := Lib.hid (keep_grown (keep_at HF10.out (bal (bel0 w10) _)) hg (Nat.ne_of_lt (lt_at HF10.out))); clear hg hz hh)
      | (with_reducible refine wpList_loadB rfl 34 (.tmp 2) rfl w.heap.size rfl 34 #[.int .i64 P.seat, .int .i64 P.count, .bool P.cmd, .int .i64 P.kind, .int .i64 P.sort, .int .i64 P.nr, .int .i64 P.ns, .bool P.pf, .string P.body] HP11.out _ Tryd.underlying34 rfl (by kernel_rfl) ?_)
      | (go_at_call_of 46 (Value.agg #[.int .i64 P.seat, .int .i64 P.count, .bool P.cmd, .int .i64 P.kind, .int .i64 P.sort, .int .i64 P.nr, .int .i64 P.ns, .bool P.pf, .string P.body]); ((with_reducible refine (HMP.out _).mono ?_); rintro e w12 ⟨rfl, hb⟩; have HB12 := Lib.hid (bel_trans HB11.out hb); have HP12 := Lib.hid (keep_at HP11.out hb); have HQ12 := Lib.hid (keep_at HQ11.out hb); have HF12 := Lib.hid (keep_at HF11.out hb); have HG12 := Lib.hid (keep_at HG11.out hb); have k0 := cell_at HQ12.out 0 _ rfl; have k1 := cell_at HQ12.out 1 _ rfl; have k2 := cell_at HQ12.out 2 _ rfl; have k3 := cell_at HQ12.out 3 _ rfl; have k4 := cell_at HQ12.out 4 _ rfl; have k5 := cell_at HQ12.out 5 _ rfl; have k6 := cell_at HQ12.out 6 _ rfl; have k7 := cell_at HQ12.out 7 _ rfl; have k8 := cell_at HQ12.out 8 _ rfl; clear hb))
      | (with_reducible refine wpList_loadB rfl 34 (.tmp 3) rfl w1.heap.size rfl 34 #[.int .i64 Q.seat, .int .i64 Q.count, .bool Q.cmd, .int .i64 Q.kind, .int .i64 Q.sort, .int .i64 Q.nr, .int .i64 Q.ns, .bool Q.pf, .string Q.body] HQ12.out _ Tryd.underlying34 rfl (by kernel_rfl) ?_)
      | (go_at_call_of 46 (Value.agg #[.int .i64 Q.seat, .int .i64 Q.count, .bool Q.cmd, .int .i64 Q.kind, .int .i64 Q.sort, .int .i64 Q.nr, .int .i64 Q.ns, .bool Q.pf, .string Q.body]); ((with_reducible refine (HMQ.out _).mono ?_); rintro e w13 ⟨rfl, hb⟩; have HB13 := Lib.hid (bel_trans HB12.out hb); have HP13 := Lib.hid (keep_at HP12.out hb); have HQ13 := Lib.hid (keep_at HQ12.out hb); have HF13 := Lib.hid (keep_at HF12.out hb); have HG13 := Lib.hid (keep_at HG12.out hb);  clear hb))
      | (with_reducible refine wpList_loadB rfl 60 (.tmp 6) rfl w8.heap.size rfl 60 #[.int .i64 P.seat, .int .i64 P.count, .bool P.cmd, cv ⟨P.kind, P.sort, P.nr, P.ns, P.pf⟩, .string P.body] HF13.out _ Tryd.underlying60 rfl (by kernel_rfl) ?_)
      | (go_at_call 47; ((with_reducible refine (HPU.out _ (HC.out.below HB13.out)).mono ?_); rintro e w14 ⟨u, rfl, hu, hb⟩; have HB14 := Lib.hid (bel_trans HB13.out hb); have HP14 := Lib.hid (keep_at HP13.out hb); have HQ14 := Lib.hid (keep_at HQ13.out hb); have HF14 := Lib.hid (keep_at HF13.out hb); have HG14 := Lib.hid (keep_at HG13.out hb); have HU14 := Lib.hid hu.rds; obtain ⟨Au, cu, rfl, _⟩ := hu.rds; clear hu hb))
      | (go_at_call 48; ((with_reducible refine (HGT.out _ _ HU14.out (HC.out.below HB14.out)).mono ?_); rintro e w15 ⟨rfl, hb⟩; have HB15 := Lib.hid (bel_trans HB14.out hb); have HP15 := Lib.hid (keep_at HP14.out hb); have HQ15 := Lib.hid (keep_at HQ14.out hb); have HF15 := Lib.hid (keep_at HF14.out hb); have HG15 := Lib.hid (keep_at HG14.out hb); have HU15 := Lib.hid (HU14.out.below hb); clear hb))
      | ((with_reducible refine wpList_storeB rfl 60 (.tmp 12) _ rfl w15.heap.size #[.int .i64 P.seat, .int .i64 P.count, .bool P.cmd, cv ⟨P.kind, P.sort, P.nr, P.ns, P.pf⟩, .string P.body] rfl rfl 60 _ (heap_alloc_new w15 _) (by kernel_rfl) rfl (frone _ _ _ _ _) ?_); intro w16 hg hz hh; have HB16 := Lib.hid (bel_grown (bal HB15.out _) hg HB15.out.size); have HH16 := Lib.hid hh; have HP16 := Lib.hid (keep_grown (keep_at HP15.out (bal (bel0 w15) _)) hg (Nat.ne_of_lt (lt_at HP15.out))); have HQ16 := Lib.hid (keep_grown (keep_at HQ15.out (bal (bel0 w15) _)) hg (Nat.ne_of_lt (lt_at HQ15.out))); have HF16 := Lib.hid (keep_grown (keep_at HF15.out (bal (bel0 w15) _)) hg (Nat.ne_of_lt (lt_at HF15.out))); have HG16 := Lib.hid (keep_grown (keep_at HG15.out (bal (bel0 w15) _)) hg (Nat.ne_of_lt (lt_at HG15.out))); have HU16 := Lib.hid ((HU15.out.alloc _).grown hg (HU15.out.apart_new (Nat.le_refl _))); clear hg hz hh))
    refine rest_begin (by kernel_rfl) ?_
    refine rest_take 0 (oi := _) (v := ?_) (by simp only [List.getElem?_toArray, List.getElem?_cons_zero]; rfl) (by kernel_rfl) (by kernel_rfl) (by kernel_rfl) (by exact fun _ _ _ h => h) (by rfl) ?_ ?_; rotate_left; (· intro W HW; go_simp; try with_reducible rfl)
    simp only [Act.put, List.setIfInBounds_toArray, List.set_cons_zero, List.set_cons_succ]
    refine rest_take 1 (oi := _) (v := ?_) (by simp only [List.getElem?_toArray, List.getElem?_cons_succ, List.getElem?_cons_zero]; rfl) (by kernel_rfl) (by kernel_rfl) (by kernel_rfl) (by exact fun _ _ _ h => h) (by rfl) ?_ ?_; rotate_left; (· intro W HW; go_simp; try with_reducible rfl)
    simp only [Act.put, List.setIfInBounds_toArray, List.set_cons_zero, List.set_cons_succ]
    refine rest_take 2 (oi := _) (v := ?_) (by simp only [List.getElem?_toArray, List.getElem?_cons_succ, List.getElem?_cons_zero]; rfl) (by kernel_rfl) (by kernel_rfl) (by kernel_rfl) (by exact fun _ _ _ h => h) (by rfl) ?_ ?_; rotate_left; (· intro W HW; go_simp; try with_reducible rfl)
    simp only [Act.put, List.setIfInBounds_toArray, List.set_cons_zero, List.set_cons_succ]
    refine rest_conv 3 (oi := _) (by simp only [List.getElem?_toArray, List.getElem?_cons_succ, List.getElem?_cons_zero]; rfl) (.tmp 63) _ (putF P.pl) (by kernel_rfl) (by kernel_rfl) (by kernel_rfl) (by exact fun _ _ _ h => h) (by rfl) rfl rfl HU16.out ?_
    simp only [Act.put, List.setIfInBounds_toArray, List.set_cons_zero, List.set_cons_succ]
    refine rest_loadB 4 (oi := _) (by simp only [List.getElem?_toArray, List.getElem?_cons_succ, List.getElem?_cons_zero]; rfl) (by kernel_rfl) (by kernel_rfl) (by kernel_rfl) #[.int .i64 P.seat, .int .i64 P.count, .bool P.cmd, .int .i64 P.kind, .int .i64 P.sort, .int .i64 P.nr, .int .i64 P.ns, .bool P.pf, .string P.body] (by exact fun _ _ _ h => h) (by rfl) 34 (.tmp 2) rfl _ rfl _ (HP16.out) _ Tryd.underlying34 rfl (by kernel_rfl) ?_
    simp only [Act.put, List.setIfInBounds_toArray, List.set_cons_zero, List.set_cons_succ]
    refine rest_call 5 (oi := _) (by simp only [List.getElem?_toArray, List.getElem?_cons_succ, List.getElem?_cons_zero]; rfl) 49 #[.agg #[.int .i64 P.seat, .int .i64 P.count, .bool P.cmd, .int .i64 P.kind, .int .i64 P.sort, .int .i64 P.nr, .int .i64 P.ns, .bool P.pf, .string P.body]] _ (by kernel_rfl) (by rfl) (by go_simp) (HRP.out w16.drew) ?_
    rintro e w17 ⟨u2, rfl, hu2, hb⟩; refine ⟨_, rfl, hb, ?_⟩; have HV17 := Lib.hid hu2.rds; obtain ⟨Av, cv2, rfl, _⟩ := hu2.rds; have HB17 := Lib.hid (bel_trans HB16.out.drew hb); have HP17 := Lib.hid (keep_at (w := w16.drew) HP16.out hb); have HQ17 := Lib.hid (keep_at (w := w16.drew) HQ16.out hb); have HF17 := Lib.hid (keep_at (w := w16.drew) HF16.out hb); have HG17 := Lib.hid (keep_at (w := w16.drew) HG16.out hb); have HH17 := Lib.hid (keep_at (w := w16.drew) HH16.out hb); clear hb hu2
    simp only [Act.put, List.setIfInBounds_toArray, List.set_cons_zero, List.set_cons_succ]
    refine rest_conv 6 (oi := _) (by simp only [List.getElem?_toArray, List.getElem?_cons_succ, List.getElem?_cons_zero]; rfl) (.tmp 66) _ (putF P.pl) (by kernel_rfl) (by kernel_rfl) (by kernel_rfl) (by exact fun _ _ _ h => h) (by rfl) rfl rfl HV17.out ?_
    simp only [Act.put, List.setIfInBounds_toArray, List.set_cons_zero, List.set_cons_succ]
    refine rest_take 7 (oi := _) (v := .bool true) (by simp only [List.getElem?_toArray, List.getElem?_cons_succ, List.getElem?_cons_zero]; rfl) (by kernel_rfl) (by kernel_rfl) (by kernel_rfl) (by exact fun _ _ _ h => h) (by rfl) (fun W HW => exec_cmp rfl rfl rfl (guard_str _ _ _ _ _ _ W) (eql_str _ W)) ?_
    simp only [Act.put, List.setIfInBounds_toArray, List.set_cons_zero, List.set_cons_succ]
    refine rest_take 8 (oi := _) (v := ?_) (by simp only [List.getElem?_toArray, List.getElem?_cons_succ, List.getElem?_cons_zero]; rfl) (by kernel_rfl) (by kernel_rfl) (by kernel_rfl) (by exact fun _ _ _ h => h) (by rfl) ?_ ?_; rotate_left; (· intro W HW; go_simp; try with_reducible rfl)
    simp only [Act.put, List.setIfInBounds_toArray, List.set_cons_zero, List.set_cons_succ]
    refine rest_take 9 (oi := _) (v := ?_) (by simp only [List.getElem?_toArray, List.getElem?_cons_succ, List.getElem?_cons_zero]; rfl) (by kernel_rfl) (by kernel_rfl) (by kernel_rfl) (by exact fun _ _ _ h => h) (by rfl) ?_ ?_; rotate_left; (· intro W HW; go_simp; try with_reducible rfl)
    simp only [Act.put, List.setIfInBounds_toArray, List.set_cons_zero, List.set_cons_succ]
    refine rest_take 10 (oi := _) (v := ?_) (by simp only [List.getElem?_toArray, List.getElem?_cons_succ, List.getElem?_cons_zero]; rfl) (by kernel_rfl) (by kernel_rfl) (by kernel_rfl) (by exact fun _ _ _ h => h) (by rfl) ?_ ?_; rotate_left; (· intro W HW; go_simp; try with_reducible rfl)
    simp only [Act.put, List.setIfInBounds_toArray, List.set_cons_zero, List.set_cons_succ]
    refine rest_take 11 (oi := _) (v := ?_) (by simp only [List.getElem?_toArray, List.getElem?_cons_succ, List.getElem?_cons_zero]; rfl) (by kernel_rfl) (by kernel_rfl) (by kernel_rfl) (by exact fun _ _ _ h => h) (by rfl) ?_ ?_; rotate_left; (· intro W HW; go_simp; try with_reducible rfl)
    simp only [Act.put, List.setIfInBounds_toArray, List.set_cons_zero, List.set_cons_succ]
    refine rest_take 12 (oi := _) (v := ?_) (by simp only [List.getElem?_toArray, List.getElem?_cons_succ, List.getElem?_cons_zero]; rfl) (by kernel_rfl) (by kernel_rfl) (by kernel_rfl) (by exact fun _ _ _ h => h) (by rfl) ?_ ?_; rotate_left; (· intro W HW; go_simp; try with_reducible rfl)
    simp only [Act.put, List.setIfInBounds_toArray, List.set_cons_zero, List.set_cons_succ]
    refine rest_loadB 13 (oi := _) (by simp only [List.getElem?_toArray, List.getElem?_cons_succ, List.getElem?_cons_zero]; rfl) (by kernel_rfl) (by kernel_rfl) (by kernel_rfl) #[.int .i64 P.seat, .int .i64 P.count, .bool P.cmd, cv ⟨P.kind, P.sort, P.nr, P.ns, P.pf⟩, .string P.body] (by exact fun _ _ _ h => h) (by rfl) 60 (.tmp 12) rfl _ rfl _ (HH17.out) _ Tryd.underlying60 rfl (by kernel_rfl) ?_
    simp only [Act.put, List.setIfInBounds_toArray, List.set_cons_zero, List.set_cons_succ]
    refine rest_loadB 14 (oi := _) (by simp only [List.getElem?_toArray, List.getElem?_cons_succ, List.getElem?_cons_zero]; rfl) (by kernel_rfl) (by kernel_rfl) (by kernel_rfl) #[.int .i64 P.seat, .int .i64 P.count, .bool P.cmd, cv ⟨P.kind, P.sort, P.nr, P.ns, P.pf⟩, .string P.body] (by exact fun _ _ _ h => h) (by rfl) 60 (.tmp 6) rfl _ rfl _ (HF17.out) _ Tryd.underlying60 rfl (by kernel_rfl) ?_
    simp only [Act.put, List.setIfInBounds_toArray, List.set_cons_zero, List.set_cons_succ]
    refine rest_call 15 (oi := _) (by simp only [List.getElem?_toArray, List.getElem?_cons_succ, List.getElem?_cons_zero]; rfl) 50 #[.agg #[.int .i64 P.seat, .int .i64 P.count, .bool P.cmd, cv ⟨P.kind, P.sort, P.nr, P.ns, P.pf⟩, .string P.body], .agg #[.int .i64 P.seat, .int .i64 P.count, .bool P.cmd, cv ⟨P.kind, P.sort, P.nr, P.ns, P.pf⟩, .string P.body]] _ (by kernel_rfl) (by rfl) (by go_simp) (HEH.out w17) ?_
    rintro e w18 ⟨rfl, hb⟩; refine ⟨_, rfl, hb, ?_⟩; have HB18 := Lib.hid (bel_trans HB17.out hb); have HP18 := Lib.hid (keep_at HP17.out hb); have HQ18 := Lib.hid (keep_at HQ17.out hb); have HF18 := Lib.hid (keep_at HF17.out hb); have HG18 := Lib.hid (keep_at HG17.out hb); have HH18 := Lib.hid (keep_at HH17.out hb); clear hb
    simp only [Act.put, List.setIfInBounds_toArray, List.set_cons_zero, List.set_cons_succ]
    refine rest_take 16 (oi := _) (v := ?_) (by simp only [List.getElem?_toArray, List.getElem?_cons_succ, List.getElem?_cons_zero]; rfl) (by kernel_rfl) (by kernel_rfl) (by kernel_rfl) (by exact fun _ _ _ h => h) (by rfl) ?_ ?_; rotate_left; (· intro W HW; go_simp; try with_reducible rfl)
    simp only [Act.put, List.setIfInBounds_toArray, List.set_cons_zero, List.set_cons_succ]
    refine rest_take 17 (oi := _) (v := ?_) (by simp only [List.getElem?_toArray, List.getElem?_cons_succ, List.getElem?_cons_zero]; rfl) (by kernel_rfl) (by kernel_rfl) (by kernel_rfl) (by exact fun _ _ _ h => h) (by rfl) ?_ ?_; rotate_left; (· intro W HW; go_simp; try with_reducible rfl)
    simp only [Act.put, List.setIfInBounds_toArray, List.set_cons_zero, List.set_cons_succ]
    refine rest_loadB 18 (oi := _) (by simp only [List.getElem?_toArray, List.getElem?_cons_succ, List.getElem?_cons_zero]; rfl) (by kernel_rfl) (by kernel_rfl) (by kernel_rfl) #[.int .i64 P.seat, .int .i64 P.count, .bool P.cmd, cv ⟨P.kind, P.sort, P.nr, P.ns, P.pf⟩, .string P.body] (by exact fun _ _ _ h => h) (by rfl) 60 (.tmp 6) rfl _ rfl _ (HF18.out) _ Tryd.underlying60 rfl (by kernel_rfl) ?_
    simp only [Act.put, List.setIfInBounds_toArray, List.set_cons_zero, List.set_cons_succ]
    refine rest_loadB 20 (oi := _) (by simp only [List.getElem?_toArray, List.getElem?_cons_succ, List.getElem?_cons_zero]; rfl) (by kernel_rfl) (by kernel_rfl) (by kernel_rfl) #[.int .i64 P.seat, .int .i64 P.count, .bool P.cmd, .int .i64 P.kind, .int .i64 P.sort, .int .i64 P.nr, .int .i64 P.ns, .bool P.pf, .string P.body] (by exact fun _ _ _ h => h) (by rfl) 34 (.tmp 2) rfl _ rfl _ (HP18.out) _ Tryd.underlying34 rfl (by kernel_rfl) ?_
    simp only [Act.put, List.setIfInBounds_toArray, List.set_cons_zero, List.set_cons_succ]
    refine rest_call 19 (oi := _) (by simp only [List.getElem?_toArray, List.getElem?_cons_succ, List.getElem?_cons_zero]; rfl) 51 #[.agg #[.int .i64 P.seat, .int .i64 P.count, .bool P.cmd, cv ⟨P.kind, P.sort, P.nr, P.ns, P.pf⟩, .string P.body]] _ (by kernel_rfl) (by rfl) (by go_simp) (HPN.out w18) ?_
    rintro e w19 ⟨rfl, hb⟩; refine ⟨_, rfl, hb, ?_⟩; have HB19 := Lib.hid (bel_trans HB18.out hb); have HP19 := Lib.hid (keep_at HP18.out hb); have HQ19 := Lib.hid (keep_at HQ18.out hb); have HF19 := Lib.hid (keep_at HF18.out hb); have HG19 := Lib.hid (keep_at HG18.out hb); have HH19 := Lib.hid (keep_at HH18.out hb); clear hb
    simp only [Act.put, List.setIfInBounds_toArray, List.set_cons_zero, List.set_cons_succ]
    refine rest_take 21 (oi := _) (v := .bool true) (by simp only [List.getElem?_toArray, List.getElem?_cons_succ, List.getElem?_cons_zero]; rfl) (by kernel_rfl) (by kernel_rfl) (by kernel_rfl) (by exact fun _ _ _ h => h) (by rfl) (fun W HW => exec_cmp rfl rfl rfl (guard_Pl _ _ _ _ _ W) (HPP.out W)) ?_
    simp only [Act.put, List.setIfInBounds_toArray, List.set_cons_zero, List.set_cons_succ]
    refine rest_take 22 (oi := _) (v := ?_) (by simp only [List.getElem?_toArray, List.getElem?_cons_succ, List.getElem?_cons_zero]; rfl) (by kernel_rfl) (by kernel_rfl) (by kernel_rfl) (by exact fun _ _ _ h => h) (by rfl) ?_ ?_; rotate_left; (· intro W HW; go_simp; try with_reducible rfl)
    simp only [Act.put, List.setIfInBounds_toArray, List.set_cons_zero, List.set_cons_succ]
    refine rest_take 23 (oi := _) (v := ?_) (by simp only [List.getElem?_toArray, List.getElem?_cons_succ, List.getElem?_cons_zero]; rfl) (by kernel_rfl) (by kernel_rfl) (by kernel_rfl) (by exact fun _ _ _ h => h) (by rfl) ?_ ?_; rotate_left; (· intro W HW; go_simp; try with_reducible rfl)
    simp only [Act.put, List.setIfInBounds_toArray, List.set_cons_zero, List.set_cons_succ]
    refine rest_loadB 24 (oi := _) (by simp only [List.getElem?_toArray, List.getElem?_cons_succ, List.getElem?_cons_zero]; rfl) (by kernel_rfl) (by kernel_rfl) (by kernel_rfl) #[.int .i64 P.seat, .int .i64 P.count, .bool P.cmd, cv ⟨P.kind, P.sort, P.nr, P.ns, P.pf⟩, .string P.body] (by exact fun _ _ _ h => h) (by rfl) 60 (.tmp 6) rfl _ rfl _ (HF19.out) _ Tryd.underlying60 rfl (by kernel_rfl) ?_
    simp only [Act.put, List.setIfInBounds_toArray, List.set_cons_zero, List.set_cons_succ]
    refine rest_call 25 (oi := _) (by simp only [List.getElem?_toArray, List.getElem?_cons_succ, List.getElem?_cons_zero]; rfl) 52 #[.agg #[.int .i64 P.seat, .int .i64 P.count, .bool P.cmd, cv ⟨P.kind, P.sort, P.nr, P.ns, P.pf⟩, .string P.body]] _ (by kernel_rfl) (by rfl) (by go_simp) (HFM.out w19) ?_
    rintro e w20 ⟨rfl, hb⟩; refine ⟨_, rfl, hb, ?_⟩; have HB20 := Lib.hid (bel_trans HB19.out hb); have HP20 := Lib.hid (keep_at HP19.out hb); have HQ20 := Lib.hid (keep_at HQ19.out hb); have HF20 := Lib.hid (keep_at HF19.out hb); have HG20 := Lib.hid (keep_at HG19.out hb); have HH20 := Lib.hid (keep_at HH19.out hb); clear hb
    simp only [Act.put, List.setIfInBounds_toArray, List.set_cons_zero, List.set_cons_succ]
    refine rest_take 26 (oi := _) (v := ?_) (by simp only [List.getElem?_toArray, List.getElem?_cons_succ, List.getElem?_cons_zero]; rfl) (by kernel_rfl) (by kernel_rfl) (by kernel_rfl) (by exact fun _ _ _ h => h) (by rfl) ?_ ?_; rotate_left; (· intro W HW; go_simp; try with_reducible rfl)
    simp only [Act.put, List.setIfInBounds_toArray, List.set_cons_zero, List.set_cons_succ]
    refine rest_take 27 (oi := _) (v := ?_) (by simp only [List.getElem?_toArray, List.getElem?_cons_succ, List.getElem?_cons_zero]; rfl) (by kernel_rfl) (by kernel_rfl) (by kernel_rfl) (by exact fun _ _ _ h => h) (by rfl) ?_ ?_; rotate_left; (· intro W HW; go_simp; try with_reducible rfl)
    simp only [Act.put, List.setIfInBounds_toArray, List.set_cons_zero, List.set_cons_succ]
    refine rest_take 28 (oi := _) (v := ?_) (by simp only [List.getElem?_toArray, List.getElem?_cons_succ, List.getElem?_cons_zero]; rfl) (by kernel_rfl) (by kernel_rfl) (by kernel_rfl) (by exact fun _ _ _ h => h) (by rfl) ?_ ?_; rotate_left; (· intro W HW; go_simp; try with_reducible rfl)
    simp only [Act.put, List.setIfInBounds_toArray, List.set_cons_zero, List.set_cons_succ]
    refine rest_take 29 (oi := _) (v := ?_) (by simp only [List.getElem?_toArray, List.getElem?_cons_succ, List.getElem?_cons_zero]; rfl) (by kernel_rfl) (by kernel_rfl) (by kernel_rfl) (by exact fun _ _ _ h => h) (by rfl) ?_ ?_; rotate_left; (· intro W HW; go_simp; try with_reducible rfl)
    simp only [Act.put, List.setIfInBounds_toArray, List.set_cons_zero, List.set_cons_succ]
    refine rest_take 30 (oi := _) (v := ?_) (by simp only [List.getElem?_toArray, List.getElem?_cons_succ, List.getElem?_cons_zero]; rfl) (by kernel_rfl) (by kernel_rfl) (by kernel_rfl) (by exact fun _ _ _ h => h) (by rfl) ?_ ?_; rotate_left; (· intro W HW; go_simp; try with_reducible rfl)
    simp only [Act.put, List.setIfInBounds_toArray, List.set_cons_zero, List.set_cons_succ]
    refine rest_skip 31 (oi := _) (by simp only [List.getElem?_toArray, List.getElem?_cons_succ, List.getElem?_cons_zero]; rfl) (by kernel_rfl) (by kernel_rfl) (by kernel_rfl) (by exact fun _ _ _ h => h) (by rfl) ?_
    simp only [Act.put, List.setIfInBounds_toArray, List.set_cons_zero, List.set_cons_succ]
    refine rest_skip 32 (oi := _) (by simp only [List.getElem?_toArray, List.getElem?_cons_succ, List.getElem?_cons_zero]; rfl) (by kernel_rfl) (by kernel_rfl) (by kernel_rfl) (by exact fun _ _ _ h => h) (by rfl) ?_
    simp only [Act.put, List.setIfInBounds_toArray, List.set_cons_zero, List.set_cons_succ]
    refine rest_skip 33 (oi := _) (by simp only [List.getElem?_toArray, List.getElem?_cons_succ, List.getElem?_cons_zero]; rfl) (by kernel_rfl) (by kernel_rfl) (by kernel_rfl) (by exact fun _ _ _ h => h) (by rfl) ?_
    simp only [Act.put, List.setIfInBounds_toArray, List.set_cons_zero, List.set_cons_succ]
    refine rest_skip 34 (oi := _) (by simp only [List.getElem?_toArray, List.getElem?_cons_succ, List.getElem?_cons_zero]; rfl) (by kernel_rfl) (by kernel_rfl) (by kernel_rfl) (by exact fun _ _ _ h => h) (by rfl) ?_
    simp only [Act.put, List.setIfInBounds_toArray, List.set_cons_zero, List.set_cons_succ]
    refine rest_skip 35 (oi := _) (by simp only [List.getElem?_toArray, List.getElem?_cons_succ, List.getElem?_cons_zero]; rfl) (by kernel_rfl) (by kernel_rfl) (by kernel_rfl) (by exact fun _ _ _ h => h) (by rfl) ?_
    simp only [Act.put, List.setIfInBounds_toArray, List.set_cons_zero, List.set_cons_succ]
    refine rest_skip 36 (oi := _) (by simp only [List.getElem?_toArray, List.getElem?_cons_succ, List.getElem?_cons_zero]; rfl) (by kernel_rfl) (by kernel_rfl) (by kernel_rfl) (by exact fun _ _ _ h => h) (by rfl) ?_
    simp only [Act.put, List.setIfInBounds_toArray, List.set_cons_zero, List.set_cons_succ]
    refine rest_skip 37 (oi := _) (by simp only [List.getElem?_toArray, List.getElem?_cons_succ, List.getElem?_cons_zero]; rfl) (by kernel_rfl) (by kernel_rfl) (by kernel_rfl) (by exact fun _ _ _ h => h) (by rfl) ?_
    simp only [Act.put, List.setIfInBounds_toArray, List.set_cons_zero, List.set_cons_succ]
    refine rest_take 38 (oi := _) (v := ?_) (by simp only [List.getElem?_toArray, List.getElem?_cons_succ, List.getElem?_cons_zero]; rfl) (by kernel_rfl) (by kernel_rfl) (by kernel_rfl) (by exact fun _ _ _ h => h) (by rfl) ?_ ?_; rotate_left; (· intro W HW; go_simp; try with_reducible rfl)
    simp only [Act.put, List.setIfInBounds_toArray, List.set_cons_zero, List.set_cons_succ]
    refine rest_take 39 (oi := _) (v := ?_) (by simp only [List.getElem?_toArray, List.getElem?_cons_succ, List.getElem?_cons_zero]; rfl) (by kernel_rfl) (by kernel_rfl) (by kernel_rfl) (by exact fun _ _ _ h => h) (by rfl) ?_ ?_; rotate_left; (· intro W HW; go_simp; try with_reducible rfl)
    simp only [Act.put, List.setIfInBounds_toArray, List.set_cons_zero, List.set_cons_succ]
    refine rest_take 40 (oi := _) (v := ?_) (by simp only [List.getElem?_toArray, List.getElem?_cons_succ, List.getElem?_cons_zero]; rfl) (by kernel_rfl) (by kernel_rfl) (by kernel_rfl) (by exact fun _ _ _ h => h) (by rfl) ?_ ?_; rotate_left; (· intro W HW; go_simp; try with_reducible rfl)
    simp only [Act.put, List.setIfInBounds_toArray, List.set_cons_zero, List.set_cons_succ]
    refine rest_done (by kernel_rfl) ?_
    go_wp2
    go_ret
    exact ⟨by rfl, HB20.out⟩

set_option maxRecDepth 100000 in
set_option maxHeartbeats 8000000 in
theorem FrameAll_tt (p q P Q : PIn) (w : World) (hlp : ∀ w, Calls Tryd.prog 32 #[p.val] w fun e w' => e = .returned P.val ∧ Below w.heap.size w w') (hlq : ∀ w, Calls Tryd.prog 32 #[q.val] w fun e w' => e = .returned Q.val ∧ Below w.heap.size w w')
    (hP : P.ok) (hQ : Q.ok) (hC : Codes w) (hmp : decide (mayF P.pl) = true) (hmq : decide (mayF Q.pl) = true) : Calls Tryd.prog 7 #[p.val, q.val] w (Holds4 w) := by
  have HC := Lib.hid hC
  have HLP := Lib.hid hlp
  have HLQ := Lib.hid hlq
  have HOP := Lib.hid (fun w hC => FOf_is2 (p := P) w hP hmp hC)
  have HOQ := Lib.hid (fun w hC => FOf_is2 (p := Q) w hQ hmq hC)
  have HMP := Lib.hid (fun w => RMay_is (p := P) w hmp)
  have HMQ := Lib.hid (fun w => RMay_is (p := Q) w hmq)
  have hm := of_decide_eq_true hmp
  have HPU := Lib.hid (fun w hC => FPut_yes P w hm hC)
  have HGT := Lib.hid (fun v w hr hC => FGet_yes v (putF P.pl) P.pl w hr (getF_pl hm) hC)
  have HRP := Lib.hid (fun w => RPut_is (p := P) w hm)
  have HEH : Hid (∀ w, Calls Tryd.prog 50 #[frI P, frI P] w fun e w' => e = .returned (.bool true) ∧ Below w.heap.size w w') := by
    show ∀ w, _
    intro w
    have h := FEq_any P P w hm hm
    rw [decide_eq_true rfl] at h
    exact h
  have HPN := Lib.hid (fun w => FPlain_yes P w hm)
  have HFM := Lib.hid (fun w => FMay_yes P w hm)
  have HPP : Hid (∀ W, (binOp .eql 34 P.val P.val).run Tryd.prog W = .ok (.bool true) W) := by
    show ∀ W, _
    intro W
    rw [eql_pin, decide_eq_true rfl]
  obtain ⟨d, hd⟩ : ∃ d, d = decide (P.pl = Q.pl) := ⟨_, rfl⟩
  have heg := fun w => FEq_any P Q w hm (of_decide_eq_true hmq)
  have hqe := fun W => eql_pin P Q W
  rw [← hd] at heg hqe
  have HEG := Lib.hid heg
  have HQE := Lib.hid hqe
  clear heg hqe hd
  clear hm
  clear hC hlp hlq hP hQ hmp hmq
  go_enter Tryd.func7, Tryd.ntmps7
  go_wp2_with (first
    | ((with_reducible refine wpList_boxS rfl 34 _ (.tmp 0) rfl rfl (run_boxPl p.seat p.count p.cmd p.kind p.sort p.nr p.ns p.pf p.body) ?_); intro w1 hb1 hlt1 hh1; have HB1 := Lib.hid hb1; have HP1 := Lib.hid hh1; clear hb1 hh1)
    | ((with_reducible refine wpList_boxS rfl 34 _ (.tmp 1) rfl rfl (run_boxPl q.seat q.count q.cmd q.kind q.sort q.nr q.ns q.pf q.body) ?_); intro w2 hb2 hlt2 hh2; have HB2 := Lib.hid (bel_trans HB1.out hb2); have HP2 := Lib.hid (keep_at HP1.out hb2); have HQ2 := Lib.hid hh2; clear hb2 hh2)
    | (go_at_call 20; refine (begun4_any _ (HC.out.below HB2.out)).mono ?_; rintro e w3 ⟨rfl, hb⟩; have HB3 := Lib.hid (bel_trans HB2.out hb); have HP3 := Lib.hid (keep_at HP2.out hb); have HQ3 := Lib.hid (keep_at HQ2.out hb); clear hb))
  have hlt01 : w.heap.size ≤ w1.heap.size := HB1.out.size
  have hne : w.heap.size ≠ w1.heap.size := Nat.ne_of_lt (lt_at HP1.out)
  have HBs : Hid (From w w3.drew) := by show From _ _; exact HB3.out.drew
  have HPs : Hid (w3.drew.heap[w.heap.size]? = some (.cells #[.int .i64 p.seat, .int .i64 p.count, .bool p.cmd, .int .i64 p.kind, .int .i64 p.sort, .int .i64 p.nr, .int .i64 p.ns, .bool p.pf, .string p.body] 34 (0, 0))) := by show _ = _; exact HP3.out
  have HQs : Hid (w3.drew.heap[w1.heap.size]? = some (.cells #[.int .i64 q.seat, .int .i64 q.count, .bool q.cmd, .int .i64 q.kind, .int .i64 q.sort, .int .i64 q.nr, .int .i64 q.ns, .bool q.pf, .string q.body] 34 (0, 0))) := by show _ = _; exact HQ3.out
  refine' region_shared (fun W => From w W ∧ W.heap[w.heap.size]? = some (.cells #[.int .i64 P.seat, .int .i64 P.count, .bool P.cmd, .int .i64 P.kind, .int .i64 P.sort, .int .i64 P.nr, .int .i64 P.ns, .bool P.pf, .string P.body] 34 (0, 0)) ∧ W.heap[w1.heap.size]? = some (.cells #[.int .i64 Q.seat, .int .i64 Q.count, .bool Q.cmd, .int .i64 Q.kind, .int .i64 Q.sort, .int .i64 Q.nr, .int .i64 Q.ns, .bool Q.pf, .string Q.body] 34 (0, 0))) _ ?cont ?reg
  case reg =>
    intro hK
    refine rests_begin (From w) (by kernel_rfl) ?_
    refine rests_two 0 2 (oi := _) (oj := _) (by simp only [List.getElem?_toArray, List.getElem?_cons_zero]; rfl) (by simp only [List.getElem?_toArray, List.getElem?_cons_succ, List.getElem?_cons_zero]; rfl) (by kernel_rfl) (by rfl) (by rfl) ?_ ?_
    · skip
      refine wp_val (v := .agg #[.int .i64 p.seat, .int .i64 p.count, .bool p.cmd, .int .i64 p.kind, .int .i64 p.sort, .int .i64 p.nr, .int .i64 p.ns, .bool p.pf, .string p.body]) (exec_loadB rfl rfl HPs.out Tryd.underlying34 rfl (by kernel_rfl)) ⟨HBs.out, ?_⟩
      simp only [Act.put, List.setIfInBounds_toArray, List.set_cons_zero, List.set_cons_succ]
      refine rests_two 1 2 (oi := _) (oj := _) (by simp only [List.getElem?_toArray, List.getElem?_cons_succ, List.getElem?_cons_zero]; rfl) (by simp only [List.getElem?_toArray, List.getElem?_cons_succ, List.getElem?_cons_zero]; rfl) (by kernel_rfl) (by rfl) (by rfl) ?_ ?_
      · skip
        refine wp_enter (f := 32) (args := #[.agg #[.int .i64 p.seat, .int .i64 p.count, .bool p.cmd, .int .i64 p.kind, .int .i64 p.sort, .int .i64 p.nr, .int .i64 p.ns, .bool p.pf, .string p.body]]) (by go_simp) (HLP.out _) ?_
        rintro e w4 ⟨rfl, hb⟩; have HB4 := Lib.hid (bel_trans HBs.out hb); have HP4 := Lib.hid (keep_at HPs.out hb); have HQ4 := Lib.hid (keep_at HQs.out hb); refine ⟨_, rfl, HB4.out, ?_⟩; clear hb
        simp only [Act.put, List.setIfInBounds_toArray, List.set_cons_zero, List.set_cons_succ]
        refine rests_run 2 (oi := _) (by simp only [List.getElem?_toArray, List.getElem?_cons_succ, List.getElem?_cons_zero]; rfl) (by kernel_rfl) (by rfl) (.agg #[.int .i64 q.seat, .int .i64 q.count, .bool q.cmd, .int .i64 q.kind, .int .i64 q.sort, .int .i64 q.nr, .int .i64 q.ns, .bool q.pf, .string q.body]) _ (exec_loadB rfl rfl HQ4.out Tryd.underlying34 rfl (by kernel_rfl)) ⟨HB4.out, ?_⟩
        simp only [Act.put, List.setIfInBounds_toArray, List.set_cons_zero, List.set_cons_succ]
        refine rests_call 3 (oi := _) (by simp only [List.getElem?_toArray, List.getElem?_cons_succ, List.getElem?_cons_zero]; rfl) 32 #[.agg #[.int .i64 q.seat, .int .i64 q.count, .bool q.cmd, .int .i64 q.kind, .int .i64 q.sort, .int .i64 q.nr, .int .i64 q.ns, .bool q.pf, .string q.body]] _ (by kernel_rfl) (by rfl) (by go_simp) (HLQ.out _) ?_
        rintro e w5 ⟨rfl, hb⟩; have HB5 := Lib.hid (bel_trans HB4.out hb); have HP5 := Lib.hid (keep_at HP4.out hb); have HQ5 := Lib.hid (keep_at HQ4.out hb); refine ⟨_, rfl, HB5.out, ?_⟩; clear hb
        simp only [Act.put, List.setIfInBounds_toArray, List.set_cons_zero, List.set_cons_succ]
        refine rests_storeB 4 (oi := _) (by simp only [List.getElem?_toArray, List.getElem?_cons_succ, List.getElem?_cons_zero]; rfl) (by kernel_rfl) (by rfl) 34 (.tmp 2) (.tmp 18) rfl w.heap.size #[.int .i64 P.seat, .int .i64 P.count, .bool P.cmd, .int .i64 P.kind, .int .i64 P.sort, .int .i64 P.nr, .int .i64 P.ns, .bool P.pf, .string P.body] rfl rfl 34 _ HP5.out (by kernel_rfl) rfl (by kernel_rfl) ?_
        intro w6 hg6 hz6 hh6; have HB6 := Lib.hid (bel_grown HB5.out hg6 (Nat.le_refl _)); have HP6 := Lib.hid hh6; have HQ6 := Lib.hid (keep_grown HQ5.out hg6 hne.symm); refine ⟨HB6.out, ?_⟩; clear hg6 hz6 hh6
        simp only [Act.put, List.setIfInBounds_toArray, List.set_cons_zero, List.set_cons_succ]
        refine rests_storeB 5 (oi := _) (by simp only [List.getElem?_toArray, List.getElem?_cons_succ, List.getElem?_cons_zero]; rfl) (by kernel_rfl) (by rfl) 34 (.tmp 3) (.tmp 20) rfl w1.heap.size #[.int .i64 Q.seat, .int .i64 Q.count, .bool Q.cmd, .int .i64 Q.kind, .int .i64 Q.sort, .int .i64 Q.nr, .int .i64 Q.ns, .bool Q.pf, .string Q.body] rfl rfl 34 _ HQ6.out (by kernel_rfl) rfl (by kernel_rfl) ?_
        intro w7 hg7 hz7 hh7; have HB7 := Lib.hid (bel_grown HB6.out hg7 hlt01); have HQ7 := Lib.hid hh7; have HP7 := Lib.hid (keep_grown HP6.out hg7 hne); refine ⟨HB7.out, ?_⟩; clear hg7 hz7 hh7
        simp only [Act.put, List.setIfInBounds_toArray, List.set_cons_zero, List.set_cons_succ]
        refine rests_done (by kernel_rfl) ?_
        exact hK w7 ⟨HB7.out, HP7.out, HQ7.out⟩
      · skip
        refine wp_val (v := .agg #[.int .i64 q.seat, .int .i64 q.count, .bool q.cmd, .int .i64 q.kind, .int .i64 q.sort, .int .i64 q.nr, .int .i64 q.ns, .bool q.pf, .string q.body]) (exec_loadB rfl rfl HQs.out Tryd.underlying34 rfl (by kernel_rfl)) ⟨HBs.out, ?_⟩
        simp only [Act.put, List.setIfInBounds_toArray, List.set_cons_zero, List.set_cons_succ]
        refine rests_call 1 (oi := _) (by simp only [List.getElem?_toArray, List.getElem?_cons_succ, List.getElem?_cons_zero]; rfl) 32 #[.agg #[.int .i64 p.seat, .int .i64 p.count, .bool p.cmd, .int .i64 p.kind, .int .i64 p.sort, .int .i64 p.nr, .int .i64 p.ns, .bool p.pf, .string p.body]] _ (by kernel_rfl) (by rfl) (by go_simp) (HLP.out _) ?_
        rintro e w4 ⟨rfl, hb⟩; have HB4 := Lib.hid (bel_trans HBs.out hb); have HP4 := Lib.hid (keep_at HPs.out hb); have HQ4 := Lib.hid (keep_at HQs.out hb); refine ⟨_, rfl, HB4.out, ?_⟩; clear hb
        simp only [Act.put, List.setIfInBounds_toArray, List.set_cons_zero, List.set_cons_succ]
        refine rests_call 3 (oi := _) (by simp only [List.getElem?_toArray, List.getElem?_cons_succ, List.getElem?_cons_zero]; rfl) 32 #[.agg #[.int .i64 q.seat, .int .i64 q.count, .bool q.cmd, .int .i64 q.kind, .int .i64 q.sort, .int .i64 q.nr, .int .i64 q.ns, .bool q.pf, .string q.body]] _ (by kernel_rfl) (by rfl) (by go_simp) (HLQ.out _) ?_
        rintro e w5 ⟨rfl, hb⟩; have HB5 := Lib.hid (bel_trans HB4.out hb); have HP5 := Lib.hid (keep_at HP4.out hb); have HQ5 := Lib.hid (keep_at HQ4.out hb); refine ⟨_, rfl, HB5.out, ?_⟩; clear hb
        simp only [Act.put, List.setIfInBounds_toArray, List.set_cons_zero, List.set_cons_succ]
        refine rests_storeB 4 (oi := _) (by simp only [List.getElem?_toArray, List.getElem?_cons_succ, List.getElem?_cons_zero]; rfl) (by kernel_rfl) (by rfl) 34 (.tmp 2) (.tmp 18) rfl w.heap.size #[.int .i64 P.seat, .int .i64 P.count, .bool P.cmd, .int .i64 P.kind, .int .i64 P.sort, .int .i64 P.nr, .int .i64 P.ns, .bool P.pf, .string P.body] rfl rfl 34 _ HP5.out (by kernel_rfl) rfl (by kernel_rfl) ?_
        intro w6 hg6 hz6 hh6; have HB6 := Lib.hid (bel_grown HB5.out hg6 (Nat.le_refl _)); have HP6 := Lib.hid hh6; have HQ6 := Lib.hid (keep_grown HQ5.out hg6 hne.symm); refine ⟨HB6.out, ?_⟩; clear hg6 hz6 hh6
        simp only [Act.put, List.setIfInBounds_toArray, List.set_cons_zero, List.set_cons_succ]
        refine rests_storeB 5 (oi := _) (by simp only [List.getElem?_toArray, List.getElem?_cons_succ, List.getElem?_cons_zero]; rfl) (by kernel_rfl) (by rfl) 34 (.tmp 3) (.tmp 20) rfl w1.heap.size #[.int .i64 Q.seat, .int .i64 Q.count, .bool Q.cmd, .int .i64 Q.kind, .int .i64 Q.sort, .int .i64 Q.nr, .int .i64 Q.ns, .bool Q.pf, .string Q.body] rfl rfl 34 _ HQ6.out (by kernel_rfl) rfl (by kernel_rfl) ?_
        intro w7 hg7 hz7 hh7; have HB7 := Lib.hid (bel_grown HB6.out hg7 hlt01); have HQ7 := Lib.hid hh7; have HP7 := Lib.hid (keep_grown HP6.out hg7 hne); refine ⟨HB7.out, ?_⟩; clear hg7 hz7 hh7
        simp only [Act.put, List.setIfInBounds_toArray, List.set_cons_zero, List.set_cons_succ]
        refine rests_done (by kernel_rfl) ?_
        exact hK w7 ⟨HB7.out, HP7.out, HQ7.out⟩
    · skip
      refine wp_val (v := .agg #[.int .i64 q.seat, .int .i64 q.count, .bool q.cmd, .int .i64 q.kind, .int .i64 q.sort, .int .i64 q.nr, .int .i64 q.ns, .bool q.pf, .string q.body]) (exec_loadB rfl rfl HQs.out Tryd.underlying34 rfl (by kernel_rfl)) ⟨HBs.out, ?_⟩
      simp only [Act.put, List.setIfInBounds_toArray, List.set_cons_zero, List.set_cons_succ]
      refine rests_run 0 (oi := _) (by simp only [List.getElem?_toArray, List.getElem?_cons_zero]; rfl) (by kernel_rfl) (by rfl) (.agg #[.int .i64 p.seat, .int .i64 p.count, .bool p.cmd, .int .i64 p.kind, .int .i64 p.sort, .int .i64 p.nr, .int .i64 p.ns, .bool p.pf, .string p.body]) _ (exec_loadB rfl rfl HPs.out Tryd.underlying34 rfl (by kernel_rfl)) ⟨HBs.out, ?_⟩
      simp only [Act.put, List.setIfInBounds_toArray, List.set_cons_zero, List.set_cons_succ]
      refine rests_call 1 (oi := _) (by simp only [List.getElem?_toArray, List.getElem?_cons_succ, List.getElem?_cons_zero]; rfl) 32 #[.agg #[.int .i64 p.seat, .int .i64 p.count, .bool p.cmd, .int .i64 p.kind, .int .i64 p.sort, .int .i64 p.nr, .int .i64 p.ns, .bool p.pf, .string p.body]] _ (by kernel_rfl) (by rfl) (by go_simp) (HLP.out _) ?_
      rintro e w4 ⟨rfl, hb⟩; have HB4 := Lib.hid (bel_trans HBs.out hb); have HP4 := Lib.hid (keep_at HPs.out hb); have HQ4 := Lib.hid (keep_at HQs.out hb); refine ⟨_, rfl, HB4.out, ?_⟩; clear hb
      simp only [Act.put, List.setIfInBounds_toArray, List.set_cons_zero, List.set_cons_succ]
      refine rests_call 3 (oi := _) (by simp only [List.getElem?_toArray, List.getElem?_cons_succ, List.getElem?_cons_zero]; rfl) 32 #[.agg #[.int .i64 q.seat, .int .i64 q.count, .bool q.cmd, .int .i64 q.kind, .int .i64 q.sort, .int .i64 q.nr, .int .i64 q.ns, .bool q.pf, .string q.body]] _ (by kernel_rfl) (by rfl) (by go_simp) (HLQ.out _) ?_
      rintro e w5 ⟨rfl, hb⟩; have HB5 := Lib.hid (bel_trans HB4.out hb); have HP5 := Lib.hid (keep_at HP4.out hb); have HQ5 := Lib.hid (keep_at HQ4.out hb); refine ⟨_, rfl, HB5.out, ?_⟩; clear hb
      simp only [Act.put, List.setIfInBounds_toArray, List.set_cons_zero, List.set_cons_succ]
      refine rests_storeB 4 (oi := _) (by simp only [List.getElem?_toArray, List.getElem?_cons_succ, List.getElem?_cons_zero]; rfl) (by kernel_rfl) (by rfl) 34 (.tmp 2) (.tmp 18) rfl w.heap.size #[.int .i64 P.seat, .int .i64 P.count, .bool P.cmd, .int .i64 P.kind, .int .i64 P.sort, .int .i64 P.nr, .int .i64 P.ns, .bool P.pf, .string P.body] rfl rfl 34 _ HP5.out (by kernel_rfl) rfl (by kernel_rfl) ?_
      intro w6 hg6 hz6 hh6; have HB6 := Lib.hid (bel_grown HB5.out hg6 (Nat.le_refl _)); have HP6 := Lib.hid hh6; have HQ6 := Lib.hid (keep_grown HQ5.out hg6 hne.symm); refine ⟨HB6.out, ?_⟩; clear hg6 hz6 hh6
      simp only [Act.put, List.setIfInBounds_toArray, List.set_cons_zero, List.set_cons_succ]
      refine rests_storeB 5 (oi := _) (by simp only [List.getElem?_toArray, List.getElem?_cons_succ, List.getElem?_cons_zero]; rfl) (by kernel_rfl) (by rfl) 34 (.tmp 3) (.tmp 20) rfl w1.heap.size #[.int .i64 Q.seat, .int .i64 Q.count, .bool Q.cmd, .int .i64 Q.kind, .int .i64 Q.sort, .int .i64 Q.nr, .int .i64 Q.ns, .bool Q.pf, .string Q.body] rfl rfl 34 _ HQ6.out (by kernel_rfl) rfl (by kernel_rfl) ?_
      intro w7 hg7 hz7 hh7; have HB7 := Lib.hid (bel_grown HB6.out hg7 hlt01); have HQ7 := Lib.hid hh7; have HP7 := Lib.hid (keep_grown HP6.out hg7 hne); refine ⟨HB7.out, ?_⟩; clear hg7 hz7 hh7
      simp only [Act.put, List.setIfInBounds_toArray, List.set_cons_zero, List.set_cons_succ]
      refine rests_done (by kernel_rfl) ?_
      exact hK w7 ⟨HB7.out, HP7.out, HQ7.out⟩
  case cont =>
    clear HBs HPs HQs HP3 HQ3 HP2 HQ2 HP1 hlt1 hlt2
    rintro w7 ⟨hb7, hp7, hq7⟩
    have HB7 := Lib.hid hb7
    have HP7 := Lib.hid hp7
    have HQ7 := Lib.hid hq7
    clear hb7 hp7 hq7
    go_wp2_with (first
      | (with_reducible refine wpList_loadB rfl 34 (.tmp 2) rfl w.heap.size rfl 34 #[.int .i64 P.seat, .int .i64 P.count, .bool P.cmd, .int .i64 P.kind, .int .i64 P.sort, .int .i64 P.nr, .int .i64 P.ns, .bool P.pf, .string P.body] HP7.out _ Tryd.underlying34 rfl (by kernel_rfl) ?_)
      | (go_at_call_of 45 (Value.agg #[.int .i64 P.seat, .int .i64 P.count, .bool P.cmd, .int .i64 P.kind, .int .i64 P.sort, .int .i64 P.nr, .int .i64 P.ns, .bool P.pf, .string P.body]); ((with_reducible refine (HOP.out _ (HC.out.below HB7.out)).mono ?_); rintro e w8 ⟨rfl, hb⟩; have HB8 := Lib.hid (bel_trans HB7.out hb); have HP8 := Lib.hid (keep_at HP7.out hb); have HQ8 := Lib.hid (keep_at HQ7.out hb); clear hb))
      | ((with_reducible refine wpList_storeB rfl 60 (.tmp 6) _ rfl w8.heap.size #[.int .i64 P.seat, .int .i64 P.count, .bool P.cmd, cv ⟨P.kind, P.sort, P.nr, P.ns, P.pf⟩, .string P.body] rfl rfl 60 _ (heap_alloc_new w8 _) (by kernel_rfl) rfl (frone _ _ _ _ _) ?_); intro w9 hg hz hh; have HB9 := Lib.hid (bel_grown (bal HB8.out _) hg HB8.out.size); have HF9 := Lib.hid hh; have HP9 := Lib.hid (keep_grown (keep_at HP8.out (bal (bel0 w8) _)) hg (Nat.ne_of_lt (lt_at HP8.out))); have HQ9 := Lib.hid (keep_grown (keep_at HQ8.out (bal (bel0 w8) _)) hg (Nat.ne_of_lt (lt_at HQ8.out))); clear hg hz hh)
      | (with_reducible refine wpList_loadB rfl 34 (.tmp 3) rfl w1.heap.size rfl 34 #[.int .i64 Q.seat, .int .i64 Q.count, .bool Q.cmd, .int .i64 Q.kind, .int .i64 Q.sort, .int .i64 Q.nr, .int .i64 Q.ns, .bool Q.pf, .string Q.body] HQ9.out _ Tryd.underlying34 rfl (by kernel_rfl) ?_)
      | (go_at_call_of 45 (Value.agg #[.int .i64 Q.seat, .int .i64 Q.count, .bool Q.cmd, .int .i64 Q.kind, .int .i64 Q.sort, .int .i64 Q.nr, .int .i64 Q.ns, .bool Q.pf, .string Q.body]); ((with_reducible refine (HOQ.out _ (HC.out.below HB9.out)).mono ?_); rintro e w10 ⟨rfl, hb⟩; have HB10 := Lib.hid (bel_trans HB9.out hb); have HP10 := Lib.hid (keep_at HP9.out hb); have HQ10 := Lib.hid (keep_at HQ9.out hb); have HF10 := Lib.hid (keep_at HF9.out hb); clear hb))
      | ((with_reducible refine wpList_storeB rfl 60 (.tmp 8) _ rfl w10.heap.size #[.int .i64 Q.seat, .int .i64 Q.count, .bool Q.cmd, cv ⟨Q.kind, Q.sort, Q.nr, Q.ns, Q.pf⟩, .string Q.body] rfl rfl 60 _ (heap_alloc_new w10 _) (by kernel_rfl) rfl (frone _ _ _ _ _) ?_); intro w11 hg hz hh; have HB11 := Lib.hid (bel_grown (bal HB10.out _) hg HB10.out.size); have HG11 := Lib.hid hh; have HP11 := Lib.hid (keep_grown (keep_at HP10.out (bal (bel0 w10) _)) hg (Nat.ne_of_lt (lt_at HP10.out))); have HQ11 := Lib.hid (keep_grown (keep_at HQ10.out (bal (bel0 w10) _)) hg (Nat.ne_of_lt (lt_at HQ10.out))); have HF11 := Lib.hid (keep_grown (keep_at HF10.out (bal (bel0 w10) _)) hg (Nat.ne_of_lt (lt_at HF10.out))); clear hg hz hh)
      | (with_reducible refine wpList_loadB rfl 34 (.tmp 2) rfl w.heap.size rfl 34 #[.int .i64 P.seat, .int .i64 P.count, .bool P.cmd, .int .i64 P.kind, .int .i64 P.sort, .int .i64 P.nr, .int .i64 P.ns, .bool P.pf, .string P.body] HP11.out _ Tryd.underlying34 rfl (by kernel_rfl) ?_)
      | (go_at_call_of 46 (Value.agg #[.int .i64 P.seat, .int .i64 P.count, .bool P.cmd, .int .i64 P.kind, .int .i64 P.sort, .int .i64 P.nr, .int .i64 P.ns, .bool P.pf, .string P.body]); ((with_reducible refine (HMP.out _).mono ?_); rintro e w12 ⟨rfl, hb⟩; have HB12 := Lib.hid (bel_trans HB11.out hb); have HP12 := Lib.hid (keep_at HP11.out hb); have HQ12 := Lib.hid (keep_at HQ11.out hb); have HF12 := Lib.hid (keep_at HF11.out hb); have HG12 := Lib.hid (keep_at HG11.out hb); have k0 := cell_at HQ12.out 0 _ rfl; have k1 := cell_at HQ12.out 1 _ rfl; have k2 := cell_at HQ12.out 2 _ rfl; have k3 := cell_at HQ12.out 3 _ rfl; have k4 := cell_at HQ12.out 4 _ rfl; have k5 := cell_at HQ12.out 5 _ rfl; have k6 := cell_at HQ12.out 6 _ rfl; have k7 := cell_at HQ12.out 7 _ rfl; have k8 := cell_at HQ12.out 8 _ rfl; clear hb))
      | (with_reducible refine wpList_loadB rfl 34 (.tmp 3) rfl w1.heap.size rfl 34 #[.int .i64 Q.seat, .int .i64 Q.count, .bool Q.cmd, .int .i64 Q.kind, .int .i64 Q.sort, .int .i64 Q.nr, .int .i64 Q.ns, .bool Q.pf, .string Q.body] HQ12.out _ Tryd.underlying34 rfl (by kernel_rfl) ?_)
      | (go_at_call_of 46 (Value.agg #[.int .i64 Q.seat, .int .i64 Q.count, .bool Q.cmd, .int .i64 Q.kind, .int .i64 Q.sort, .int .i64 Q.nr, .int .i64 Q.ns, .bool Q.pf, .string Q.body]); ((with_reducible refine (HMQ.out _).mono ?_); rintro e w13 ⟨rfl, hb⟩; have HB13 := Lib.hid (bel_trans HB12.out hb); have HP13 := Lib.hid (keep_at HP12.out hb); have HQ13 := Lib.hid (keep_at HQ12.out hb); have HF13 := Lib.hid (keep_at HF12.out hb); have HG13 := Lib.hid (keep_at HG12.out hb);  clear hb))
      | (with_reducible refine wpList_loadB rfl 60 (.tmp 6) rfl w8.heap.size rfl 60 #[.int .i64 P.seat, .int .i64 P.count, .bool P.cmd, cv ⟨P.kind, P.sort, P.nr, P.ns, P.pf⟩, .string P.body] HF13.out _ Tryd.underlying60 rfl (by kernel_rfl) ?_)
      | (go_at_call 47; ((with_reducible refine (HPU.out _ (HC.out.below HB13.out)).mono ?_); rintro e w14 ⟨u, rfl, hu, hb⟩; have HB14 := Lib.hid (bel_trans HB13.out hb); have HP14 := Lib.hid (keep_at HP13.out hb); have HQ14 := Lib.hid (keep_at HQ13.out hb); have HF14 := Lib.hid (keep_at HF13.out hb); have HG14 := Lib.hid (keep_at HG13.out hb); have HU14 := Lib.hid hu.rds; obtain ⟨Au, cu, rfl, _⟩ := hu.rds; clear hu hb))
      | (go_at_call 48; ((with_reducible refine (HGT.out _ _ HU14.out (HC.out.below HB14.out)).mono ?_); rintro e w15 ⟨rfl, hb⟩; have HB15 := Lib.hid (bel_trans HB14.out hb); have HP15 := Lib.hid (keep_at HP14.out hb); have HQ15 := Lib.hid (keep_at HQ14.out hb); have HF15 := Lib.hid (keep_at HF14.out hb); have HG15 := Lib.hid (keep_at HG14.out hb); have HU15 := Lib.hid (HU14.out.below hb); clear hb))
      | ((with_reducible refine wpList_storeB rfl 60 (.tmp 12) _ rfl w15.heap.size #[.int .i64 P.seat, .int .i64 P.count, .bool P.cmd, cv ⟨P.kind, P.sort, P.nr, P.ns, P.pf⟩, .string P.body] rfl rfl 60 _ (heap_alloc_new w15 _) (by kernel_rfl) rfl (frone _ _ _ _ _) ?_); intro w16 hg hz hh; have HB16 := Lib.hid (bel_grown (bal HB15.out _) hg HB15.out.size); have HH16 := Lib.hid hh; have HP16 := Lib.hid (keep_grown (keep_at HP15.out (bal (bel0 w15) _)) hg (Nat.ne_of_lt (lt_at HP15.out))); have HQ16 := Lib.hid (keep_grown (keep_at HQ15.out (bal (bel0 w15) _)) hg (Nat.ne_of_lt (lt_at HQ15.out))); have HF16 := Lib.hid (keep_grown (keep_at HF15.out (bal (bel0 w15) _)) hg (Nat.ne_of_lt (lt_at HF15.out))); have HG16 := Lib.hid (keep_grown (keep_at HG15.out (bal (bel0 w15) _)) hg (Nat.ne_of_lt (lt_at HG15.out))); have HU16 := Lib.hid ((HU15.out.alloc _).grown hg (HU15.out.apart_new (Nat.le_refl _))); clear hg hz hh))
    refine rest_begin (by kernel_rfl) ?_
    refine rest_take 0 (oi := _) (v := ?_) (by simp only [List.getElem?_toArray, List.getElem?_cons_zero]; rfl) (by kernel_rfl) (by kernel_rfl) (by kernel_rfl) (by exact fun _ _ _ h => h) (by rfl) ?_ ?_; rotate_left; (· intro W HW; go_simp; try with_reducible rfl)
    simp only [Act.put, List.setIfInBounds_toArray, List.set_cons_zero, List.set_cons_succ]
    refine rest_take 1 (oi := _) (v := ?_) (by simp only [List.getElem?_toArray, List.getElem?_cons_succ, List.getElem?_cons_zero]; rfl) (by kernel_rfl) (by kernel_rfl) (by kernel_rfl) (by exact fun _ _ _ h => h) (by rfl) ?_ ?_; rotate_left; (· intro W HW; go_simp; try with_reducible rfl)
    simp only [Act.put, List.setIfInBounds_toArray, List.set_cons_zero, List.set_cons_succ]
    refine rest_take 2 (oi := _) (v := ?_) (by simp only [List.getElem?_toArray, List.getElem?_cons_succ, List.getElem?_cons_zero]; rfl) (by kernel_rfl) (by kernel_rfl) (by kernel_rfl) (by exact fun _ _ _ h => h) (by rfl) ?_ ?_; rotate_left; (· intro W HW; go_simp; try with_reducible rfl)
    simp only [Act.put, List.setIfInBounds_toArray, List.set_cons_zero, List.set_cons_succ]
    refine rest_conv 3 (oi := _) (by simp only [List.getElem?_toArray, List.getElem?_cons_succ, List.getElem?_cons_zero]; rfl) (.tmp 63) _ (putF P.pl) (by kernel_rfl) (by kernel_rfl) (by kernel_rfl) (by exact fun _ _ _ h => h) (by rfl) rfl rfl HU16.out ?_
    simp only [Act.put, List.setIfInBounds_toArray, List.set_cons_zero, List.set_cons_succ]
    refine rest_loadB 4 (oi := _) (by simp only [List.getElem?_toArray, List.getElem?_cons_succ, List.getElem?_cons_zero]; rfl) (by kernel_rfl) (by kernel_rfl) (by kernel_rfl) #[.int .i64 P.seat, .int .i64 P.count, .bool P.cmd, .int .i64 P.kind, .int .i64 P.sort, .int .i64 P.nr, .int .i64 P.ns, .bool P.pf, .string P.body] (by exact fun _ _ _ h => h) (by rfl) 34 (.tmp 2) rfl _ rfl _ (HP16.out) _ Tryd.underlying34 rfl (by kernel_rfl) ?_
    simp only [Act.put, List.setIfInBounds_toArray, List.set_cons_zero, List.set_cons_succ]
    refine rest_call 5 (oi := _) (by simp only [List.getElem?_toArray, List.getElem?_cons_succ, List.getElem?_cons_zero]; rfl) 49 #[.agg #[.int .i64 P.seat, .int .i64 P.count, .bool P.cmd, .int .i64 P.kind, .int .i64 P.sort, .int .i64 P.nr, .int .i64 P.ns, .bool P.pf, .string P.body]] _ (by kernel_rfl) (by rfl) (by go_simp) (HRP.out w16.drew) ?_
    rintro e w17 ⟨u2, rfl, hu2, hb⟩; refine ⟨_, rfl, hb, ?_⟩; have HV17 := Lib.hid hu2.rds; obtain ⟨Av, cv2, rfl, _⟩ := hu2.rds; have HB17 := Lib.hid (bel_trans HB16.out.drew hb); have HP17 := Lib.hid (keep_at (w := w16.drew) HP16.out hb); have HQ17 := Lib.hid (keep_at (w := w16.drew) HQ16.out hb); have HF17 := Lib.hid (keep_at (w := w16.drew) HF16.out hb); have HG17 := Lib.hid (keep_at (w := w16.drew) HG16.out hb); have HH17 := Lib.hid (keep_at (w := w16.drew) HH16.out hb); clear hb hu2
    simp only [Act.put, List.setIfInBounds_toArray, List.set_cons_zero, List.set_cons_succ]
    refine rest_conv 6 (oi := _) (by simp only [List.getElem?_toArray, List.getElem?_cons_succ, List.getElem?_cons_zero]; rfl) (.tmp 66) _ (putF P.pl) (by kernel_rfl) (by kernel_rfl) (by kernel_rfl) (by exact fun _ _ _ h => h) (by rfl) rfl rfl HV17.out ?_
    simp only [Act.put, List.setIfInBounds_toArray, List.set_cons_zero, List.set_cons_succ]
    refine rest_take 7 (oi := _) (v := .bool true) (by simp only [List.getElem?_toArray, List.getElem?_cons_succ, List.getElem?_cons_zero]; rfl) (by kernel_rfl) (by kernel_rfl) (by kernel_rfl) (by exact fun _ _ _ h => h) (by rfl) (fun W HW => exec_cmp rfl rfl rfl (guard_str _ _ _ _ _ _ W) (eql_str _ W)) ?_
    simp only [Act.put, List.setIfInBounds_toArray, List.set_cons_zero, List.set_cons_succ]
    refine rest_take 8 (oi := _) (v := ?_) (by simp only [List.getElem?_toArray, List.getElem?_cons_succ, List.getElem?_cons_zero]; rfl) (by kernel_rfl) (by kernel_rfl) (by kernel_rfl) (by exact fun _ _ _ h => h) (by rfl) ?_ ?_; rotate_left; (· intro W HW; go_simp; try with_reducible rfl)
    simp only [Act.put, List.setIfInBounds_toArray, List.set_cons_zero, List.set_cons_succ]
    refine rest_take 9 (oi := _) (v := ?_) (by simp only [List.getElem?_toArray, List.getElem?_cons_succ, List.getElem?_cons_zero]; rfl) (by kernel_rfl) (by kernel_rfl) (by kernel_rfl) (by exact fun _ _ _ h => h) (by rfl) ?_ ?_; rotate_left; (· intro W HW; go_simp; try with_reducible rfl)
    simp only [Act.put, List.setIfInBounds_toArray, List.set_cons_zero, List.set_cons_succ]
    refine rest_take 10 (oi := _) (v := ?_) (by simp only [List.getElem?_toArray, List.getElem?_cons_succ, List.getElem?_cons_zero]; rfl) (by kernel_rfl) (by kernel_rfl) (by kernel_rfl) (by exact fun _ _ _ h => h) (by rfl) ?_ ?_; rotate_left; (· intro W HW; go_simp; try with_reducible rfl)
    simp only [Act.put, List.setIfInBounds_toArray, List.set_cons_zero, List.set_cons_succ]
    refine rest_take 11 (oi := _) (v := ?_) (by simp only [List.getElem?_toArray, List.getElem?_cons_succ, List.getElem?_cons_zero]; rfl) (by kernel_rfl) (by kernel_rfl) (by kernel_rfl) (by exact fun _ _ _ h => h) (by rfl) ?_ ?_; rotate_left; (· intro W HW; go_simp; try with_reducible rfl)
    simp only [Act.put, List.setIfInBounds_toArray, List.set_cons_zero, List.set_cons_succ]
    refine rest_take 12 (oi := _) (v := ?_) (by simp only [List.getElem?_toArray, List.getElem?_cons_succ, List.getElem?_cons_zero]; rfl) (by kernel_rfl) (by kernel_rfl) (by kernel_rfl) (by exact fun _ _ _ h => h) (by rfl) ?_ ?_; rotate_left; (· intro W HW; go_simp; try with_reducible rfl)
    simp only [Act.put, List.setIfInBounds_toArray, List.set_cons_zero, List.set_cons_succ]
    refine rest_loadB 13 (oi := _) (by simp only [List.getElem?_toArray, List.getElem?_cons_succ, List.getElem?_cons_zero]; rfl) (by kernel_rfl) (by kernel_rfl) (by kernel_rfl) #[.int .i64 P.seat, .int .i64 P.count, .bool P.cmd, cv ⟨P.kind, P.sort, P.nr, P.ns, P.pf⟩, .string P.body] (by exact fun _ _ _ h => h) (by rfl) 60 (.tmp 12) rfl _ rfl _ (HH17.out) _ Tryd.underlying60 rfl (by kernel_rfl) ?_
    simp only [Act.put, List.setIfInBounds_toArray, List.set_cons_zero, List.set_cons_succ]
    refine rest_loadB 14 (oi := _) (by simp only [List.getElem?_toArray, List.getElem?_cons_succ, List.getElem?_cons_zero]; rfl) (by kernel_rfl) (by kernel_rfl) (by kernel_rfl) #[.int .i64 P.seat, .int .i64 P.count, .bool P.cmd, cv ⟨P.kind, P.sort, P.nr, P.ns, P.pf⟩, .string P.body] (by exact fun _ _ _ h => h) (by rfl) 60 (.tmp 6) rfl _ rfl _ (HF17.out) _ Tryd.underlying60 rfl (by kernel_rfl) ?_
    simp only [Act.put, List.setIfInBounds_toArray, List.set_cons_zero, List.set_cons_succ]
    refine rest_call 15 (oi := _) (by simp only [List.getElem?_toArray, List.getElem?_cons_succ, List.getElem?_cons_zero]; rfl) 50 #[.agg #[.int .i64 P.seat, .int .i64 P.count, .bool P.cmd, cv ⟨P.kind, P.sort, P.nr, P.ns, P.pf⟩, .string P.body], .agg #[.int .i64 P.seat, .int .i64 P.count, .bool P.cmd, cv ⟨P.kind, P.sort, P.nr, P.ns, P.pf⟩, .string P.body]] _ (by kernel_rfl) (by rfl) (by go_simp) (HEH.out w17) ?_
    rintro e w18 ⟨rfl, hb⟩; refine ⟨_, rfl, hb, ?_⟩; have HB18 := Lib.hid (bel_trans HB17.out hb); have HP18 := Lib.hid (keep_at HP17.out hb); have HQ18 := Lib.hid (keep_at HQ17.out hb); have HF18 := Lib.hid (keep_at HF17.out hb); have HG18 := Lib.hid (keep_at HG17.out hb); have HH18 := Lib.hid (keep_at HH17.out hb); clear hb
    simp only [Act.put, List.setIfInBounds_toArray, List.set_cons_zero, List.set_cons_succ]
    refine rest_take 16 (oi := _) (v := ?_) (by simp only [List.getElem?_toArray, List.getElem?_cons_succ, List.getElem?_cons_zero]; rfl) (by kernel_rfl) (by kernel_rfl) (by kernel_rfl) (by exact fun _ _ _ h => h) (by rfl) ?_ ?_; rotate_left; (· intro W HW; go_simp; try with_reducible rfl)
    simp only [Act.put, List.setIfInBounds_toArray, List.set_cons_zero, List.set_cons_succ]
    refine rest_take 17 (oi := _) (v := ?_) (by simp only [List.getElem?_toArray, List.getElem?_cons_succ, List.getElem?_cons_zero]; rfl) (by kernel_rfl) (by kernel_rfl) (by kernel_rfl) (by exact fun _ _ _ h => h) (by rfl) ?_ ?_; rotate_left; (· intro W HW; go_simp; try with_reducible rfl)
    simp only [Act.put, List.setIfInBounds_toArray, List.set_cons_zero, List.set_cons_succ]
    refine rest_loadB 18 (oi := _) (by simp only [List.getElem?_toArray, List.getElem?_cons_succ, List.getElem?_cons_zero]; rfl) (by kernel_rfl) (by kernel_rfl) (by kernel_rfl) #[.int .i64 P.seat, .int .i64 P.count, .bool P.cmd, cv ⟨P.kind, P.sort, P.nr, P.ns, P.pf⟩, .string P.body] (by exact fun _ _ _ h => h) (by rfl) 60 (.tmp 6) rfl _ rfl _ (HF18.out) _ Tryd.underlying60 rfl (by kernel_rfl) ?_
    simp only [Act.put, List.setIfInBounds_toArray, List.set_cons_zero, List.set_cons_succ]
    refine rest_loadB 20 (oi := _) (by simp only [List.getElem?_toArray, List.getElem?_cons_succ, List.getElem?_cons_zero]; rfl) (by kernel_rfl) (by kernel_rfl) (by kernel_rfl) #[.int .i64 P.seat, .int .i64 P.count, .bool P.cmd, .int .i64 P.kind, .int .i64 P.sort, .int .i64 P.nr, .int .i64 P.ns, .bool P.pf, .string P.body] (by exact fun _ _ _ h => h) (by rfl) 34 (.tmp 2) rfl _ rfl _ (HP18.out) _ Tryd.underlying34 rfl (by kernel_rfl) ?_
    simp only [Act.put, List.setIfInBounds_toArray, List.set_cons_zero, List.set_cons_succ]
    refine rest_call 19 (oi := _) (by simp only [List.getElem?_toArray, List.getElem?_cons_succ, List.getElem?_cons_zero]; rfl) 51 #[.agg #[.int .i64 P.seat, .int .i64 P.count, .bool P.cmd, cv ⟨P.kind, P.sort, P.nr, P.ns, P.pf⟩, .string P.body]] _ (by kernel_rfl) (by rfl) (by go_simp) (HPN.out w18) ?_
    rintro e w19 ⟨rfl, hb⟩; refine ⟨_, rfl, hb, ?_⟩; have HB19 := Lib.hid (bel_trans HB18.out hb); have HP19 := Lib.hid (keep_at HP18.out hb); have HQ19 := Lib.hid (keep_at HQ18.out hb); have HF19 := Lib.hid (keep_at HF18.out hb); have HG19 := Lib.hid (keep_at HG18.out hb); have HH19 := Lib.hid (keep_at HH18.out hb); clear hb
    simp only [Act.put, List.setIfInBounds_toArray, List.set_cons_zero, List.set_cons_succ]
    refine rest_take 21 (oi := _) (v := .bool true) (by simp only [List.getElem?_toArray, List.getElem?_cons_succ, List.getElem?_cons_zero]; rfl) (by kernel_rfl) (by kernel_rfl) (by kernel_rfl) (by exact fun _ _ _ h => h) (by rfl) (fun W HW => exec_cmp rfl rfl rfl (guard_Pl _ _ _ _ _ W) (HPP.out W)) ?_
    simp only [Act.put, List.setIfInBounds_toArray, List.set_cons_zero, List.set_cons_succ]
    refine rest_take 22 (oi := _) (v := ?_) (by simp only [List.getElem?_toArray, List.getElem?_cons_succ, List.getElem?_cons_zero]; rfl) (by kernel_rfl) (by kernel_rfl) (by kernel_rfl) (by exact fun _ _ _ h => h) (by rfl) ?_ ?_; rotate_left; (· intro W HW; go_simp; try with_reducible rfl)
    simp only [Act.put, List.setIfInBounds_toArray, List.set_cons_zero, List.set_cons_succ]
    refine rest_take 23 (oi := _) (v := ?_) (by simp only [List.getElem?_toArray, List.getElem?_cons_succ, List.getElem?_cons_zero]; rfl) (by kernel_rfl) (by kernel_rfl) (by kernel_rfl) (by exact fun _ _ _ h => h) (by rfl) ?_ ?_; rotate_left; (· intro W HW; go_simp; try with_reducible rfl)
    simp only [Act.put, List.setIfInBounds_toArray, List.set_cons_zero, List.set_cons_succ]
    refine rest_loadB 24 (oi := _) (by simp only [List.getElem?_toArray, List.getElem?_cons_succ, List.getElem?_cons_zero]; rfl) (by kernel_rfl) (by kernel_rfl) (by kernel_rfl) #[.int .i64 P.seat, .int .i64 P.count, .bool P.cmd, cv ⟨P.kind, P.sort, P.nr, P.ns, P.pf⟩, .string P.body] (by exact fun _ _ _ h => h) (by rfl) 60 (.tmp 6) rfl _ rfl _ (HF19.out) _ Tryd.underlying60 rfl (by kernel_rfl) ?_
    simp only [Act.put, List.setIfInBounds_toArray, List.set_cons_zero, List.set_cons_succ]
    refine rest_call 25 (oi := _) (by simp only [List.getElem?_toArray, List.getElem?_cons_succ, List.getElem?_cons_zero]; rfl) 52 #[.agg #[.int .i64 P.seat, .int .i64 P.count, .bool P.cmd, cv ⟨P.kind, P.sort, P.nr, P.ns, P.pf⟩, .string P.body]] _ (by kernel_rfl) (by rfl) (by go_simp) (HFM.out w19) ?_
    rintro e w20 ⟨rfl, hb⟩; refine ⟨_, rfl, hb, ?_⟩; have HB20 := Lib.hid (bel_trans HB19.out hb); have HP20 := Lib.hid (keep_at HP19.out hb); have HQ20 := Lib.hid (keep_at HQ19.out hb); have HF20 := Lib.hid (keep_at HF19.out hb); have HG20 := Lib.hid (keep_at HG19.out hb); have HH20 := Lib.hid (keep_at HH19.out hb); clear hb
    simp only [Act.put, List.setIfInBounds_toArray, List.set_cons_zero, List.set_cons_succ]
    refine rest_take 26 (oi := _) (v := ?_) (by simp only [List.getElem?_toArray, List.getElem?_cons_succ, List.getElem?_cons_zero]; rfl) (by kernel_rfl) (by kernel_rfl) (by kernel_rfl) (by exact fun _ _ _ h => h) (by rfl) ?_ ?_; rotate_left; (· intro W HW; go_simp; try with_reducible rfl)
    simp only [Act.put, List.setIfInBounds_toArray, List.set_cons_zero, List.set_cons_succ]
    refine rest_take 27 (oi := _) (v := ?_) (by simp only [List.getElem?_toArray, List.getElem?_cons_succ, List.getElem?_cons_zero]; rfl) (by kernel_rfl) (by kernel_rfl) (by kernel_rfl) (by exact fun _ _ _ h => h) (by rfl) ?_ ?_; rotate_left; (· intro W HW; go_simp; try with_reducible rfl)
    simp only [Act.put, List.setIfInBounds_toArray, List.set_cons_zero, List.set_cons_succ]
    refine rest_take 28 (oi := _) (v := ?_) (by simp only [List.getElem?_toArray, List.getElem?_cons_succ, List.getElem?_cons_zero]; rfl) (by kernel_rfl) (by kernel_rfl) (by kernel_rfl) (by exact fun _ _ _ h => h) (by rfl) ?_ ?_; rotate_left; (· intro W HW; go_simp; try with_reducible rfl)
    simp only [Act.put, List.setIfInBounds_toArray, List.set_cons_zero, List.set_cons_succ]
    refine rest_take 29 (oi := _) (v := ?_) (by simp only [List.getElem?_toArray, List.getElem?_cons_succ, List.getElem?_cons_zero]; rfl) (by kernel_rfl) (by kernel_rfl) (by kernel_rfl) (by exact fun _ _ _ h => h) (by rfl) ?_ ?_; rotate_left; (· intro W HW; go_simp; try with_reducible rfl)
    simp only [Act.put, List.setIfInBounds_toArray, List.set_cons_zero, List.set_cons_succ]
    refine rest_take 30 (oi := _) (v := ?_) (by simp only [List.getElem?_toArray, List.getElem?_cons_succ, List.getElem?_cons_zero]; rfl) (by kernel_rfl) (by kernel_rfl) (by kernel_rfl) (by exact fun _ _ _ h => h) (by rfl) ?_ ?_; rotate_left; (· intro W HW; go_simp; try with_reducible rfl)
    simp only [Act.put, List.setIfInBounds_toArray, List.set_cons_zero, List.set_cons_succ]
    refine rest_loadB 31 (oi := _) (by simp only [List.getElem?_toArray, List.getElem?_cons_succ, List.getElem?_cons_zero]; rfl) (by kernel_rfl) (by kernel_rfl) (by kernel_rfl) #[.int .i64 P.seat, .int .i64 P.count, .bool P.cmd, cv ⟨P.kind, P.sort, P.nr, P.ns, P.pf⟩, .string P.body] (by exact fun _ _ _ h => h) (by rfl) 60 (.tmp 6) rfl _ rfl _ (HF20.out) _ Tryd.underlying60 rfl (by kernel_rfl) ?_
    simp only [Act.put, List.setIfInBounds_toArray, List.set_cons_zero, List.set_cons_succ]
    refine rest_loadB 32 (oi := _) (by simp only [List.getElem?_toArray, List.getElem?_cons_succ, List.getElem?_cons_zero]; rfl) (by kernel_rfl) (by kernel_rfl) (by kernel_rfl) #[.int .i64 Q.seat, .int .i64 Q.count, .bool Q.cmd, cv ⟨Q.kind, Q.sort, Q.nr, Q.ns, Q.pf⟩, .string Q.body] (by exact fun _ _ _ h => h) (by rfl) 60 (.tmp 8) rfl _ rfl _ (HG20.out) _ Tryd.underlying60 rfl (by kernel_rfl) ?_
    simp only [Act.put, List.setIfInBounds_toArray, List.set_cons_zero, List.set_cons_succ]
    refine rest_loadB 34 (oi := _) (by simp only [List.getElem?_toArray, List.getElem?_cons_succ, List.getElem?_cons_zero]; rfl) (by kernel_rfl) (by kernel_rfl) (by kernel_rfl) #[.int .i64 P.seat, .int .i64 P.count, .bool P.cmd, .int .i64 P.kind, .int .i64 P.sort, .int .i64 P.nr, .int .i64 P.ns, .bool P.pf, .string P.body] (by exact fun _ _ _ h => h) (by rfl) 34 (.tmp 2) rfl _ rfl _ (HP20.out) _ Tryd.underlying34 rfl (by kernel_rfl) ?_
    simp only [Act.put, List.setIfInBounds_toArray, List.set_cons_zero, List.set_cons_succ]
    refine rest_loadB 35 (oi := _) (by simp only [List.getElem?_toArray, List.getElem?_cons_succ, List.getElem?_cons_zero]; rfl) (by kernel_rfl) (by kernel_rfl) (by kernel_rfl) #[.int .i64 Q.seat, .int .i64 Q.count, .bool Q.cmd, .int .i64 Q.kind, .int .i64 Q.sort, .int .i64 Q.nr, .int .i64 Q.ns, .bool Q.pf, .string Q.body] (by exact fun _ _ _ h => h) (by rfl) 34 (.tmp 3) rfl _ rfl _ (HQ20.out) _ Tryd.underlying34 rfl (by kernel_rfl) ?_
    simp only [Act.put, List.setIfInBounds_toArray, List.set_cons_zero, List.set_cons_succ]
    refine rest_take 36 (oi := _) (v := .bool d) (by simp only [List.getElem?_toArray, List.getElem?_cons_succ, List.getElem?_cons_zero]; rfl) (by kernel_rfl) (by kernel_rfl) (by kernel_rfl) (by exact fun _ _ _ h => h) (by rfl) (fun W HW => exec_cmp rfl rfl rfl (guard_Pl _ _ _ _ _ W) (HQE.out W)) ?_
    simp only [Act.put, List.setIfInBounds_toArray, List.set_cons_zero, List.set_cons_succ]
    refine rest_call 33 (oi := _) (by simp only [List.getElem?_toArray, List.getElem?_cons_succ, List.getElem?_cons_zero]; rfl) 50 #[.agg #[.int .i64 P.seat, .int .i64 P.count, .bool P.cmd, cv ⟨P.kind, P.sort, P.nr, P.ns, P.pf⟩, .string P.body], .agg #[.int .i64 Q.seat, .int .i64 Q.count, .bool Q.cmd, cv ⟨Q.kind, Q.sort, Q.nr, Q.ns, Q.pf⟩, .string Q.body]] _ (by kernel_rfl) (by rfl) (by go_simp) (HEG.out w20) ?_
    rintro e w21 ⟨rfl, hb⟩; refine ⟨_, rfl, hb, ?_⟩; have HB21 := Lib.hid (bel_trans HB20.out hb); have HP21 := Lib.hid (keep_at HP20.out hb); have HQ21 := Lib.hid (keep_at HQ20.out hb); have HF21 := Lib.hid (keep_at HF20.out hb); have HG21 := Lib.hid (keep_at HG20.out hb); have HH21 := Lib.hid (keep_at HH20.out hb); clear hb
    simp only [Act.put, List.setIfInBounds_toArray, List.set_cons_zero, List.set_cons_succ]
    refine rest_take 37 (oi := _) (v := ?_) (by simp only [List.getElem?_toArray, List.getElem?_cons_succ, List.getElem?_cons_zero]; rfl) (by kernel_rfl) (by kernel_rfl) (by kernel_rfl) (by exact fun _ _ _ h => h) (by rfl) ?_ ?_; rotate_left; (· intro W HW; go_simp; try with_reducible rfl)
    simp only [Act.put, List.setIfInBounds_toArray, List.set_cons_zero, List.set_cons_succ]
    refine rest_take 38 (oi := _) (v := ?_) (by simp only [List.getElem?_toArray, List.getElem?_cons_succ, List.getElem?_cons_zero]; rfl) (by kernel_rfl) (by kernel_rfl) (by kernel_rfl) (by exact fun _ _ _ h => h) (by rfl) ?_ ?_; rotate_left; (· intro W HW; go_simp; try with_reducible rfl)
    simp only [Act.put, List.setIfInBounds_toArray, List.set_cons_zero, List.set_cons_succ]
    refine rest_take 39 (oi := _) (v := ?_) (by simp only [List.getElem?_toArray, List.getElem?_cons_succ, List.getElem?_cons_zero]; rfl) (by kernel_rfl) (by kernel_rfl) (by kernel_rfl) (by exact fun _ _ _ h => h) (by rfl) ?_ ?_; rotate_left; (· intro W HW; go_simp; try with_reducible rfl)
    simp only [Act.put, List.setIfInBounds_toArray, List.set_cons_zero, List.set_cons_succ]
    refine rest_take 40 (oi := _) (v := ?_) (by simp only [List.getElem?_toArray, List.getElem?_cons_succ, List.getElem?_cons_zero]; rfl) (by kernel_rfl) (by kernel_rfl) (by kernel_rfl) (by exact fun _ _ _ h => h) (by rfl) ?_ ?_; rotate_left; (· intro W HW; go_simp; try with_reducible rfl)
    simp only [Act.put, List.setIfInBounds_toArray, List.set_cons_zero, List.set_cons_succ]
    refine rest_done (by kernel_rfl) ?_
    go_wp2
    go_ret
    exact ⟨by cases d <;> rfl, HB21.out⟩

theorem FrameAll_law (p q : PIn) (w : World) (hp : p.ok) (hq : q.ok) (hC : Codes w) : Calls Tryd.prog 7 #[p.val, q.val] w (Holds4 w) := by
  have h1 := fun w => LPlain_any p hp w
  have h2 := fun w => LPlain_any q hq w
  rcases hm : decide (mayF p.cut.pl) with _ | _ <;> rcases hn : decide (mayF q.cut.pl) with _ | _
  · exact FrameAll_ff p q p.cut q.cut w h1 h2 (PIn.cut_ok hp) (PIn.cut_ok hq) hC hm hn
  · exact FrameAll_ft p q p.cut q.cut w h1 h2 (PIn.cut_ok hp) (PIn.cut_ok hq) hC hm hn
  · exact FrameAll_tf p q p.cut q.cut w h1 h2 (PIn.cut_ok hp) (PIn.cut_ok hq) hC hm hn
  · exact FrameAll_tt p q p.cut q.cut w h1 h2 (PIn.cut_ok hp) (PIn.cut_ok hq) hC hm hn
end Go.Proofs.YtaofomkalnagcaaDoor
