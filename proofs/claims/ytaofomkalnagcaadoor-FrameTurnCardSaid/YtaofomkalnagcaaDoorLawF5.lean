/- The law FrameTurn: the rest. -/
import Derived.Test.YtaofomkalnagcaaDoorLawF4

set_option linter.all false

namespace Go.Proofs.YtaofomkalnagcaaDoor
open Go.RowKit M

set_option maxRecDepth 100000 in
set_option maxHeartbeats 8000000 in
theorem FrameTurn_3n (p P : PIn) (wh n : Int) (s : ByteArray) (w : World) (hlp : ∀ w, Calls Tryd.prog 32 #[p.val] w fun e w' => e = .returned P.val ∧ Below w.heap.size w w') (hP : P.ok) (hC : Codes w) (hmp : decide (mayF P.pl) = true) (hQ : PIn.ok ⟨P.seat, P.count, P.cmd, P.kind, P.sort, n, P.ns, P.pf, P.body⟩) (hmq : decide (mayF (PIn.pl ⟨P.seat, P.count, P.cmd, P.kind, P.sort, n, P.ns, P.pf, P.body⟩)) = false) (hk : (wh.tmod 7 + 7) % 7 = 3) : Calls Tryd.prog 16 #[p.val, .int .i64 wh, .int .i64 n, .string s] w (Holds4 w) := by
  have HC := Lib.hid hC
  have HLP := Lib.hid hlp
  have HMP := Lib.hid (fun w => RMay_is (p := P) w hmp)
  have HMQ := Lib.hid (fun w => RMay_is (p := ⟨P.seat, P.count, P.cmd, P.kind, P.sort, n, P.ns, P.pf, P.body⟩) w hmq)
  have HOP := Lib.hid (fun w hC => FOf_yes P w hP (of_decide_eq_true hmp) hC)
  have HPF := Lib.hid (fun w hC => FPut_yes P w (of_decide_eq_true hmp) hC)
  have HOQ := Lib.hid (fun w hC => FOf_no ⟨P.seat, P.count, P.cmd, P.kind, P.sort, n, P.ns, P.pf, P.body⟩ w hQ (of_decide_eq_false hmq) hC)
  have HPG := Lib.hid (fun w => FPut_no 0 0 false .nilIface ⟨#[]⟩ w (.inr (.inr (.inr ⟨rfl, .inl rfl⟩))))
  have a1 : -6 ≤ wh.tmod 7 := by have := Int.lt_tmod_of_pos wh (show (0 : Int) < 7 by decide); omega
  have a2 : wh.tmod 7 ≤ 6 := by have := Int.tmod_lt_of_pos wh (show (0 : Int) < 7 by decide); omega
  clear hC hlp hP hmp hQ hmq
  go_enter Tryd.func16, Tryd.ntmps16
  go_wp2_with (first
    | ((with_reducible refine wpList_boxS rfl 34 _ (.tmp 0) rfl rfl (run_boxPl p.seat p.count p.cmd p.kind p.sort p.nr p.ns p.pf p.body) ?_); intro w1 hb1 hlt1 hh1; have HB1 := Lib.hid hb1; have HP1 := Lib.hid hh1; clear hb1 hh1)
    | (go_at_call 20; refine (begun4_any _ (HC.out.below HB1.out)).mono ?_; rintro e w2 ⟨rfl, hb⟩; have HB2 := Lib.hid (bel_trans HB1.out hb); have HP2 := Lib.hid (keep_at HP1.out hb); clear hb)
    | (with_reducible refine wpList_loadB rfl 34 (.tmp 4) rfl w.heap.size rfl 34 #[.int .i64 p.seat, .int .i64 p.count, .bool p.cmd, .int .i64 p.kind, .int .i64 p.sort, .int .i64 p.nr, .int .i64 p.ns, .bool p.pf, .string p.body] HP2.out _ Tryd.underlying34 rfl (by kernel_rfl) ?_)
    | (go_at_call 32; ((with_reducible refine (HLP.out _).mono ?_); rintro e w3 ⟨rfl, hb⟩; have HB3 := Lib.hid (bel_trans HB2.out hb); have HP3 := Lib.hid (keep_at HP2.out hb); clear hb))
    | ((with_reducible refine wpList_storeB rfl 34 (.tmp 4) _ rfl w.heap.size #[.int .i64 P.seat, .int .i64 P.count, .bool P.cmd, .int .i64 P.kind, .int .i64 P.sort, .int .i64 P.nr, .int .i64 P.ns, .bool P.pf, .string P.body] rfl rfl 34 _ HP3.out (by kernel_rfl) (by kernel_rfl) (by kernel_rfl) ?_); intro w4 hg4 hz4 hh4; have HB4 := Lib.hid (bel_grown HB3.out hg4 (Nat.le_refl _)); have HP4 := Lib.hid hh4; clear hg4 hz4 hh4)
    | (with_reducible refine wpList_loadB rfl 34 (.tmp 4) rfl w.heap.size rfl 34 #[.int .i64 P.seat, .int .i64 P.count, .bool P.cmd, .int .i64 P.kind, .int .i64 P.sort, .int .i64 P.nr, .int .i64 P.ns, .bool P.pf, .string P.body] HP4.out _ Tryd.underlying34 rfl (by kernel_rfl) ?_)
    | (go_at_call 46; ((with_reducible refine (HMP.out _).mono ?_); rintro e w5 ⟨rfl, hb⟩; have HB5 := Lib.hid (bel_trans HB4.out hb); have HP5 := Lib.hid (keep_at HP4.out hb); clear hb))
    | (with_reducible refine wpList_loadB rfl 34 (.tmp 4) rfl w.heap.size rfl 34 #[.int .i64 P.seat, .int .i64 P.count, .bool P.cmd, .int .i64 P.kind, .int .i64 P.sort, .int .i64 P.nr, .int .i64 P.ns, .bool P.pf, .string P.body] HP5.out _ Tryd.underlying34 rfl (by kernel_rfl) ?_)
    | ((with_reducible refine wpList_storeB rfl 34 (.tmp 10) _ rfl w5.heap.size #[.int .i64 P.seat, .int .i64 P.count, .bool P.cmd, .int .i64 P.kind, .int .i64 P.sort, .int .i64 P.nr, .int .i64 P.ns, .bool P.pf, .string P.body] rfl rfl 34 _ (heap_alloc_new w5 _) (by kernel_rfl) (by kernel_rfl) (by kernel_rfl) ?_); intro w6 hg hz hh; have HB6 := Lib.hid (bel_grown (bal HB5.out _) hg HB5.out.size); have HQ6 := Lib.hid hh; have HP6 := Lib.hid (keep_grown (keep_at HP5.out (bal (bel0 w5) _)) hg (Nat.ne_of_lt (lt_at HP5.out)));  clear hg hz hh)
    | ((with_reducible refine wpList_store1 rfl 3 (.tmp 53) (.tmp 52) rfl w5.heap.size 5 (.int .i64 n) rfl rfl 34 _ HQ6.out (by simp) (storeInt w5.heap.size 5 _) ?_); intro w7 hg hh; have HB7 := Lib.hid (bel_grown HB6.out hg HB5.out.size); have HQ7 : Hid (w7.heap[w5.heap.size]? = some (.cells #[.int .i64 P.seat, .int .i64 P.count, .bool P.cmd, .int .i64 P.kind, .int .i64 P.sort, .int .i64 n, .int .i64 P.ns, .bool P.pf, .string P.body] 34 (0, 0))) := hh; have HP7 := Lib.hid (keep_grown HP6.out hg (Nat.ne_of_lt (lt_at HP5.out))); clear hg hh)
    | (with_reducible refine wpList_loadB rfl 34 (.tmp 4) rfl w.heap.size rfl 34 #[.int .i64 P.seat, .int .i64 P.count, .bool P.cmd, .int .i64 P.kind, .int .i64 P.sort, .int .i64 P.nr, .int .i64 P.ns, .bool P.pf, .string P.body] HP7.out _ Tryd.underlying34 rfl (by kernel_rfl) ?_)
    | (go_at_call_of 45 (Value.agg #[.int .i64 P.seat, .int .i64 P.count, .bool P.cmd, .int .i64 P.kind, .int .i64 P.sort, .int .i64 P.nr, .int .i64 P.ns, .bool P.pf, .string P.body]); ((with_reducible refine (HOP.out _ (HC.out.below HB7.out)).mono ?_); rintro e w8 ⟨rfl, hb⟩; have HB8 := Lib.hid (bel_trans HB7.out hb); have HP8 := Lib.hid (keep_at HP7.out hb); have HQ8 := Lib.hid (keep_at HQ7.out hb); clear hb))
    | ((with_reducible refine wpList_storeB rfl 60 (.tmp 11) _ rfl w8.heap.size #[.int .i64 P.seat, .int .i64 P.count, .bool P.cmd, cv ⟨P.kind, P.sort, P.nr, P.ns, P.pf⟩, .string P.body] rfl rfl 60 _ (heap_alloc_new w8 _) (by kernel_rfl) rfl (frone _ _ _ _ _) ?_); intro w9 hg hz hh; have HB9 := Lib.hid (bel_grown (bal HB8.out _) hg HB8.out.size); have HF9 := Lib.hid hh; have HP9 := Lib.hid (keep_grown (keep_at HP8.out (bal (bel0 w8) _)) hg (Nat.ne_of_lt (lt_at HP8.out))); have HQ9 := Lib.hid (keep_grown (keep_at HQ8.out (bal (bel0 w8) _)) hg (Nat.ne_of_lt (lt_at HQ8.out)));  clear hg hz hh)
    | (with_reducible refine wpList_loadB rfl 34 (.tmp 10) rfl w5.heap.size rfl 34 #[.int .i64 P.seat, .int .i64 P.count, .bool P.cmd, .int .i64 P.kind, .int .i64 P.sort, .int .i64 n, .int .i64 P.ns, .bool P.pf, .string P.body] HQ9.out _ Tryd.underlying34 rfl (by kernel_rfl) ?_)
    | (go_at_call_of 45 (Value.agg #[.int .i64 P.seat, .int .i64 P.count, .bool P.cmd, .int .i64 P.kind, .int .i64 P.sort, .int .i64 n, .int .i64 P.ns, .bool P.pf, .string P.body]); ((with_reducible refine (HOQ.out _ (HC.out.below HB9.out)).mono ?_); rintro e w10 ⟨rfl, hb⟩; have HB10 := Lib.hid (bel_trans HB9.out hb); have HP10 := Lib.hid (keep_at HP9.out hb); have HQ10 := Lib.hid (keep_at HQ9.out hb); have HF10 := Lib.hid (keep_at HF9.out hb); clear hb))
    | ((with_reducible refine wpList_storeB rfl 60 (.tmp 13) _ rfl w10.heap.size #[.int .i64 0, .int .i64 0, .bool false, .nilIface, .string ⟨#[]⟩] rfl rfl 60 _ (heap_alloc_new w10 _) (by kernel_rfl) rfl (by kernel_rfl) ?_); intro w11 hg hz hh; have HB11 := Lib.hid (bel_grown (bal HB10.out _) hg HB10.out.size); have HG11 := Lib.hid hh; have HP11 := Lib.hid (keep_grown (keep_at HP10.out (bal (bel0 w10) _)) hg (Nat.ne_of_lt (lt_at HP10.out))); have HQ11 := Lib.hid (keep_grown (keep_at HQ10.out (bal (bel0 w10) _)) hg (Nat.ne_of_lt (lt_at HQ10.out))); have HF11 := Lib.hid (keep_grown (keep_at HF10.out (bal (bel0 w10) _)) hg (Nat.ne_of_lt (lt_at HF10.out)));  clear hg hz hh)
    | (with_reducible refine wpList_loadB rfl 60 (.tmp 11) rfl w8.heap.size rfl 60 #[.int .i64 P.seat, .int .i64 P.count, .bool P.cmd, cv ⟨P.kind, P.sort, P.nr, P.ns, P.pf⟩, .string P.body] HF11.out _ Tryd.underlying60 rfl (by kernel_rfl) ?_)
    | (go_at_call_of 47 (Value.agg #[.int .i64 P.seat, .int .i64 P.count, .bool P.cmd, cv ⟨P.kind, P.sort, P.nr, P.ns, P.pf⟩, .string P.body]); ((with_reducible refine (HPF.out _ (HC.out.below HB11.out)).mono ?_); rintro e w12 ⟨u, rfl, hu, hb⟩; have HB12 := Lib.hid (bel_trans HB11.out hb); have HP12 := Lib.hid (keep_at HP11.out hb); have HQ12 := Lib.hid (keep_at HQ11.out hb); have HG12 := Lib.hid (keep_at HG11.out hb); have HU12 := Lib.hid hu.rds; obtain ⟨Au, cu, rfl, _⟩ := hu.rds; clear hu hb))
    | (with_reducible refine wpList_loadB rfl 60 (.tmp 13) rfl w10.heap.size rfl 60 #[.int .i64 0, .int .i64 0, .bool false, .nilIface, .string ⟨#[]⟩] HG12.out _ Tryd.underlying60 rfl (by kernel_rfl) ?_)
    | (go_at_call_of 47 (Value.agg #[.int .i64 0, .int .i64 0, .bool false, .nilIface, .string ⟨#[]⟩]); ((with_reducible refine (HPG.out _).mono ?_); rintro e w13 ⟨rfl, hb⟩; have HB13 := Lib.hid (bel_trans HB12.out hb); have HP13 := Lib.hid (keep_at HP12.out hb); have HQ13 := Lib.hid (keep_at HQ12.out hb); clear hb)))
  refine rest_begin (by kernel_rfl) ?_
  refine rest_take 0 (oi := _) (v := ?_) (by simp only [List.getElem?_toArray, List.getElem?_cons_zero]; rfl) (by kernel_rfl) (by kernel_rfl) (by kernel_rfl) (by exact fun _ _ _ h => h) (by rfl) ?_ ?_; rotate_left; (· intro W HW; go_simp; try with_reducible rfl)
  simp only [Act.put, List.setIfInBounds_toArray, List.set_cons_zero, List.set_cons_succ]
  refine rest_take 1 (oi := _) (v := ?_) (by simp only [List.getElem?_toArray, List.getElem?_cons_succ, List.getElem?_cons_zero]; rfl) (by kernel_rfl) (by kernel_rfl) (by kernel_rfl) (by exact fun _ _ _ h => h) (by rfl) ?_ ?_; rotate_left; (· intro W HW; go_simp; try with_reducible rfl)
  simp only [Act.put, List.setIfInBounds_toArray, List.set_cons_zero, List.set_cons_succ]
  refine rest_take 2 (oi := _) (v := ?_) (by simp only [List.getElem?_toArray, List.getElem?_cons_succ, List.getElem?_cons_zero]; rfl) (by kernel_rfl) (by kernel_rfl) (by kernel_rfl) (by exact fun _ _ _ h => h) (by rfl) ?_ ?_; rotate_left; (· intro W HW; go_simp; try with_reducible rfl)
  simp only [Act.put, List.setIfInBounds_toArray, List.set_cons_zero, List.set_cons_succ]
  refine rest_loadB 3 (oi := _) (by simp only [List.getElem?_toArray, List.getElem?_cons_succ, List.getElem?_cons_zero]; rfl) (by kernel_rfl) (by kernel_rfl) (by kernel_rfl) #[.int .i64 P.seat, .int .i64 P.count, .bool P.cmd, .int .i64 P.kind, .int .i64 P.sort, .int .i64 n, .int .i64 P.ns, .bool P.pf, .string P.body] (by exact fun _ _ _ h => h) (by rfl) 34 (.tmp 10) rfl _ rfl _ (HQ13.out) _ Tryd.underlying34 rfl (by kernel_rfl) ?_
  simp only [Act.put, List.setIfInBounds_toArray, List.set_cons_zero, List.set_cons_succ]
  refine rest_call 4 (oi := _) (by simp only [List.getElem?_toArray, List.getElem?_cons_succ, List.getElem?_cons_zero]; rfl) 46 #[.agg #[.int .i64 P.seat, .int .i64 P.count, .bool P.cmd, .int .i64 P.kind, .int .i64 P.sort, .int .i64 n, .int .i64 P.ns, .bool P.pf, .string P.body]] _ (by kernel_rfl) (by rfl) (by go_simp) (HMQ.out w13.drew) ?_
  rintro e w14 ⟨rfl, hb⟩; refine ⟨_, rfl, hb, ?_⟩; have HB14 := Lib.hid (bel_trans HB13.out.drew hb); have HP14 := Lib.hid (keep_at (w := w13.drew) HP13.out hb); have HQ14 := Lib.hid (keep_at (w := w13.drew) HQ13.out hb); clear hb
  simp only [Act.put, List.setIfInBounds_toArray, List.set_cons_zero, List.set_cons_succ]
  refine rest_take 5 (oi := _) (v := ?_) (by simp only [List.getElem?_toArray, List.getElem?_cons_succ, List.getElem?_cons_zero]; rfl) (by kernel_rfl) (by kernel_rfl) (by kernel_rfl) (by exact fun _ _ _ h => h) (by rfl) ?_ ?_; rotate_left; (· intro W HW; go_simp; try with_reducible rfl)
  simp only [Act.put, List.setIfInBounds_toArray, List.set_cons_zero, List.set_cons_succ]
  refine rest_take 6 (oi := _) (v := ?_) (by simp only [List.getElem?_toArray, List.getElem?_cons_succ, List.getElem?_cons_zero]; rfl) (by kernel_rfl) (by kernel_rfl) (by kernel_rfl) (by exact fun _ _ _ h => h) (by rfl) ?_ ?_; rotate_left; (· intro W HW; go_simp; try with_reducible rfl)
  simp only [Act.put, List.setIfInBounds_toArray, List.set_cons_zero, List.set_cons_succ]
  refine rest_take 7 (oi := _) (v := ?_) (by simp only [List.getElem?_toArray, List.getElem?_cons_succ, List.getElem?_cons_zero]; rfl) (by kernel_rfl) (by kernel_rfl) (by kernel_rfl) (by exact fun _ _ _ h => h) (by rfl) ?_ ?_; rotate_left; (· intro W HW; go_simp; try with_reducible rfl)
  simp only [Act.put, List.setIfInBounds_toArray, List.set_cons_zero, List.set_cons_succ]
  refine rest_take 8 (oi := _) (v := ?_) (by simp only [List.getElem?_toArray, List.getElem?_cons_succ, List.getElem?_cons_zero]; rfl) (by kernel_rfl) (by kernel_rfl) (by kernel_rfl) (by exact fun _ _ _ h => h) (by rfl) ?_ ?_; rotate_left; (· intro W HW; go_simp; try with_reducible rfl)
  simp only [Act.put, List.setIfInBounds_toArray, List.set_cons_zero, List.set_cons_succ]
  refine rest_take 9 (oi := _) (v := ?_) (by simp only [List.getElem?_toArray, List.getElem?_cons_succ, List.getElem?_cons_zero]; rfl) (by kernel_rfl) (by kernel_rfl) (by kernel_rfl) (by exact fun _ _ _ h => h) (by rfl) ?_ ?_; rotate_left; (· intro W HW; go_simp; try with_reducible rfl)
  simp only [Act.put, List.setIfInBounds_toArray, List.set_cons_zero, List.set_cons_succ]
  refine rest_take 10 (oi := _) (v := ?_) (by simp only [List.getElem?_toArray, List.getElem?_cons_succ, List.getElem?_cons_zero]; rfl) (by kernel_rfl) (by kernel_rfl) (by kernel_rfl) (by exact fun _ _ _ h => h) (by rfl) ?_ ?_; rotate_left; (· intro W HW; go_simp; try with_reducible rfl)
  simp only [Act.put, List.setIfInBounds_toArray, List.set_cons_zero, List.set_cons_succ]
  refine rest_skip 11 (oi := _) (by simp only [List.getElem?_toArray, List.getElem?_cons_succ, List.getElem?_cons_zero]; rfl) (by kernel_rfl) (by kernel_rfl) (by kernel_rfl) (by exact fun _ _ _ h => h) (by rfl) ?_
  simp only [Act.put, List.setIfInBounds_toArray, List.set_cons_zero, List.set_cons_succ]
  refine rest_skip 12 (oi := _) (by simp only [List.getElem?_toArray, List.getElem?_cons_succ, List.getElem?_cons_zero]; rfl) (by kernel_rfl) (by kernel_rfl) (by kernel_rfl) (by exact fun _ _ _ h => h) (by rfl) ?_
  simp only [Act.put, List.setIfInBounds_toArray, List.set_cons_zero, List.set_cons_succ]
  refine rest_skip 13 (oi := _) (by simp only [List.getElem?_toArray, List.getElem?_cons_succ, List.getElem?_cons_zero]; rfl) (by kernel_rfl) (by kernel_rfl) (by kernel_rfl) (by exact fun _ _ _ h => h) (by rfl) ?_
  simp only [Act.put, List.setIfInBounds_toArray, List.set_cons_zero, List.set_cons_succ]
  refine rest_skip 14 (oi := _) (by simp only [List.getElem?_toArray, List.getElem?_cons_succ, List.getElem?_cons_zero]; rfl) (by kernel_rfl) (by kernel_rfl) (by kernel_rfl) (by exact fun _ _ _ h => h) (by rfl) ?_
  simp only [Act.put, List.setIfInBounds_toArray, List.set_cons_zero, List.set_cons_succ]
  refine rest_skip 15 (oi := _) (by simp only [List.getElem?_toArray, List.getElem?_cons_succ, List.getElem?_cons_zero]; rfl) (by kernel_rfl) (by kernel_rfl) (by kernel_rfl) (by exact fun _ _ _ h => h) (by rfl) ?_
  simp only [Act.put, List.setIfInBounds_toArray, List.set_cons_zero, List.set_cons_succ]
  refine rest_skip 16 (oi := _) (by simp only [List.getElem?_toArray, List.getElem?_cons_succ, List.getElem?_cons_zero]; rfl) (by kernel_rfl) (by kernel_rfl) (by kernel_rfl) (by exact fun _ _ _ h => h) (by rfl) ?_
  simp only [Act.put, List.setIfInBounds_toArray, List.set_cons_zero, List.set_cons_succ]
  refine rest_skip 17 (oi := _) (by simp only [List.getElem?_toArray, List.getElem?_cons_succ, List.getElem?_cons_zero]; rfl) (by kernel_rfl) (by kernel_rfl) (by kernel_rfl) (by exact fun _ _ _ h => h) (by rfl) ?_
  simp only [Act.put, List.setIfInBounds_toArray, List.set_cons_zero, List.set_cons_succ]
  refine rest_skip 18 (oi := _) (by simp only [List.getElem?_toArray, List.getElem?_cons_succ, List.getElem?_cons_zero]; rfl) (by kernel_rfl) (by kernel_rfl) (by kernel_rfl) (by exact fun _ _ _ h => h) (by rfl) ?_
  simp only [Act.put, List.setIfInBounds_toArray, List.set_cons_zero, List.set_cons_succ]
  refine rest_skip 19 (oi := _) (by simp only [List.getElem?_toArray, List.getElem?_cons_succ, List.getElem?_cons_zero]; rfl) (by kernel_rfl) (by kernel_rfl) (by kernel_rfl) (by exact fun _ _ _ h => h) (by rfl) ?_
  simp only [Act.put, List.setIfInBounds_toArray, List.set_cons_zero, List.set_cons_succ]
  refine rest_take 20 (oi := _) (v := ?_) (by simp only [List.getElem?_toArray, List.getElem?_cons_succ, List.getElem?_cons_zero]; rfl) (by kernel_rfl) (by kernel_rfl) (by kernel_rfl) (by exact fun _ _ _ h => h) (by rfl) ?_ ?_; rotate_left; (· intro W HW; go_simp; try with_reducible rfl)
  simp only [Act.put, List.setIfInBounds_toArray, List.set_cons_zero, List.set_cons_succ]
  refine rest_take 21 (oi := _) (v := ?_) (by simp only [List.getElem?_toArray, List.getElem?_cons_succ, List.getElem?_cons_zero]; rfl) (by kernel_rfl) (by kernel_rfl) (by kernel_rfl) (by exact fun _ _ _ h => h) (by rfl) ?_ ?_; rotate_left; (· intro W HW; go_simp; try with_reducible rfl)
  simp only [Act.put, List.setIfInBounds_toArray, List.set_cons_zero, List.set_cons_succ]
  refine rest_take 22 (oi := _) (v := ?_) (by simp only [List.getElem?_toArray, List.getElem?_cons_succ, List.getElem?_cons_zero]; rfl) (by kernel_rfl) (by kernel_rfl) (by kernel_rfl) (by exact fun _ _ _ h => h) (by rfl) ?_ ?_; rotate_left; (· intro W HW; go_simp; try with_reducible rfl)
  simp only [Act.put, List.setIfInBounds_toArray, List.set_cons_zero, List.set_cons_succ]
  refine rest_done (by kernel_rfl) ?_
  go_wp2
  go_ret
  exact ⟨by rfl, HB14.out⟩

set_option maxRecDepth 100000 in
set_option maxHeartbeats 8000000 in
theorem FrameTurn_3y (p P : PIn) (wh n : Int) (s : ByteArray) (w : World) (hlp : ∀ w, Calls Tryd.prog 32 #[p.val] w fun e w' => e = .returned P.val ∧ Below w.heap.size w w') (hP : P.ok) (hC : Codes w) (hmp : decide (mayF P.pl) = true) (hQ : PIn.ok ⟨P.seat, P.count, P.cmd, P.kind, P.sort, n, P.ns, P.pf, P.body⟩) (hmq : decide (mayF (PIn.pl ⟨P.seat, P.count, P.cmd, P.kind, P.sort, n, P.ns, P.pf, P.body⟩)) = true) (hk : (wh.tmod 7 + 7) % 7 = 3) : Calls Tryd.prog 16 #[p.val, .int .i64 wh, .int .i64 n, .string s] w (Holds4 w) := by
  have HC := Lib.hid hC
  have HLP := Lib.hid hlp
  have HMP := Lib.hid (fun w => RMay_is (p := P) w hmp)
  have HMQ := Lib.hid (fun w => RMay_is (p := ⟨P.seat, P.count, P.cmd, P.kind, P.sort, n, P.ns, P.pf, P.body⟩) w hmq)
  have HOP := Lib.hid (fun w hC => FOf_yes P w hP (of_decide_eq_true hmp) hC)
  have HPF := Lib.hid (fun w hC => FPut_yes P w (of_decide_eq_true hmp) hC)
  have HOQ := Lib.hid (fun w hC => FOf_yes ⟨P.seat, P.count, P.cmd, P.kind, P.sort, n, P.ns, P.pf, P.body⟩ w hQ (of_decide_eq_true hmq) hC)
  have HPG := Lib.hid (fun w hC => FPut_yes ⟨P.seat, P.count, P.cmd, P.kind, P.sort, n, P.ns, P.pf, P.body⟩ w (of_decide_eq_true hmq) hC)
  obtain ⟨d, hd⟩ : ∃ d, d = decide (P.pl = PIn.pl ⟨P.seat, P.count, P.cmd, P.kind, P.sort, n, P.ns, P.pf, P.body⟩) := ⟨_, rfl⟩
  have hqe := fun W => eql_pin P ⟨P.seat, P.count, P.cmd, P.kind, P.sort, n, P.ns, P.pf, P.body⟩ W
  have hst := fun W => eql_strs ⟨(putF P.pl).toArray⟩ ⟨(putF (PIn.pl ⟨P.seat, P.count, P.cmd, P.kind, P.sort, n, P.ns, P.pf, P.body⟩)).toArray⟩ W
  rw [str_putF (of_decide_eq_true hmp) (of_decide_eq_true hmq), ← hd] at hst
  rw [← hd] at hqe
  have HQE := Lib.hid hqe
  have HST := Lib.hid hst
  clear hqe hst hd
  have a1 : -6 ≤ wh.tmod 7 := by have := Int.lt_tmod_of_pos wh (show (0 : Int) < 7 by decide); omega
  have a2 : wh.tmod 7 ≤ 6 := by have := Int.tmod_lt_of_pos wh (show (0 : Int) < 7 by decide); omega
  clear hC hlp hP hmp hQ hmq
  go_enter Tryd.func16, Tryd.ntmps16
  go_wp2_with (first
    | ((with_reducible refine wpList_boxS rfl 34 _ (.tmp 0) rfl rfl (run_boxPl p.seat p.count p.cmd p.kind p.sort p.nr p.ns p.pf p.body) ?_); intro w1 hb1 hlt1 hh1; have HB1 := Lib.hid hb1; have HP1 := Lib.hid hh1; clear hb1 hh1)
    | (go_at_call 20; refine (begun4_any _ (HC.out.below HB1.out)).mono ?_; rintro e w2 ⟨rfl, hb⟩; have HB2 := Lib.hid (bel_trans HB1.out hb); have HP2 := Lib.hid (keep_at HP1.out hb); clear hb)
    | (with_reducible refine wpList_loadB rfl 34 (.tmp 4) rfl w.heap.size rfl 34 #[.int .i64 p.seat, .int .i64 p.count, .bool p.cmd, .int .i64 p.kind, .int .i64 p.sort, .int .i64 p.nr, .int .i64 p.ns, .bool p.pf, .string p.body] HP2.out _ Tryd.underlying34 rfl (by kernel_rfl) ?_)
    | (go_at_call 32; ((with_reducible refine (HLP.out _).mono ?_); rintro e w3 ⟨rfl, hb⟩; have HB3 := Lib.hid (bel_trans HB2.out hb); have HP3 := Lib.hid (keep_at HP2.out hb); clear hb))
    | ((with_reducible refine wpList_storeB rfl 34 (.tmp 4) _ rfl w.heap.size #[.int .i64 P.seat, .int .i64 P.count, .bool P.cmd, .int .i64 P.kind, .int .i64 P.sort, .int .i64 P.nr, .int .i64 P.ns, .bool P.pf, .string P.body] rfl rfl 34 _ HP3.out (by kernel_rfl) (by kernel_rfl) (by kernel_rfl) ?_); intro w4 hg4 hz4 hh4; have HB4 := Lib.hid (bel_grown HB3.out hg4 (Nat.le_refl _)); have HP4 := Lib.hid hh4; clear hg4 hz4 hh4)
    | (with_reducible refine wpList_loadB rfl 34 (.tmp 4) rfl w.heap.size rfl 34 #[.int .i64 P.seat, .int .i64 P.count, .bool P.cmd, .int .i64 P.kind, .int .i64 P.sort, .int .i64 P.nr, .int .i64 P.ns, .bool P.pf, .string P.body] HP4.out _ Tryd.underlying34 rfl (by kernel_rfl) ?_)
    | (go_at_call 46; ((with_reducible refine (HMP.out _).mono ?_); rintro e w5 ⟨rfl, hb⟩; have HB5 := Lib.hid (bel_trans HB4.out hb); have HP5 := Lib.hid (keep_at HP4.out hb); clear hb))
    | (with_reducible refine wpList_loadB rfl 34 (.tmp 4) rfl w.heap.size rfl 34 #[.int .i64 P.seat, .int .i64 P.count, .bool P.cmd, .int .i64 P.kind, .int .i64 P.sort, .int .i64 P.nr, .int .i64 P.ns, .bool P.pf, .string P.body] HP5.out _ Tryd.underlying34 rfl (by kernel_rfl) ?_)
    | ((with_reducible refine wpList_storeB rfl 34 (.tmp 10) _ rfl w5.heap.size #[.int .i64 P.seat, .int .i64 P.count, .bool P.cmd, .int .i64 P.kind, .int .i64 P.sort, .int .i64 P.nr, .int .i64 P.ns, .bool P.pf, .string P.body] rfl rfl 34 _ (heap_alloc_new w5 _) (by kernel_rfl) (by kernel_rfl) (by kernel_rfl) ?_); intro w6 hg hz hh; have HB6 := Lib.hid (bel_grown (bal HB5.out _) hg HB5.out.size); have HQ6 := Lib.hid hh; have HP6 := Lib.hid (keep_grown (keep_at HP5.out (bal (bel0 w5) _)) hg (Nat.ne_of_lt (lt_at HP5.out)));  clear hg hz hh)
    | ((with_reducible refine wpList_store1 rfl 3 (.tmp 53) (.tmp 52) rfl w5.heap.size 5 (.int .i64 n) rfl rfl 34 _ HQ6.out (by simp) (storeInt w5.heap.size 5 _) ?_); intro w7 hg hh; have HB7 := Lib.hid (bel_grown HB6.out hg HB5.out.size); have HQ7 : Hid (w7.heap[w5.heap.size]? = some (.cells #[.int .i64 P.seat, .int .i64 P.count, .bool P.cmd, .int .i64 P.kind, .int .i64 P.sort, .int .i64 n, .int .i64 P.ns, .bool P.pf, .string P.body] 34 (0, 0))) := hh; have HP7 := Lib.hid (keep_grown HP6.out hg (Nat.ne_of_lt (lt_at HP5.out))); clear hg hh)
    | (with_reducible refine wpList_loadB rfl 34 (.tmp 4) rfl w.heap.size rfl 34 #[.int .i64 P.seat, .int .i64 P.count, .bool P.cmd, .int .i64 P.kind, .int .i64 P.sort, .int .i64 P.nr, .int .i64 P.ns, .bool P.pf, .string P.body] HP7.out _ Tryd.underlying34 rfl (by kernel_rfl) ?_)
    | (go_at_call_of 45 (Value.agg #[.int .i64 P.seat, .int .i64 P.count, .bool P.cmd, .int .i64 P.kind, .int .i64 P.sort, .int .i64 P.nr, .int .i64 P.ns, .bool P.pf, .string P.body]); ((with_reducible refine (HOP.out _ (HC.out.below HB7.out)).mono ?_); rintro e w8 ⟨rfl, hb⟩; have HB8 := Lib.hid (bel_trans HB7.out hb); have HP8 := Lib.hid (keep_at HP7.out hb); have HQ8 := Lib.hid (keep_at HQ7.out hb); clear hb))
    | ((with_reducible refine wpList_storeB rfl 60 (.tmp 11) _ rfl w8.heap.size #[.int .i64 P.seat, .int .i64 P.count, .bool P.cmd, cv ⟨P.kind, P.sort, P.nr, P.ns, P.pf⟩, .string P.body] rfl rfl 60 _ (heap_alloc_new w8 _) (by kernel_rfl) rfl (frone _ _ _ _ _) ?_); intro w9 hg hz hh; have HB9 := Lib.hid (bel_grown (bal HB8.out _) hg HB8.out.size); have HF9 := Lib.hid hh; have HP9 := Lib.hid (keep_grown (keep_at HP8.out (bal (bel0 w8) _)) hg (Nat.ne_of_lt (lt_at HP8.out))); have HQ9 := Lib.hid (keep_grown (keep_at HQ8.out (bal (bel0 w8) _)) hg (Nat.ne_of_lt (lt_at HQ8.out)));  clear hg hz hh)
    | (with_reducible refine wpList_loadB rfl 34 (.tmp 10) rfl w5.heap.size rfl 34 #[.int .i64 P.seat, .int .i64 P.count, .bool P.cmd, .int .i64 P.kind, .int .i64 P.sort, .int .i64 n, .int .i64 P.ns, .bool P.pf, .string P.body] HQ9.out _ Tryd.underlying34 rfl (by kernel_rfl) ?_)
    | (go_at_call_of 45 (Value.agg #[.int .i64 P.seat, .int .i64 P.count, .bool P.cmd, .int .i64 P.kind, .int .i64 P.sort, .int .i64 n, .int .i64 P.ns, .bool P.pf, .string P.body]); ((with_reducible refine (HOQ.out _ (HC.out.below HB9.out)).mono ?_); rintro e w10 ⟨rfl, hb⟩; have HB10 := Lib.hid (bel_trans HB9.out hb); have HP10 := Lib.hid (keep_at HP9.out hb); have HQ10 := Lib.hid (keep_at HQ9.out hb); have HF10 := Lib.hid (keep_at HF9.out hb); clear hb))
    | ((with_reducible refine wpList_storeB rfl 60 (.tmp 13) _ rfl w10.heap.size #[.int .i64 P.seat, .int .i64 P.count, .bool P.cmd, cv ⟨P.kind, P.sort, n, P.ns, P.pf⟩, .string P.body] rfl rfl 60 _ (heap_alloc_new w10 _) (by kernel_rfl) rfl (frone _ _ _ _ _) ?_); intro w11 hg hz hh; have HB11 := Lib.hid (bel_grown (bal HB10.out _) hg HB10.out.size); have HG11 := Lib.hid hh; have HP11 := Lib.hid (keep_grown (keep_at HP10.out (bal (bel0 w10) _)) hg (Nat.ne_of_lt (lt_at HP10.out))); have HQ11 := Lib.hid (keep_grown (keep_at HQ10.out (bal (bel0 w10) _)) hg (Nat.ne_of_lt (lt_at HQ10.out))); have HF11 := Lib.hid (keep_grown (keep_at HF10.out (bal (bel0 w10) _)) hg (Nat.ne_of_lt (lt_at HF10.out)));  clear hg hz hh)
    | (with_reducible refine wpList_loadB rfl 60 (.tmp 11) rfl w8.heap.size rfl 60 #[.int .i64 P.seat, .int .i64 P.count, .bool P.cmd, cv ⟨P.kind, P.sort, P.nr, P.ns, P.pf⟩, .string P.body] HF11.out _ Tryd.underlying60 rfl (by kernel_rfl) ?_)
    | (go_at_call_of 47 (Value.agg #[.int .i64 P.seat, .int .i64 P.count, .bool P.cmd, cv ⟨P.kind, P.sort, P.nr, P.ns, P.pf⟩, .string P.body]); ((with_reducible refine (HPF.out _ (HC.out.below HB11.out)).mono ?_); rintro e w12 ⟨u, rfl, hu, hb⟩; have HB12 := Lib.hid (bel_trans HB11.out hb); have HP12 := Lib.hid (keep_at HP11.out hb); have HQ12 := Lib.hid (keep_at HQ11.out hb); have HG12 := Lib.hid (keep_at HG11.out hb); have HU12 := Lib.hid hu.rds; obtain ⟨Au, cu, rfl, _⟩ := hu.rds; clear hu hb))
    | (with_reducible refine wpList_loadB rfl 60 (.tmp 13) rfl w10.heap.size rfl 60 #[.int .i64 P.seat, .int .i64 P.count, .bool P.cmd, cv ⟨P.kind, P.sort, n, P.ns, P.pf⟩, .string P.body] HG12.out _ Tryd.underlying60 rfl (by kernel_rfl) ?_)
    | (go_at_call_of 47 (Value.agg #[.int .i64 P.seat, .int .i64 P.count, .bool P.cmd, cv ⟨P.kind, P.sort, n, P.ns, P.pf⟩, .string P.body]); ((with_reducible refine (HPG.out _ (HC.out.below HB12.out)).mono ?_); rintro e w13 ⟨v, rfl, hv, hb⟩; have HB13 := Lib.hid (bel_trans HB12.out hb); have HP13 := Lib.hid (keep_at HP12.out hb); have HQ13 := Lib.hid (keep_at HQ12.out hb); have HU13 := Lib.hid (HU12.out.below hb); have HV13 := Lib.hid hv.rds; obtain ⟨Av, cv2, rfl, _⟩ := hv.rds; clear hv hb)))
  refine rest_begin (by kernel_rfl) ?_
  refine rest_take 0 (oi := _) (v := ?_) (by simp only [List.getElem?_toArray, List.getElem?_cons_zero]; rfl) (by kernel_rfl) (by kernel_rfl) (by kernel_rfl) (by exact fun _ _ _ h => h) (by rfl) ?_ ?_; rotate_left; (· intro W HW; go_simp; try with_reducible rfl)
  simp only [Act.put, List.setIfInBounds_toArray, List.set_cons_zero, List.set_cons_succ]
  refine rest_take 1 (oi := _) (v := ?_) (by simp only [List.getElem?_toArray, List.getElem?_cons_succ, List.getElem?_cons_zero]; rfl) (by kernel_rfl) (by kernel_rfl) (by kernel_rfl) (by exact fun _ _ _ h => h) (by rfl) ?_ ?_; rotate_left; (· intro W HW; go_simp; try with_reducible rfl)
  simp only [Act.put, List.setIfInBounds_toArray, List.set_cons_zero, List.set_cons_succ]
  refine rest_take 2 (oi := _) (v := ?_) (by simp only [List.getElem?_toArray, List.getElem?_cons_succ, List.getElem?_cons_zero]; rfl) (by kernel_rfl) (by kernel_rfl) (by kernel_rfl) (by exact fun _ _ _ h => h) (by rfl) ?_ ?_; rotate_left; (· intro W HW; go_simp; try with_reducible rfl)
  simp only [Act.put, List.setIfInBounds_toArray, List.set_cons_zero, List.set_cons_succ]
  refine rest_loadB 3 (oi := _) (by simp only [List.getElem?_toArray, List.getElem?_cons_succ, List.getElem?_cons_zero]; rfl) (by kernel_rfl) (by kernel_rfl) (by kernel_rfl) #[.int .i64 P.seat, .int .i64 P.count, .bool P.cmd, .int .i64 P.kind, .int .i64 P.sort, .int .i64 n, .int .i64 P.ns, .bool P.pf, .string P.body] (by exact fun _ _ _ h => h) (by rfl) 34 (.tmp 10) rfl _ rfl _ (HQ13.out) _ Tryd.underlying34 rfl (by kernel_rfl) ?_
  simp only [Act.put, List.setIfInBounds_toArray, List.set_cons_zero, List.set_cons_succ]
  refine rest_call 4 (oi := _) (by simp only [List.getElem?_toArray, List.getElem?_cons_succ, List.getElem?_cons_zero]; rfl) 46 #[.agg #[.int .i64 P.seat, .int .i64 P.count, .bool P.cmd, .int .i64 P.kind, .int .i64 P.sort, .int .i64 n, .int .i64 P.ns, .bool P.pf, .string P.body]] _ (by kernel_rfl) (by rfl) (by go_simp) (HMQ.out w13.drew) ?_
  rintro e w14 ⟨rfl, hb⟩; refine ⟨_, rfl, hb, ?_⟩; have HB14 := Lib.hid (bel_trans HB13.out.drew hb); have HP14 := Lib.hid (keep_at (w := w13.drew) HP13.out hb); have HQ14 := Lib.hid (keep_at (w := w13.drew) HQ13.out hb); have HU14 := Lib.hid (Rds.below (w := w13.drew) HU13.out hb); have HV14 := Lib.hid (Rds.below (w := w13.drew) HV13.out hb); clear hb
  simp only [Act.put, List.setIfInBounds_toArray, List.set_cons_zero, List.set_cons_succ]
  refine rest_take 5 (oi := _) (v := ?_) (by simp only [List.getElem?_toArray, List.getElem?_cons_succ, List.getElem?_cons_zero]; rfl) (by kernel_rfl) (by kernel_rfl) (by kernel_rfl) (by exact fun _ _ _ h => h) (by rfl) ?_ ?_; rotate_left; (· intro W HW; go_simp; try with_reducible rfl)
  simp only [Act.put, List.setIfInBounds_toArray, List.set_cons_zero, List.set_cons_succ]
  refine rest_take 6 (oi := _) (v := ?_) (by simp only [List.getElem?_toArray, List.getElem?_cons_succ, List.getElem?_cons_zero]; rfl) (by kernel_rfl) (by kernel_rfl) (by kernel_rfl) (by exact fun _ _ _ h => h) (by rfl) ?_ ?_; rotate_left; (· intro W HW; go_simp; try with_reducible rfl)
  simp only [Act.put, List.setIfInBounds_toArray, List.set_cons_zero, List.set_cons_succ]
  refine rest_take 7 (oi := _) (v := ?_) (by simp only [List.getElem?_toArray, List.getElem?_cons_succ, List.getElem?_cons_zero]; rfl) (by kernel_rfl) (by kernel_rfl) (by kernel_rfl) (by exact fun _ _ _ h => h) (by rfl) ?_ ?_; rotate_left; (· intro W HW; go_simp; try with_reducible rfl)
  simp only [Act.put, List.setIfInBounds_toArray, List.set_cons_zero, List.set_cons_succ]
  refine rest_take 8 (oi := _) (v := ?_) (by simp only [List.getElem?_toArray, List.getElem?_cons_succ, List.getElem?_cons_zero]; rfl) (by kernel_rfl) (by kernel_rfl) (by kernel_rfl) (by exact fun _ _ _ h => h) (by rfl) ?_ ?_; rotate_left; (· intro W HW; go_simp; try with_reducible rfl)
  simp only [Act.put, List.setIfInBounds_toArray, List.set_cons_zero, List.set_cons_succ]
  refine rest_take 9 (oi := _) (v := ?_) (by simp only [List.getElem?_toArray, List.getElem?_cons_succ, List.getElem?_cons_zero]; rfl) (by kernel_rfl) (by kernel_rfl) (by kernel_rfl) (by exact fun _ _ _ h => h) (by rfl) ?_ ?_; rotate_left; (· intro W HW; go_simp; try with_reducible rfl)
  simp only [Act.put, List.setIfInBounds_toArray, List.set_cons_zero, List.set_cons_succ]
  refine rest_take 10 (oi := _) (v := ?_) (by simp only [List.getElem?_toArray, List.getElem?_cons_succ, List.getElem?_cons_zero]; rfl) (by kernel_rfl) (by kernel_rfl) (by kernel_rfl) (by exact fun _ _ _ h => h) (by rfl) ?_ ?_; rotate_left; (· intro W HW; go_simp; try with_reducible rfl)
  simp only [Act.put, List.setIfInBounds_toArray, List.set_cons_zero, List.set_cons_succ]
  refine rest_take 11 (oi := _) (v := ?_) (by simp only [List.getElem?_toArray, List.getElem?_cons_succ, List.getElem?_cons_zero]; rfl) (by kernel_rfl) (by kernel_rfl) (by kernel_rfl) (by exact fun _ _ _ h => h) (by rfl) ?_ ?_; rotate_left; (· intro W HW; go_simp; try with_reducible rfl)
  simp only [Act.put, List.setIfInBounds_toArray, List.set_cons_zero, List.set_cons_succ]
  refine rest_conv 12 (oi := _) (by simp only [List.getElem?_toArray, List.getElem?_cons_succ, List.getElem?_cons_zero]; rfl) (.tmp 96) _ (putF P.pl) (by kernel_rfl) (by kernel_rfl) (by kernel_rfl) (by exact fun _ _ _ h => h) (by rfl) rfl rfl HU14.out ?_
  simp only [Act.put, List.setIfInBounds_toArray, List.set_cons_zero, List.set_cons_succ]
  refine rest_take 13 (oi := _) (v := ?_) (by simp only [List.getElem?_toArray, List.getElem?_cons_succ, List.getElem?_cons_zero]; rfl) (by kernel_rfl) (by kernel_rfl) (by kernel_rfl) (by exact fun _ _ _ h => h) (by rfl) ?_ ?_; rotate_left; (· intro W HW; go_simp; try with_reducible rfl)
  simp only [Act.put, List.setIfInBounds_toArray, List.set_cons_zero, List.set_cons_succ]
  refine rest_conv 14 (oi := _) (by simp only [List.getElem?_toArray, List.getElem?_cons_succ, List.getElem?_cons_zero]; rfl) (.tmp 98) _ (putF (PIn.pl ⟨P.seat, P.count, P.cmd, P.kind, P.sort, n, P.ns, P.pf, P.body⟩)) (by kernel_rfl) (by kernel_rfl) (by kernel_rfl) (by exact fun _ _ _ h => h) (by rfl) rfl rfl HV14.out ?_
  simp only [Act.put, List.setIfInBounds_toArray, List.set_cons_zero, List.set_cons_succ]
  refine rest_take 15 (oi := _) (v := .bool d) (by simp only [List.getElem?_toArray, List.getElem?_cons_succ, List.getElem?_cons_zero]; rfl) (by kernel_rfl) (by kernel_rfl) (by kernel_rfl) (by exact fun _ _ _ h => h) (by rfl) (fun W HW => exec_cmp rfl rfl rfl (guard_str _ _ _ _ _ _ W) (HST.out W)) ?_
  simp only [Act.put, List.setIfInBounds_toArray, List.set_cons_zero, List.set_cons_succ]
  refine rest_loadB 16 (oi := _) (by simp only [List.getElem?_toArray, List.getElem?_cons_succ, List.getElem?_cons_zero]; rfl) (by kernel_rfl) (by kernel_rfl) (by kernel_rfl) #[.int .i64 P.seat, .int .i64 P.count, .bool P.cmd, .int .i64 P.kind, .int .i64 P.sort, .int .i64 P.nr, .int .i64 P.ns, .bool P.pf, .string P.body] (by exact fun _ _ _ h => h) (by rfl) 34 (.tmp 4) rfl _ rfl _ (HP14.out) _ Tryd.underlying34 rfl (by kernel_rfl) ?_
  simp only [Act.put, List.setIfInBounds_toArray, List.set_cons_zero, List.set_cons_succ]
  refine rest_loadB 17 (oi := _) (by simp only [List.getElem?_toArray, List.getElem?_cons_succ, List.getElem?_cons_zero]; rfl) (by kernel_rfl) (by kernel_rfl) (by kernel_rfl) #[.int .i64 P.seat, .int .i64 P.count, .bool P.cmd, .int .i64 P.kind, .int .i64 P.sort, .int .i64 n, .int .i64 P.ns, .bool P.pf, .string P.body] (by exact fun _ _ _ h => h) (by rfl) 34 (.tmp 10) rfl _ rfl _ (HQ14.out) _ Tryd.underlying34 rfl (by kernel_rfl) ?_
  simp only [Act.put, List.setIfInBounds_toArray, List.set_cons_zero, List.set_cons_succ]
  refine rest_take 18 (oi := _) (v := .bool d) (by simp only [List.getElem?_toArray, List.getElem?_cons_succ, List.getElem?_cons_zero]; rfl) (by kernel_rfl) (by kernel_rfl) (by kernel_rfl) (by exact fun _ _ _ h => h) (by rfl) (fun W HW => exec_cmp rfl rfl rfl (guard_Pl _ _ _ _ _ W) (HQE.out W)) ?_
  simp only [Act.put, List.setIfInBounds_toArray, List.set_cons_zero, List.set_cons_succ]
  refine rest_take 19 (oi := _) (v := ?_) (by simp only [List.getElem?_toArray, List.getElem?_cons_succ, List.getElem?_cons_zero]; rfl) (by kernel_rfl) (by kernel_rfl) (by kernel_rfl) (by exact fun _ _ _ h => h) (by rfl) ?_ ?_; rotate_left; (· intro W HW; go_simp; try with_reducible rfl)
  simp only [Act.put, List.setIfInBounds_toArray, List.set_cons_zero, List.set_cons_succ]
  refine rest_take 20 (oi := _) (v := ?_) (by simp only [List.getElem?_toArray, List.getElem?_cons_succ, List.getElem?_cons_zero]; rfl) (by kernel_rfl) (by kernel_rfl) (by kernel_rfl) (by exact fun _ _ _ h => h) (by rfl) ?_ ?_; rotate_left; (· intro W HW; go_simp; try with_reducible rfl)
  simp only [Act.put, List.setIfInBounds_toArray, List.set_cons_zero, List.set_cons_succ]
  refine rest_take 21 (oi := _) (v := ?_) (by simp only [List.getElem?_toArray, List.getElem?_cons_succ, List.getElem?_cons_zero]; rfl) (by kernel_rfl) (by kernel_rfl) (by kernel_rfl) (by exact fun _ _ _ h => h) (by rfl) ?_ ?_; rotate_left; (· intro W HW; go_simp; try with_reducible rfl)
  simp only [Act.put, List.setIfInBounds_toArray, List.set_cons_zero, List.set_cons_succ]
  refine rest_take 22 (oi := _) (v := ?_) (by simp only [List.getElem?_toArray, List.getElem?_cons_succ, List.getElem?_cons_zero]; rfl) (by kernel_rfl) (by kernel_rfl) (by kernel_rfl) (by exact fun _ _ _ h => h) (by rfl) ?_ ?_; rotate_left; (· intro W HW; go_simp; try with_reducible rfl)
  simp only [Act.put, List.setIfInBounds_toArray, List.set_cons_zero, List.set_cons_succ]
  refine rest_done (by kernel_rfl) ?_
  go_wp2
  go_ret
  exact ⟨by cases d <;> rfl, HB14.out⟩

set_option maxRecDepth 100000 in
set_option maxHeartbeats 8000000 in
theorem FrameTurn_4n (p P : PIn) (wh n : Int) (s : ByteArray) (w : World) (hlp : ∀ w, Calls Tryd.prog 32 #[p.val] w fun e w' => e = .returned P.val ∧ Below w.heap.size w w') (hP : P.ok) (hC : Codes w) (hmp : decide (mayF P.pl) = true) (hQ : PIn.ok ⟨P.seat, P.count, P.cmd, P.kind, P.sort, P.nr, P.ns, !P.pf, P.body⟩) (hmq : decide (mayF (PIn.pl ⟨P.seat, P.count, P.cmd, P.kind, P.sort, P.nr, P.ns, !P.pf, P.body⟩)) = false) (hk : (wh.tmod 7 + 7) % 7 = 4) : Calls Tryd.prog 16 #[p.val, .int .i64 wh, .int .i64 n, .string s] w (Holds4 w) := by
  have HC := Lib.hid hC
  have HLP := Lib.hid hlp
  have HMP := Lib.hid (fun w => RMay_is (p := P) w hmp)
  have HMQ := Lib.hid (fun w => RMay_is (p := ⟨P.seat, P.count, P.cmd, P.kind, P.sort, P.nr, P.ns, !P.pf, P.body⟩) w hmq)
  have HOP := Lib.hid (fun w hC => FOf_yes P w hP (of_decide_eq_true hmp) hC)
  have HPF := Lib.hid (fun w hC => FPut_yes P w (of_decide_eq_true hmp) hC)
  have HOQ := Lib.hid (fun w hC => FOf_no ⟨P.seat, P.count, P.cmd, P.kind, P.sort, P.nr, P.ns, !P.pf, P.body⟩ w hQ (of_decide_eq_false hmq) hC)
  have HPG := Lib.hid (fun w => FPut_no 0 0 false .nilIface ⟨#[]⟩ w (.inr (.inr (.inr ⟨rfl, .inl rfl⟩))))
  have a1 : -6 ≤ wh.tmod 7 := by have := Int.lt_tmod_of_pos wh (show (0 : Int) < 7 by decide); omega
  have a2 : wh.tmod 7 ≤ 6 := by have := Int.tmod_lt_of_pos wh (show (0 : Int) < 7 by decide); omega
  clear hC hlp hP hmp hQ hmq
  go_enter Tryd.func16, Tryd.ntmps16
  go_wp2_with (first
    | ((with_reducible refine wpList_boxS rfl 34 _ (.tmp 0) rfl rfl (run_boxPl p.seat p.count p.cmd p.kind p.sort p.nr p.ns p.pf p.body) ?_); intro w1 hb1 hlt1 hh1; have HB1 := Lib.hid hb1; have HP1 := Lib.hid hh1; clear hb1 hh1)
    | (go_at_call 20; refine (begun4_any _ (HC.out.below HB1.out)).mono ?_; rintro e w2 ⟨rfl, hb⟩; have HB2 := Lib.hid (bel_trans HB1.out hb); have HP2 := Lib.hid (keep_at HP1.out hb); clear hb)
    | (with_reducible refine wpList_loadB rfl 34 (.tmp 4) rfl w.heap.size rfl 34 #[.int .i64 p.seat, .int .i64 p.count, .bool p.cmd, .int .i64 p.kind, .int .i64 p.sort, .int .i64 p.nr, .int .i64 p.ns, .bool p.pf, .string p.body] HP2.out _ Tryd.underlying34 rfl (by kernel_rfl) ?_)
    | (go_at_call 32; ((with_reducible refine (HLP.out _).mono ?_); rintro e w3 ⟨rfl, hb⟩; have HB3 := Lib.hid (bel_trans HB2.out hb); have HP3 := Lib.hid (keep_at HP2.out hb); clear hb))
    | ((with_reducible refine wpList_storeB rfl 34 (.tmp 4) _ rfl w.heap.size #[.int .i64 P.seat, .int .i64 P.count, .bool P.cmd, .int .i64 P.kind, .int .i64 P.sort, .int .i64 P.nr, .int .i64 P.ns, .bool P.pf, .string P.body] rfl rfl 34 _ HP3.out (by kernel_rfl) (by kernel_rfl) (by kernel_rfl) ?_); intro w4 hg4 hz4 hh4; have HB4 := Lib.hid (bel_grown HB3.out hg4 (Nat.le_refl _)); have HP4 := Lib.hid hh4; clear hg4 hz4 hh4)
    | (with_reducible refine wpList_loadB rfl 34 (.tmp 4) rfl w.heap.size rfl 34 #[.int .i64 P.seat, .int .i64 P.count, .bool P.cmd, .int .i64 P.kind, .int .i64 P.sort, .int .i64 P.nr, .int .i64 P.ns, .bool P.pf, .string P.body] HP4.out _ Tryd.underlying34 rfl (by kernel_rfl) ?_)
    | (go_at_call 46; ((with_reducible refine (HMP.out _).mono ?_); rintro e w5 ⟨rfl, hb⟩; have HB5 := Lib.hid (bel_trans HB4.out hb); have HP5 := Lib.hid (keep_at HP4.out hb); clear hb))
    | (with_reducible refine wpList_loadB rfl 34 (.tmp 4) rfl w.heap.size rfl 34 #[.int .i64 P.seat, .int .i64 P.count, .bool P.cmd, .int .i64 P.kind, .int .i64 P.sort, .int .i64 P.nr, .int .i64 P.ns, .bool P.pf, .string P.body] HP5.out _ Tryd.underlying34 rfl (by kernel_rfl) ?_)
    | ((with_reducible refine wpList_storeB rfl 34 (.tmp 10) _ rfl w5.heap.size #[.int .i64 P.seat, .int .i64 P.count, .bool P.cmd, .int .i64 P.kind, .int .i64 P.sort, .int .i64 P.nr, .int .i64 P.ns, .bool P.pf, .string P.body] rfl rfl 34 _ (heap_alloc_new w5 _) (by kernel_rfl) (by kernel_rfl) (by kernel_rfl) ?_); intro w6 hg hz hh; have HB6 := Lib.hid (bel_grown (bal HB5.out _) hg HB5.out.size); have HQ6 := Lib.hid hh; have HP6 := Lib.hid (keep_grown (keep_at HP5.out (bal (bel0 w5) _)) hg (Nat.ne_of_lt (lt_at HP5.out)));  have m7 := cell_at HQ6.out 7 _ rfl; clear hg hz hh)
    | ((with_reducible refine wpList_store1 rfl 4 (.tmp 59) (.tmp 58) rfl w5.heap.size 7 (.bool (!P.pf)) rfl rfl 34 _ HQ6.out (by simp) (storeBool w5.heap.size 7 _) ?_); intro w7 hg hh; have HB7 := Lib.hid (bel_grown HB6.out hg HB5.out.size); have HQ7 : Hid (w7.heap[w5.heap.size]? = some (.cells #[.int .i64 P.seat, .int .i64 P.count, .bool P.cmd, .int .i64 P.kind, .int .i64 P.sort, .int .i64 P.nr, .int .i64 P.ns, .bool (!P.pf), .string P.body] 34 (0, 0))) := hh; have HP7 := Lib.hid (keep_grown HP6.out hg (Nat.ne_of_lt (lt_at HP5.out))); clear hg hh)
    | (with_reducible refine wpList_loadB rfl 34 (.tmp 4) rfl w.heap.size rfl 34 #[.int .i64 P.seat, .int .i64 P.count, .bool P.cmd, .int .i64 P.kind, .int .i64 P.sort, .int .i64 P.nr, .int .i64 P.ns, .bool P.pf, .string P.body] HP7.out _ Tryd.underlying34 rfl (by kernel_rfl) ?_)
    | (go_at_call_of 45 (Value.agg #[.int .i64 P.seat, .int .i64 P.count, .bool P.cmd, .int .i64 P.kind, .int .i64 P.sort, .int .i64 P.nr, .int .i64 P.ns, .bool P.pf, .string P.body]); ((with_reducible refine (HOP.out _ (HC.out.below HB7.out)).mono ?_); rintro e w8 ⟨rfl, hb⟩; have HB8 := Lib.hid (bel_trans HB7.out hb); have HP8 := Lib.hid (keep_at HP7.out hb); have HQ8 := Lib.hid (keep_at HQ7.out hb); clear hb))
    | ((with_reducible refine wpList_storeB rfl 60 (.tmp 11) _ rfl w8.heap.size #[.int .i64 P.seat, .int .i64 P.count, .bool P.cmd, cv ⟨P.kind, P.sort, P.nr, P.ns, P.pf⟩, .string P.body] rfl rfl 60 _ (heap_alloc_new w8 _) (by kernel_rfl) rfl (frone _ _ _ _ _) ?_); intro w9 hg hz hh; have HB9 := Lib.hid (bel_grown (bal HB8.out _) hg HB8.out.size); have HF9 := Lib.hid hh; have HP9 := Lib.hid (keep_grown (keep_at HP8.out (bal (bel0 w8) _)) hg (Nat.ne_of_lt (lt_at HP8.out))); have HQ9 := Lib.hid (keep_grown (keep_at HQ8.out (bal (bel0 w8) _)) hg (Nat.ne_of_lt (lt_at HQ8.out)));  clear hg hz hh)
    | (with_reducible refine wpList_loadB rfl 34 (.tmp 10) rfl w5.heap.size rfl 34 #[.int .i64 P.seat, .int .i64 P.count, .bool P.cmd, .int .i64 P.kind, .int .i64 P.sort, .int .i64 P.nr, .int .i64 P.ns, .bool (!P.pf), .string P.body] HQ9.out _ Tryd.underlying34 rfl (by kernel_rfl) ?_)
    | (go_at_call_of 45 (Value.agg #[.int .i64 P.seat, .int .i64 P.count, .bool P.cmd, .int .i64 P.kind, .int .i64 P.sort, .int .i64 P.nr, .int .i64 P.ns, .bool (!P.pf), .string P.body]); ((with_reducible refine (HOQ.out _ (HC.out.below HB9.out)).mono ?_); rintro e w10 ⟨rfl, hb⟩; have HB10 := Lib.hid (bel_trans HB9.out hb); have HP10 := Lib.hid (keep_at HP9.out hb); have HQ10 := Lib.hid (keep_at HQ9.out hb); have HF10 := Lib.hid (keep_at HF9.out hb); clear hb))
    | ((with_reducible refine wpList_storeB rfl 60 (.tmp 13) _ rfl w10.heap.size #[.int .i64 0, .int .i64 0, .bool false, .nilIface, .string ⟨#[]⟩] rfl rfl 60 _ (heap_alloc_new w10 _) (by kernel_rfl) rfl (by kernel_rfl) ?_); intro w11 hg hz hh; have HB11 := Lib.hid (bel_grown (bal HB10.out _) hg HB10.out.size); have HG11 := Lib.hid hh; have HP11 := Lib.hid (keep_grown (keep_at HP10.out (bal (bel0 w10) _)) hg (Nat.ne_of_lt (lt_at HP10.out))); have HQ11 := Lib.hid (keep_grown (keep_at HQ10.out (bal (bel0 w10) _)) hg (Nat.ne_of_lt (lt_at HQ10.out))); have HF11 := Lib.hid (keep_grown (keep_at HF10.out (bal (bel0 w10) _)) hg (Nat.ne_of_lt (lt_at HF10.out)));  clear hg hz hh)
    | (with_reducible refine wpList_loadB rfl 60 (.tmp 11) rfl w8.heap.size rfl 60 #[.int .i64 P.seat, .int .i64 P.count, .bool P.cmd, cv ⟨P.kind, P.sort, P.nr, P.ns, P.pf⟩, .string P.body] HF11.out _ Tryd.underlying60 rfl (by kernel_rfl) ?_)
    | (go_at_call_of 47 (Value.agg #[.int .i64 P.seat, .int .i64 P.count, .bool P.cmd, cv ⟨P.kind, P.sort, P.nr, P.ns, P.pf⟩, .string P.body]); ((with_reducible refine (HPF.out _ (HC.out.below HB11.out)).mono ?_); rintro e w12 ⟨u, rfl, hu, hb⟩; have HB12 := Lib.hid (bel_trans HB11.out hb); have HP12 := Lib.hid (keep_at HP11.out hb); have HQ12 := Lib.hid (keep_at HQ11.out hb); have HG12 := Lib.hid (keep_at HG11.out hb); have HU12 := Lib.hid hu.rds; obtain ⟨Au, cu, rfl, _⟩ := hu.rds; clear hu hb))
    | (with_reducible refine wpList_loadB rfl 60 (.tmp 13) rfl w10.heap.size rfl 60 #[.int .i64 0, .int .i64 0, .bool false, .nilIface, .string ⟨#[]⟩] HG12.out _ Tryd.underlying60 rfl (by kernel_rfl) ?_)
    | (go_at_call_of 47 (Value.agg #[.int .i64 0, .int .i64 0, .bool false, .nilIface, .string ⟨#[]⟩]); ((with_reducible refine (HPG.out _).mono ?_); rintro e w13 ⟨rfl, hb⟩; have HB13 := Lib.hid (bel_trans HB12.out hb); have HP13 := Lib.hid (keep_at HP12.out hb); have HQ13 := Lib.hid (keep_at HQ12.out hb); clear hb)))
  refine rest_begin (by kernel_rfl) ?_
  refine rest_take 0 (oi := _) (v := ?_) (by simp only [List.getElem?_toArray, List.getElem?_cons_zero]; rfl) (by kernel_rfl) (by kernel_rfl) (by kernel_rfl) (by exact fun _ _ _ h => h) (by rfl) ?_ ?_; rotate_left; (· intro W HW; go_simp; try with_reducible rfl)
  simp only [Act.put, List.setIfInBounds_toArray, List.set_cons_zero, List.set_cons_succ]
  refine rest_take 1 (oi := _) (v := ?_) (by simp only [List.getElem?_toArray, List.getElem?_cons_succ, List.getElem?_cons_zero]; rfl) (by kernel_rfl) (by kernel_rfl) (by kernel_rfl) (by exact fun _ _ _ h => h) (by rfl) ?_ ?_; rotate_left; (· intro W HW; go_simp; try with_reducible rfl)
  simp only [Act.put, List.setIfInBounds_toArray, List.set_cons_zero, List.set_cons_succ]
  refine rest_take 2 (oi := _) (v := ?_) (by simp only [List.getElem?_toArray, List.getElem?_cons_succ, List.getElem?_cons_zero]; rfl) (by kernel_rfl) (by kernel_rfl) (by kernel_rfl) (by exact fun _ _ _ h => h) (by rfl) ?_ ?_; rotate_left; (· intro W HW; go_simp; try with_reducible rfl)
  simp only [Act.put, List.setIfInBounds_toArray, List.set_cons_zero, List.set_cons_succ]
  refine rest_loadB 3 (oi := _) (by simp only [List.getElem?_toArray, List.getElem?_cons_succ, List.getElem?_cons_zero]; rfl) (by kernel_rfl) (by kernel_rfl) (by kernel_rfl) #[.int .i64 P.seat, .int .i64 P.count, .bool P.cmd, .int .i64 P.kind, .int .i64 P.sort, .int .i64 P.nr, .int .i64 P.ns, .bool (!P.pf), .string P.body] (by exact fun _ _ _ h => h) (by rfl) 34 (.tmp 10) rfl _ rfl _ (HQ13.out) _ Tryd.underlying34 rfl (by kernel_rfl) ?_
  simp only [Act.put, List.setIfInBounds_toArray, List.set_cons_zero, List.set_cons_succ]
  refine rest_call 4 (oi := _) (by simp only [List.getElem?_toArray, List.getElem?_cons_succ, List.getElem?_cons_zero]; rfl) 46 #[.agg #[.int .i64 P.seat, .int .i64 P.count, .bool P.cmd, .int .i64 P.kind, .int .i64 P.sort, .int .i64 P.nr, .int .i64 P.ns, .bool (!P.pf), .string P.body]] _ (by kernel_rfl) (by rfl) (by go_simp) (HMQ.out w13.drew) ?_
  rintro e w14 ⟨rfl, hb⟩; refine ⟨_, rfl, hb, ?_⟩; have HB14 := Lib.hid (bel_trans HB13.out.drew hb); have HP14 := Lib.hid (keep_at (w := w13.drew) HP13.out hb); have HQ14 := Lib.hid (keep_at (w := w13.drew) HQ13.out hb); clear hb
  simp only [Act.put, List.setIfInBounds_toArray, List.set_cons_zero, List.set_cons_succ]
  refine rest_take 5 (oi := _) (v := ?_) (by simp only [List.getElem?_toArray, List.getElem?_cons_succ, List.getElem?_cons_zero]; rfl) (by kernel_rfl) (by kernel_rfl) (by kernel_rfl) (by exact fun _ _ _ h => h) (by rfl) ?_ ?_; rotate_left; (· intro W HW; go_simp; try with_reducible rfl)
  simp only [Act.put, List.setIfInBounds_toArray, List.set_cons_zero, List.set_cons_succ]
  refine rest_take 6 (oi := _) (v := ?_) (by simp only [List.getElem?_toArray, List.getElem?_cons_succ, List.getElem?_cons_zero]; rfl) (by kernel_rfl) (by kernel_rfl) (by kernel_rfl) (by exact fun _ _ _ h => h) (by rfl) ?_ ?_; rotate_left; (· intro W HW; go_simp; try with_reducible rfl)
  simp only [Act.put, List.setIfInBounds_toArray, List.set_cons_zero, List.set_cons_succ]
  refine rest_take 7 (oi := _) (v := ?_) (by simp only [List.getElem?_toArray, List.getElem?_cons_succ, List.getElem?_cons_zero]; rfl) (by kernel_rfl) (by kernel_rfl) (by kernel_rfl) (by exact fun _ _ _ h => h) (by rfl) ?_ ?_; rotate_left; (· intro W HW; go_simp; try with_reducible rfl)
  simp only [Act.put, List.setIfInBounds_toArray, List.set_cons_zero, List.set_cons_succ]
  refine rest_take 8 (oi := _) (v := ?_) (by simp only [List.getElem?_toArray, List.getElem?_cons_succ, List.getElem?_cons_zero]; rfl) (by kernel_rfl) (by kernel_rfl) (by kernel_rfl) (by exact fun _ _ _ h => h) (by rfl) ?_ ?_; rotate_left; (· intro W HW; go_simp; try with_reducible rfl)
  simp only [Act.put, List.setIfInBounds_toArray, List.set_cons_zero, List.set_cons_succ]
  refine rest_take 9 (oi := _) (v := ?_) (by simp only [List.getElem?_toArray, List.getElem?_cons_succ, List.getElem?_cons_zero]; rfl) (by kernel_rfl) (by kernel_rfl) (by kernel_rfl) (by exact fun _ _ _ h => h) (by rfl) ?_ ?_; rotate_left; (· intro W HW; go_simp; try with_reducible rfl)
  simp only [Act.put, List.setIfInBounds_toArray, List.set_cons_zero, List.set_cons_succ]
  refine rest_take 10 (oi := _) (v := ?_) (by simp only [List.getElem?_toArray, List.getElem?_cons_succ, List.getElem?_cons_zero]; rfl) (by kernel_rfl) (by kernel_rfl) (by kernel_rfl) (by exact fun _ _ _ h => h) (by rfl) ?_ ?_; rotate_left; (· intro W HW; go_simp; try with_reducible rfl)
  simp only [Act.put, List.setIfInBounds_toArray, List.set_cons_zero, List.set_cons_succ]
  refine rest_skip 11 (oi := _) (by simp only [List.getElem?_toArray, List.getElem?_cons_succ, List.getElem?_cons_zero]; rfl) (by kernel_rfl) (by kernel_rfl) (by kernel_rfl) (by exact fun _ _ _ h => h) (by rfl) ?_
  simp only [Act.put, List.setIfInBounds_toArray, List.set_cons_zero, List.set_cons_succ]
  refine rest_skip 12 (oi := _) (by simp only [List.getElem?_toArray, List.getElem?_cons_succ, List.getElem?_cons_zero]; rfl) (by kernel_rfl) (by kernel_rfl) (by kernel_rfl) (by exact fun _ _ _ h => h) (by rfl) ?_
  simp only [Act.put, List.setIfInBounds_toArray, List.set_cons_zero, List.set_cons_succ]
  refine rest_skip 13 (oi := _) (by simp only [List.getElem?_toArray, List.getElem?_cons_succ, List.getElem?_cons_zero]; rfl) (by kernel_rfl) (by kernel_rfl) (by kernel_rfl) (by exact fun _ _ _ h => h) (by rfl) ?_
  simp only [Act.put, List.setIfInBounds_toArray, List.set_cons_zero, List.set_cons_succ]
  refine rest_skip 14 (oi := _) (by simp only [List.getElem?_toArray, List.getElem?_cons_succ, List.getElem?_cons_zero]; rfl) (by kernel_rfl) (by kernel_rfl) (by kernel_rfl) (by exact fun _ _ _ h => h) (by rfl) ?_
  simp only [Act.put, List.setIfInBounds_toArray, List.set_cons_zero, List.set_cons_succ]
  refine rest_skip 15 (oi := _) (by simp only [List.getElem?_toArray, List.getElem?_cons_succ, List.getElem?_cons_zero]; rfl) (by kernel_rfl) (by kernel_rfl) (by kernel_rfl) (by exact fun _ _ _ h => h) (by rfl) ?_
  simp only [Act.put, List.setIfInBounds_toArray, List.set_cons_zero, List.set_cons_succ]
  refine rest_skip 16 (oi := _) (by simp only [List.getElem?_toArray, List.getElem?_cons_succ, List.getElem?_cons_zero]; rfl) (by kernel_rfl) (by kernel_rfl) (by kernel_rfl) (by exact fun _ _ _ h => h) (by rfl) ?_
  simp only [Act.put, List.setIfInBounds_toArray, List.set_cons_zero, List.set_cons_succ]
  refine rest_skip 17 (oi := _) (by simp only [List.getElem?_toArray, List.getElem?_cons_succ, List.getElem?_cons_zero]; rfl) (by kernel_rfl) (by kernel_rfl) (by kernel_rfl) (by exact fun _ _ _ h => h) (by rfl) ?_
  simp only [Act.put, List.setIfInBounds_toArray, List.set_cons_zero, List.set_cons_succ]
  refine rest_skip 18 (oi := _) (by simp only [List.getElem?_toArray, List.getElem?_cons_succ, List.getElem?_cons_zero]; rfl) (by kernel_rfl) (by kernel_rfl) (by kernel_rfl) (by exact fun _ _ _ h => h) (by rfl) ?_
  simp only [Act.put, List.setIfInBounds_toArray, List.set_cons_zero, List.set_cons_succ]
  refine rest_skip 19 (oi := _) (by simp only [List.getElem?_toArray, List.getElem?_cons_succ, List.getElem?_cons_zero]; rfl) (by kernel_rfl) (by kernel_rfl) (by kernel_rfl) (by exact fun _ _ _ h => h) (by rfl) ?_
  simp only [Act.put, List.setIfInBounds_toArray, List.set_cons_zero, List.set_cons_succ]
  refine rest_take 20 (oi := _) (v := ?_) (by simp only [List.getElem?_toArray, List.getElem?_cons_succ, List.getElem?_cons_zero]; rfl) (by kernel_rfl) (by kernel_rfl) (by kernel_rfl) (by exact fun _ _ _ h => h) (by rfl) ?_ ?_; rotate_left; (· intro W HW; go_simp; try with_reducible rfl)
  simp only [Act.put, List.setIfInBounds_toArray, List.set_cons_zero, List.set_cons_succ]
  refine rest_take 21 (oi := _) (v := ?_) (by simp only [List.getElem?_toArray, List.getElem?_cons_succ, List.getElem?_cons_zero]; rfl) (by kernel_rfl) (by kernel_rfl) (by kernel_rfl) (by exact fun _ _ _ h => h) (by rfl) ?_ ?_; rotate_left; (· intro W HW; go_simp; try with_reducible rfl)
  simp only [Act.put, List.setIfInBounds_toArray, List.set_cons_zero, List.set_cons_succ]
  refine rest_take 22 (oi := _) (v := ?_) (by simp only [List.getElem?_toArray, List.getElem?_cons_succ, List.getElem?_cons_zero]; rfl) (by kernel_rfl) (by kernel_rfl) (by kernel_rfl) (by exact fun _ _ _ h => h) (by rfl) ?_ ?_; rotate_left; (· intro W HW; go_simp; try with_reducible rfl)
  simp only [Act.put, List.setIfInBounds_toArray, List.set_cons_zero, List.set_cons_succ]
  refine rest_done (by kernel_rfl) ?_
  go_wp2
  go_ret
  exact ⟨by rfl, HB14.out⟩

set_option maxRecDepth 100000 in
set_option maxHeartbeats 8000000 in
theorem FrameTurn_4y (p P : PIn) (wh n : Int) (s : ByteArray) (w : World) (hlp : ∀ w, Calls Tryd.prog 32 #[p.val] w fun e w' => e = .returned P.val ∧ Below w.heap.size w w') (hP : P.ok) (hC : Codes w) (hmp : decide (mayF P.pl) = true) (hQ : PIn.ok ⟨P.seat, P.count, P.cmd, P.kind, P.sort, P.nr, P.ns, !P.pf, P.body⟩) (hmq : decide (mayF (PIn.pl ⟨P.seat, P.count, P.cmd, P.kind, P.sort, P.nr, P.ns, !P.pf, P.body⟩)) = true) (hk : (wh.tmod 7 + 7) % 7 = 4) : Calls Tryd.prog 16 #[p.val, .int .i64 wh, .int .i64 n, .string s] w (Holds4 w) := by
  have HC := Lib.hid hC
  have HLP := Lib.hid hlp
  have HMP := Lib.hid (fun w => RMay_is (p := P) w hmp)
  have HMQ := Lib.hid (fun w => RMay_is (p := ⟨P.seat, P.count, P.cmd, P.kind, P.sort, P.nr, P.ns, !P.pf, P.body⟩) w hmq)
  have HOP := Lib.hid (fun w hC => FOf_yes P w hP (of_decide_eq_true hmp) hC)
  have HPF := Lib.hid (fun w hC => FPut_yes P w (of_decide_eq_true hmp) hC)
  have HOQ := Lib.hid (fun w hC => FOf_yes ⟨P.seat, P.count, P.cmd, P.kind, P.sort, P.nr, P.ns, !P.pf, P.body⟩ w hQ (of_decide_eq_true hmq) hC)
  have HPG := Lib.hid (fun w hC => FPut_yes ⟨P.seat, P.count, P.cmd, P.kind, P.sort, P.nr, P.ns, !P.pf, P.body⟩ w (of_decide_eq_true hmq) hC)
  obtain ⟨d, hd⟩ : ∃ d, d = decide (P.pl = PIn.pl ⟨P.seat, P.count, P.cmd, P.kind, P.sort, P.nr, P.ns, !P.pf, P.body⟩) := ⟨_, rfl⟩
  have hqe := fun W => eql_pin P ⟨P.seat, P.count, P.cmd, P.kind, P.sort, P.nr, P.ns, !P.pf, P.body⟩ W
  have hst := fun W => eql_strs ⟨(putF P.pl).toArray⟩ ⟨(putF (PIn.pl ⟨P.seat, P.count, P.cmd, P.kind, P.sort, P.nr, P.ns, !P.pf, P.body⟩)).toArray⟩ W
  rw [str_putF (of_decide_eq_true hmp) (of_decide_eq_true hmq), ← hd] at hst
  rw [← hd] at hqe
  have HQE := Lib.hid hqe
  have HST := Lib.hid hst
  clear hqe hst hd
  have a1 : -6 ≤ wh.tmod 7 := by have := Int.lt_tmod_of_pos wh (show (0 : Int) < 7 by decide); omega
  have a2 : wh.tmod 7 ≤ 6 := by have := Int.tmod_lt_of_pos wh (show (0 : Int) < 7 by decide); omega
  clear hC hlp hP hmp hQ hmq
  go_enter Tryd.func16, Tryd.ntmps16
  go_wp2_with (first
    | ((with_reducible refine wpList_boxS rfl 34 _ (.tmp 0) rfl rfl (run_boxPl p.seat p.count p.cmd p.kind p.sort p.nr p.ns p.pf p.body) ?_); intro w1 hb1 hlt1 hh1; have HB1 := Lib.hid hb1; have HP1 := Lib.hid hh1; clear hb1 hh1)
    | (go_at_call 20; refine (begun4_any _ (HC.out.below HB1.out)).mono ?_; rintro e w2 ⟨rfl, hb⟩; have HB2 := Lib.hid (bel_trans HB1.out hb); have HP2 := Lib.hid (keep_at HP1.out hb); clear hb)
    | (with_reducible refine wpList_loadB rfl 34 (.tmp 4) rfl w.heap.size rfl 34 #[.int .i64 p.seat, .int .i64 p.count, .bool p.cmd, .int .i64 p.kind, .int .i64 p.sort, .int .i64 p.nr, .int .i64 p.ns, .bool p.pf, .string p.body] HP2.out _ Tryd.underlying34 rfl (by kernel_rfl) ?_)
    | (go_at_call 32; ((with_reducible refine (HLP.out _).mono ?_); rintro e w3 ⟨rfl, hb⟩; have HB3 := Lib.hid (bel_trans HB2.out hb); have HP3 := Lib.hid (keep_at HP2.out hb); clear hb))
    | ((with_reducible refine wpList_storeB rfl 34 (.tmp 4) _ rfl w.heap.size #[.int .i64 P.seat, .int .i64 P.count, .bool P.cmd, .int .i64 P.kind, .int .i64 P.sort, .int .i64 P.nr, .int .i64 P.ns, .bool P.pf, .string P.body] rfl rfl 34 _ HP3.out (by kernel_rfl) (by kernel_rfl) (by kernel_rfl) ?_); intro w4 hg4 hz4 hh4; have HB4 := Lib.hid (bel_grown HB3.out hg4 (Nat.le_refl _)); have HP4 := Lib.hid hh4; clear hg4 hz4 hh4)
    | (with_reducible refine wpList_loadB rfl 34 (.tmp 4) rfl w.heap.size rfl 34 #[.int .i64 P.seat, .int .i64 P.count, .bool P.cmd, .int .i64 P.kind, .int .i64 P.sort, .int .i64 P.nr, .int .i64 P.ns, .bool P.pf, .string P.body] HP4.out _ Tryd.underlying34 rfl (by kernel_rfl) ?_)
    | (go_at_call 46; ((with_reducible refine (HMP.out _).mono ?_); rintro e w5 ⟨rfl, hb⟩; have HB5 := Lib.hid (bel_trans HB4.out hb); have HP5 := Lib.hid (keep_at HP4.out hb); clear hb))
    | (with_reducible refine wpList_loadB rfl 34 (.tmp 4) rfl w.heap.size rfl 34 #[.int .i64 P.seat, .int .i64 P.count, .bool P.cmd, .int .i64 P.kind, .int .i64 P.sort, .int .i64 P.nr, .int .i64 P.ns, .bool P.pf, .string P.body] HP5.out _ Tryd.underlying34 rfl (by kernel_rfl) ?_)
    | ((with_reducible refine wpList_storeB rfl 34 (.tmp 10) _ rfl w5.heap.size #[.int .i64 P.seat, .int .i64 P.count, .bool P.cmd, .int .i64 P.kind, .int .i64 P.sort, .int .i64 P.nr, .int .i64 P.ns, .bool P.pf, .string P.body] rfl rfl 34 _ (heap_alloc_new w5 _) (by kernel_rfl) (by kernel_rfl) (by kernel_rfl) ?_); intro w6 hg hz hh; have HB6 := Lib.hid (bel_grown (bal HB5.out _) hg HB5.out.size); have HQ6 := Lib.hid hh; have HP6 := Lib.hid (keep_grown (keep_at HP5.out (bal (bel0 w5) _)) hg (Nat.ne_of_lt (lt_at HP5.out)));  have m7 := cell_at HQ6.out 7 _ rfl; clear hg hz hh)
    | ((with_reducible refine wpList_store1 rfl 4 (.tmp 59) (.tmp 58) rfl w5.heap.size 7 (.bool (!P.pf)) rfl rfl 34 _ HQ6.out (by simp) (storeBool w5.heap.size 7 _) ?_); intro w7 hg hh; have HB7 := Lib.hid (bel_grown HB6.out hg HB5.out.size); have HQ7 : Hid (w7.heap[w5.heap.size]? = some (.cells #[.int .i64 P.seat, .int .i64 P.count, .bool P.cmd, .int .i64 P.kind, .int .i64 P.sort, .int .i64 P.nr, .int .i64 P.ns, .bool (!P.pf), .string P.body] 34 (0, 0))) := hh; have HP7 := Lib.hid (keep_grown HP6.out hg (Nat.ne_of_lt (lt_at HP5.out))); clear hg hh)
    | (with_reducible refine wpList_loadB rfl 34 (.tmp 4) rfl w.heap.size rfl 34 #[.int .i64 P.seat, .int .i64 P.count, .bool P.cmd, .int .i64 P.kind, .int .i64 P.sort, .int .i64 P.nr, .int .i64 P.ns, .bool P.pf, .string P.body] HP7.out _ Tryd.underlying34 rfl (by kernel_rfl) ?_)
    | (go_at_call_of 45 (Value.agg #[.int .i64 P.seat, .int .i64 P.count, .bool P.cmd, .int .i64 P.kind, .int .i64 P.sort, .int .i64 P.nr, .int .i64 P.ns, .bool P.pf, .string P.body]); ((with_reducible refine (HOP.out _ (HC.out.below HB7.out)).mono ?_); rintro e w8 ⟨rfl, hb⟩; have HB8 := Lib.hid (bel_trans HB7.out hb); have HP8 := Lib.hid (keep_at HP7.out hb); have HQ8 := Lib.hid (keep_at HQ7.out hb); clear hb))
    | ((with_reducible refine wpList_storeB rfl 60 (.tmp 11) _ rfl w8.heap.size #[.int .i64 P.seat, .int .i64 P.count, .bool P.cmd, cv ⟨P.kind, P.sort, P.nr, P.ns, P.pf⟩, .string P.body] rfl rfl 60 _ (heap_alloc_new w8 _) (by kernel_rfl) rfl (frone _ _ _ _ _) ?_); intro w9 hg hz hh; have HB9 := Lib.hid (bel_grown (bal HB8.out _) hg HB8.out.size); have HF9 := Lib.hid hh; have HP9 := Lib.hid (keep_grown (keep_at HP8.out (bal (bel0 w8) _)) hg (Nat.ne_of_lt (lt_at HP8.out))); have HQ9 := Lib.hid (keep_grown (keep_at HQ8.out (bal (bel0 w8) _)) hg (Nat.ne_of_lt (lt_at HQ8.out)));  clear hg hz hh)
    | (with_reducible refine wpList_loadB rfl 34 (.tmp 10) rfl w5.heap.size rfl 34 #[.int .i64 P.seat, .int .i64 P.count, .bool P.cmd, .int .i64 P.kind, .int .i64 P.sort, .int .i64 P.nr, .int .i64 P.ns, .bool (!P.pf), .string P.body] HQ9.out _ Tryd.underlying34 rfl (by kernel_rfl) ?_)
    | (go_at_call_of 45 (Value.agg #[.int .i64 P.seat, .int .i64 P.count, .bool P.cmd, .int .i64 P.kind, .int .i64 P.sort, .int .i64 P.nr, .int .i64 P.ns, .bool (!P.pf), .string P.body]); ((with_reducible refine (HOQ.out _ (HC.out.below HB9.out)).mono ?_); rintro e w10 ⟨rfl, hb⟩; have HB10 := Lib.hid (bel_trans HB9.out hb); have HP10 := Lib.hid (keep_at HP9.out hb); have HQ10 := Lib.hid (keep_at HQ9.out hb); have HF10 := Lib.hid (keep_at HF9.out hb); clear hb))
    | ((with_reducible refine wpList_storeB rfl 60 (.tmp 13) _ rfl w10.heap.size #[.int .i64 P.seat, .int .i64 P.count, .bool P.cmd, cv ⟨P.kind, P.sort, P.nr, P.ns, (!P.pf)⟩, .string P.body] rfl rfl 60 _ (heap_alloc_new w10 _) (by kernel_rfl) rfl (frone _ _ _ _ _) ?_); intro w11 hg hz hh; have HB11 := Lib.hid (bel_grown (bal HB10.out _) hg HB10.out.size); have HG11 := Lib.hid hh; have HP11 := Lib.hid (keep_grown (keep_at HP10.out (bal (bel0 w10) _)) hg (Nat.ne_of_lt (lt_at HP10.out))); have HQ11 := Lib.hid (keep_grown (keep_at HQ10.out (bal (bel0 w10) _)) hg (Nat.ne_of_lt (lt_at HQ10.out))); have HF11 := Lib.hid (keep_grown (keep_at HF10.out (bal (bel0 w10) _)) hg (Nat.ne_of_lt (lt_at HF10.out)));  clear hg hz hh)
    | (with_reducible refine wpList_loadB rfl 60 (.tmp 11) rfl w8.heap.size rfl 60 #[.int .i64 P.seat, .int .i64 P.count, .bool P.cmd, cv ⟨P.kind, P.sort, P.nr, P.ns, P.pf⟩, .string P.body] HF11.out _ Tryd.underlying60 rfl (by kernel_rfl) ?_)
    | (go_at_call_of 47 (Value.agg #[.int .i64 P.seat, .int .i64 P.count, .bool P.cmd, cv ⟨P.kind, P.sort, P.nr, P.ns, P.pf⟩, .string P.body]); ((with_reducible refine (HPF.out _ (HC.out.below HB11.out)).mono ?_); rintro e w12 ⟨u, rfl, hu, hb⟩; have HB12 := Lib.hid (bel_trans HB11.out hb); have HP12 := Lib.hid (keep_at HP11.out hb); have HQ12 := Lib.hid (keep_at HQ11.out hb); have HG12 := Lib.hid (keep_at HG11.out hb); have HU12 := Lib.hid hu.rds; obtain ⟨Au, cu, rfl, _⟩ := hu.rds; clear hu hb))
    | (with_reducible refine wpList_loadB rfl 60 (.tmp 13) rfl w10.heap.size rfl 60 #[.int .i64 P.seat, .int .i64 P.count, .bool P.cmd, cv ⟨P.kind, P.sort, P.nr, P.ns, (!P.pf)⟩, .string P.body] HG12.out _ Tryd.underlying60 rfl (by kernel_rfl) ?_)
    | (go_at_call_of 47 (Value.agg #[.int .i64 P.seat, .int .i64 P.count, .bool P.cmd, cv ⟨P.kind, P.sort, P.nr, P.ns, (!P.pf)⟩, .string P.body]); ((with_reducible refine (HPG.out _ (HC.out.below HB12.out)).mono ?_); rintro e w13 ⟨v, rfl, hv, hb⟩; have HB13 := Lib.hid (bel_trans HB12.out hb); have HP13 := Lib.hid (keep_at HP12.out hb); have HQ13 := Lib.hid (keep_at HQ12.out hb); have HU13 := Lib.hid (HU12.out.below hb); have HV13 := Lib.hid hv.rds; obtain ⟨Av, cv2, rfl, _⟩ := hv.rds; clear hv hb)))
  refine rest_begin (by kernel_rfl) ?_
  refine rest_take 0 (oi := _) (v := ?_) (by simp only [List.getElem?_toArray, List.getElem?_cons_zero]; rfl) (by kernel_rfl) (by kernel_rfl) (by kernel_rfl) (by exact fun _ _ _ h => h) (by rfl) ?_ ?_; rotate_left; (· intro W HW; go_simp; try with_reducible rfl)
  simp only [Act.put, List.setIfInBounds_toArray, List.set_cons_zero, List.set_cons_succ]
  refine rest_take 1 (oi := _) (v := ?_) (by simp only [List.getElem?_toArray, List.getElem?_cons_succ, List.getElem?_cons_zero]; rfl) (by kernel_rfl) (by kernel_rfl) (by kernel_rfl) (by exact fun _ _ _ h => h) (by rfl) ?_ ?_; rotate_left; (· intro W HW; go_simp; try with_reducible rfl)
  simp only [Act.put, List.setIfInBounds_toArray, List.set_cons_zero, List.set_cons_succ]
  refine rest_take 2 (oi := _) (v := ?_) (by simp only [List.getElem?_toArray, List.getElem?_cons_succ, List.getElem?_cons_zero]; rfl) (by kernel_rfl) (by kernel_rfl) (by kernel_rfl) (by exact fun _ _ _ h => h) (by rfl) ?_ ?_; rotate_left; (· intro W HW; go_simp; try with_reducible rfl)
  simp only [Act.put, List.setIfInBounds_toArray, List.set_cons_zero, List.set_cons_succ]
  refine rest_loadB 3 (oi := _) (by simp only [List.getElem?_toArray, List.getElem?_cons_succ, List.getElem?_cons_zero]; rfl) (by kernel_rfl) (by kernel_rfl) (by kernel_rfl) #[.int .i64 P.seat, .int .i64 P.count, .bool P.cmd, .int .i64 P.kind, .int .i64 P.sort, .int .i64 P.nr, .int .i64 P.ns, .bool (!P.pf), .string P.body] (by exact fun _ _ _ h => h) (by rfl) 34 (.tmp 10) rfl _ rfl _ (HQ13.out) _ Tryd.underlying34 rfl (by kernel_rfl) ?_
  simp only [Act.put, List.setIfInBounds_toArray, List.set_cons_zero, List.set_cons_succ]
  refine rest_call 4 (oi := _) (by simp only [List.getElem?_toArray, List.getElem?_cons_succ, List.getElem?_cons_zero]; rfl) 46 #[.agg #[.int .i64 P.seat, .int .i64 P.count, .bool P.cmd, .int .i64 P.kind, .int .i64 P.sort, .int .i64 P.nr, .int .i64 P.ns, .bool (!P.pf), .string P.body]] _ (by kernel_rfl) (by rfl) (by go_simp) (HMQ.out w13.drew) ?_
  rintro e w14 ⟨rfl, hb⟩; refine ⟨_, rfl, hb, ?_⟩; have HB14 := Lib.hid (bel_trans HB13.out.drew hb); have HP14 := Lib.hid (keep_at (w := w13.drew) HP13.out hb); have HQ14 := Lib.hid (keep_at (w := w13.drew) HQ13.out hb); have HU14 := Lib.hid (Rds.below (w := w13.drew) HU13.out hb); have HV14 := Lib.hid (Rds.below (w := w13.drew) HV13.out hb); clear hb
  simp only [Act.put, List.setIfInBounds_toArray, List.set_cons_zero, List.set_cons_succ]
  refine rest_take 5 (oi := _) (v := ?_) (by simp only [List.getElem?_toArray, List.getElem?_cons_succ, List.getElem?_cons_zero]; rfl) (by kernel_rfl) (by kernel_rfl) (by kernel_rfl) (by exact fun _ _ _ h => h) (by rfl) ?_ ?_; rotate_left; (· intro W HW; go_simp; try with_reducible rfl)
  simp only [Act.put, List.setIfInBounds_toArray, List.set_cons_zero, List.set_cons_succ]
  refine rest_take 6 (oi := _) (v := ?_) (by simp only [List.getElem?_toArray, List.getElem?_cons_succ, List.getElem?_cons_zero]; rfl) (by kernel_rfl) (by kernel_rfl) (by kernel_rfl) (by exact fun _ _ _ h => h) (by rfl) ?_ ?_; rotate_left; (· intro W HW; go_simp; try with_reducible rfl)
  simp only [Act.put, List.setIfInBounds_toArray, List.set_cons_zero, List.set_cons_succ]
  refine rest_take 7 (oi := _) (v := ?_) (by simp only [List.getElem?_toArray, List.getElem?_cons_succ, List.getElem?_cons_zero]; rfl) (by kernel_rfl) (by kernel_rfl) (by kernel_rfl) (by exact fun _ _ _ h => h) (by rfl) ?_ ?_; rotate_left; (· intro W HW; go_simp; try with_reducible rfl)
  simp only [Act.put, List.setIfInBounds_toArray, List.set_cons_zero, List.set_cons_succ]
  refine rest_take 8 (oi := _) (v := ?_) (by simp only [List.getElem?_toArray, List.getElem?_cons_succ, List.getElem?_cons_zero]; rfl) (by kernel_rfl) (by kernel_rfl) (by kernel_rfl) (by exact fun _ _ _ h => h) (by rfl) ?_ ?_; rotate_left; (· intro W HW; go_simp; try with_reducible rfl)
  simp only [Act.put, List.setIfInBounds_toArray, List.set_cons_zero, List.set_cons_succ]
  refine rest_take 9 (oi := _) (v := ?_) (by simp only [List.getElem?_toArray, List.getElem?_cons_succ, List.getElem?_cons_zero]; rfl) (by kernel_rfl) (by kernel_rfl) (by kernel_rfl) (by exact fun _ _ _ h => h) (by rfl) ?_ ?_; rotate_left; (· intro W HW; go_simp; try with_reducible rfl)
  simp only [Act.put, List.setIfInBounds_toArray, List.set_cons_zero, List.set_cons_succ]
  refine rest_take 10 (oi := _) (v := ?_) (by simp only [List.getElem?_toArray, List.getElem?_cons_succ, List.getElem?_cons_zero]; rfl) (by kernel_rfl) (by kernel_rfl) (by kernel_rfl) (by exact fun _ _ _ h => h) (by rfl) ?_ ?_; rotate_left; (· intro W HW; go_simp; try with_reducible rfl)
  simp only [Act.put, List.setIfInBounds_toArray, List.set_cons_zero, List.set_cons_succ]
  refine rest_take 11 (oi := _) (v := ?_) (by simp only [List.getElem?_toArray, List.getElem?_cons_succ, List.getElem?_cons_zero]; rfl) (by kernel_rfl) (by kernel_rfl) (by kernel_rfl) (by exact fun _ _ _ h => h) (by rfl) ?_ ?_; rotate_left; (· intro W HW; go_simp; try with_reducible rfl)
  simp only [Act.put, List.setIfInBounds_toArray, List.set_cons_zero, List.set_cons_succ]
  refine rest_conv 12 (oi := _) (by simp only [List.getElem?_toArray, List.getElem?_cons_succ, List.getElem?_cons_zero]; rfl) (.tmp 96) _ (putF P.pl) (by kernel_rfl) (by kernel_rfl) (by kernel_rfl) (by exact fun _ _ _ h => h) (by rfl) rfl rfl HU14.out ?_
  simp only [Act.put, List.setIfInBounds_toArray, List.set_cons_zero, List.set_cons_succ]
  refine rest_take 13 (oi := _) (v := ?_) (by simp only [List.getElem?_toArray, List.getElem?_cons_succ, List.getElem?_cons_zero]; rfl) (by kernel_rfl) (by kernel_rfl) (by kernel_rfl) (by exact fun _ _ _ h => h) (by rfl) ?_ ?_; rotate_left; (· intro W HW; go_simp; try with_reducible rfl)
  simp only [Act.put, List.setIfInBounds_toArray, List.set_cons_zero, List.set_cons_succ]
  refine rest_conv 14 (oi := _) (by simp only [List.getElem?_toArray, List.getElem?_cons_succ, List.getElem?_cons_zero]; rfl) (.tmp 98) _ (putF (PIn.pl ⟨P.seat, P.count, P.cmd, P.kind, P.sort, P.nr, P.ns, !P.pf, P.body⟩)) (by kernel_rfl) (by kernel_rfl) (by kernel_rfl) (by exact fun _ _ _ h => h) (by rfl) rfl rfl HV14.out ?_
  simp only [Act.put, List.setIfInBounds_toArray, List.set_cons_zero, List.set_cons_succ]
  refine rest_take 15 (oi := _) (v := .bool d) (by simp only [List.getElem?_toArray, List.getElem?_cons_succ, List.getElem?_cons_zero]; rfl) (by kernel_rfl) (by kernel_rfl) (by kernel_rfl) (by exact fun _ _ _ h => h) (by rfl) (fun W HW => exec_cmp rfl rfl rfl (guard_str _ _ _ _ _ _ W) (HST.out W)) ?_
  simp only [Act.put, List.setIfInBounds_toArray, List.set_cons_zero, List.set_cons_succ]
  refine rest_loadB 16 (oi := _) (by simp only [List.getElem?_toArray, List.getElem?_cons_succ, List.getElem?_cons_zero]; rfl) (by kernel_rfl) (by kernel_rfl) (by kernel_rfl) #[.int .i64 P.seat, .int .i64 P.count, .bool P.cmd, .int .i64 P.kind, .int .i64 P.sort, .int .i64 P.nr, .int .i64 P.ns, .bool P.pf, .string P.body] (by exact fun _ _ _ h => h) (by rfl) 34 (.tmp 4) rfl _ rfl _ (HP14.out) _ Tryd.underlying34 rfl (by kernel_rfl) ?_
  simp only [Act.put, List.setIfInBounds_toArray, List.set_cons_zero, List.set_cons_succ]
  refine rest_loadB 17 (oi := _) (by simp only [List.getElem?_toArray, List.getElem?_cons_succ, List.getElem?_cons_zero]; rfl) (by kernel_rfl) (by kernel_rfl) (by kernel_rfl) #[.int .i64 P.seat, .int .i64 P.count, .bool P.cmd, .int .i64 P.kind, .int .i64 P.sort, .int .i64 P.nr, .int .i64 P.ns, .bool (!P.pf), .string P.body] (by exact fun _ _ _ h => h) (by rfl) 34 (.tmp 10) rfl _ rfl _ (HQ14.out) _ Tryd.underlying34 rfl (by kernel_rfl) ?_
  simp only [Act.put, List.setIfInBounds_toArray, List.set_cons_zero, List.set_cons_succ]
  refine rest_take 18 (oi := _) (v := .bool d) (by simp only [List.getElem?_toArray, List.getElem?_cons_succ, List.getElem?_cons_zero]; rfl) (by kernel_rfl) (by kernel_rfl) (by kernel_rfl) (by exact fun _ _ _ h => h) (by rfl) (fun W HW => exec_cmp rfl rfl rfl (guard_Pl _ _ _ _ _ W) (HQE.out W)) ?_
  simp only [Act.put, List.setIfInBounds_toArray, List.set_cons_zero, List.set_cons_succ]
  refine rest_take 19 (oi := _) (v := ?_) (by simp only [List.getElem?_toArray, List.getElem?_cons_succ, List.getElem?_cons_zero]; rfl) (by kernel_rfl) (by kernel_rfl) (by kernel_rfl) (by exact fun _ _ _ h => h) (by rfl) ?_ ?_; rotate_left; (· intro W HW; go_simp; try with_reducible rfl)
  simp only [Act.put, List.setIfInBounds_toArray, List.set_cons_zero, List.set_cons_succ]
  refine rest_take 20 (oi := _) (v := ?_) (by simp only [List.getElem?_toArray, List.getElem?_cons_succ, List.getElem?_cons_zero]; rfl) (by kernel_rfl) (by kernel_rfl) (by kernel_rfl) (by exact fun _ _ _ h => h) (by rfl) ?_ ?_; rotate_left; (· intro W HW; go_simp; try with_reducible rfl)
  simp only [Act.put, List.setIfInBounds_toArray, List.set_cons_zero, List.set_cons_succ]
  refine rest_take 21 (oi := _) (v := ?_) (by simp only [List.getElem?_toArray, List.getElem?_cons_succ, List.getElem?_cons_zero]; rfl) (by kernel_rfl) (by kernel_rfl) (by kernel_rfl) (by exact fun _ _ _ h => h) (by rfl) ?_ ?_; rotate_left; (· intro W HW; go_simp; try with_reducible rfl)
  simp only [Act.put, List.setIfInBounds_toArray, List.set_cons_zero, List.set_cons_succ]
  refine rest_take 22 (oi := _) (v := ?_) (by simp only [List.getElem?_toArray, List.getElem?_cons_succ, List.getElem?_cons_zero]; rfl) (by kernel_rfl) (by kernel_rfl) (by kernel_rfl) (by exact fun _ _ _ h => h) (by rfl) ?_ ?_; rotate_left; (· intro W HW; go_simp; try with_reducible rfl)
  simp only [Act.put, List.setIfInBounds_toArray, List.set_cons_zero, List.set_cons_succ]
  refine rest_done (by kernel_rfl) ?_
  go_wp2
  go_ret
  exact ⟨by cases d <;> rfl, HB14.out⟩

set_option maxRecDepth 100000 in
set_option maxHeartbeats 8000000 in
theorem FrameTurn_5n (p P : PIn) (wh n : Int) (s : ByteArray) (w : World) (hlp : ∀ w, Calls Tryd.prog 32 #[p.val] w fun e w' => e = .returned P.val ∧ Below w.heap.size w w') (hP : P.ok) (hC : Codes w) (hmp : decide (mayF P.pl) = true) (ts : ByteArray) (htx : ∀ w, Calls Tryd.prog 21 #[.string s, .int .i64 70] w fun e w2 => e = .returned (.string ts) ∧ w = w2) (hQ : PIn.ok ⟨P.seat, P.count, P.cmd, P.kind, P.sort, P.nr, P.ns, P.pf, ts⟩) (hmq : decide (mayF (PIn.pl ⟨P.seat, P.count, P.cmd, P.kind, P.sort, P.nr, P.ns, P.pf, ts⟩)) = false) (hk : (wh.tmod 7 + 7) % 7 = 5) : Calls Tryd.prog 16 #[p.val, .int .i64 wh, .int .i64 n, .string s] w (Holds4 w) := by
  have HC := Lib.hid hC
  have HLP := Lib.hid hlp
  have HMP := Lib.hid (fun w => RMay_is (p := P) w hmp)
  have HMQ := Lib.hid (fun w => RMay_is (p := ⟨P.seat, P.count, P.cmd, P.kind, P.sort, P.nr, P.ns, P.pf, ts⟩) w hmq)
  have HOP := Lib.hid (fun w hC => FOf_yes P w hP (of_decide_eq_true hmp) hC)
  have HPF := Lib.hid (fun w hC => FPut_yes P w (of_decide_eq_true hmp) hC)
  have HTX := Lib.hid htx
  clear htx
  have HOQ := Lib.hid (fun w hC => FOf_no ⟨P.seat, P.count, P.cmd, P.kind, P.sort, P.nr, P.ns, P.pf, ts⟩ w hQ (of_decide_eq_false hmq) hC)
  have HPG := Lib.hid (fun w => FPut_no 0 0 false .nilIface ⟨#[]⟩ w (.inr (.inr (.inr ⟨rfl, .inl rfl⟩))))
  have a1 : -6 ≤ wh.tmod 7 := by have := Int.lt_tmod_of_pos wh (show (0 : Int) < 7 by decide); omega
  have a2 : wh.tmod 7 ≤ 6 := by have := Int.tmod_lt_of_pos wh (show (0 : Int) < 7 by decide); omega
  clear hC hlp hP hmp hQ hmq
  go_enter Tryd.func16, Tryd.ntmps16
  go_wp2_with (first
    | ((with_reducible refine wpList_boxS rfl 34 _ (.tmp 0) rfl rfl (run_boxPl p.seat p.count p.cmd p.kind p.sort p.nr p.ns p.pf p.body) ?_); intro w1 hb1 hlt1 hh1; have HB1 := Lib.hid hb1; have HP1 := Lib.hid hh1; clear hb1 hh1)
    | (go_at_call 20; refine (begun4_any _ (HC.out.below HB1.out)).mono ?_; rintro e w2 ⟨rfl, hb⟩; have HB2 := Lib.hid (bel_trans HB1.out hb); have HP2 := Lib.hid (keep_at HP1.out hb); clear hb)
    | (with_reducible refine wpList_loadB rfl 34 (.tmp 4) rfl w.heap.size rfl 34 #[.int .i64 p.seat, .int .i64 p.count, .bool p.cmd, .int .i64 p.kind, .int .i64 p.sort, .int .i64 p.nr, .int .i64 p.ns, .bool p.pf, .string p.body] HP2.out _ Tryd.underlying34 rfl (by kernel_rfl) ?_)
    | (go_at_call 32; ((with_reducible refine (HLP.out _).mono ?_); rintro e w3 ⟨rfl, hb⟩; have HB3 := Lib.hid (bel_trans HB2.out hb); have HP3 := Lib.hid (keep_at HP2.out hb); clear hb))
    | ((with_reducible refine wpList_storeB rfl 34 (.tmp 4) _ rfl w.heap.size #[.int .i64 P.seat, .int .i64 P.count, .bool P.cmd, .int .i64 P.kind, .int .i64 P.sort, .int .i64 P.nr, .int .i64 P.ns, .bool P.pf, .string P.body] rfl rfl 34 _ HP3.out (by kernel_rfl) (by kernel_rfl) (by kernel_rfl) ?_); intro w4 hg4 hz4 hh4; have HB4 := Lib.hid (bel_grown HB3.out hg4 (Nat.le_refl _)); have HP4 := Lib.hid hh4; clear hg4 hz4 hh4)
    | (with_reducible refine wpList_loadB rfl 34 (.tmp 4) rfl w.heap.size rfl 34 #[.int .i64 P.seat, .int .i64 P.count, .bool P.cmd, .int .i64 P.kind, .int .i64 P.sort, .int .i64 P.nr, .int .i64 P.ns, .bool P.pf, .string P.body] HP4.out _ Tryd.underlying34 rfl (by kernel_rfl) ?_)
    | (go_at_call 46; ((with_reducible refine (HMP.out _).mono ?_); rintro e w5 ⟨rfl, hb⟩; have HB5 := Lib.hid (bel_trans HB4.out hb); have HP5 := Lib.hid (keep_at HP4.out hb); clear hb))
    | (with_reducible refine wpList_loadB rfl 34 (.tmp 4) rfl w.heap.size rfl 34 #[.int .i64 P.seat, .int .i64 P.count, .bool P.cmd, .int .i64 P.kind, .int .i64 P.sort, .int .i64 P.nr, .int .i64 P.ns, .bool P.pf, .string P.body] HP5.out _ Tryd.underlying34 rfl (by kernel_rfl) ?_)
    | ((with_reducible refine wpList_storeB rfl 34 (.tmp 10) _ rfl w5.heap.size #[.int .i64 P.seat, .int .i64 P.count, .bool P.cmd, .int .i64 P.kind, .int .i64 P.sort, .int .i64 P.nr, .int .i64 P.ns, .bool P.pf, .string P.body] rfl rfl 34 _ (heap_alloc_new w5 _) (by kernel_rfl) (by kernel_rfl) (by kernel_rfl) ?_); intro w6 hg hz hh; have HB6 := Lib.hid (bel_grown (bal HB5.out _) hg HB5.out.size); have HQ6 := Lib.hid hh; have HP6 := Lib.hid (keep_grown (keep_at HP5.out (bal (bel0 w5) _)) hg (Nat.ne_of_lt (lt_at HP5.out)));  clear hg hz hh)
    | (go_at_call 21; refine (HTX.out _).mono ?_; rintro e wt ⟨rfl, rfl⟩)
    | ((with_reducible refine wpList_store1 rfl 9 (.tmp 64) (.tmp 63) rfl w5.heap.size 8 (.string ts) rfl rfl 34 _ HQ6.out (by simp) (storeStr w5.heap.size 8 _) ?_); intro w7 hg hh; have HB7 := Lib.hid (bel_grown HB6.out hg HB5.out.size); have HQ7 : Hid (w7.heap[w5.heap.size]? = some (.cells #[.int .i64 P.seat, .int .i64 P.count, .bool P.cmd, .int .i64 P.kind, .int .i64 P.sort, .int .i64 P.nr, .int .i64 P.ns, .bool P.pf, .string ts] 34 (0, 0))) := hh; have HP7 := Lib.hid (keep_grown HP6.out hg (Nat.ne_of_lt (lt_at HP5.out))); clear hg hh)
    | (with_reducible refine wpList_loadB rfl 34 (.tmp 4) rfl w.heap.size rfl 34 #[.int .i64 P.seat, .int .i64 P.count, .bool P.cmd, .int .i64 P.kind, .int .i64 P.sort, .int .i64 P.nr, .int .i64 P.ns, .bool P.pf, .string P.body] HP7.out _ Tryd.underlying34 rfl (by kernel_rfl) ?_)
    | (go_at_call_of 45 (Value.agg #[.int .i64 P.seat, .int .i64 P.count, .bool P.cmd, .int .i64 P.kind, .int .i64 P.sort, .int .i64 P.nr, .int .i64 P.ns, .bool P.pf, .string P.body]); ((with_reducible refine (HOP.out _ (HC.out.below HB7.out)).mono ?_); rintro e w8 ⟨rfl, hb⟩; have HB8 := Lib.hid (bel_trans HB7.out hb); have HP8 := Lib.hid (keep_at HP7.out hb); have HQ8 := Lib.hid (keep_at HQ7.out hb); clear hb))
    | ((with_reducible refine wpList_storeB rfl 60 (.tmp 11) _ rfl w8.heap.size #[.int .i64 P.seat, .int .i64 P.count, .bool P.cmd, cv ⟨P.kind, P.sort, P.nr, P.ns, P.pf⟩, .string P.body] rfl rfl 60 _ (heap_alloc_new w8 _) (by kernel_rfl) rfl (frone _ _ _ _ _) ?_); intro w9 hg hz hh; have HB9 := Lib.hid (bel_grown (bal HB8.out _) hg HB8.out.size); have HF9 := Lib.hid hh; have HP9 := Lib.hid (keep_grown (keep_at HP8.out (bal (bel0 w8) _)) hg (Nat.ne_of_lt (lt_at HP8.out))); have HQ9 := Lib.hid (keep_grown (keep_at HQ8.out (bal (bel0 w8) _)) hg (Nat.ne_of_lt (lt_at HQ8.out)));  clear hg hz hh)
    | (with_reducible refine wpList_loadB rfl 34 (.tmp 10) rfl w5.heap.size rfl 34 #[.int .i64 P.seat, .int .i64 P.count, .bool P.cmd, .int .i64 P.kind, .int .i64 P.sort, .int .i64 P.nr, .int .i64 P.ns, .bool P.pf, .string ts] HQ9.out _ Tryd.underlying34 rfl (by kernel_rfl) ?_)
    | (go_at_call_of 45 (Value.agg #[.int .i64 P.seat, .int .i64 P.count, .bool P.cmd, .int .i64 P.kind, .int .i64 P.sort, .int .i64 P.nr, .int .i64 P.ns, .bool P.pf, .string ts]); ((with_reducible refine (HOQ.out _ (HC.out.below HB9.out)).mono ?_); rintro e w10 ⟨rfl, hb⟩; have HB10 := Lib.hid (bel_trans HB9.out hb); have HP10 := Lib.hid (keep_at HP9.out hb); have HQ10 := Lib.hid (keep_at HQ9.out hb); have HF10 := Lib.hid (keep_at HF9.out hb); clear hb))
    | ((with_reducible refine wpList_storeB rfl 60 (.tmp 13) _ rfl w10.heap.size #[.int .i64 0, .int .i64 0, .bool false, .nilIface, .string ⟨#[]⟩] rfl rfl 60 _ (heap_alloc_new w10 _) (by kernel_rfl) rfl (by kernel_rfl) ?_); intro w11 hg hz hh; have HB11 := Lib.hid (bel_grown (bal HB10.out _) hg HB10.out.size); have HG11 := Lib.hid hh; have HP11 := Lib.hid (keep_grown (keep_at HP10.out (bal (bel0 w10) _)) hg (Nat.ne_of_lt (lt_at HP10.out))); have HQ11 := Lib.hid (keep_grown (keep_at HQ10.out (bal (bel0 w10) _)) hg (Nat.ne_of_lt (lt_at HQ10.out))); have HF11 := Lib.hid (keep_grown (keep_at HF10.out (bal (bel0 w10) _)) hg (Nat.ne_of_lt (lt_at HF10.out)));  clear hg hz hh)
    | (with_reducible refine wpList_loadB rfl 60 (.tmp 11) rfl w8.heap.size rfl 60 #[.int .i64 P.seat, .int .i64 P.count, .bool P.cmd, cv ⟨P.kind, P.sort, P.nr, P.ns, P.pf⟩, .string P.body] HF11.out _ Tryd.underlying60 rfl (by kernel_rfl) ?_)
    | (go_at_call_of 47 (Value.agg #[.int .i64 P.seat, .int .i64 P.count, .bool P.cmd, cv ⟨P.kind, P.sort, P.nr, P.ns, P.pf⟩, .string P.body]); ((with_reducible refine (HPF.out _ (HC.out.below HB11.out)).mono ?_); rintro e w12 ⟨u, rfl, hu, hb⟩; have HB12 := Lib.hid (bel_trans HB11.out hb); have HP12 := Lib.hid (keep_at HP11.out hb); have HQ12 := Lib.hid (keep_at HQ11.out hb); have HG12 := Lib.hid (keep_at HG11.out hb); have HU12 := Lib.hid hu.rds; obtain ⟨Au, cu, rfl, _⟩ := hu.rds; clear hu hb))
    | (with_reducible refine wpList_loadB rfl 60 (.tmp 13) rfl w10.heap.size rfl 60 #[.int .i64 0, .int .i64 0, .bool false, .nilIface, .string ⟨#[]⟩] HG12.out _ Tryd.underlying60 rfl (by kernel_rfl) ?_)
    | (go_at_call_of 47 (Value.agg #[.int .i64 0, .int .i64 0, .bool false, .nilIface, .string ⟨#[]⟩]); ((with_reducible refine (HPG.out _).mono ?_); rintro e w13 ⟨rfl, hb⟩; have HB13 := Lib.hid (bel_trans HB12.out hb); have HP13 := Lib.hid (keep_at HP12.out hb); have HQ13 := Lib.hid (keep_at HQ12.out hb); clear hb)))
  refine rest_begin (by kernel_rfl) ?_
  refine rest_take 0 (oi := _) (v := ?_) (by simp only [List.getElem?_toArray, List.getElem?_cons_zero]; rfl) (by kernel_rfl) (by kernel_rfl) (by kernel_rfl) (by exact fun _ _ _ h => h) (by rfl) ?_ ?_; rotate_left; (· intro W HW; go_simp; try with_reducible rfl)
  simp only [Act.put, List.setIfInBounds_toArray, List.set_cons_zero, List.set_cons_succ]
  refine rest_take 1 (oi := _) (v := ?_) (by simp only [List.getElem?_toArray, List.getElem?_cons_succ, List.getElem?_cons_zero]; rfl) (by kernel_rfl) (by kernel_rfl) (by kernel_rfl) (by exact fun _ _ _ h => h) (by rfl) ?_ ?_; rotate_left; (· intro W HW; go_simp; try with_reducible rfl)
  simp only [Act.put, List.setIfInBounds_toArray, List.set_cons_zero, List.set_cons_succ]
  refine rest_take 2 (oi := _) (v := ?_) (by simp only [List.getElem?_toArray, List.getElem?_cons_succ, List.getElem?_cons_zero]; rfl) (by kernel_rfl) (by kernel_rfl) (by kernel_rfl) (by exact fun _ _ _ h => h) (by rfl) ?_ ?_; rotate_left; (· intro W HW; go_simp; try with_reducible rfl)
  simp only [Act.put, List.setIfInBounds_toArray, List.set_cons_zero, List.set_cons_succ]
  refine rest_loadB 3 (oi := _) (by simp only [List.getElem?_toArray, List.getElem?_cons_succ, List.getElem?_cons_zero]; rfl) (by kernel_rfl) (by kernel_rfl) (by kernel_rfl) #[.int .i64 P.seat, .int .i64 P.count, .bool P.cmd, .int .i64 P.kind, .int .i64 P.sort, .int .i64 P.nr, .int .i64 P.ns, .bool P.pf, .string ts] (by exact fun _ _ _ h => h) (by rfl) 34 (.tmp 10) rfl _ rfl _ (HQ13.out) _ Tryd.underlying34 rfl (by kernel_rfl) ?_
  simp only [Act.put, List.setIfInBounds_toArray, List.set_cons_zero, List.set_cons_succ]
  refine rest_call 4 (oi := _) (by simp only [List.getElem?_toArray, List.getElem?_cons_succ, List.getElem?_cons_zero]; rfl) 46 #[.agg #[.int .i64 P.seat, .int .i64 P.count, .bool P.cmd, .int .i64 P.kind, .int .i64 P.sort, .int .i64 P.nr, .int .i64 P.ns, .bool P.pf, .string ts]] _ (by kernel_rfl) (by rfl) (by go_simp) (HMQ.out w13.drew) ?_
  rintro e w14 ⟨rfl, hb⟩; refine ⟨_, rfl, hb, ?_⟩; have HB14 := Lib.hid (bel_trans HB13.out.drew hb); have HP14 := Lib.hid (keep_at (w := w13.drew) HP13.out hb); have HQ14 := Lib.hid (keep_at (w := w13.drew) HQ13.out hb); clear hb
  simp only [Act.put, List.setIfInBounds_toArray, List.set_cons_zero, List.set_cons_succ]
  refine rest_take 5 (oi := _) (v := ?_) (by simp only [List.getElem?_toArray, List.getElem?_cons_succ, List.getElem?_cons_zero]; rfl) (by kernel_rfl) (by kernel_rfl) (by kernel_rfl) (by exact fun _ _ _ h => h) (by rfl) ?_ ?_; rotate_left; (· intro W HW; go_simp; try with_reducible rfl)
  simp only [Act.put, List.setIfInBounds_toArray, List.set_cons_zero, List.set_cons_succ]
  refine rest_take 6 (oi := _) (v := ?_) (by simp only [List.getElem?_toArray, List.getElem?_cons_succ, List.getElem?_cons_zero]; rfl) (by kernel_rfl) (by kernel_rfl) (by kernel_rfl) (by exact fun _ _ _ h => h) (by rfl) ?_ ?_; rotate_left; (· intro W HW; go_simp; try with_reducible rfl)
  simp only [Act.put, List.setIfInBounds_toArray, List.set_cons_zero, List.set_cons_succ]
  refine rest_take 7 (oi := _) (v := ?_) (by simp only [List.getElem?_toArray, List.getElem?_cons_succ, List.getElem?_cons_zero]; rfl) (by kernel_rfl) (by kernel_rfl) (by kernel_rfl) (by exact fun _ _ _ h => h) (by rfl) ?_ ?_; rotate_left; (· intro W HW; go_simp; try with_reducible rfl)
  simp only [Act.put, List.setIfInBounds_toArray, List.set_cons_zero, List.set_cons_succ]
  refine rest_take 8 (oi := _) (v := ?_) (by simp only [List.getElem?_toArray, List.getElem?_cons_succ, List.getElem?_cons_zero]; rfl) (by kernel_rfl) (by kernel_rfl) (by kernel_rfl) (by exact fun _ _ _ h => h) (by rfl) ?_ ?_; rotate_left; (· intro W HW; go_simp; try with_reducible rfl)
  simp only [Act.put, List.setIfInBounds_toArray, List.set_cons_zero, List.set_cons_succ]
  refine rest_take 9 (oi := _) (v := ?_) (by simp only [List.getElem?_toArray, List.getElem?_cons_succ, List.getElem?_cons_zero]; rfl) (by kernel_rfl) (by kernel_rfl) (by kernel_rfl) (by exact fun _ _ _ h => h) (by rfl) ?_ ?_; rotate_left; (· intro W HW; go_simp; try with_reducible rfl)
  simp only [Act.put, List.setIfInBounds_toArray, List.set_cons_zero, List.set_cons_succ]
  refine rest_take 10 (oi := _) (v := ?_) (by simp only [List.getElem?_toArray, List.getElem?_cons_succ, List.getElem?_cons_zero]; rfl) (by kernel_rfl) (by kernel_rfl) (by kernel_rfl) (by exact fun _ _ _ h => h) (by rfl) ?_ ?_; rotate_left; (· intro W HW; go_simp; try with_reducible rfl)
  simp only [Act.put, List.setIfInBounds_toArray, List.set_cons_zero, List.set_cons_succ]
  refine rest_skip 11 (oi := _) (by simp only [List.getElem?_toArray, List.getElem?_cons_succ, List.getElem?_cons_zero]; rfl) (by kernel_rfl) (by kernel_rfl) (by kernel_rfl) (by exact fun _ _ _ h => h) (by rfl) ?_
  simp only [Act.put, List.setIfInBounds_toArray, List.set_cons_zero, List.set_cons_succ]
  refine rest_skip 12 (oi := _) (by simp only [List.getElem?_toArray, List.getElem?_cons_succ, List.getElem?_cons_zero]; rfl) (by kernel_rfl) (by kernel_rfl) (by kernel_rfl) (by exact fun _ _ _ h => h) (by rfl) ?_
  simp only [Act.put, List.setIfInBounds_toArray, List.set_cons_zero, List.set_cons_succ]
  refine rest_skip 13 (oi := _) (by simp only [List.getElem?_toArray, List.getElem?_cons_succ, List.getElem?_cons_zero]; rfl) (by kernel_rfl) (by kernel_rfl) (by kernel_rfl) (by exact fun _ _ _ h => h) (by rfl) ?_
  simp only [Act.put, List.setIfInBounds_toArray, List.set_cons_zero, List.set_cons_succ]
  refine rest_skip 14 (oi := _) (by simp only [List.getElem?_toArray, List.getElem?_cons_succ, List.getElem?_cons_zero]; rfl) (by kernel_rfl) (by kernel_rfl) (by kernel_rfl) (by exact fun _ _ _ h => h) (by rfl) ?_
  simp only [Act.put, List.setIfInBounds_toArray, List.set_cons_zero, List.set_cons_succ]
  refine rest_skip 15 (oi := _) (by simp only [List.getElem?_toArray, List.getElem?_cons_succ, List.getElem?_cons_zero]; rfl) (by kernel_rfl) (by kernel_rfl) (by kernel_rfl) (by exact fun _ _ _ h => h) (by rfl) ?_
  simp only [Act.put, List.setIfInBounds_toArray, List.set_cons_zero, List.set_cons_succ]
  refine rest_skip 16 (oi := _) (by simp only [List.getElem?_toArray, List.getElem?_cons_succ, List.getElem?_cons_zero]; rfl) (by kernel_rfl) (by kernel_rfl) (by kernel_rfl) (by exact fun _ _ _ h => h) (by rfl) ?_
  simp only [Act.put, List.setIfInBounds_toArray, List.set_cons_zero, List.set_cons_succ]
  refine rest_skip 17 (oi := _) (by simp only [List.getElem?_toArray, List.getElem?_cons_succ, List.getElem?_cons_zero]; rfl) (by kernel_rfl) (by kernel_rfl) (by kernel_rfl) (by exact fun _ _ _ h => h) (by rfl) ?_
  simp only [Act.put, List.setIfInBounds_toArray, List.set_cons_zero, List.set_cons_succ]
  refine rest_skip 18 (oi := _) (by simp only [List.getElem?_toArray, List.getElem?_cons_succ, List.getElem?_cons_zero]; rfl) (by kernel_rfl) (by kernel_rfl) (by kernel_rfl) (by exact fun _ _ _ h => h) (by rfl) ?_
  simp only [Act.put, List.setIfInBounds_toArray, List.set_cons_zero, List.set_cons_succ]
  refine rest_skip 19 (oi := _) (by simp only [List.getElem?_toArray, List.getElem?_cons_succ, List.getElem?_cons_zero]; rfl) (by kernel_rfl) (by kernel_rfl) (by kernel_rfl) (by exact fun _ _ _ h => h) (by rfl) ?_
  simp only [Act.put, List.setIfInBounds_toArray, List.set_cons_zero, List.set_cons_succ]
  refine rest_take 20 (oi := _) (v := ?_) (by simp only [List.getElem?_toArray, List.getElem?_cons_succ, List.getElem?_cons_zero]; rfl) (by kernel_rfl) (by kernel_rfl) (by kernel_rfl) (by exact fun _ _ _ h => h) (by rfl) ?_ ?_; rotate_left; (· intro W HW; go_simp; try with_reducible rfl)
  simp only [Act.put, List.setIfInBounds_toArray, List.set_cons_zero, List.set_cons_succ]
  refine rest_take 21 (oi := _) (v := ?_) (by simp only [List.getElem?_toArray, List.getElem?_cons_succ, List.getElem?_cons_zero]; rfl) (by kernel_rfl) (by kernel_rfl) (by kernel_rfl) (by exact fun _ _ _ h => h) (by rfl) ?_ ?_; rotate_left; (· intro W HW; go_simp; try with_reducible rfl)
  simp only [Act.put, List.setIfInBounds_toArray, List.set_cons_zero, List.set_cons_succ]
  refine rest_take 22 (oi := _) (v := ?_) (by simp only [List.getElem?_toArray, List.getElem?_cons_succ, List.getElem?_cons_zero]; rfl) (by kernel_rfl) (by kernel_rfl) (by kernel_rfl) (by exact fun _ _ _ h => h) (by rfl) ?_ ?_; rotate_left; (· intro W HW; go_simp; try with_reducible rfl)
  simp only [Act.put, List.setIfInBounds_toArray, List.set_cons_zero, List.set_cons_succ]
  refine rest_done (by kernel_rfl) ?_
  go_wp2
  go_ret
  exact ⟨by rfl, HB14.out⟩

set_option maxRecDepth 100000 in
set_option maxHeartbeats 8000000 in
theorem FrameTurn_5y (p P : PIn) (wh n : Int) (s : ByteArray) (w : World) (hlp : ∀ w, Calls Tryd.prog 32 #[p.val] w fun e w' => e = .returned P.val ∧ Below w.heap.size w w') (hP : P.ok) (hC : Codes w) (hmp : decide (mayF P.pl) = true) (ts : ByteArray) (htx : ∀ w, Calls Tryd.prog 21 #[.string s, .int .i64 70] w fun e w2 => e = .returned (.string ts) ∧ w = w2) (hQ : PIn.ok ⟨P.seat, P.count, P.cmd, P.kind, P.sort, P.nr, P.ns, P.pf, ts⟩) (hmq : decide (mayF (PIn.pl ⟨P.seat, P.count, P.cmd, P.kind, P.sort, P.nr, P.ns, P.pf, ts⟩)) = true) (hk : (wh.tmod 7 + 7) % 7 = 5) : Calls Tryd.prog 16 #[p.val, .int .i64 wh, .int .i64 n, .string s] w (Holds4 w) := by
  have HC := Lib.hid hC
  have HLP := Lib.hid hlp
  have HMP := Lib.hid (fun w => RMay_is (p := P) w hmp)
  have HMQ := Lib.hid (fun w => RMay_is (p := ⟨P.seat, P.count, P.cmd, P.kind, P.sort, P.nr, P.ns, P.pf, ts⟩) w hmq)
  have HOP := Lib.hid (fun w hC => FOf_yes P w hP (of_decide_eq_true hmp) hC)
  have HPF := Lib.hid (fun w hC => FPut_yes P w (of_decide_eq_true hmp) hC)
  have HTX := Lib.hid htx
  clear htx
  have HOQ := Lib.hid (fun w hC => FOf_yes ⟨P.seat, P.count, P.cmd, P.kind, P.sort, P.nr, P.ns, P.pf, ts⟩ w hQ (of_decide_eq_true hmq) hC)
  have HPG := Lib.hid (fun w hC => FPut_yes ⟨P.seat, P.count, P.cmd, P.kind, P.sort, P.nr, P.ns, P.pf, ts⟩ w (of_decide_eq_true hmq) hC)
  obtain ⟨d, hd⟩ : ∃ d, d = decide (P.pl = PIn.pl ⟨P.seat, P.count, P.cmd, P.kind, P.sort, P.nr, P.ns, P.pf, ts⟩) := ⟨_, rfl⟩
  have hqe := fun W => eql_pin P ⟨P.seat, P.count, P.cmd, P.kind, P.sort, P.nr, P.ns, P.pf, ts⟩ W
  have hst := fun W => eql_strs ⟨(putF P.pl).toArray⟩ ⟨(putF (PIn.pl ⟨P.seat, P.count, P.cmd, P.kind, P.sort, P.nr, P.ns, P.pf, ts⟩)).toArray⟩ W
  rw [str_putF (of_decide_eq_true hmp) (of_decide_eq_true hmq), ← hd] at hst
  rw [← hd] at hqe
  have HQE := Lib.hid hqe
  have HST := Lib.hid hst
  clear hqe hst hd
  have a1 : -6 ≤ wh.tmod 7 := by have := Int.lt_tmod_of_pos wh (show (0 : Int) < 7 by decide); omega
  have a2 : wh.tmod 7 ≤ 6 := by have := Int.tmod_lt_of_pos wh (show (0 : Int) < 7 by decide); omega
  clear hC hlp hP hmp hQ hmq
  go_enter Tryd.func16, Tryd.ntmps16
  go_wp2_with (first
    | ((with_reducible refine wpList_boxS rfl 34 _ (.tmp 0) rfl rfl (run_boxPl p.seat p.count p.cmd p.kind p.sort p.nr p.ns p.pf p.body) ?_); intro w1 hb1 hlt1 hh1; have HB1 := Lib.hid hb1; have HP1 := Lib.hid hh1; clear hb1 hh1)
    | (go_at_call 20; refine (begun4_any _ (HC.out.below HB1.out)).mono ?_; rintro e w2 ⟨rfl, hb⟩; have HB2 := Lib.hid (bel_trans HB1.out hb); have HP2 := Lib.hid (keep_at HP1.out hb); clear hb)
    | (with_reducible refine wpList_loadB rfl 34 (.tmp 4) rfl w.heap.size rfl 34 #[.int .i64 p.seat, .int .i64 p.count, .bool p.cmd, .int .i64 p.kind, .int .i64 p.sort, .int .i64 p.nr, .int .i64 p.ns, .bool p.pf, .string p.body] HP2.out _ Tryd.underlying34 rfl (by kernel_rfl) ?_)
    | (go_at_call 32; ((with_reducible refine (HLP.out _).mono ?_); rintro e w3 ⟨rfl, hb⟩; have HB3 := Lib.hid (bel_trans HB2.out hb); have HP3 := Lib.hid (keep_at HP2.out hb); clear hb))
    | ((with_reducible refine wpList_storeB rfl 34 (.tmp 4) _ rfl w.heap.size #[.int .i64 P.seat, .int .i64 P.count, .bool P.cmd, .int .i64 P.kind, .int .i64 P.sort, .int .i64 P.nr, .int .i64 P.ns, .bool P.pf, .string P.body] rfl rfl 34 _ HP3.out (by kernel_rfl) (by kernel_rfl) (by kernel_rfl) ?_); intro w4 hg4 hz4 hh4; have HB4 := Lib.hid (bel_grown HB3.out hg4 (Nat.le_refl _)); have HP4 := Lib.hid hh4; clear hg4 hz4 hh4)
    | (with_reducible refine wpList_loadB rfl 34 (.tmp 4) rfl w.heap.size rfl 34 #[.int .i64 P.seat, .int .i64 P.count, .bool P.cmd, .int .i64 P.kind, .int .i64 P.sort, .int .i64 P.nr, .int .i64 P.ns, .bool P.pf, .string P.body] HP4.out _ Tryd.underlying34 rfl (by kernel_rfl) ?_)
    | (go_at_call 46; ((with_reducible refine (HMP.out _).mono ?_); rintro e w5 ⟨rfl, hb⟩; have HB5 := Lib.hid (bel_trans HB4.out hb); have HP5 := Lib.hid (keep_at HP4.out hb); clear hb))
    | (with_reducible refine wpList_loadB rfl 34 (.tmp 4) rfl w.heap.size rfl 34 #[.int .i64 P.seat, .int .i64 P.count, .bool P.cmd, .int .i64 P.kind, .int .i64 P.sort, .int .i64 P.nr, .int .i64 P.ns, .bool P.pf, .string P.body] HP5.out _ Tryd.underlying34 rfl (by kernel_rfl) ?_)
    | ((with_reducible refine wpList_storeB rfl 34 (.tmp 10) _ rfl w5.heap.size #[.int .i64 P.seat, .int .i64 P.count, .bool P.cmd, .int .i64 P.kind, .int .i64 P.sort, .int .i64 P.nr, .int .i64 P.ns, .bool P.pf, .string P.body] rfl rfl 34 _ (heap_alloc_new w5 _) (by kernel_rfl) (by kernel_rfl) (by kernel_rfl) ?_); intro w6 hg hz hh; have HB6 := Lib.hid (bel_grown (bal HB5.out _) hg HB5.out.size); have HQ6 := Lib.hid hh; have HP6 := Lib.hid (keep_grown (keep_at HP5.out (bal (bel0 w5) _)) hg (Nat.ne_of_lt (lt_at HP5.out)));  clear hg hz hh)
    | (go_at_call 21; refine (HTX.out _).mono ?_; rintro e wt ⟨rfl, rfl⟩)
    | ((with_reducible refine wpList_store1 rfl 9 (.tmp 64) (.tmp 63) rfl w5.heap.size 8 (.string ts) rfl rfl 34 _ HQ6.out (by simp) (storeStr w5.heap.size 8 _) ?_); intro w7 hg hh; have HB7 := Lib.hid (bel_grown HB6.out hg HB5.out.size); have HQ7 : Hid (w7.heap[w5.heap.size]? = some (.cells #[.int .i64 P.seat, .int .i64 P.count, .bool P.cmd, .int .i64 P.kind, .int .i64 P.sort, .int .i64 P.nr, .int .i64 P.ns, .bool P.pf, .string ts] 34 (0, 0))) := hh; have HP7 := Lib.hid (keep_grown HP6.out hg (Nat.ne_of_lt (lt_at HP5.out))); clear hg hh)
    | (with_reducible refine wpList_loadB rfl 34 (.tmp 4) rfl w.heap.size rfl 34 #[.int .i64 P.seat, .int .i64 P.count, .bool P.cmd, .int .i64 P.kind, .int .i64 P.sort, .int .i64 P.nr, .int .i64 P.ns, .bool P.pf, .string P.body] HP7.out _ Tryd.underlying34 rfl (by kernel_rfl) ?_)
    | (go_at_call_of 45 (Value.agg #[.int .i64 P.seat, .int .i64 P.count, .bool P.cmd, .int .i64 P.kind, .int .i64 P.sort, .int .i64 P.nr, .int .i64 P.ns, .bool P.pf, .string P.body]); ((with_reducible refine (HOP.out _ (HC.out.below HB7.out)).mono ?_); rintro e w8 ⟨rfl, hb⟩; have HB8 := Lib.hid (bel_trans HB7.out hb); have HP8 := Lib.hid (keep_at HP7.out hb); have HQ8 := Lib.hid (keep_at HQ7.out hb); clear hb))
    | ((with_reducible refine wpList_storeB rfl 60 (.tmp 11) _ rfl w8.heap.size #[.int .i64 P.seat, .int .i64 P.count, .bool P.cmd, cv ⟨P.kind, P.sort, P.nr, P.ns, P.pf⟩, .string P.body] rfl rfl 60 _ (heap_alloc_new w8 _) (by kernel_rfl) rfl (frone _ _ _ _ _) ?_); intro w9 hg hz hh; have HB9 := Lib.hid (bel_grown (bal HB8.out _) hg HB8.out.size); have HF9 := Lib.hid hh; have HP9 := Lib.hid (keep_grown (keep_at HP8.out (bal (bel0 w8) _)) hg (Nat.ne_of_lt (lt_at HP8.out))); have HQ9 := Lib.hid (keep_grown (keep_at HQ8.out (bal (bel0 w8) _)) hg (Nat.ne_of_lt (lt_at HQ8.out)));  clear hg hz hh)
    | (with_reducible refine wpList_loadB rfl 34 (.tmp 10) rfl w5.heap.size rfl 34 #[.int .i64 P.seat, .int .i64 P.count, .bool P.cmd, .int .i64 P.kind, .int .i64 P.sort, .int .i64 P.nr, .int .i64 P.ns, .bool P.pf, .string ts] HQ9.out _ Tryd.underlying34 rfl (by kernel_rfl) ?_)
    | (go_at_call_of 45 (Value.agg #[.int .i64 P.seat, .int .i64 P.count, .bool P.cmd, .int .i64 P.kind, .int .i64 P.sort, .int .i64 P.nr, .int .i64 P.ns, .bool P.pf, .string ts]); ((with_reducible refine (HOQ.out _ (HC.out.below HB9.out)).mono ?_); rintro e w10 ⟨rfl, hb⟩; have HB10 := Lib.hid (bel_trans HB9.out hb); have HP10 := Lib.hid (keep_at HP9.out hb); have HQ10 := Lib.hid (keep_at HQ9.out hb); have HF10 := Lib.hid (keep_at HF9.out hb); clear hb))
    | ((with_reducible refine wpList_storeB rfl 60 (.tmp 13) _ rfl w10.heap.size #[.int .i64 P.seat, .int .i64 P.count, .bool P.cmd, cv ⟨P.kind, P.sort, P.nr, P.ns, P.pf⟩, .string ts] rfl rfl 60 _ (heap_alloc_new w10 _) (by kernel_rfl) rfl (frone _ _ _ _ _) ?_); intro w11 hg hz hh; have HB11 := Lib.hid (bel_grown (bal HB10.out _) hg HB10.out.size); have HG11 := Lib.hid hh; have HP11 := Lib.hid (keep_grown (keep_at HP10.out (bal (bel0 w10) _)) hg (Nat.ne_of_lt (lt_at HP10.out))); have HQ11 := Lib.hid (keep_grown (keep_at HQ10.out (bal (bel0 w10) _)) hg (Nat.ne_of_lt (lt_at HQ10.out))); have HF11 := Lib.hid (keep_grown (keep_at HF10.out (bal (bel0 w10) _)) hg (Nat.ne_of_lt (lt_at HF10.out)));  clear hg hz hh)
    | (with_reducible refine wpList_loadB rfl 60 (.tmp 11) rfl w8.heap.size rfl 60 #[.int .i64 P.seat, .int .i64 P.count, .bool P.cmd, cv ⟨P.kind, P.sort, P.nr, P.ns, P.pf⟩, .string P.body] HF11.out _ Tryd.underlying60 rfl (by kernel_rfl) ?_)
    | (go_at_call_of 47 (Value.agg #[.int .i64 P.seat, .int .i64 P.count, .bool P.cmd, cv ⟨P.kind, P.sort, P.nr, P.ns, P.pf⟩, .string P.body]); ((with_reducible refine (HPF.out _ (HC.out.below HB11.out)).mono ?_); rintro e w12 ⟨u, rfl, hu, hb⟩; have HB12 := Lib.hid (bel_trans HB11.out hb); have HP12 := Lib.hid (keep_at HP11.out hb); have HQ12 := Lib.hid (keep_at HQ11.out hb); have HG12 := Lib.hid (keep_at HG11.out hb); have HU12 := Lib.hid hu.rds; obtain ⟨Au, cu, rfl, _⟩ := hu.rds; clear hu hb))
    | (with_reducible refine wpList_loadB rfl 60 (.tmp 13) rfl w10.heap.size rfl 60 #[.int .i64 P.seat, .int .i64 P.count, .bool P.cmd, cv ⟨P.kind, P.sort, P.nr, P.ns, P.pf⟩, .string ts] HG12.out _ Tryd.underlying60 rfl (by kernel_rfl) ?_)
    | (go_at_call_of 47 (Value.agg #[.int .i64 P.seat, .int .i64 P.count, .bool P.cmd, cv ⟨P.kind, P.sort, P.nr, P.ns, P.pf⟩, .string ts]); ((with_reducible refine (HPG.out _ (HC.out.below HB12.out)).mono ?_); rintro e w13 ⟨v, rfl, hv, hb⟩; have HB13 := Lib.hid (bel_trans HB12.out hb); have HP13 := Lib.hid (keep_at HP12.out hb); have HQ13 := Lib.hid (keep_at HQ12.out hb); have HU13 := Lib.hid (HU12.out.below hb); have HV13 := Lib.hid hv.rds; obtain ⟨Av, cv2, rfl, _⟩ := hv.rds; clear hv hb)))
  refine rest_begin (by kernel_rfl) ?_
  refine rest_take 0 (oi := _) (v := ?_) (by simp only [List.getElem?_toArray, List.getElem?_cons_zero]; rfl) (by kernel_rfl) (by kernel_rfl) (by kernel_rfl) (by exact fun _ _ _ h => h) (by rfl) ?_ ?_; rotate_left; (· intro W HW; go_simp; try with_reducible rfl)
  simp only [Act.put, List.setIfInBounds_toArray, List.set_cons_zero, List.set_cons_succ]
  refine rest_take 1 (oi := _) (v := ?_) (by simp only [List.getElem?_toArray, List.getElem?_cons_succ, List.getElem?_cons_zero]; rfl) (by kernel_rfl) (by kernel_rfl) (by kernel_rfl) (by exact fun _ _ _ h => h) (by rfl) ?_ ?_; rotate_left; (· intro W HW; go_simp; try with_reducible rfl)
  simp only [Act.put, List.setIfInBounds_toArray, List.set_cons_zero, List.set_cons_succ]
  refine rest_take 2 (oi := _) (v := ?_) (by simp only [List.getElem?_toArray, List.getElem?_cons_succ, List.getElem?_cons_zero]; rfl) (by kernel_rfl) (by kernel_rfl) (by kernel_rfl) (by exact fun _ _ _ h => h) (by rfl) ?_ ?_; rotate_left; (· intro W HW; go_simp; try with_reducible rfl)
  simp only [Act.put, List.setIfInBounds_toArray, List.set_cons_zero, List.set_cons_succ]
  refine rest_loadB 3 (oi := _) (by simp only [List.getElem?_toArray, List.getElem?_cons_succ, List.getElem?_cons_zero]; rfl) (by kernel_rfl) (by kernel_rfl) (by kernel_rfl) #[.int .i64 P.seat, .int .i64 P.count, .bool P.cmd, .int .i64 P.kind, .int .i64 P.sort, .int .i64 P.nr, .int .i64 P.ns, .bool P.pf, .string ts] (by exact fun _ _ _ h => h) (by rfl) 34 (.tmp 10) rfl _ rfl _ (HQ13.out) _ Tryd.underlying34 rfl (by kernel_rfl) ?_
  simp only [Act.put, List.setIfInBounds_toArray, List.set_cons_zero, List.set_cons_succ]
  refine rest_call 4 (oi := _) (by simp only [List.getElem?_toArray, List.getElem?_cons_succ, List.getElem?_cons_zero]; rfl) 46 #[.agg #[.int .i64 P.seat, .int .i64 P.count, .bool P.cmd, .int .i64 P.kind, .int .i64 P.sort, .int .i64 P.nr, .int .i64 P.ns, .bool P.pf, .string ts]] _ (by kernel_rfl) (by rfl) (by go_simp) (HMQ.out w13.drew) ?_
  rintro e w14 ⟨rfl, hb⟩; refine ⟨_, rfl, hb, ?_⟩; have HB14 := Lib.hid (bel_trans HB13.out.drew hb); have HP14 := Lib.hid (keep_at (w := w13.drew) HP13.out hb); have HQ14 := Lib.hid (keep_at (w := w13.drew) HQ13.out hb); have HU14 := Lib.hid (Rds.below (w := w13.drew) HU13.out hb); have HV14 := Lib.hid (Rds.below (w := w13.drew) HV13.out hb); clear hb
  simp only [Act.put, List.setIfInBounds_toArray, List.set_cons_zero, List.set_cons_succ]
  refine rest_take 5 (oi := _) (v := ?_) (by simp only [List.getElem?_toArray, List.getElem?_cons_succ, List.getElem?_cons_zero]; rfl) (by kernel_rfl) (by kernel_rfl) (by kernel_rfl) (by exact fun _ _ _ h => h) (by rfl) ?_ ?_; rotate_left; (· intro W HW; go_simp; try with_reducible rfl)
  simp only [Act.put, List.setIfInBounds_toArray, List.set_cons_zero, List.set_cons_succ]
  refine rest_take 6 (oi := _) (v := ?_) (by simp only [List.getElem?_toArray, List.getElem?_cons_succ, List.getElem?_cons_zero]; rfl) (by kernel_rfl) (by kernel_rfl) (by kernel_rfl) (by exact fun _ _ _ h => h) (by rfl) ?_ ?_; rotate_left; (· intro W HW; go_simp; try with_reducible rfl)
  simp only [Act.put, List.setIfInBounds_toArray, List.set_cons_zero, List.set_cons_succ]
  refine rest_take 7 (oi := _) (v := ?_) (by simp only [List.getElem?_toArray, List.getElem?_cons_succ, List.getElem?_cons_zero]; rfl) (by kernel_rfl) (by kernel_rfl) (by kernel_rfl) (by exact fun _ _ _ h => h) (by rfl) ?_ ?_; rotate_left; (· intro W HW; go_simp; try with_reducible rfl)
  simp only [Act.put, List.setIfInBounds_toArray, List.set_cons_zero, List.set_cons_succ]
  refine rest_take 8 (oi := _) (v := ?_) (by simp only [List.getElem?_toArray, List.getElem?_cons_succ, List.getElem?_cons_zero]; rfl) (by kernel_rfl) (by kernel_rfl) (by kernel_rfl) (by exact fun _ _ _ h => h) (by rfl) ?_ ?_; rotate_left; (· intro W HW; go_simp; try with_reducible rfl)
  simp only [Act.put, List.setIfInBounds_toArray, List.set_cons_zero, List.set_cons_succ]
  refine rest_take 9 (oi := _) (v := ?_) (by simp only [List.getElem?_toArray, List.getElem?_cons_succ, List.getElem?_cons_zero]; rfl) (by kernel_rfl) (by kernel_rfl) (by kernel_rfl) (by exact fun _ _ _ h => h) (by rfl) ?_ ?_; rotate_left; (· intro W HW; go_simp; try with_reducible rfl)
  simp only [Act.put, List.setIfInBounds_toArray, List.set_cons_zero, List.set_cons_succ]
  refine rest_take 10 (oi := _) (v := ?_) (by simp only [List.getElem?_toArray, List.getElem?_cons_succ, List.getElem?_cons_zero]; rfl) (by kernel_rfl) (by kernel_rfl) (by kernel_rfl) (by exact fun _ _ _ h => h) (by rfl) ?_ ?_; rotate_left; (· intro W HW; go_simp; try with_reducible rfl)
  simp only [Act.put, List.setIfInBounds_toArray, List.set_cons_zero, List.set_cons_succ]
  refine rest_take 11 (oi := _) (v := ?_) (by simp only [List.getElem?_toArray, List.getElem?_cons_succ, List.getElem?_cons_zero]; rfl) (by kernel_rfl) (by kernel_rfl) (by kernel_rfl) (by exact fun _ _ _ h => h) (by rfl) ?_ ?_; rotate_left; (· intro W HW; go_simp; try with_reducible rfl)
  simp only [Act.put, List.setIfInBounds_toArray, List.set_cons_zero, List.set_cons_succ]
  refine rest_conv 12 (oi := _) (by simp only [List.getElem?_toArray, List.getElem?_cons_succ, List.getElem?_cons_zero]; rfl) (.tmp 96) _ (putF P.pl) (by kernel_rfl) (by kernel_rfl) (by kernel_rfl) (by exact fun _ _ _ h => h) (by rfl) rfl rfl HU14.out ?_
  simp only [Act.put, List.setIfInBounds_toArray, List.set_cons_zero, List.set_cons_succ]
  refine rest_take 13 (oi := _) (v := ?_) (by simp only [List.getElem?_toArray, List.getElem?_cons_succ, List.getElem?_cons_zero]; rfl) (by kernel_rfl) (by kernel_rfl) (by kernel_rfl) (by exact fun _ _ _ h => h) (by rfl) ?_ ?_; rotate_left; (· intro W HW; go_simp; try with_reducible rfl)
  simp only [Act.put, List.setIfInBounds_toArray, List.set_cons_zero, List.set_cons_succ]
  refine rest_conv 14 (oi := _) (by simp only [List.getElem?_toArray, List.getElem?_cons_succ, List.getElem?_cons_zero]; rfl) (.tmp 98) _ (putF (PIn.pl ⟨P.seat, P.count, P.cmd, P.kind, P.sort, P.nr, P.ns, P.pf, ts⟩)) (by kernel_rfl) (by kernel_rfl) (by kernel_rfl) (by exact fun _ _ _ h => h) (by rfl) rfl rfl HV14.out ?_
  simp only [Act.put, List.setIfInBounds_toArray, List.set_cons_zero, List.set_cons_succ]
  refine rest_take 15 (oi := _) (v := .bool d) (by simp only [List.getElem?_toArray, List.getElem?_cons_succ, List.getElem?_cons_zero]; rfl) (by kernel_rfl) (by kernel_rfl) (by kernel_rfl) (by exact fun _ _ _ h => h) (by rfl) (fun W HW => exec_cmp rfl rfl rfl (guard_str _ _ _ _ _ _ W) (HST.out W)) ?_
  simp only [Act.put, List.setIfInBounds_toArray, List.set_cons_zero, List.set_cons_succ]
  refine rest_loadB 16 (oi := _) (by simp only [List.getElem?_toArray, List.getElem?_cons_succ, List.getElem?_cons_zero]; rfl) (by kernel_rfl) (by kernel_rfl) (by kernel_rfl) #[.int .i64 P.seat, .int .i64 P.count, .bool P.cmd, .int .i64 P.kind, .int .i64 P.sort, .int .i64 P.nr, .int .i64 P.ns, .bool P.pf, .string P.body] (by exact fun _ _ _ h => h) (by rfl) 34 (.tmp 4) rfl _ rfl _ (HP14.out) _ Tryd.underlying34 rfl (by kernel_rfl) ?_
  simp only [Act.put, List.setIfInBounds_toArray, List.set_cons_zero, List.set_cons_succ]
  refine rest_loadB 17 (oi := _) (by simp only [List.getElem?_toArray, List.getElem?_cons_succ, List.getElem?_cons_zero]; rfl) (by kernel_rfl) (by kernel_rfl) (by kernel_rfl) #[.int .i64 P.seat, .int .i64 P.count, .bool P.cmd, .int .i64 P.kind, .int .i64 P.sort, .int .i64 P.nr, .int .i64 P.ns, .bool P.pf, .string ts] (by exact fun _ _ _ h => h) (by rfl) 34 (.tmp 10) rfl _ rfl _ (HQ14.out) _ Tryd.underlying34 rfl (by kernel_rfl) ?_
  simp only [Act.put, List.setIfInBounds_toArray, List.set_cons_zero, List.set_cons_succ]
  refine rest_take 18 (oi := _) (v := .bool d) (by simp only [List.getElem?_toArray, List.getElem?_cons_succ, List.getElem?_cons_zero]; rfl) (by kernel_rfl) (by kernel_rfl) (by kernel_rfl) (by exact fun _ _ _ h => h) (by rfl) (fun W HW => exec_cmp rfl rfl rfl (guard_Pl _ _ _ _ _ W) (HQE.out W)) ?_
  simp only [Act.put, List.setIfInBounds_toArray, List.set_cons_zero, List.set_cons_succ]
  refine rest_take 19 (oi := _) (v := ?_) (by simp only [List.getElem?_toArray, List.getElem?_cons_succ, List.getElem?_cons_zero]; rfl) (by kernel_rfl) (by kernel_rfl) (by kernel_rfl) (by exact fun _ _ _ h => h) (by rfl) ?_ ?_; rotate_left; (· intro W HW; go_simp; try with_reducible rfl)
  simp only [Act.put, List.setIfInBounds_toArray, List.set_cons_zero, List.set_cons_succ]
  refine rest_take 20 (oi := _) (v := ?_) (by simp only [List.getElem?_toArray, List.getElem?_cons_succ, List.getElem?_cons_zero]; rfl) (by kernel_rfl) (by kernel_rfl) (by kernel_rfl) (by exact fun _ _ _ h => h) (by rfl) ?_ ?_; rotate_left; (· intro W HW; go_simp; try with_reducible rfl)
  simp only [Act.put, List.setIfInBounds_toArray, List.set_cons_zero, List.set_cons_succ]
  refine rest_take 21 (oi := _) (v := ?_) (by simp only [List.getElem?_toArray, List.getElem?_cons_succ, List.getElem?_cons_zero]; rfl) (by kernel_rfl) (by kernel_rfl) (by kernel_rfl) (by exact fun _ _ _ h => h) (by rfl) ?_ ?_; rotate_left; (· intro W HW; go_simp; try with_reducible rfl)
  simp only [Act.put, List.setIfInBounds_toArray, List.set_cons_zero, List.set_cons_succ]
  refine rest_take 22 (oi := _) (v := ?_) (by simp only [List.getElem?_toArray, List.getElem?_cons_succ, List.getElem?_cons_zero]; rfl) (by kernel_rfl) (by kernel_rfl) (by kernel_rfl) (by exact fun _ _ _ h => h) (by rfl) ?_ ?_; rotate_left; (· intro W HW; go_simp; try with_reducible rfl)
  simp only [Act.put, List.setIfInBounds_toArray, List.set_cons_zero, List.set_cons_succ]
  refine rest_done (by kernel_rfl) ?_
  go_wp2
  go_ret
  exact ⟨by cases d <;> rfl, HB14.out⟩

set_option maxRecDepth 100000 in
set_option maxHeartbeats 8000000 in
theorem FrameTurn_6n (p P : PIn) (wh n : Int) (s : ByteArray) (w : World) (hlp : ∀ w, Calls Tryd.prog 32 #[p.val] w fun e w' => e = .returned P.val ∧ Below w.heap.size w w') (hP : P.ok) (hC : Codes w) (hmp : decide (mayF P.pl) = true) (hQ : PIn.ok ⟨P.seat, P.count, P.cmd, P.kind, n, P.nr, P.ns, P.pf, P.body⟩) (hmq : decide (mayF (PIn.pl ⟨P.seat, P.count, P.cmd, P.kind, n, P.nr, P.ns, P.pf, P.body⟩)) = false) (hk : (wh.tmod 7 + 7) % 7 = 6) : Calls Tryd.prog 16 #[p.val, .int .i64 wh, .int .i64 n, .string s] w (Holds4 w) := by
  have HC := Lib.hid hC
  have HLP := Lib.hid hlp
  have HMP := Lib.hid (fun w => RMay_is (p := P) w hmp)
  have HMQ := Lib.hid (fun w => RMay_is (p := ⟨P.seat, P.count, P.cmd, P.kind, n, P.nr, P.ns, P.pf, P.body⟩) w hmq)
  have HOP := Lib.hid (fun w hC => FOf_yes P w hP (of_decide_eq_true hmp) hC)
  have HPF := Lib.hid (fun w hC => FPut_yes P w (of_decide_eq_true hmp) hC)
  have HOQ := Lib.hid (fun w hC => FOf_no ⟨P.seat, P.count, P.cmd, P.kind, n, P.nr, P.ns, P.pf, P.body⟩ w hQ (of_decide_eq_false hmq) hC)
  have HPG := Lib.hid (fun w => FPut_no 0 0 false .nilIface ⟨#[]⟩ w (.inr (.inr (.inr ⟨rfl, .inl rfl⟩))))
  have a1 : -6 ≤ wh.tmod 7 := by have := Int.lt_tmod_of_pos wh (show (0 : Int) < 7 by decide); omega
  have a2 : wh.tmod 7 ≤ 6 := by have := Int.tmod_lt_of_pos wh (show (0 : Int) < 7 by decide); omega
  clear hC hlp hP hmp hQ hmq
  go_enter Tryd.func16, Tryd.ntmps16
  go_wp2_with (first
    | ((with_reducible refine wpList_boxS rfl 34 _ (.tmp 0) rfl rfl (run_boxPl p.seat p.count p.cmd p.kind p.sort p.nr p.ns p.pf p.body) ?_); intro w1 hb1 hlt1 hh1; have HB1 := Lib.hid hb1; have HP1 := Lib.hid hh1; clear hb1 hh1)
    | (go_at_call 20; refine (begun4_any _ (HC.out.below HB1.out)).mono ?_; rintro e w2 ⟨rfl, hb⟩; have HB2 := Lib.hid (bel_trans HB1.out hb); have HP2 := Lib.hid (keep_at HP1.out hb); clear hb)
    | (with_reducible refine wpList_loadB rfl 34 (.tmp 4) rfl w.heap.size rfl 34 #[.int .i64 p.seat, .int .i64 p.count, .bool p.cmd, .int .i64 p.kind, .int .i64 p.sort, .int .i64 p.nr, .int .i64 p.ns, .bool p.pf, .string p.body] HP2.out _ Tryd.underlying34 rfl (by kernel_rfl) ?_)
    | (go_at_call 32; ((with_reducible refine (HLP.out _).mono ?_); rintro e w3 ⟨rfl, hb⟩; have HB3 := Lib.hid (bel_trans HB2.out hb); have HP3 := Lib.hid (keep_at HP2.out hb); clear hb))
    | ((with_reducible refine wpList_storeB rfl 34 (.tmp 4) _ rfl w.heap.size #[.int .i64 P.seat, .int .i64 P.count, .bool P.cmd, .int .i64 P.kind, .int .i64 P.sort, .int .i64 P.nr, .int .i64 P.ns, .bool P.pf, .string P.body] rfl rfl 34 _ HP3.out (by kernel_rfl) (by kernel_rfl) (by kernel_rfl) ?_); intro w4 hg4 hz4 hh4; have HB4 := Lib.hid (bel_grown HB3.out hg4 (Nat.le_refl _)); have HP4 := Lib.hid hh4; clear hg4 hz4 hh4)
    | (with_reducible refine wpList_loadB rfl 34 (.tmp 4) rfl w.heap.size rfl 34 #[.int .i64 P.seat, .int .i64 P.count, .bool P.cmd, .int .i64 P.kind, .int .i64 P.sort, .int .i64 P.nr, .int .i64 P.ns, .bool P.pf, .string P.body] HP4.out _ Tryd.underlying34 rfl (by kernel_rfl) ?_)
    | (go_at_call 46; ((with_reducible refine (HMP.out _).mono ?_); rintro e w5 ⟨rfl, hb⟩; have HB5 := Lib.hid (bel_trans HB4.out hb); have HP5 := Lib.hid (keep_at HP4.out hb); clear hb))
    | (with_reducible refine wpList_loadB rfl 34 (.tmp 4) rfl w.heap.size rfl 34 #[.int .i64 P.seat, .int .i64 P.count, .bool P.cmd, .int .i64 P.kind, .int .i64 P.sort, .int .i64 P.nr, .int .i64 P.ns, .bool P.pf, .string P.body] HP5.out _ Tryd.underlying34 rfl (by kernel_rfl) ?_)
    | ((with_reducible refine wpList_storeB rfl 34 (.tmp 10) _ rfl w5.heap.size #[.int .i64 P.seat, .int .i64 P.count, .bool P.cmd, .int .i64 P.kind, .int .i64 P.sort, .int .i64 P.nr, .int .i64 P.ns, .bool P.pf, .string P.body] rfl rfl 34 _ (heap_alloc_new w5 _) (by kernel_rfl) (by kernel_rfl) (by kernel_rfl) ?_); intro w6 hg hz hh; have HB6 := Lib.hid (bel_grown (bal HB5.out _) hg HB5.out.size); have HQ6 := Lib.hid hh; have HP6 := Lib.hid (keep_grown (keep_at HP5.out (bal (bel0 w5) _)) hg (Nat.ne_of_lt (lt_at HP5.out)));  clear hg hz hh)
    | ((with_reducible refine wpList_store1 rfl 3 (.tmp 33) (.tmp 32) rfl w5.heap.size 4 (.int .i64 n) rfl rfl 34 _ HQ6.out (by simp) (storeInt w5.heap.size 4 _) ?_); intro w7 hg hh; have HB7 := Lib.hid (bel_grown HB6.out hg HB5.out.size); have HQ7 : Hid (w7.heap[w5.heap.size]? = some (.cells #[.int .i64 P.seat, .int .i64 P.count, .bool P.cmd, .int .i64 P.kind, .int .i64 n, .int .i64 P.nr, .int .i64 P.ns, .bool P.pf, .string P.body] 34 (0, 0))) := hh; have HP7 := Lib.hid (keep_grown HP6.out hg (Nat.ne_of_lt (lt_at HP5.out))); clear hg hh)
    | (with_reducible refine wpList_loadB rfl 34 (.tmp 4) rfl w.heap.size rfl 34 #[.int .i64 P.seat, .int .i64 P.count, .bool P.cmd, .int .i64 P.kind, .int .i64 P.sort, .int .i64 P.nr, .int .i64 P.ns, .bool P.pf, .string P.body] HP7.out _ Tryd.underlying34 rfl (by kernel_rfl) ?_)
    | (go_at_call_of 45 (Value.agg #[.int .i64 P.seat, .int .i64 P.count, .bool P.cmd, .int .i64 P.kind, .int .i64 P.sort, .int .i64 P.nr, .int .i64 P.ns, .bool P.pf, .string P.body]); ((with_reducible refine (HOP.out _ (HC.out.below HB7.out)).mono ?_); rintro e w8 ⟨rfl, hb⟩; have HB8 := Lib.hid (bel_trans HB7.out hb); have HP8 := Lib.hid (keep_at HP7.out hb); have HQ8 := Lib.hid (keep_at HQ7.out hb); clear hb))
    | ((with_reducible refine wpList_storeB rfl 60 (.tmp 11) _ rfl w8.heap.size #[.int .i64 P.seat, .int .i64 P.count, .bool P.cmd, cv ⟨P.kind, P.sort, P.nr, P.ns, P.pf⟩, .string P.body] rfl rfl 60 _ (heap_alloc_new w8 _) (by kernel_rfl) rfl (frone _ _ _ _ _) ?_); intro w9 hg hz hh; have HB9 := Lib.hid (bel_grown (bal HB8.out _) hg HB8.out.size); have HF9 := Lib.hid hh; have HP9 := Lib.hid (keep_grown (keep_at HP8.out (bal (bel0 w8) _)) hg (Nat.ne_of_lt (lt_at HP8.out))); have HQ9 := Lib.hid (keep_grown (keep_at HQ8.out (bal (bel0 w8) _)) hg (Nat.ne_of_lt (lt_at HQ8.out)));  clear hg hz hh)
    | (with_reducible refine wpList_loadB rfl 34 (.tmp 10) rfl w5.heap.size rfl 34 #[.int .i64 P.seat, .int .i64 P.count, .bool P.cmd, .int .i64 P.kind, .int .i64 n, .int .i64 P.nr, .int .i64 P.ns, .bool P.pf, .string P.body] HQ9.out _ Tryd.underlying34 rfl (by kernel_rfl) ?_)
    | (go_at_call_of 45 (Value.agg #[.int .i64 P.seat, .int .i64 P.count, .bool P.cmd, .int .i64 P.kind, .int .i64 n, .int .i64 P.nr, .int .i64 P.ns, .bool P.pf, .string P.body]); ((with_reducible refine (HOQ.out _ (HC.out.below HB9.out)).mono ?_); rintro e w10 ⟨rfl, hb⟩; have HB10 := Lib.hid (bel_trans HB9.out hb); have HP10 := Lib.hid (keep_at HP9.out hb); have HQ10 := Lib.hid (keep_at HQ9.out hb); have HF10 := Lib.hid (keep_at HF9.out hb); clear hb))
    | ((with_reducible refine wpList_storeB rfl 60 (.tmp 13) _ rfl w10.heap.size #[.int .i64 0, .int .i64 0, .bool false, .nilIface, .string ⟨#[]⟩] rfl rfl 60 _ (heap_alloc_new w10 _) (by kernel_rfl) rfl (by kernel_rfl) ?_); intro w11 hg hz hh; have HB11 := Lib.hid (bel_grown (bal HB10.out _) hg HB10.out.size); have HG11 := Lib.hid hh; have HP11 := Lib.hid (keep_grown (keep_at HP10.out (bal (bel0 w10) _)) hg (Nat.ne_of_lt (lt_at HP10.out))); have HQ11 := Lib.hid (keep_grown (keep_at HQ10.out (bal (bel0 w10) _)) hg (Nat.ne_of_lt (lt_at HQ10.out))); have HF11 := Lib.hid (keep_grown (keep_at HF10.out (bal (bel0 w10) _)) hg (Nat.ne_of_lt (lt_at HF10.out)));  clear hg hz hh)
    | (with_reducible refine wpList_loadB rfl 60 (.tmp 11) rfl w8.heap.size rfl 60 #[.int .i64 P.seat, .int .i64 P.count, .bool P.cmd, cv ⟨P.kind, P.sort, P.nr, P.ns, P.pf⟩, .string P.body] HF11.out _ Tryd.underlying60 rfl (by kernel_rfl) ?_)
    | (go_at_call_of 47 (Value.agg #[.int .i64 P.seat, .int .i64 P.count, .bool P.cmd, cv ⟨P.kind, P.sort, P.nr, P.ns, P.pf⟩, .string P.body]); ((with_reducible refine (HPF.out _ (HC.out.below HB11.out)).mono ?_); rintro e w12 ⟨u, rfl, hu, hb⟩; have HB12 := Lib.hid (bel_trans HB11.out hb); have HP12 := Lib.hid (keep_at HP11.out hb); have HQ12 := Lib.hid (keep_at HQ11.out hb); have HG12 := Lib.hid (keep_at HG11.out hb); have HU12 := Lib.hid hu.rds; obtain ⟨Au, cu, rfl, _⟩ := hu.rds; clear hu hb))
    | (with_reducible refine wpList_loadB rfl 60 (.tmp 13) rfl w10.heap.size rfl 60 #[.int .i64 0, .int .i64 0, .bool false, .nilIface, .string ⟨#[]⟩] HG12.out _ Tryd.underlying60 rfl (by kernel_rfl) ?_)
    | (go_at_call_of 47 (Value.agg #[.int .i64 0, .int .i64 0, .bool false, .nilIface, .string ⟨#[]⟩]); ((with_reducible refine (HPG.out _).mono ?_); rintro e w13 ⟨rfl, hb⟩; have HB13 := Lib.hid (bel_trans HB12.out hb); have HP13 := Lib.hid (keep_at HP12.out hb); have HQ13 := Lib.hid (keep_at HQ12.out hb); clear hb)))
  refine rest_begin (by kernel_rfl) ?_
  refine rest_take 0 (oi := _) (v := ?_) (by simp only [List.getElem?_toArray, List.getElem?_cons_zero]; rfl) (by kernel_rfl) (by kernel_rfl) (by kernel_rfl) (by exact fun _ _ _ h => h) (by rfl) ?_ ?_; rotate_left; (· intro W HW; go_simp; try with_reducible rfl)
  simp only [Act.put, List.setIfInBounds_toArray, List.set_cons_zero, List.set_cons_succ]
  refine rest_take 1 (oi := _) (v := ?_) (by simp only [List.getElem?_toArray, List.getElem?_cons_succ, List.getElem?_cons_zero]; rfl) (by kernel_rfl) (by kernel_rfl) (by kernel_rfl) (by exact fun _ _ _ h => h) (by rfl) ?_ ?_; rotate_left; (· intro W HW; go_simp; try with_reducible rfl)
  simp only [Act.put, List.setIfInBounds_toArray, List.set_cons_zero, List.set_cons_succ]
  refine rest_take 2 (oi := _) (v := ?_) (by simp only [List.getElem?_toArray, List.getElem?_cons_succ, List.getElem?_cons_zero]; rfl) (by kernel_rfl) (by kernel_rfl) (by kernel_rfl) (by exact fun _ _ _ h => h) (by rfl) ?_ ?_; rotate_left; (· intro W HW; go_simp; try with_reducible rfl)
  simp only [Act.put, List.setIfInBounds_toArray, List.set_cons_zero, List.set_cons_succ]
  refine rest_loadB 3 (oi := _) (by simp only [List.getElem?_toArray, List.getElem?_cons_succ, List.getElem?_cons_zero]; rfl) (by kernel_rfl) (by kernel_rfl) (by kernel_rfl) #[.int .i64 P.seat, .int .i64 P.count, .bool P.cmd, .int .i64 P.kind, .int .i64 n, .int .i64 P.nr, .int .i64 P.ns, .bool P.pf, .string P.body] (by exact fun _ _ _ h => h) (by rfl) 34 (.tmp 10) rfl _ rfl _ (HQ13.out) _ Tryd.underlying34 rfl (by kernel_rfl) ?_
  simp only [Act.put, List.setIfInBounds_toArray, List.set_cons_zero, List.set_cons_succ]
  refine rest_call 4 (oi := _) (by simp only [List.getElem?_toArray, List.getElem?_cons_succ, List.getElem?_cons_zero]; rfl) 46 #[.agg #[.int .i64 P.seat, .int .i64 P.count, .bool P.cmd, .int .i64 P.kind, .int .i64 n, .int .i64 P.nr, .int .i64 P.ns, .bool P.pf, .string P.body]] _ (by kernel_rfl) (by rfl) (by go_simp) (HMQ.out w13.drew) ?_
  rintro e w14 ⟨rfl, hb⟩; refine ⟨_, rfl, hb, ?_⟩; have HB14 := Lib.hid (bel_trans HB13.out.drew hb); have HP14 := Lib.hid (keep_at (w := w13.drew) HP13.out hb); have HQ14 := Lib.hid (keep_at (w := w13.drew) HQ13.out hb); clear hb
  simp only [Act.put, List.setIfInBounds_toArray, List.set_cons_zero, List.set_cons_succ]
  refine rest_take 5 (oi := _) (v := ?_) (by simp only [List.getElem?_toArray, List.getElem?_cons_succ, List.getElem?_cons_zero]; rfl) (by kernel_rfl) (by kernel_rfl) (by kernel_rfl) (by exact fun _ _ _ h => h) (by rfl) ?_ ?_; rotate_left; (· intro W HW; go_simp; try with_reducible rfl)
  simp only [Act.put, List.setIfInBounds_toArray, List.set_cons_zero, List.set_cons_succ]
  refine rest_take 6 (oi := _) (v := ?_) (by simp only [List.getElem?_toArray, List.getElem?_cons_succ, List.getElem?_cons_zero]; rfl) (by kernel_rfl) (by kernel_rfl) (by kernel_rfl) (by exact fun _ _ _ h => h) (by rfl) ?_ ?_; rotate_left; (· intro W HW; go_simp; try with_reducible rfl)
  simp only [Act.put, List.setIfInBounds_toArray, List.set_cons_zero, List.set_cons_succ]
  refine rest_take 7 (oi := _) (v := ?_) (by simp only [List.getElem?_toArray, List.getElem?_cons_succ, List.getElem?_cons_zero]; rfl) (by kernel_rfl) (by kernel_rfl) (by kernel_rfl) (by exact fun _ _ _ h => h) (by rfl) ?_ ?_; rotate_left; (· intro W HW; go_simp; try with_reducible rfl)
  simp only [Act.put, List.setIfInBounds_toArray, List.set_cons_zero, List.set_cons_succ]
  refine rest_take 8 (oi := _) (v := ?_) (by simp only [List.getElem?_toArray, List.getElem?_cons_succ, List.getElem?_cons_zero]; rfl) (by kernel_rfl) (by kernel_rfl) (by kernel_rfl) (by exact fun _ _ _ h => h) (by rfl) ?_ ?_; rotate_left; (· intro W HW; go_simp; try with_reducible rfl)
  simp only [Act.put, List.setIfInBounds_toArray, List.set_cons_zero, List.set_cons_succ]
  refine rest_take 9 (oi := _) (v := ?_) (by simp only [List.getElem?_toArray, List.getElem?_cons_succ, List.getElem?_cons_zero]; rfl) (by kernel_rfl) (by kernel_rfl) (by kernel_rfl) (by exact fun _ _ _ h => h) (by rfl) ?_ ?_; rotate_left; (· intro W HW; go_simp; try with_reducible rfl)
  simp only [Act.put, List.setIfInBounds_toArray, List.set_cons_zero, List.set_cons_succ]
  refine rest_take 10 (oi := _) (v := ?_) (by simp only [List.getElem?_toArray, List.getElem?_cons_succ, List.getElem?_cons_zero]; rfl) (by kernel_rfl) (by kernel_rfl) (by kernel_rfl) (by exact fun _ _ _ h => h) (by rfl) ?_ ?_; rotate_left; (· intro W HW; go_simp; try with_reducible rfl)
  simp only [Act.put, List.setIfInBounds_toArray, List.set_cons_zero, List.set_cons_succ]
  refine rest_skip 11 (oi := _) (by simp only [List.getElem?_toArray, List.getElem?_cons_succ, List.getElem?_cons_zero]; rfl) (by kernel_rfl) (by kernel_rfl) (by kernel_rfl) (by exact fun _ _ _ h => h) (by rfl) ?_
  simp only [Act.put, List.setIfInBounds_toArray, List.set_cons_zero, List.set_cons_succ]
  refine rest_skip 12 (oi := _) (by simp only [List.getElem?_toArray, List.getElem?_cons_succ, List.getElem?_cons_zero]; rfl) (by kernel_rfl) (by kernel_rfl) (by kernel_rfl) (by exact fun _ _ _ h => h) (by rfl) ?_
  simp only [Act.put, List.setIfInBounds_toArray, List.set_cons_zero, List.set_cons_succ]
  refine rest_skip 13 (oi := _) (by simp only [List.getElem?_toArray, List.getElem?_cons_succ, List.getElem?_cons_zero]; rfl) (by kernel_rfl) (by kernel_rfl) (by kernel_rfl) (by exact fun _ _ _ h => h) (by rfl) ?_
  simp only [Act.put, List.setIfInBounds_toArray, List.set_cons_zero, List.set_cons_succ]
  refine rest_skip 14 (oi := _) (by simp only [List.getElem?_toArray, List.getElem?_cons_succ, List.getElem?_cons_zero]; rfl) (by kernel_rfl) (by kernel_rfl) (by kernel_rfl) (by exact fun _ _ _ h => h) (by rfl) ?_
  simp only [Act.put, List.setIfInBounds_toArray, List.set_cons_zero, List.set_cons_succ]
  refine rest_skip 15 (oi := _) (by simp only [List.getElem?_toArray, List.getElem?_cons_succ, List.getElem?_cons_zero]; rfl) (by kernel_rfl) (by kernel_rfl) (by kernel_rfl) (by exact fun _ _ _ h => h) (by rfl) ?_
  simp only [Act.put, List.setIfInBounds_toArray, List.set_cons_zero, List.set_cons_succ]
  refine rest_skip 16 (oi := _) (by simp only [List.getElem?_toArray, List.getElem?_cons_succ, List.getElem?_cons_zero]; rfl) (by kernel_rfl) (by kernel_rfl) (by kernel_rfl) (by exact fun _ _ _ h => h) (by rfl) ?_
  simp only [Act.put, List.setIfInBounds_toArray, List.set_cons_zero, List.set_cons_succ]
  refine rest_skip 17 (oi := _) (by simp only [List.getElem?_toArray, List.getElem?_cons_succ, List.getElem?_cons_zero]; rfl) (by kernel_rfl) (by kernel_rfl) (by kernel_rfl) (by exact fun _ _ _ h => h) (by rfl) ?_
  simp only [Act.put, List.setIfInBounds_toArray, List.set_cons_zero, List.set_cons_succ]
  refine rest_skip 18 (oi := _) (by simp only [List.getElem?_toArray, List.getElem?_cons_succ, List.getElem?_cons_zero]; rfl) (by kernel_rfl) (by kernel_rfl) (by kernel_rfl) (by exact fun _ _ _ h => h) (by rfl) ?_
  simp only [Act.put, List.setIfInBounds_toArray, List.set_cons_zero, List.set_cons_succ]
  refine rest_skip 19 (oi := _) (by simp only [List.getElem?_toArray, List.getElem?_cons_succ, List.getElem?_cons_zero]; rfl) (by kernel_rfl) (by kernel_rfl) (by kernel_rfl) (by exact fun _ _ _ h => h) (by rfl) ?_
  simp only [Act.put, List.setIfInBounds_toArray, List.set_cons_zero, List.set_cons_succ]
  refine rest_take 20 (oi := _) (v := ?_) (by simp only [List.getElem?_toArray, List.getElem?_cons_succ, List.getElem?_cons_zero]; rfl) (by kernel_rfl) (by kernel_rfl) (by kernel_rfl) (by exact fun _ _ _ h => h) (by rfl) ?_ ?_; rotate_left; (· intro W HW; go_simp; try with_reducible rfl)
  simp only [Act.put, List.setIfInBounds_toArray, List.set_cons_zero, List.set_cons_succ]
  refine rest_take 21 (oi := _) (v := ?_) (by simp only [List.getElem?_toArray, List.getElem?_cons_succ, List.getElem?_cons_zero]; rfl) (by kernel_rfl) (by kernel_rfl) (by kernel_rfl) (by exact fun _ _ _ h => h) (by rfl) ?_ ?_; rotate_left; (· intro W HW; go_simp; try with_reducible rfl)
  simp only [Act.put, List.setIfInBounds_toArray, List.set_cons_zero, List.set_cons_succ]
  refine rest_take 22 (oi := _) (v := ?_) (by simp only [List.getElem?_toArray, List.getElem?_cons_succ, List.getElem?_cons_zero]; rfl) (by kernel_rfl) (by kernel_rfl) (by kernel_rfl) (by exact fun _ _ _ h => h) (by rfl) ?_ ?_; rotate_left; (· intro W HW; go_simp; try with_reducible rfl)
  simp only [Act.put, List.setIfInBounds_toArray, List.set_cons_zero, List.set_cons_succ]
  refine rest_done (by kernel_rfl) ?_
  go_wp2
  go_ret
  exact ⟨by rfl, HB14.out⟩

set_option maxRecDepth 100000 in
set_option maxHeartbeats 8000000 in
theorem FrameTurn_6y (p P : PIn) (wh n : Int) (s : ByteArray) (w : World) (hlp : ∀ w, Calls Tryd.prog 32 #[p.val] w fun e w' => e = .returned P.val ∧ Below w.heap.size w w') (hP : P.ok) (hC : Codes w) (hmp : decide (mayF P.pl) = true) (hQ : PIn.ok ⟨P.seat, P.count, P.cmd, P.kind, n, P.nr, P.ns, P.pf, P.body⟩) (hmq : decide (mayF (PIn.pl ⟨P.seat, P.count, P.cmd, P.kind, n, P.nr, P.ns, P.pf, P.body⟩)) = true) (hk : (wh.tmod 7 + 7) % 7 = 6) : Calls Tryd.prog 16 #[p.val, .int .i64 wh, .int .i64 n, .string s] w (Holds4 w) := by
  have HC := Lib.hid hC
  have HLP := Lib.hid hlp
  have HMP := Lib.hid (fun w => RMay_is (p := P) w hmp)
  have HMQ := Lib.hid (fun w => RMay_is (p := ⟨P.seat, P.count, P.cmd, P.kind, n, P.nr, P.ns, P.pf, P.body⟩) w hmq)
  have HOP := Lib.hid (fun w hC => FOf_yes P w hP (of_decide_eq_true hmp) hC)
  have HPF := Lib.hid (fun w hC => FPut_yes P w (of_decide_eq_true hmp) hC)
  have HOQ := Lib.hid (fun w hC => FOf_yes ⟨P.seat, P.count, P.cmd, P.kind, n, P.nr, P.ns, P.pf, P.body⟩ w hQ (of_decide_eq_true hmq) hC)
  have HPG := Lib.hid (fun w hC => FPut_yes ⟨P.seat, P.count, P.cmd, P.kind, n, P.nr, P.ns, P.pf, P.body⟩ w (of_decide_eq_true hmq) hC)
  obtain ⟨d, hd⟩ : ∃ d, d = decide (P.pl = PIn.pl ⟨P.seat, P.count, P.cmd, P.kind, n, P.nr, P.ns, P.pf, P.body⟩) := ⟨_, rfl⟩
  have hqe := fun W => eql_pin P ⟨P.seat, P.count, P.cmd, P.kind, n, P.nr, P.ns, P.pf, P.body⟩ W
  have hst := fun W => eql_strs ⟨(putF P.pl).toArray⟩ ⟨(putF (PIn.pl ⟨P.seat, P.count, P.cmd, P.kind, n, P.nr, P.ns, P.pf, P.body⟩)).toArray⟩ W
  rw [str_putF (of_decide_eq_true hmp) (of_decide_eq_true hmq), ← hd] at hst
  rw [← hd] at hqe
  have HQE := Lib.hid hqe
  have HST := Lib.hid hst
  clear hqe hst hd
  have a1 : -6 ≤ wh.tmod 7 := by have := Int.lt_tmod_of_pos wh (show (0 : Int) < 7 by decide); omega
  have a2 : wh.tmod 7 ≤ 6 := by have := Int.tmod_lt_of_pos wh (show (0 : Int) < 7 by decide); omega
  clear hC hlp hP hmp hQ hmq
  go_enter Tryd.func16, Tryd.ntmps16
  go_wp2_with (first
    | ((with_reducible refine wpList_boxS rfl 34 _ (.tmp 0) rfl rfl (run_boxPl p.seat p.count p.cmd p.kind p.sort p.nr p.ns p.pf p.body) ?_); intro w1 hb1 hlt1 hh1; have HB1 := Lib.hid hb1; have HP1 := Lib.hid hh1; clear hb1 hh1)
    | (go_at_call 20; refine (begun4_any _ (HC.out.below HB1.out)).mono ?_; rintro e w2 ⟨rfl, hb⟩; have HB2 := Lib.hid (bel_trans HB1.out hb); have HP2 := Lib.hid (keep_at HP1.out hb); clear hb)
    | (with_reducible refine wpList_loadB rfl 34 (.tmp 4) rfl w.heap.size rfl 34 #[.int .i64 p.seat, .int .i64 p.count, .bool p.cmd, .int .i64 p.kind, .int .i64 p.sort, .int .i64 p.nr, .int .i64 p.ns, .bool p.pf, .string p.body] HP2.out _ Tryd.underlying34 rfl (by kernel_rfl) ?_)
    | (go_at_call 32; ((with_reducible refine (HLP.out _).mono ?_); rintro e w3 ⟨rfl, hb⟩; have HB3 := Lib.hid (bel_trans HB2.out hb); have HP3 := Lib.hid (keep_at HP2.out hb); clear hb))
    | ((with_reducible refine wpList_storeB rfl 34 (.tmp 4) _ rfl w.heap.size #[.int .i64 P.seat, .int .i64 P.count, .bool P.cmd, .int .i64 P.kind, .int .i64 P.sort, .int .i64 P.nr, .int .i64 P.ns, .bool P.pf, .string P.body] rfl rfl 34 _ HP3.out (by kernel_rfl) (by kernel_rfl) (by kernel_rfl) ?_); intro w4 hg4 hz4 hh4; have HB4 := Lib.hid (bel_grown HB3.out hg4 (Nat.le_refl _)); have HP4 := Lib.hid hh4; clear hg4 hz4 hh4)
    | (with_reducible refine wpList_loadB rfl 34 (.tmp 4) rfl w.heap.size rfl 34 #[.int .i64 P.seat, .int .i64 P.count, .bool P.cmd, .int .i64 P.kind, .int .i64 P.sort, .int .i64 P.nr, .int .i64 P.ns, .bool P.pf, .string P.body] HP4.out _ Tryd.underlying34 rfl (by kernel_rfl) ?_)
    | (go_at_call 46; ((with_reducible refine (HMP.out _).mono ?_); rintro e w5 ⟨rfl, hb⟩; have HB5 := Lib.hid (bel_trans HB4.out hb); have HP5 := Lib.hid (keep_at HP4.out hb); clear hb))
    | (with_reducible refine wpList_loadB rfl 34 (.tmp 4) rfl w.heap.size rfl 34 #[.int .i64 P.seat, .int .i64 P.count, .bool P.cmd, .int .i64 P.kind, .int .i64 P.sort, .int .i64 P.nr, .int .i64 P.ns, .bool P.pf, .string P.body] HP5.out _ Tryd.underlying34 rfl (by kernel_rfl) ?_)
    | ((with_reducible refine wpList_storeB rfl 34 (.tmp 10) _ rfl w5.heap.size #[.int .i64 P.seat, .int .i64 P.count, .bool P.cmd, .int .i64 P.kind, .int .i64 P.sort, .int .i64 P.nr, .int .i64 P.ns, .bool P.pf, .string P.body] rfl rfl 34 _ (heap_alloc_new w5 _) (by kernel_rfl) (by kernel_rfl) (by kernel_rfl) ?_); intro w6 hg hz hh; have HB6 := Lib.hid (bel_grown (bal HB5.out _) hg HB5.out.size); have HQ6 := Lib.hid hh; have HP6 := Lib.hid (keep_grown (keep_at HP5.out (bal (bel0 w5) _)) hg (Nat.ne_of_lt (lt_at HP5.out)));  clear hg hz hh)
    | ((with_reducible refine wpList_store1 rfl 3 (.tmp 33) (.tmp 32) rfl w5.heap.size 4 (.int .i64 n) rfl rfl 34 _ HQ6.out (by simp) (storeInt w5.heap.size 4 _) ?_); intro w7 hg hh; have HB7 := Lib.hid (bel_grown HB6.out hg HB5.out.size); have HQ7 : Hid (w7.heap[w5.heap.size]? = some (.cells #[.int .i64 P.seat, .int .i64 P.count, .bool P.cmd, .int .i64 P.kind, .int .i64 n, .int .i64 P.nr, .int .i64 P.ns, .bool P.pf, .string P.body] 34 (0, 0))) := hh; have HP7 := Lib.hid (keep_grown HP6.out hg (Nat.ne_of_lt (lt_at HP5.out))); clear hg hh)
    | (with_reducible refine wpList_loadB rfl 34 (.tmp 4) rfl w.heap.size rfl 34 #[.int .i64 P.seat, .int .i64 P.count, .bool P.cmd, .int .i64 P.kind, .int .i64 P.sort, .int .i64 P.nr, .int .i64 P.ns, .bool P.pf, .string P.body] HP7.out _ Tryd.underlying34 rfl (by kernel_rfl) ?_)
    | (go_at_call_of 45 (Value.agg #[.int .i64 P.seat, .int .i64 P.count, .bool P.cmd, .int .i64 P.kind, .int .i64 P.sort, .int .i64 P.nr, .int .i64 P.ns, .bool P.pf, .string P.body]); ((with_reducible refine (HOP.out _ (HC.out.below HB7.out)).mono ?_); rintro e w8 ⟨rfl, hb⟩; have HB8 := Lib.hid (bel_trans HB7.out hb); have HP8 := Lib.hid (keep_at HP7.out hb); have HQ8 := Lib.hid (keep_at HQ7.out hb); clear hb))
    | ((with_reducible refine wpList_storeB rfl 60 (.tmp 11) _ rfl w8.heap.size #[.int .i64 P.seat, .int .i64 P.count, .bool P.cmd, cv ⟨P.kind, P.sort, P.nr, P.ns, P.pf⟩, .string P.body] rfl rfl 60 _ (heap_alloc_new w8 _) (by kernel_rfl) rfl (frone _ _ _ _ _) ?_); intro w9 hg hz hh; have HB9 := Lib.hid (bel_grown (bal HB8.out _) hg HB8.out.size); have HF9 := Lib.hid hh; have HP9 := Lib.hid (keep_grown (keep_at HP8.out (bal (bel0 w8) _)) hg (Nat.ne_of_lt (lt_at HP8.out))); have HQ9 := Lib.hid (keep_grown (keep_at HQ8.out (bal (bel0 w8) _)) hg (Nat.ne_of_lt (lt_at HQ8.out)));  clear hg hz hh)
    | (with_reducible refine wpList_loadB rfl 34 (.tmp 10) rfl w5.heap.size rfl 34 #[.int .i64 P.seat, .int .i64 P.count, .bool P.cmd, .int .i64 P.kind, .int .i64 n, .int .i64 P.nr, .int .i64 P.ns, .bool P.pf, .string P.body] HQ9.out _ Tryd.underlying34 rfl (by kernel_rfl) ?_)
    | (go_at_call_of 45 (Value.agg #[.int .i64 P.seat, .int .i64 P.count, .bool P.cmd, .int .i64 P.kind, .int .i64 n, .int .i64 P.nr, .int .i64 P.ns, .bool P.pf, .string P.body]); ((with_reducible refine (HOQ.out _ (HC.out.below HB9.out)).mono ?_); rintro e w10 ⟨rfl, hb⟩; have HB10 := Lib.hid (bel_trans HB9.out hb); have HP10 := Lib.hid (keep_at HP9.out hb); have HQ10 := Lib.hid (keep_at HQ9.out hb); have HF10 := Lib.hid (keep_at HF9.out hb); clear hb))
    | ((with_reducible refine wpList_storeB rfl 60 (.tmp 13) _ rfl w10.heap.size #[.int .i64 P.seat, .int .i64 P.count, .bool P.cmd, cv ⟨P.kind, n, P.nr, P.ns, P.pf⟩, .string P.body] rfl rfl 60 _ (heap_alloc_new w10 _) (by kernel_rfl) rfl (frone _ _ _ _ _) ?_); intro w11 hg hz hh; have HB11 := Lib.hid (bel_grown (bal HB10.out _) hg HB10.out.size); have HG11 := Lib.hid hh; have HP11 := Lib.hid (keep_grown (keep_at HP10.out (bal (bel0 w10) _)) hg (Nat.ne_of_lt (lt_at HP10.out))); have HQ11 := Lib.hid (keep_grown (keep_at HQ10.out (bal (bel0 w10) _)) hg (Nat.ne_of_lt (lt_at HQ10.out))); have HF11 := Lib.hid (keep_grown (keep_at HF10.out (bal (bel0 w10) _)) hg (Nat.ne_of_lt (lt_at HF10.out)));  clear hg hz hh)
    | (with_reducible refine wpList_loadB rfl 60 (.tmp 11) rfl w8.heap.size rfl 60 #[.int .i64 P.seat, .int .i64 P.count, .bool P.cmd, cv ⟨P.kind, P.sort, P.nr, P.ns, P.pf⟩, .string P.body] HF11.out _ Tryd.underlying60 rfl (by kernel_rfl) ?_)
    | (go_at_call_of 47 (Value.agg #[.int .i64 P.seat, .int .i64 P.count, .bool P.cmd, cv ⟨P.kind, P.sort, P.nr, P.ns, P.pf⟩, .string P.body]); ((with_reducible refine (HPF.out _ (HC.out.below HB11.out)).mono ?_); rintro e w12 ⟨u, rfl, hu, hb⟩; have HB12 := Lib.hid (bel_trans HB11.out hb); have HP12 := Lib.hid (keep_at HP11.out hb); have HQ12 := Lib.hid (keep_at HQ11.out hb); have HG12 := Lib.hid (keep_at HG11.out hb); have HU12 := Lib.hid hu.rds; obtain ⟨Au, cu, rfl, _⟩ := hu.rds; clear hu hb))
    | (with_reducible refine wpList_loadB rfl 60 (.tmp 13) rfl w10.heap.size rfl 60 #[.int .i64 P.seat, .int .i64 P.count, .bool P.cmd, cv ⟨P.kind, n, P.nr, P.ns, P.pf⟩, .string P.body] HG12.out _ Tryd.underlying60 rfl (by kernel_rfl) ?_)
    | (go_at_call_of 47 (Value.agg #[.int .i64 P.seat, .int .i64 P.count, .bool P.cmd, cv ⟨P.kind, n, P.nr, P.ns, P.pf⟩, .string P.body]); ((with_reducible refine (HPG.out _ (HC.out.below HB12.out)).mono ?_); rintro e w13 ⟨v, rfl, hv, hb⟩; have HB13 := Lib.hid (bel_trans HB12.out hb); have HP13 := Lib.hid (keep_at HP12.out hb); have HQ13 := Lib.hid (keep_at HQ12.out hb); have HU13 := Lib.hid (HU12.out.below hb); have HV13 := Lib.hid hv.rds; obtain ⟨Av, cv2, rfl, _⟩ := hv.rds; clear hv hb)))
  refine rest_begin (by kernel_rfl) ?_
  refine rest_take 0 (oi := _) (v := ?_) (by simp only [List.getElem?_toArray, List.getElem?_cons_zero]; rfl) (by kernel_rfl) (by kernel_rfl) (by kernel_rfl) (by exact fun _ _ _ h => h) (by rfl) ?_ ?_; rotate_left; (· intro W HW; go_simp; try with_reducible rfl)
  simp only [Act.put, List.setIfInBounds_toArray, List.set_cons_zero, List.set_cons_succ]
  refine rest_take 1 (oi := _) (v := ?_) (by simp only [List.getElem?_toArray, List.getElem?_cons_succ, List.getElem?_cons_zero]; rfl) (by kernel_rfl) (by kernel_rfl) (by kernel_rfl) (by exact fun _ _ _ h => h) (by rfl) ?_ ?_; rotate_left; (· intro W HW; go_simp; try with_reducible rfl)
  simp only [Act.put, List.setIfInBounds_toArray, List.set_cons_zero, List.set_cons_succ]
  refine rest_take 2 (oi := _) (v := ?_) (by simp only [List.getElem?_toArray, List.getElem?_cons_succ, List.getElem?_cons_zero]; rfl) (by kernel_rfl) (by kernel_rfl) (by kernel_rfl) (by exact fun _ _ _ h => h) (by rfl) ?_ ?_; rotate_left; (· intro W HW; go_simp; try with_reducible rfl)
  simp only [Act.put, List.setIfInBounds_toArray, List.set_cons_zero, List.set_cons_succ]
  refine rest_loadB 3 (oi := _) (by simp only [List.getElem?_toArray, List.getElem?_cons_succ, List.getElem?_cons_zero]; rfl) (by kernel_rfl) (by kernel_rfl) (by kernel_rfl) #[.int .i64 P.seat, .int .i64 P.count, .bool P.cmd, .int .i64 P.kind, .int .i64 n, .int .i64 P.nr, .int .i64 P.ns, .bool P.pf, .string P.body] (by exact fun _ _ _ h => h) (by rfl) 34 (.tmp 10) rfl _ rfl _ (HQ13.out) _ Tryd.underlying34 rfl (by kernel_rfl) ?_
  simp only [Act.put, List.setIfInBounds_toArray, List.set_cons_zero, List.set_cons_succ]
  refine rest_call 4 (oi := _) (by simp only [List.getElem?_toArray, List.getElem?_cons_succ, List.getElem?_cons_zero]; rfl) 46 #[.agg #[.int .i64 P.seat, .int .i64 P.count, .bool P.cmd, .int .i64 P.kind, .int .i64 n, .int .i64 P.nr, .int .i64 P.ns, .bool P.pf, .string P.body]] _ (by kernel_rfl) (by rfl) (by go_simp) (HMQ.out w13.drew) ?_
  rintro e w14 ⟨rfl, hb⟩; refine ⟨_, rfl, hb, ?_⟩; have HB14 := Lib.hid (bel_trans HB13.out.drew hb); have HP14 := Lib.hid (keep_at (w := w13.drew) HP13.out hb); have HQ14 := Lib.hid (keep_at (w := w13.drew) HQ13.out hb); have HU14 := Lib.hid (Rds.below (w := w13.drew) HU13.out hb); have HV14 := Lib.hid (Rds.below (w := w13.drew) HV13.out hb); clear hb
  simp only [Act.put, List.setIfInBounds_toArray, List.set_cons_zero, List.set_cons_succ]
  refine rest_take 5 (oi := _) (v := ?_) (by simp only [List.getElem?_toArray, List.getElem?_cons_succ, List.getElem?_cons_zero]; rfl) (by kernel_rfl) (by kernel_rfl) (by kernel_rfl) (by exact fun _ _ _ h => h) (by rfl) ?_ ?_; rotate_left; (· intro W HW; go_simp; try with_reducible rfl)
  simp only [Act.put, List.setIfInBounds_toArray, List.set_cons_zero, List.set_cons_succ]
  refine rest_take 6 (oi := _) (v := ?_) (by simp only [List.getElem?_toArray, List.getElem?_cons_succ, List.getElem?_cons_zero]; rfl) (by kernel_rfl) (by kernel_rfl) (by kernel_rfl) (by exact fun _ _ _ h => h) (by rfl) ?_ ?_; rotate_left; (· intro W HW; go_simp; try with_reducible rfl)
  simp only [Act.put, List.setIfInBounds_toArray, List.set_cons_zero, List.set_cons_succ]
  refine rest_take 7 (oi := _) (v := ?_) (by simp only [List.getElem?_toArray, List.getElem?_cons_succ, List.getElem?_cons_zero]; rfl) (by kernel_rfl) (by kernel_rfl) (by kernel_rfl) (by exact fun _ _ _ h => h) (by rfl) ?_ ?_; rotate_left; (· intro W HW; go_simp; try with_reducible rfl)
  simp only [Act.put, List.setIfInBounds_toArray, List.set_cons_zero, List.set_cons_succ]
  refine rest_take 8 (oi := _) (v := ?_) (by simp only [List.getElem?_toArray, List.getElem?_cons_succ, List.getElem?_cons_zero]; rfl) (by kernel_rfl) (by kernel_rfl) (by kernel_rfl) (by exact fun _ _ _ h => h) (by rfl) ?_ ?_; rotate_left; (· intro W HW; go_simp; try with_reducible rfl)
  simp only [Act.put, List.setIfInBounds_toArray, List.set_cons_zero, List.set_cons_succ]
  refine rest_take 9 (oi := _) (v := ?_) (by simp only [List.getElem?_toArray, List.getElem?_cons_succ, List.getElem?_cons_zero]; rfl) (by kernel_rfl) (by kernel_rfl) (by kernel_rfl) (by exact fun _ _ _ h => h) (by rfl) ?_ ?_; rotate_left; (· intro W HW; go_simp; try with_reducible rfl)
  simp only [Act.put, List.setIfInBounds_toArray, List.set_cons_zero, List.set_cons_succ]
  refine rest_take 10 (oi := _) (v := ?_) (by simp only [List.getElem?_toArray, List.getElem?_cons_succ, List.getElem?_cons_zero]; rfl) (by kernel_rfl) (by kernel_rfl) (by kernel_rfl) (by exact fun _ _ _ h => h) (by rfl) ?_ ?_; rotate_left; (· intro W HW; go_simp; try with_reducible rfl)
  simp only [Act.put, List.setIfInBounds_toArray, List.set_cons_zero, List.set_cons_succ]
  refine rest_take 11 (oi := _) (v := ?_) (by simp only [List.getElem?_toArray, List.getElem?_cons_succ, List.getElem?_cons_zero]; rfl) (by kernel_rfl) (by kernel_rfl) (by kernel_rfl) (by exact fun _ _ _ h => h) (by rfl) ?_ ?_; rotate_left; (· intro W HW; go_simp; try with_reducible rfl)
  simp only [Act.put, List.setIfInBounds_toArray, List.set_cons_zero, List.set_cons_succ]
  refine rest_conv 12 (oi := _) (by simp only [List.getElem?_toArray, List.getElem?_cons_succ, List.getElem?_cons_zero]; rfl) (.tmp 96) _ (putF P.pl) (by kernel_rfl) (by kernel_rfl) (by kernel_rfl) (by exact fun _ _ _ h => h) (by rfl) rfl rfl HU14.out ?_
  simp only [Act.put, List.setIfInBounds_toArray, List.set_cons_zero, List.set_cons_succ]
  refine rest_take 13 (oi := _) (v := ?_) (by simp only [List.getElem?_toArray, List.getElem?_cons_succ, List.getElem?_cons_zero]; rfl) (by kernel_rfl) (by kernel_rfl) (by kernel_rfl) (by exact fun _ _ _ h => h) (by rfl) ?_ ?_; rotate_left; (· intro W HW; go_simp; try with_reducible rfl)
  simp only [Act.put, List.setIfInBounds_toArray, List.set_cons_zero, List.set_cons_succ]
  refine rest_conv 14 (oi := _) (by simp only [List.getElem?_toArray, List.getElem?_cons_succ, List.getElem?_cons_zero]; rfl) (.tmp 98) _ (putF (PIn.pl ⟨P.seat, P.count, P.cmd, P.kind, n, P.nr, P.ns, P.pf, P.body⟩)) (by kernel_rfl) (by kernel_rfl) (by kernel_rfl) (by exact fun _ _ _ h => h) (by rfl) rfl rfl HV14.out ?_
  simp only [Act.put, List.setIfInBounds_toArray, List.set_cons_zero, List.set_cons_succ]
  refine rest_take 15 (oi := _) (v := .bool d) (by simp only [List.getElem?_toArray, List.getElem?_cons_succ, List.getElem?_cons_zero]; rfl) (by kernel_rfl) (by kernel_rfl) (by kernel_rfl) (by exact fun _ _ _ h => h) (by rfl) (fun W HW => exec_cmp rfl rfl rfl (guard_str _ _ _ _ _ _ W) (HST.out W)) ?_
  simp only [Act.put, List.setIfInBounds_toArray, List.set_cons_zero, List.set_cons_succ]
  refine rest_loadB 16 (oi := _) (by simp only [List.getElem?_toArray, List.getElem?_cons_succ, List.getElem?_cons_zero]; rfl) (by kernel_rfl) (by kernel_rfl) (by kernel_rfl) #[.int .i64 P.seat, .int .i64 P.count, .bool P.cmd, .int .i64 P.kind, .int .i64 P.sort, .int .i64 P.nr, .int .i64 P.ns, .bool P.pf, .string P.body] (by exact fun _ _ _ h => h) (by rfl) 34 (.tmp 4) rfl _ rfl _ (HP14.out) _ Tryd.underlying34 rfl (by kernel_rfl) ?_
  simp only [Act.put, List.setIfInBounds_toArray, List.set_cons_zero, List.set_cons_succ]
  refine rest_loadB 17 (oi := _) (by simp only [List.getElem?_toArray, List.getElem?_cons_succ, List.getElem?_cons_zero]; rfl) (by kernel_rfl) (by kernel_rfl) (by kernel_rfl) #[.int .i64 P.seat, .int .i64 P.count, .bool P.cmd, .int .i64 P.kind, .int .i64 n, .int .i64 P.nr, .int .i64 P.ns, .bool P.pf, .string P.body] (by exact fun _ _ _ h => h) (by rfl) 34 (.tmp 10) rfl _ rfl _ (HQ14.out) _ Tryd.underlying34 rfl (by kernel_rfl) ?_
  simp only [Act.put, List.setIfInBounds_toArray, List.set_cons_zero, List.set_cons_succ]
  refine rest_take 18 (oi := _) (v := .bool d) (by simp only [List.getElem?_toArray, List.getElem?_cons_succ, List.getElem?_cons_zero]; rfl) (by kernel_rfl) (by kernel_rfl) (by kernel_rfl) (by exact fun _ _ _ h => h) (by rfl) (fun W HW => exec_cmp rfl rfl rfl (guard_Pl _ _ _ _ _ W) (HQE.out W)) ?_
  simp only [Act.put, List.setIfInBounds_toArray, List.set_cons_zero, List.set_cons_succ]
  refine rest_take 19 (oi := _) (v := ?_) (by simp only [List.getElem?_toArray, List.getElem?_cons_succ, List.getElem?_cons_zero]; rfl) (by kernel_rfl) (by kernel_rfl) (by kernel_rfl) (by exact fun _ _ _ h => h) (by rfl) ?_ ?_; rotate_left; (· intro W HW; go_simp; try with_reducible rfl)
  simp only [Act.put, List.setIfInBounds_toArray, List.set_cons_zero, List.set_cons_succ]
  refine rest_take 20 (oi := _) (v := ?_) (by simp only [List.getElem?_toArray, List.getElem?_cons_succ, List.getElem?_cons_zero]; rfl) (by kernel_rfl) (by kernel_rfl) (by kernel_rfl) (by exact fun _ _ _ h => h) (by rfl) ?_ ?_; rotate_left; (· intro W HW; go_simp; try with_reducible rfl)
  simp only [Act.put, List.setIfInBounds_toArray, List.set_cons_zero, List.set_cons_succ]
  refine rest_take 21 (oi := _) (v := ?_) (by simp only [List.getElem?_toArray, List.getElem?_cons_succ, List.getElem?_cons_zero]; rfl) (by kernel_rfl) (by kernel_rfl) (by kernel_rfl) (by exact fun _ _ _ h => h) (by rfl) ?_ ?_; rotate_left; (· intro W HW; go_simp; try with_reducible rfl)
  simp only [Act.put, List.setIfInBounds_toArray, List.set_cons_zero, List.set_cons_succ]
  refine rest_take 22 (oi := _) (v := ?_) (by simp only [List.getElem?_toArray, List.getElem?_cons_succ, List.getElem?_cons_zero]; rfl) (by kernel_rfl) (by kernel_rfl) (by kernel_rfl) (by exact fun _ _ _ h => h) (by rfl) ?_ ?_; rotate_left; (· intro W HW; go_simp; try with_reducible rfl)
  simp only [Act.put, List.setIfInBounds_toArray, List.set_cons_zero, List.set_cons_succ]
  refine rest_done (by kernel_rfl) ?_
  go_wp2
  go_ret
  exact ⟨by cases d <;> rfl, HB14.out⟩

theorem FrameTurn_law (p : PIn) (wh n : Int) (s : ByteArray) (w : World) (hp : p.ok) (_ : (Lit.int .i64 wh).wf = true) (hn : (Lit.int .i64 n).wf = true) (hs : s.size ≤ maxLen) (hC : Codes w) : Calls Tryd.prog 16 #[p.val, .int .i64 wh, .int .i64 n, .string s] w (Holds4 w) := by
  have h1 := fun w => LPlain_any p hp w
  have hP := PIn.cut_ok hp
  obtain ⟨P, hPe⟩ : ∃ P, P = p.cut := ⟨_, rfl⟩
  rw [← hPe] at h1 hP
  rcases hm : decide (mayF P.pl) with _ | _
  · exact FrameTurn_no p P wh n s w h1 hP hC hm
  · have a1 : -6 ≤ wh.tmod 7 := by have := Int.lt_tmod_of_pos wh (show (0 : Int) < 7 by decide); omega
    have a2 : wh.tmod 7 ≤ 6 := by have := Int.tmod_lt_of_pos wh (show (0 : Int) < 7 by decide); omega
    obtain ⟨o0, o1, o2, o3, o4, o5, o6⟩ := hP
    have hP : P.ok := ⟨o0, o1, o2, o3, o4, o5, o6⟩
    have ht := fun w => Text_any s 70 w hs (by omega)
    obtain ⟨ts, hts⟩ : ∃ ts, ts = s.extract 0 (min s.size 70) := ⟨_, rfl⟩
    have hz : ts.size ≤ maxLen := by rw [hts, ByteArray.size_extract]; unfold maxLen at *; omega
    rw [← hts] at ht
    have hh : (wh.tmod 7 + 7) % 7 = 0 ∨ (wh.tmod 7 + 7) % 7 = 1 ∨ (wh.tmod 7 + 7) % 7 = 2 ∨ (wh.tmod 7 + 7) % 7 = 3 ∨ (wh.tmod 7 + 7) % 7 = 4 ∨ (wh.tmod 7 + 7) % 7 = 5 ∨ (wh.tmod 7 + 7) % 7 = 6 := by omega
    rcases hh with h | h | h | h | h | h | h
    · rcases hmq : decide (mayF (PIn.pl ⟨n, P.count, P.cmd, P.kind, P.sort, P.nr, P.ns, P.pf, P.body⟩)) with _ | _
      · exact FrameTurn_0n p P wh n s w h1 hP hC hm ⟨hn, o1, o2, o3, o4, o5, o6⟩ hmq h
      · exact FrameTurn_0y p P wh n s w h1 hP hC hm ⟨hn, o1, o2, o3, o4, o5, o6⟩ hmq h
    · rcases hmq : decide (mayF (PIn.pl ⟨P.seat, n, P.cmd, P.kind, P.sort, P.nr, P.ns, P.pf, P.body⟩)) with _ | _
      · exact FrameTurn_1n p P wh n s w h1 hP hC hm ⟨o0, hn, o2, o3, o4, o5, o6⟩ hmq h
      · exact FrameTurn_1y p P wh n s w h1 hP hC hm ⟨o0, hn, o2, o3, o4, o5, o6⟩ hmq h
    · rcases hmq : decide (mayF (PIn.pl ⟨P.seat, P.count, !P.cmd, P.kind, P.sort, P.nr, P.ns, P.pf, P.body⟩)) with _ | _
      · exact FrameTurn_2n p P wh n s w h1 hP hC hm hP hmq h
      · exact FrameTurn_2y p P wh n s w h1 hP hC hm hP hmq h
    · rcases hmq : decide (mayF (PIn.pl ⟨P.seat, P.count, P.cmd, P.kind, P.sort, n, P.ns, P.pf, P.body⟩)) with _ | _
      · exact FrameTurn_3n p P wh n s w h1 hP hC hm ⟨o0, o1, o2, o3, hn, o5, o6⟩ hmq h
      · exact FrameTurn_3y p P wh n s w h1 hP hC hm ⟨o0, o1, o2, o3, hn, o5, o6⟩ hmq h
    · rcases hmq : decide (mayF (PIn.pl ⟨P.seat, P.count, P.cmd, P.kind, P.sort, P.nr, P.ns, !P.pf, P.body⟩)) with _ | _
      · exact FrameTurn_4n p P wh n s w h1 hP hC hm hP hmq h
      · exact FrameTurn_4y p P wh n s w h1 hP hC hm hP hmq h
    · rcases hmq : decide (mayF (PIn.pl ⟨P.seat, P.count, P.cmd, P.kind, P.sort, P.nr, P.ns, P.pf, ts⟩)) with _ | _
      · exact FrameTurn_5n p P wh n s w h1 hP hC hm ts ht ⟨o0, o1, o2, o3, o4, o5, hz⟩ hmq h
      · exact FrameTurn_5y p P wh n s w h1 hP hC hm ts ht ⟨o0, o1, o2, o3, o4, o5, hz⟩ hmq h
    · rcases hmq : decide (mayF (PIn.pl ⟨P.seat, P.count, P.cmd, P.kind, n, P.nr, P.ns, P.pf, P.body⟩)) with _ | _
      · exact FrameTurn_6n p P wh n s w h1 hP hC hm ⟨o0, o1, o2, hn, o4, o5, o6⟩ hmq h
      · exact FrameTurn_6y p P wh n s w h1 hP hC hm ⟨o0, o1, o2, hn, o4, o5, o6⟩ hmq h
end Go.Proofs.YtaofomkalnagcaaDoor
