/- The law CtlBytes. -/
import Derived.Test.YtaofomkalnagcaaDoorBegun4
import Derived.Test.YtaofomkalnagcaaDoorM4D

set_option linter.all false

namespace Go.Proofs.YtaofomkalnagcaaDoor
open Go.RowKit M

set_option maxRecDepth 100000 in
set_option maxHeartbeats 4000000 in
theorem CtlBytes_law (p q : PIn) (w : World) (_ : p.ok) (_ : q.ok) (hC : Codes w) : Calls Tryd.prog 14 #[p.val, q.val] w (Holds4 w) := by
  have HC := Lib.hid hC
  clear hC
  rcases h1 : cb (nm p.c) with _ | n
  · have HPP := Lib.hid (putIs_none h1)
    rcases h2 : cb (nm q.c) with _ | m
    · have HPQ := Lib.hid (putIs_none h2)
      clear h1 h2
      go_enter Tryd.func14, Tryd.ntmps14
      go_wp2_with (first
        | ((with_reducible refine wpList_boxPlain rfl (.tmp 0) rfl rfl ?_); intro w1 hb1 hlt1 hh1; have HB1 := Lib.hid hb1; have HP1 := Lib.hid hh1; clear hb1 hh1)
        | ((with_reducible refine wpList_boxPlain rfl (.tmp 1) rfl rfl ?_); intro w2 hb2 hlt2 hh2; have HB2 := Lib.hid (bel_trans HB1.out hb2); have HP2 := Lib.hid (keep_at HP1.out hb2); have HQ2 := Lib.hid hh2; clear hb2 hh2)
        | (go_at_call 20; refine (begun4_any _ (HC.out.below HB2.out)).mono ?_; rintro e w3 ⟨rfl, hb⟩; have HB3 := Lib.hid (bel_trans HB2.out hb); have HP3 := Lib.hid (keep_at HP2.out hb); have HQ3 := Lib.hid (keep_at HQ2.out hb); clear hb))
      refine rest_begin (by kernel_rfl) ?_
      refine rest_loadB 0 (oi := _) (by simp only [List.getElem?_toArray, List.getElem?_cons_zero]; rfl) (by kernel_rfl) (by kernel_rfl) (by kernel_rfl) #[.int .i64 p.seat, .int .i64 p.count, .bool p.cmd, .int .i64 p.kind, .int .i64 p.sort, .int .i64 p.nr, .int .i64 p.ns, .bool p.pf, .string p.body] (by exact fun _ _ _ h => h) (by rfl) 34 (.tmp 2) rfl _ rfl _ (HP3.out) _ Tryd.underlying34 rfl (by kernel_rfl) ?_
      simp only [Act.put, List.setIfInBounds_toArray, List.set_cons_zero, List.set_cons_succ]
      refine rest_loadB 2 (oi := _) (by simp only [List.getElem?_toArray, List.getElem?_cons_succ, List.getElem?_cons_zero]; rfl) (by kernel_rfl) (by kernel_rfl) (by kernel_rfl) #[.int .i64 q.seat, .int .i64 q.count, .bool q.cmd, .int .i64 q.kind, .int .i64 q.sort, .int .i64 q.nr, .int .i64 q.ns, .bool q.pf, .string q.body] (by exact fun _ _ _ h => h) (by rfl) 34 (.tmp 3) rfl _ rfl _ (HQ3.out) _ Tryd.underlying34 rfl (by kernel_rfl) ?_
      simp only [Act.put, List.setIfInBounds_toArray, List.set_cons_zero, List.set_cons_succ]
      refine rest_call 1 (oi := _) (by simp only [List.getElem?_toArray, List.getElem?_cons_succ, List.getElem?_cons_zero]; rfl) 33 #[p.val] _ (by kernel_rfl) (by rfl) (by go_simp) (any1_any p w3.drew) ?_
      rintro e w4 ⟨rfl, hb4⟩; refine ⟨_, rfl, hb4, ?_⟩; have HB4 := Lib.hid (bel_trans HB3.out.drew hb4); clear hb4
      simp only [Act.put, List.setIfInBounds_toArray, List.set_cons_zero, List.set_cons_succ]
      refine rest_call 3 (oi := _) (by simp only [List.getElem?_toArray, List.getElem?_cons_succ, List.getElem?_cons_zero]; rfl) 33 #[q.val] _ (by kernel_rfl) (by rfl) (by go_simp) (any1_any q w4) ?_
      rintro e w5 ⟨rfl, hb5⟩; refine ⟨_, rfl, hb5, ?_⟩; have HB5 := Lib.hid (bel_trans HB4.out hb5); clear hb5
      simp only [Act.put, List.setIfInBounds_toArray, List.set_cons_zero, List.set_cons_succ]
      refine rest_take 4 (oi := _) (v := ?_) (by simp only [List.getElem?_toArray, List.getElem?_cons_succ, List.getElem?_cons_zero]; rfl) (by kernel_rfl) (by kernel_rfl) (by kernel_rfl) (by exact fun _ _ _ h => h) (by rfl) ?_ ?_; rotate_left; (· intro W HW; go_simp; try with_reducible rfl)
      simp only [Act.put, List.setIfInBounds_toArray, List.set_cons_zero, List.set_cons_succ]
      refine rest_take 5 (oi := _) (v := ?_) (by simp only [List.getElem?_toArray, List.getElem?_cons_succ, List.getElem?_cons_zero]; rfl) (by kernel_rfl) (by kernel_rfl) (by kernel_rfl) (by exact fun _ _ _ h => h) (by rfl) ?_ ?_; rotate_left; (· intro W HW; go_simp; try with_reducible rfl)
      simp only [Act.put, List.setIfInBounds_toArray, List.set_cons_zero, List.set_cons_succ]
      refine rest_done (by kernel_rfl) ?_
      go_wp2_with (first
        | (go_at_call_of 35 (cv p.c); refine (HPP.out _ (HC.out.below HB5.out)).mono ?_; rintro e w6 ⟨rfl, hb⟩; have HB6 := Lib.hid (bel_trans HB5.out hb); clear hb)
        | (go_at_call_of 35 (cv q.c); refine (HPQ.out _ (HC.out.below HB6.out)).mono ?_; rintro e w7 ⟨rfl, hb⟩; have HB7 := Lib.hid (bel_trans HB6.out hb); clear hb))
      go_ret
      exact ⟨rfl, HB7.out⟩
    · have HPQ := Lib.hid (putIs_some h2)
      clear h1 h2
      go_enter Tryd.func14, Tryd.ntmps14
      go_wp2_with (first
        | ((with_reducible refine wpList_boxPlain rfl (.tmp 0) rfl rfl ?_); intro w1 hb1 hlt1 hh1; have HB1 := Lib.hid hb1; have HP1 := Lib.hid hh1; clear hb1 hh1)
        | ((with_reducible refine wpList_boxPlain rfl (.tmp 1) rfl rfl ?_); intro w2 hb2 hlt2 hh2; have HB2 := Lib.hid (bel_trans HB1.out hb2); have HP2 := Lib.hid (keep_at HP1.out hb2); have HQ2 := Lib.hid hh2; clear hb2 hh2)
        | (go_at_call 20; refine (begun4_any _ (HC.out.below HB2.out)).mono ?_; rintro e w3 ⟨rfl, hb⟩; have HB3 := Lib.hid (bel_trans HB2.out hb); have HP3 := Lib.hid (keep_at HP2.out hb); have HQ3 := Lib.hid (keep_at HQ2.out hb); clear hb))
      refine rest_begin (by kernel_rfl) ?_
      refine rest_loadB 0 (oi := _) (by simp only [List.getElem?_toArray, List.getElem?_cons_zero]; rfl) (by kernel_rfl) (by kernel_rfl) (by kernel_rfl) #[.int .i64 p.seat, .int .i64 p.count, .bool p.cmd, .int .i64 p.kind, .int .i64 p.sort, .int .i64 p.nr, .int .i64 p.ns, .bool p.pf, .string p.body] (by exact fun _ _ _ h => h) (by rfl) 34 (.tmp 2) rfl _ rfl _ (HP3.out) _ Tryd.underlying34 rfl (by kernel_rfl) ?_
      simp only [Act.put, List.setIfInBounds_toArray, List.set_cons_zero, List.set_cons_succ]
      refine rest_loadB 2 (oi := _) (by simp only [List.getElem?_toArray, List.getElem?_cons_succ, List.getElem?_cons_zero]; rfl) (by kernel_rfl) (by kernel_rfl) (by kernel_rfl) #[.int .i64 q.seat, .int .i64 q.count, .bool q.cmd, .int .i64 q.kind, .int .i64 q.sort, .int .i64 q.nr, .int .i64 q.ns, .bool q.pf, .string q.body] (by exact fun _ _ _ h => h) (by rfl) 34 (.tmp 3) rfl _ rfl _ (HQ3.out) _ Tryd.underlying34 rfl (by kernel_rfl) ?_
      simp only [Act.put, List.setIfInBounds_toArray, List.set_cons_zero, List.set_cons_succ]
      refine rest_call 1 (oi := _) (by simp only [List.getElem?_toArray, List.getElem?_cons_succ, List.getElem?_cons_zero]; rfl) 33 #[p.val] _ (by kernel_rfl) (by rfl) (by go_simp) (any1_any p w3.drew) ?_
      rintro e w4 ⟨rfl, hb4⟩; refine ⟨_, rfl, hb4, ?_⟩; have HB4 := Lib.hid (bel_trans HB3.out.drew hb4); clear hb4
      simp only [Act.put, List.setIfInBounds_toArray, List.set_cons_zero, List.set_cons_succ]
      refine rest_call 3 (oi := _) (by simp only [List.getElem?_toArray, List.getElem?_cons_succ, List.getElem?_cons_zero]; rfl) 33 #[q.val] _ (by kernel_rfl) (by rfl) (by go_simp) (any1_any q w4) ?_
      rintro e w5 ⟨rfl, hb5⟩; refine ⟨_, rfl, hb5, ?_⟩; have HB5 := Lib.hid (bel_trans HB4.out hb5); clear hb5
      simp only [Act.put, List.setIfInBounds_toArray, List.set_cons_zero, List.set_cons_succ]
      refine rest_take 4 (oi := _) (v := ?_) (by simp only [List.getElem?_toArray, List.getElem?_cons_succ, List.getElem?_cons_zero]; rfl) (by kernel_rfl) (by kernel_rfl) (by kernel_rfl) (by exact fun _ _ _ h => h) (by rfl) ?_ ?_; rotate_left; (· intro W HW; go_simp; try with_reducible rfl)
      simp only [Act.put, List.setIfInBounds_toArray, List.set_cons_zero, List.set_cons_succ]
      refine rest_take 5 (oi := _) (v := ?_) (by simp only [List.getElem?_toArray, List.getElem?_cons_succ, List.getElem?_cons_zero]; rfl) (by kernel_rfl) (by kernel_rfl) (by kernel_rfl) (by exact fun _ _ _ h => h) (by rfl) ?_ ?_; rotate_left; (· intro W HW; go_simp; try with_reducible rfl)
      simp only [Act.put, List.setIfInBounds_toArray, List.set_cons_zero, List.set_cons_succ]
      refine rest_done (by kernel_rfl) ?_
      go_wp2_with (first
        | (go_at_call_of 35 (cv p.c); refine (HPP.out _ (HC.out.below HB5.out)).mono ?_; rintro e w6 ⟨rfl, hb⟩; have HB6 := Lib.hid (bel_trans HB5.out hb); clear hb)
        | (go_at_call_of 35 (cv q.c); refine (HPQ.out _ (HC.out.below HB6.out)).mono ?_; rintro e w7 ⟨rfl, hb⟩; have HB7 := Lib.hid (bel_trans HB6.out hb); clear hb))
      go_ret
      exact ⟨rfl, HB7.out⟩
  · have HPP := Lib.hid (putIs_some h1)
    rcases h2 : cb (nm q.c) with _ | m
    · have HPQ := Lib.hid (putIs_none h2)
      clear h1 h2
      go_enter Tryd.func14, Tryd.ntmps14
      go_wp2_with (first
        | ((with_reducible refine wpList_boxPlain rfl (.tmp 0) rfl rfl ?_); intro w1 hb1 hlt1 hh1; have HB1 := Lib.hid hb1; have HP1 := Lib.hid hh1; clear hb1 hh1)
        | ((with_reducible refine wpList_boxPlain rfl (.tmp 1) rfl rfl ?_); intro w2 hb2 hlt2 hh2; have HB2 := Lib.hid (bel_trans HB1.out hb2); have HP2 := Lib.hid (keep_at HP1.out hb2); have HQ2 := Lib.hid hh2; clear hb2 hh2)
        | (go_at_call 20; refine (begun4_any _ (HC.out.below HB2.out)).mono ?_; rintro e w3 ⟨rfl, hb⟩; have HB3 := Lib.hid (bel_trans HB2.out hb); have HP3 := Lib.hid (keep_at HP2.out hb); have HQ3 := Lib.hid (keep_at HQ2.out hb); clear hb))
      refine rest_begin (by kernel_rfl) ?_
      refine rest_loadB 0 (oi := _) (by simp only [List.getElem?_toArray, List.getElem?_cons_zero]; rfl) (by kernel_rfl) (by kernel_rfl) (by kernel_rfl) #[.int .i64 p.seat, .int .i64 p.count, .bool p.cmd, .int .i64 p.kind, .int .i64 p.sort, .int .i64 p.nr, .int .i64 p.ns, .bool p.pf, .string p.body] (by exact fun _ _ _ h => h) (by rfl) 34 (.tmp 2) rfl _ rfl _ (HP3.out) _ Tryd.underlying34 rfl (by kernel_rfl) ?_
      simp only [Act.put, List.setIfInBounds_toArray, List.set_cons_zero, List.set_cons_succ]
      refine rest_loadB 2 (oi := _) (by simp only [List.getElem?_toArray, List.getElem?_cons_succ, List.getElem?_cons_zero]; rfl) (by kernel_rfl) (by kernel_rfl) (by kernel_rfl) #[.int .i64 q.seat, .int .i64 q.count, .bool q.cmd, .int .i64 q.kind, .int .i64 q.sort, .int .i64 q.nr, .int .i64 q.ns, .bool q.pf, .string q.body] (by exact fun _ _ _ h => h) (by rfl) 34 (.tmp 3) rfl _ rfl _ (HQ3.out) _ Tryd.underlying34 rfl (by kernel_rfl) ?_
      simp only [Act.put, List.setIfInBounds_toArray, List.set_cons_zero, List.set_cons_succ]
      refine rest_call 1 (oi := _) (by simp only [List.getElem?_toArray, List.getElem?_cons_succ, List.getElem?_cons_zero]; rfl) 33 #[p.val] _ (by kernel_rfl) (by rfl) (by go_simp) (any1_any p w3.drew) ?_
      rintro e w4 ⟨rfl, hb4⟩; refine ⟨_, rfl, hb4, ?_⟩; have HB4 := Lib.hid (bel_trans HB3.out.drew hb4); clear hb4
      simp only [Act.put, List.setIfInBounds_toArray, List.set_cons_zero, List.set_cons_succ]
      refine rest_call 3 (oi := _) (by simp only [List.getElem?_toArray, List.getElem?_cons_succ, List.getElem?_cons_zero]; rfl) 33 #[q.val] _ (by kernel_rfl) (by rfl) (by go_simp) (any1_any q w4) ?_
      rintro e w5 ⟨rfl, hb5⟩; refine ⟨_, rfl, hb5, ?_⟩; have HB5 := Lib.hid (bel_trans HB4.out hb5); clear hb5
      simp only [Act.put, List.setIfInBounds_toArray, List.set_cons_zero, List.set_cons_succ]
      refine rest_take 4 (oi := _) (v := ?_) (by simp only [List.getElem?_toArray, List.getElem?_cons_succ, List.getElem?_cons_zero]; rfl) (by kernel_rfl) (by kernel_rfl) (by kernel_rfl) (by exact fun _ _ _ h => h) (by rfl) ?_ ?_; rotate_left; (· intro W HW; go_simp; try with_reducible rfl)
      simp only [Act.put, List.setIfInBounds_toArray, List.set_cons_zero, List.set_cons_succ]
      refine rest_take 5 (oi := _) (v := ?_) (by simp only [List.getElem?_toArray, List.getElem?_cons_succ, List.getElem?_cons_zero]; rfl) (by kernel_rfl) (by kernel_rfl) (by kernel_rfl) (by exact fun _ _ _ h => h) (by rfl) ?_ ?_; rotate_left; (· intro W HW; go_simp; try with_reducible rfl)
      simp only [Act.put, List.setIfInBounds_toArray, List.set_cons_zero, List.set_cons_succ]
      refine rest_done (by kernel_rfl) ?_
      go_wp2_with (first
        | (go_at_call_of 35 (cv p.c); refine (HPP.out _ (HC.out.below HB5.out)).mono ?_; rintro e w6 ⟨rfl, hb⟩; have HB6 := Lib.hid (bel_trans HB5.out hb); clear hb)
        | (go_at_call_of 35 (cv q.c); refine (HPQ.out _ (HC.out.below HB6.out)).mono ?_; rintro e w7 ⟨rfl, hb⟩; have HB7 := Lib.hid (bel_trans HB6.out hb); clear hb))
      go_ret
      exact ⟨rfl, HB7.out⟩
    · have HPQ := Lib.hid (putIs_some h2)
      have hq : ∀ W, (binOp .eql 20 (cv p.c) (cv q.c)).run Tryd.prog W = .ok (.bool (decide (nm p.c = nm q.c))) W := fun W => by
        rw [cv_nm p.c, cv_nm q.c]; exact eql_cv h1 h2 W
      have hgd : ∀ (op : BinOp) (t : TypeId) (x y : Operand) (u : Value) (W : World), (eqGuard op t x y (cv p.c) u).run Tryd.prog W = .ok () W := fun op t x y u W => by rw [cv_nm p.c]; exact guard_cv h1 op t x y u W
      rcases hnm : (n == m) with _ | _
      · have hd : decide (nm p.c = nm q.c) = false := decide_eq_false fun e => by
          rw [e, h2] at h1
          injection h1 with h1
          exact beq_eq_false_iff_ne.1 hnm h1.symm
        rw [hd] at hq
        clear h1 h2 hd
        go_enter Tryd.func14, Tryd.ntmps14
        go_wp2_with (first
          | ((with_reducible refine wpList_boxPlain rfl (.tmp 0) rfl rfl ?_); intro w1 hb1 hlt1 hh1; have HB1 := Lib.hid hb1; have HP1 := Lib.hid hh1; clear hb1 hh1)
          | ((with_reducible refine wpList_boxPlain rfl (.tmp 1) rfl rfl ?_); intro w2 hb2 hlt2 hh2; have HB2 := Lib.hid (bel_trans HB1.out hb2); have HP2 := Lib.hid (keep_at HP1.out hb2); have HQ2 := Lib.hid hh2; clear hb2 hh2)
          | (go_at_call 20; refine (begun4_any _ (HC.out.below HB2.out)).mono ?_; rintro e w3 ⟨rfl, hb⟩; have HB3 := Lib.hid (bel_trans HB2.out hb); have HP3 := Lib.hid (keep_at HP2.out hb); have HQ3 := Lib.hid (keep_at HQ2.out hb); clear hb))
        refine rest_begin (by kernel_rfl) ?_
        refine rest_loadB 0 (oi := _) (by simp only [List.getElem?_toArray, List.getElem?_cons_zero]; rfl) (by kernel_rfl) (by kernel_rfl) (by kernel_rfl) #[.int .i64 p.seat, .int .i64 p.count, .bool p.cmd, .int .i64 p.kind, .int .i64 p.sort, .int .i64 p.nr, .int .i64 p.ns, .bool p.pf, .string p.body] (by exact fun _ _ _ h => h) (by rfl) 34 (.tmp 2) rfl _ rfl _ (HP3.out) _ Tryd.underlying34 rfl (by kernel_rfl) ?_
        simp only [Act.put, List.setIfInBounds_toArray, List.set_cons_zero, List.set_cons_succ]
        refine rest_loadB 2 (oi := _) (by simp only [List.getElem?_toArray, List.getElem?_cons_succ, List.getElem?_cons_zero]; rfl) (by kernel_rfl) (by kernel_rfl) (by kernel_rfl) #[.int .i64 q.seat, .int .i64 q.count, .bool q.cmd, .int .i64 q.kind, .int .i64 q.sort, .int .i64 q.nr, .int .i64 q.ns, .bool q.pf, .string q.body] (by exact fun _ _ _ h => h) (by rfl) 34 (.tmp 3) rfl _ rfl _ (HQ3.out) _ Tryd.underlying34 rfl (by kernel_rfl) ?_
        simp only [Act.put, List.setIfInBounds_toArray, List.set_cons_zero, List.set_cons_succ]
        refine rest_call 1 (oi := _) (by simp only [List.getElem?_toArray, List.getElem?_cons_succ, List.getElem?_cons_zero]; rfl) 33 #[p.val] _ (by kernel_rfl) (by rfl) (by go_simp) (any1_any p w3.drew) ?_
        rintro e w4 ⟨rfl, hb4⟩; refine ⟨_, rfl, hb4, ?_⟩; have HB4 := Lib.hid (bel_trans HB3.out.drew hb4); clear hb4
        simp only [Act.put, List.setIfInBounds_toArray, List.set_cons_zero, List.set_cons_succ]
        refine rest_call 3 (oi := _) (by simp only [List.getElem?_toArray, List.getElem?_cons_succ, List.getElem?_cons_zero]; rfl) 33 #[q.val] _ (by kernel_rfl) (by rfl) (by go_simp) (any1_any q w4) ?_
        rintro e w5 ⟨rfl, hb5⟩; refine ⟨_, rfl, hb5, ?_⟩; have HB5 := Lib.hid (bel_trans HB4.out hb5); clear hb5
        simp only [Act.put, List.setIfInBounds_toArray, List.set_cons_zero, List.set_cons_succ]
        refine rest_take 4 (oi := _) (v := ?_) (by simp only [List.getElem?_toArray, List.getElem?_cons_succ, List.getElem?_cons_zero]; rfl) (by kernel_rfl) (by kernel_rfl) (by kernel_rfl) (by exact fun _ _ _ h => h) (by rfl) ?_ ?_; rotate_left; (· intro W HW; go_simp; try with_reducible rfl)
        simp only [Act.put, List.setIfInBounds_toArray, List.set_cons_zero, List.set_cons_succ]
        refine rest_take 5 (oi := _) (v := ?_) (by simp only [List.getElem?_toArray, List.getElem?_cons_succ, List.getElem?_cons_zero]; rfl) (by kernel_rfl) (by kernel_rfl) (by kernel_rfl) (by exact fun _ _ _ h => h) (by rfl) ?_ ?_; rotate_left; (· intro W HW; go_simp; try with_reducible rfl)
        simp only [Act.put, List.setIfInBounds_toArray, List.set_cons_zero, List.set_cons_succ]
        refine rest_done (by kernel_rfl) ?_
        go_wp2_with (first
          | (go_at_call_of 35 (cv p.c); refine (HPP.out _ (HC.out.below HB5.out)).mono ?_; rintro e w6 ⟨rfl, hb⟩; have HB6 := Lib.hid (bel_trans HB5.out hb); clear hb)
          | (go_at_call_of 35 (cv q.c); refine (HPQ.out _ (HC.out.below HB6.out)).mono ?_; rintro e w7 ⟨rfl, hb⟩; have HB7 := Lib.hid (bel_trans HB6.out hb); clear hb))
        go_ret
        exact ⟨rfl, HB7.out⟩
      · have hd : decide (nm p.c = nm q.c) = true := decide_eq_true (by
          rw [beq_iff_eq.1 hnm] at h1
          exact cb_inj h1 h2)
        rw [hd] at hq
        clear h1 h2 hd
        go_enter Tryd.func14, Tryd.ntmps14
        go_wp2_with (first
          | ((with_reducible refine wpList_boxPlain rfl (.tmp 0) rfl rfl ?_); intro w1 hb1 hlt1 hh1; have HB1 := Lib.hid hb1; have HP1 := Lib.hid hh1; clear hb1 hh1)
          | ((with_reducible refine wpList_boxPlain rfl (.tmp 1) rfl rfl ?_); intro w2 hb2 hlt2 hh2; have HB2 := Lib.hid (bel_trans HB1.out hb2); have HP2 := Lib.hid (keep_at HP1.out hb2); have HQ2 := Lib.hid hh2; clear hb2 hh2)
          | (go_at_call 20; refine (begun4_any _ (HC.out.below HB2.out)).mono ?_; rintro e w3 ⟨rfl, hb⟩; have HB3 := Lib.hid (bel_trans HB2.out hb); have HP3 := Lib.hid (keep_at HP2.out hb); have HQ3 := Lib.hid (keep_at HQ2.out hb); clear hb))
        refine rest_begin (by kernel_rfl) ?_
        refine rest_loadB 0 (oi := _) (by simp only [List.getElem?_toArray, List.getElem?_cons_zero]; rfl) (by kernel_rfl) (by kernel_rfl) (by kernel_rfl) #[.int .i64 p.seat, .int .i64 p.count, .bool p.cmd, .int .i64 p.kind, .int .i64 p.sort, .int .i64 p.nr, .int .i64 p.ns, .bool p.pf, .string p.body] (by exact fun _ _ _ h => h) (by rfl) 34 (.tmp 2) rfl _ rfl _ (HP3.out) _ Tryd.underlying34 rfl (by kernel_rfl) ?_
        simp only [Act.put, List.setIfInBounds_toArray, List.set_cons_zero, List.set_cons_succ]
        refine rest_loadB 2 (oi := _) (by simp only [List.getElem?_toArray, List.getElem?_cons_succ, List.getElem?_cons_zero]; rfl) (by kernel_rfl) (by kernel_rfl) (by kernel_rfl) #[.int .i64 q.seat, .int .i64 q.count, .bool q.cmd, .int .i64 q.kind, .int .i64 q.sort, .int .i64 q.nr, .int .i64 q.ns, .bool q.pf, .string q.body] (by exact fun _ _ _ h => h) (by rfl) 34 (.tmp 3) rfl _ rfl _ (HQ3.out) _ Tryd.underlying34 rfl (by kernel_rfl) ?_
        simp only [Act.put, List.setIfInBounds_toArray, List.set_cons_zero, List.set_cons_succ]
        refine rest_call 1 (oi := _) (by simp only [List.getElem?_toArray, List.getElem?_cons_succ, List.getElem?_cons_zero]; rfl) 33 #[p.val] _ (by kernel_rfl) (by rfl) (by go_simp) (any1_any p w3.drew) ?_
        rintro e w4 ⟨rfl, hb4⟩; refine ⟨_, rfl, hb4, ?_⟩; have HB4 := Lib.hid (bel_trans HB3.out.drew hb4); clear hb4
        simp only [Act.put, List.setIfInBounds_toArray, List.set_cons_zero, List.set_cons_succ]
        refine rest_call 3 (oi := _) (by simp only [List.getElem?_toArray, List.getElem?_cons_succ, List.getElem?_cons_zero]; rfl) 33 #[q.val] _ (by kernel_rfl) (by rfl) (by go_simp) (any1_any q w4) ?_
        rintro e w5 ⟨rfl, hb5⟩; refine ⟨_, rfl, hb5, ?_⟩; have HB5 := Lib.hid (bel_trans HB4.out hb5); clear hb5
        simp only [Act.put, List.setIfInBounds_toArray, List.set_cons_zero, List.set_cons_succ]
        refine rest_take 4 (oi := _) (v := ?_) (by simp only [List.getElem?_toArray, List.getElem?_cons_succ, List.getElem?_cons_zero]; rfl) (by kernel_rfl) (by kernel_rfl) (by kernel_rfl) (by exact fun _ _ _ h => h) (by rfl) ?_ ?_; rotate_left; (· intro W HW; go_simp; try with_reducible rfl)
        simp only [Act.put, List.setIfInBounds_toArray, List.set_cons_zero, List.set_cons_succ]
        refine rest_take 5 (oi := _) (v := ?_) (by simp only [List.getElem?_toArray, List.getElem?_cons_succ, List.getElem?_cons_zero]; rfl) (by kernel_rfl) (by kernel_rfl) (by kernel_rfl) (by exact fun _ _ _ h => h) (by rfl) ?_ ?_; rotate_left; (· intro W HW; go_simp; try with_reducible rfl)
        simp only [Act.put, List.setIfInBounds_toArray, List.set_cons_zero, List.set_cons_succ]
        refine rest_done (by kernel_rfl) ?_
        go_wp2_with (first
          | (go_at_call_of 35 (cv p.c); refine (HPP.out _ (HC.out.below HB5.out)).mono ?_; rintro e w6 ⟨rfl, hb⟩; have HB6 := Lib.hid (bel_trans HB5.out hb); clear hb)
          | (go_at_call_of 35 (cv q.c); refine (HPQ.out _ (HC.out.below HB6.out)).mono ?_; rintro e w7 ⟨rfl, hb⟩; have HB7 := Lib.hid (bel_trans HB6.out hb); clear hb))
        go_ret
        exact ⟨rfl, HB7.out⟩
end Go.Proofs.YtaofomkalnagcaaDoor
