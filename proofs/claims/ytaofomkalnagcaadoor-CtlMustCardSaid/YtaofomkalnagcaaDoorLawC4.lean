/- The law CtlMust. -/
import Derived.Test.YtaofomkalnagcaaDoorLawC2

set_option linter.all false

namespace Go.Proofs.YtaofomkalnagcaaDoor
open Go.RowKit M

theorem nr_lit {v : Value} {c : Cn} {n : Int} {ok : Bool} (h : IsAny v c) (h1 : c.nr = n) (h2 : (c.kind == 1 || c.kind == 2) = ok) (w : World) : Calls Tryd.prog 41 #[v] w fun e w' => e = .returned (.tuple #[.int .i64 n, .bool ok]) ∧ Below w.heap.size w w' := by
  subst h1; subst h2
  exact CNr_any h w
set_option maxRecDepth 100000 in
theorem same_I (a b : Int) (p : Bool) (W : World) : (binOp .eql 50 (.agg #[.int .i64 a, .int .i64 b, .bool p]) (.agg #[.int .i64 a, .int .i64 b, .bool p])).run Tryd.prog W = .ok (.bool true) W := by
  have u3 := Tryd.underlying3
  have u4 := Tryd.underlying4
  have hS : Tryd.prog.underlying 50 = some (.struct (Tryd.prog.fieldsOf 50)) := by kernel_rfl
  have hp : Tryd.prog.stoodInHeld 50 = false := by kernel_rfl
  rw [run_eql_struct, show (10000 : Nat) = 9999 + 1 from rfl, run_equalIn_agg W 9999 50 _ _ hS hp]
  simp only [Program.fieldsOf, Tryd.underlying50]
  go_simp
theorem guard_I (op : BinOp) (x y : Operand) (xs ys : Array Value) (W : World) : (eqGuard op 50 x y (.agg xs) (.agg ys)).run Tryd.prog W = .ok () W := run_eqGuard_agg W op 50 x y xs ys (by kernel_rfl)
set_option maxRecDepth 100000 in
theorem same_S (a b : Int) (p : Bool) (W : World) : (binOp .eql 53 (.agg #[.int .i64 a, .int .i64 b, .bool p]) (.agg #[.int .i64 a, .int .i64 b, .bool p])).run Tryd.prog W = .ok (.bool true) W := by
  have u3 := Tryd.underlying3
  have u4 := Tryd.underlying4
  have hS : Tryd.prog.underlying 53 = some (.struct (Tryd.prog.fieldsOf 53)) := by kernel_rfl
  have hp : Tryd.prog.stoodInHeld 53 = false := by kernel_rfl
  rw [run_eql_struct, show (10000 : Nat) = 9999 + 1 from rfl, run_equalIn_agg W 9999 53 _ _ hS hp]
  simp only [Program.fieldsOf, Tryd.underlying53]
  go_simp
theorem guard_S (op : BinOp) (x y : Operand) (xs ys : Array Value) (W : World) : (eqGuard op 53 x y (.agg xs) (.agg ys)).run Tryd.prog W = .ok () W := run_eqGuard_agg W op 53 x y xs ys (by kernel_rfl)
set_option maxRecDepth 100000 in
theorem same_U (a : Int) (p : Bool) (W : World) : (binOp .eql 56 (.agg #[.int .i64 a, .bool p]) (.agg #[.int .i64 a, .bool p])).run Tryd.prog W = .ok (.bool true) W := by
  have u3 := Tryd.underlying3
  have u4 := Tryd.underlying4
  have hS : Tryd.prog.underlying 56 = some (.struct (Tryd.prog.fieldsOf 56)) := by kernel_rfl
  have hp : Tryd.prog.stoodInHeld 56 = false := by kernel_rfl
  rw [run_eql_struct, show (10000 : Nat) = 9999 + 1 from rfl, run_equalIn_agg W 9999 56 _ _ hS hp]
  simp only [Program.fieldsOf, Tryd.underlying56]
  go_simp
theorem guard_U (op : BinOp) (x y : Operand) (xs ys : Array Value) (W : World) : (eqGuard op 56 x y (.agg xs) (.agg ys)).run Tryd.prog W = .ok () W := run_eqGuard_agg W op 56 x y xs ys (by kernel_rfl)

set_option maxRecDepth 100000 in
set_option maxHeartbeats 8000000 in
theorem CtlMust_1 (seat count : Int) (cmd : Bool) (sort nr ns : Int) (pf : Bool) (body : ByteArray) (w : World) (hC : Codes w) :
    Calls Tryd.prog 6 #[PIn.val ⟨seat, count, cmd, 1, sort, nr, ns, pf, body⟩] w (Holds4 w) := by
  have HC := Lib.hid hC
  clear hC
  have HA : Hid (∀ w, Calls Tryd.prog 33 #[.agg #[.int .i64 seat, .int .i64 count, .bool cmd, .int .i64 1, .int .i64 sort, .int .i64 nr, .int .i64 ns, .bool pf, .string body]] w fun e w' => e = .returned (iV nr ns pf) ∧ Below w.heap.size w w') := fun w => any1_lit seat count cmd 1 sort nr ns pf body w
  have HI : IsAny (iV nr ns pf) ⟨1, 0, nr, ns, pf⟩ := isAny_cv ⟨1, sort, nr, ns, pf⟩
  have HF1 := Lib.hid (fun w => fallsI_good (iV nr ns pf) (.agg #[.int .i64 nr, .int .i64 ns, .bool pf]) (fun w => MustI_good nr ns pf w) w)
  have HF2 := Lib.hid (fun w => fallsS_bad (iV nr ns pf) (fun w => MustS_bad _ _ (by decide) w) w)
  have HF3 := Lib.hid (fun w => fallsU_bad (iV nr ns pf) (fun w => MustU_bad _ _ (by decide) w) w)
  have HNR := Lib.hid (fun w => nr_lit (n := nr) (ok := true) HI rfl rfl w)
  have HII := Lib.hid HI
  clear HI
  have hsm := fun W => same_I nr ns pf W
  have hgu := guard_I
  go_enter Tryd.func6, Tryd.ntmps6
  go_wp2_with (first
    | ((with_reducible refine wpList_boxPlain rfl (.tmp 0) rfl rfl ?_); intro w1 hb1 hlt1 hh1; have HB1 := Lib.hid hb1; have HP1 := Lib.hid hh1; clear hb1 hh1)
    | (go_at_call 20; refine (begun4_any _ (HC.out.below HB1.out)).mono ?_; rintro e w2 ⟨rfl, hb⟩; have HB2 := Lib.hid (bel_trans HB1.out hb); have HP2 := Lib.hid (keep_at HP1.out hb); clear hb)
    | (with_reducible refine wpList_loadB rfl 34 (.tmp 1) rfl w.heap.size rfl 34 #[.int .i64 seat, .int .i64 count, .bool cmd, .int .i64 1, .int .i64 sort, .int .i64 nr, .int .i64 ns, .bool pf, .string body] HP2.out _ Tryd.underlying34 rfl (by kernel_rfl) ?_)
    | (go_at_call 33; ((with_reducible refine (HA.out _).mono ?_); rintro e w3 ⟨rfl, hb⟩; have HB3 := Lib.hid (bel_trans HB2.out hb); have HP3 := Lib.hid (keep_at HP2.out hb); clear hb))
    | (go_at_call 40; ((with_reducible refine (HF1.out _).mono ?_); rintro e w4 ⟨rfl, hb⟩; have HB4 := Lib.hid (bel_trans HB3.out hb); have HP4 := Lib.hid (keep_at HP3.out hb); clear hb))
    | (go_at_call 40; ((with_reducible refine (HF2.out _).mono ?_); rintro e w5 ⟨rfl, hb⟩; have HB5 := Lib.hid (bel_trans HB4.out hb); have HP5 := Lib.hid (keep_at HP4.out hb); clear hb))
    | (go_at_call 40; ((with_reducible refine (HF3.out _).mono ?_); rintro e w6 ⟨rfl, hb⟩; have HB6 := Lib.hid (bel_trans HB5.out hb); have HP6 := Lib.hid (keep_at HP5.out hb); have c3 := cell_at HP6.out 3 _ rfl; have hl6 := lt_at HP6.out; clear hb))
    | (go_at_call 41; ((with_reducible refine (HNR.out _).mono ?_); rintro e w7 ⟨rfl, hb⟩; have HB7 := Lib.hid (bel_trans HB6.out hb); have HP7 := Lib.hid (keep_at HP6.out hb); clear c3 hl6; have c3 := cell_at HP7.out 3 _ rfl; have hl7 := lt_at HP7.out; clear hb)))
  have c4 := cell_at HP7.out 4 _ rfl
  have c5 := cell_at HP7.out 5 _ rfl
  have c6 := cell_at HP7.out 6 _ rfl
  have c7 := cell_at HP7.out 7 _ rfl
  refine rest_begin (by kernel_rfl) ?_
  refine rest_take 0 (oi := _) (v := ?_) (by simp only [List.getElem?_toArray, List.getElem?_cons_zero]; rfl) (by kernel_rfl) (by kernel_rfl) (by kernel_rfl) (by exact fun _ _ _ h => h) (by rfl) ?_ ?_; rotate_left; (· intro W HW; go_simp; try with_reducible rfl)
  simp only [Act.put, List.setIfInBounds_toArray, List.set_cons_zero, List.set_cons_succ]
  refine rest_take 2 (oi := _) (v := ?_) (by simp only [List.getElem?_toArray, List.getElem?_cons_succ, List.getElem?_cons_zero]; rfl) (by kernel_rfl) (by kernel_rfl) (by kernel_rfl) (by exact fun _ _ _ h => h) (by rfl) ?_ ?_; rotate_left; (· intro W HW; go_simp; try with_reducible rfl)
  simp only [Act.put, List.setIfInBounds_toArray, List.set_cons_zero, List.set_cons_succ]
  refine rest_take 3 (oi := _) (v := ?_) (by simp only [List.getElem?_toArray, List.getElem?_cons_succ, List.getElem?_cons_zero]; rfl) (by kernel_rfl) (by kernel_rfl) (by kernel_rfl) (by exact fun _ _ _ h => h) (by rfl) ?_ ?_; rotate_left; (· intro W HW; have cw := (HW.cell (p := ⟨w.heap.size, 5, none⟩) hl7).trans c5; go_simp; try with_reducible rfl)
  simp only [Act.put, List.setIfInBounds_toArray, List.set_cons_zero, List.set_cons_succ]
  refine rest_take 4 (oi := _) (v := ?_) (by simp only [List.getElem?_toArray, List.getElem?_cons_succ, List.getElem?_cons_zero]; rfl) (by kernel_rfl) (by kernel_rfl) (by kernel_rfl) (by exact fun _ _ _ h => h) (by rfl) ?_ ?_; rotate_left; (· intro W HW; go_simp; try with_reducible rfl)
  simp only [Act.put, List.setIfInBounds_toArray, List.set_cons_zero, List.set_cons_succ]
  refine rest_take 5 (oi := _) (v := ?_) (by simp only [List.getElem?_toArray, List.getElem?_cons_succ, List.getElem?_cons_zero]; rfl) (by kernel_rfl) (by kernel_rfl) (by kernel_rfl) (by exact fun _ _ _ h => h) (by rfl) ?_ ?_; rotate_left; (· intro W HW; have cw := (HW.cell (p := ⟨w.heap.size, 6, none⟩) hl7).trans c6; go_simp; try with_reducible rfl)
  simp only [Act.put, List.setIfInBounds_toArray, List.set_cons_zero, List.set_cons_succ]
  refine rest_take 6 (oi := _) (v := ?_) (by simp only [List.getElem?_toArray, List.getElem?_cons_succ, List.getElem?_cons_zero]; rfl) (by kernel_rfl) (by kernel_rfl) (by kernel_rfl) (by exact fun _ _ _ h => h) (by rfl) ?_ ?_; rotate_left; (· intro W HW; go_simp; try with_reducible rfl)
  simp only [Act.put, List.setIfInBounds_toArray, List.set_cons_zero, List.set_cons_succ]
  refine rest_take 7 (oi := _) (v := ?_) (by simp only [List.getElem?_toArray, List.getElem?_cons_succ, List.getElem?_cons_zero]; rfl) (by kernel_rfl) (by kernel_rfl) (by kernel_rfl) (by exact fun _ _ _ h => h) (by rfl) ?_ ?_; rotate_left; (· intro W HW; have cw := (HW.cell (p := ⟨w.heap.size, 7, none⟩) hl7).trans c7; go_simp; try with_reducible rfl)
  simp only [Act.put, List.setIfInBounds_toArray, List.set_cons_zero, List.set_cons_succ]
  refine rest_take 8 (oi := _) (v := ?_) (by simp only [List.getElem?_toArray, List.getElem?_cons_succ, List.getElem?_cons_zero]; rfl) (by kernel_rfl) (by kernel_rfl) (by kernel_rfl) (by exact fun _ _ _ h => h) (by rfl) ?_ ?_; rotate_left; (· intro W HW; go_simp; try with_reducible rfl)
  simp only [Act.put, List.setIfInBounds_toArray, List.set_cons_zero, List.set_cons_succ]
  refine rest_call 1 (oi := _) (by simp only [List.getElem?_toArray, List.getElem?_cons_succ, List.getElem?_cons_zero]; rfl) 42 #[iV nr ns pf] _ (by kernel_rfl) (by rfl) (by go_simp) (MustI_good nr ns pf _) ?_
  rintro e w8 ⟨rfl, hb⟩; refine ⟨_, rfl, hb, ?_⟩; have HB8 := Lib.hid (bel_trans HB7.out.drew hb); have HP8 := Lib.hid (keep_at (w := w7.drew) HP7.out hb); have c58 := cell_at HP8.out 5 _ rfl; have hl8 := lt_at HP8.out; clear hb
  simp only [Act.put, List.setIfInBounds_toArray, List.set_cons_zero, List.set_cons_succ]
  refine rest_take 9 (oi := _) (v := ?_) (by simp only [List.getElem?_toArray, List.getElem?_cons_succ, List.getElem?_cons_zero]; rfl) (by kernel_rfl) (by kernel_rfl) (by kernel_rfl) (by exact fun _ _ _ h => h) (by rfl) ?_ ?_; rotate_left; (· intro W HW; go_simp; try with_reducible rfl)
  simp only [Act.put, List.setIfInBounds_toArray, List.set_cons_zero, List.set_cons_succ]
  refine rest_take 10 (oi := _) (v := ?_) (by simp only [List.getElem?_toArray, List.getElem?_cons_succ, List.getElem?_cons_zero]; rfl) (by kernel_rfl) (by kernel_rfl) (by kernel_rfl) (by exact fun _ _ _ h => h) (by rfl) ?_ ?_; rotate_left; (· intro W HW; go_simp; try with_reducible rfl)
  simp only [Act.put, List.setIfInBounds_toArray, List.set_cons_zero, List.set_cons_succ]
  refine rest_take 11 (oi := _) (v := ?_) (by simp only [List.getElem?_toArray, List.getElem?_cons_succ, List.getElem?_cons_zero]; rfl) (by kernel_rfl) (by kernel_rfl) (by kernel_rfl) (by exact fun _ _ _ h => h) (by rfl) ?_ ?_; rotate_left; (· intro W HW; go_simp; try with_reducible rfl)
  simp only [Act.put, List.setIfInBounds_toArray, List.set_cons_zero, List.set_cons_succ]
  refine rest_take 12 (oi := _) (v := ?_) (by simp only [List.getElem?_toArray, List.getElem?_cons_succ, List.getElem?_cons_zero]; rfl) (by kernel_rfl) (by kernel_rfl) (by kernel_rfl) (by exact fun _ _ _ h => h) (by rfl) ?_ ?_; rotate_left; (· intro W HW; go_simp; try with_reducible rfl)
  simp only [Act.put, List.setIfInBounds_toArray, List.set_cons_zero, List.set_cons_succ]
  refine rest_take 13 (oi := _) (v := ?_) (by simp only [List.getElem?_toArray, List.getElem?_cons_succ, List.getElem?_cons_zero]; rfl) (by kernel_rfl) (by kernel_rfl) (by kernel_rfl) (by exact fun _ _ _ h => h) (by rfl) ?_ ?_; rotate_left; (· intro W HW; go_simp; try with_reducible rfl)
  simp only [Act.put, List.setIfInBounds_toArray, List.set_cons_zero, List.set_cons_succ]
  refine rest_take 14 (oi := _) (v := ?_) (by simp only [List.getElem?_toArray, List.getElem?_cons_succ, List.getElem?_cons_zero]; rfl) (by kernel_rfl) (by kernel_rfl) (by kernel_rfl) (by exact fun _ _ _ h => h) (by rfl) ?_ ?_; rotate_left; (· intro W HW; go_simp; try with_reducible rfl)
  simp only [Act.put, List.setIfInBounds_toArray, List.set_cons_zero, List.set_cons_succ]
  refine rest_take 15 (oi := _) (v := ?_) (by simp only [List.getElem?_toArray, List.getElem?_cons_succ, List.getElem?_cons_zero]; rfl) (by kernel_rfl) (by kernel_rfl) (by kernel_rfl) (by exact fun _ _ _ h => h) (by rfl) ?_ ?_; rotate_left; (· intro W HW; go_simp; try with_reducible rfl)
  simp only [Act.put, List.setIfInBounds_toArray, List.set_cons_zero, List.set_cons_succ]
  refine rest_take 16 (oi := _) (v := ?_) (by simp only [List.getElem?_toArray, List.getElem?_cons_succ, List.getElem?_cons_zero]; rfl) (by kernel_rfl) (by kernel_rfl) (by kernel_rfl) (by exact fun _ _ _ h => h) (by rfl) ?_ ?_; rotate_left; (· intro W HW; have cw := (HW.cell (p := ⟨w.heap.size, 5, none⟩) hl8).trans c58; go_simp; try with_reducible rfl)
  simp only [Act.put, List.setIfInBounds_toArray, List.set_cons_zero, List.set_cons_succ]
  refine rest_take 17 (oi := _) (v := ?_) (by simp only [List.getElem?_toArray, List.getElem?_cons_succ, List.getElem?_cons_zero]; rfl) (by kernel_rfl) (by kernel_rfl) (by kernel_rfl) (by exact fun _ _ _ h => h) (by rfl) ?_ ?_; rotate_left; (· intro W HW; go_simp; try with_reducible rfl)
  simp only [Act.put, List.setIfInBounds_toArray, List.set_cons_zero, List.set_cons_succ]
  refine rest_take 18 (oi := _) (v := ?_) (by simp only [List.getElem?_toArray, List.getElem?_cons_succ, List.getElem?_cons_zero]; rfl) (by kernel_rfl) (by kernel_rfl) (by kernel_rfl) (by exact fun _ _ _ h => h) (by rfl) ?_ ?_; rotate_left; (· intro W HW; go_simp; try with_reducible rfl)
  simp only [Act.put, List.setIfInBounds_toArray, List.set_cons_zero, List.set_cons_succ]
  refine rest_take 19 (oi := _) (v := ?_) (by simp only [List.getElem?_toArray, List.getElem?_cons_succ, List.getElem?_cons_zero]; rfl) (by kernel_rfl) (by kernel_rfl) (by kernel_rfl) (by exact fun _ _ _ h => h) (by rfl) ?_ ?_; rotate_left; (· intro W HW; go_simp; try with_reducible rfl)
  simp only [Act.put, List.setIfInBounds_toArray, List.set_cons_zero, List.set_cons_succ]
  refine rest_done (by kernel_rfl) ?_
  go_wp2
  go_ret
  exact ⟨rfl, HB8.out⟩

set_option maxRecDepth 100000 in
set_option maxHeartbeats 8000000 in
theorem CtlMust_2 (seat count : Int) (cmd : Bool) (sort nr ns : Int) (pf : Bool) (body : ByteArray) (w : World) (hC : Codes w) :
    Calls Tryd.prog 6 #[PIn.val ⟨seat, count, cmd, 2, sort, nr, ns, pf, body⟩] w (Holds4 w) := by
  have HC := Lib.hid hC
  clear hC
  have HA : Hid (∀ w, Calls Tryd.prog 33 #[.agg #[.int .i64 seat, .int .i64 count, .bool cmd, .int .i64 2, .int .i64 sort, .int .i64 nr, .int .i64 ns, .bool pf, .string body]] w fun e w' => e = .returned (sV sort nr pf) ∧ Below w.heap.size w w') := fun w => any1_lit seat count cmd 2 sort nr ns pf body w
  have HI : IsAny (sV sort nr pf) ⟨2, sort, nr, 0, pf⟩ := isAny_cv ⟨2, sort, nr, ns, pf⟩
  have HF1 := Lib.hid (fun w => fallsI_bad (sV sort nr pf) (fun w => MustI_bad _ _ (by decide) w) w)
  have HF2 := Lib.hid (fun w => fallsS_good (sV sort nr pf) (.agg #[.int .i64 sort, .int .i64 nr, .bool pf]) (fun w => MustS_good sort nr pf w) w)
  have HF3 := Lib.hid (fun w => fallsU_bad (sV sort nr pf) (fun w => MustU_bad _ _ (by decide) w) w)
  have HNR := Lib.hid (fun w => nr_lit (n := nr) (ok := true) HI rfl rfl w)
  have HII := Lib.hid HI
  clear HI
  have hsm := fun W => same_S sort nr pf W
  have hgu := guard_S
  go_enter Tryd.func6, Tryd.ntmps6
  go_wp2_with (first
    | ((with_reducible refine wpList_boxPlain rfl (.tmp 0) rfl rfl ?_); intro w1 hb1 hlt1 hh1; have HB1 := Lib.hid hb1; have HP1 := Lib.hid hh1; clear hb1 hh1)
    | (go_at_call 20; refine (begun4_any _ (HC.out.below HB1.out)).mono ?_; rintro e w2 ⟨rfl, hb⟩; have HB2 := Lib.hid (bel_trans HB1.out hb); have HP2 := Lib.hid (keep_at HP1.out hb); clear hb)
    | (with_reducible refine wpList_loadB rfl 34 (.tmp 1) rfl w.heap.size rfl 34 #[.int .i64 seat, .int .i64 count, .bool cmd, .int .i64 2, .int .i64 sort, .int .i64 nr, .int .i64 ns, .bool pf, .string body] HP2.out _ Tryd.underlying34 rfl (by kernel_rfl) ?_)
    | (go_at_call 33; ((with_reducible refine (HA.out _).mono ?_); rintro e w3 ⟨rfl, hb⟩; have HB3 := Lib.hid (bel_trans HB2.out hb); have HP3 := Lib.hid (keep_at HP2.out hb); clear hb))
    | (go_at_call 40; ((with_reducible refine (HF1.out _).mono ?_); rintro e w4 ⟨rfl, hb⟩; have HB4 := Lib.hid (bel_trans HB3.out hb); have HP4 := Lib.hid (keep_at HP3.out hb); clear hb))
    | (go_at_call 40; ((with_reducible refine (HF2.out _).mono ?_); rintro e w5 ⟨rfl, hb⟩; have HB5 := Lib.hid (bel_trans HB4.out hb); have HP5 := Lib.hid (keep_at HP4.out hb); clear hb))
    | (go_at_call 40; ((with_reducible refine (HF3.out _).mono ?_); rintro e w6 ⟨rfl, hb⟩; have HB6 := Lib.hid (bel_trans HB5.out hb); have HP6 := Lib.hid (keep_at HP5.out hb); have c3 := cell_at HP6.out 3 _ rfl; have hl6 := lt_at HP6.out; clear hb))
    | (go_at_call 41; ((with_reducible refine (HNR.out _).mono ?_); rintro e w7 ⟨rfl, hb⟩; have HB7 := Lib.hid (bel_trans HB6.out hb); have HP7 := Lib.hid (keep_at HP6.out hb); clear c3 hl6; have c3 := cell_at HP7.out 3 _ rfl; have hl7 := lt_at HP7.out; clear hb)))
  have c4 := cell_at HP7.out 4 _ rfl
  have c5 := cell_at HP7.out 5 _ rfl
  have c6 := cell_at HP7.out 6 _ rfl
  have c7 := cell_at HP7.out 7 _ rfl
  refine rest_begin (by kernel_rfl) ?_
  refine rest_take 0 (oi := _) (v := ?_) (by simp only [List.getElem?_toArray, List.getElem?_cons_zero]; rfl) (by kernel_rfl) (by kernel_rfl) (by kernel_rfl) (by exact fun _ _ _ h => h) (by rfl) ?_ ?_; rotate_left; (· intro W HW; go_simp; try with_reducible rfl)
  simp only [Act.put, List.setIfInBounds_toArray, List.set_cons_zero, List.set_cons_succ]
  refine rest_take 2 (oi := _) (v := ?_) (by simp only [List.getElem?_toArray, List.getElem?_cons_succ, List.getElem?_cons_zero]; rfl) (by kernel_rfl) (by kernel_rfl) (by kernel_rfl) (by exact fun _ _ _ h => h) (by rfl) ?_ ?_; rotate_left; (· intro W HW; go_simp; try with_reducible rfl)
  simp only [Act.put, List.setIfInBounds_toArray, List.set_cons_zero, List.set_cons_succ]
  refine rest_take 3 (oi := _) (v := ?_) (by simp only [List.getElem?_toArray, List.getElem?_cons_succ, List.getElem?_cons_zero]; rfl) (by kernel_rfl) (by kernel_rfl) (by kernel_rfl) (by exact fun _ _ _ h => h) (by rfl) ?_ ?_; rotate_left; (· intro W HW; have cw := (HW.cell (p := ⟨w.heap.size, 4, none⟩) hl7).trans c4; go_simp; try with_reducible rfl)
  simp only [Act.put, List.setIfInBounds_toArray, List.set_cons_zero, List.set_cons_succ]
  refine rest_take 4 (oi := _) (v := ?_) (by simp only [List.getElem?_toArray, List.getElem?_cons_succ, List.getElem?_cons_zero]; rfl) (by kernel_rfl) (by kernel_rfl) (by kernel_rfl) (by exact fun _ _ _ h => h) (by rfl) ?_ ?_; rotate_left; (· intro W HW; go_simp; try with_reducible rfl)
  simp only [Act.put, List.setIfInBounds_toArray, List.set_cons_zero, List.set_cons_succ]
  refine rest_take 5 (oi := _) (v := ?_) (by simp only [List.getElem?_toArray, List.getElem?_cons_succ, List.getElem?_cons_zero]; rfl) (by kernel_rfl) (by kernel_rfl) (by kernel_rfl) (by exact fun _ _ _ h => h) (by rfl) ?_ ?_; rotate_left; (· intro W HW; have cw := (HW.cell (p := ⟨w.heap.size, 5, none⟩) hl7).trans c5; go_simp; try with_reducible rfl)
  simp only [Act.put, List.setIfInBounds_toArray, List.set_cons_zero, List.set_cons_succ]
  refine rest_take 6 (oi := _) (v := ?_) (by simp only [List.getElem?_toArray, List.getElem?_cons_succ, List.getElem?_cons_zero]; rfl) (by kernel_rfl) (by kernel_rfl) (by kernel_rfl) (by exact fun _ _ _ h => h) (by rfl) ?_ ?_; rotate_left; (· intro W HW; go_simp; try with_reducible rfl)
  simp only [Act.put, List.setIfInBounds_toArray, List.set_cons_zero, List.set_cons_succ]
  refine rest_take 7 (oi := _) (v := ?_) (by simp only [List.getElem?_toArray, List.getElem?_cons_succ, List.getElem?_cons_zero]; rfl) (by kernel_rfl) (by kernel_rfl) (by kernel_rfl) (by exact fun _ _ _ h => h) (by rfl) ?_ ?_; rotate_left; (· intro W HW; have cw := (HW.cell (p := ⟨w.heap.size, 7, none⟩) hl7).trans c7; go_simp; try with_reducible rfl)
  simp only [Act.put, List.setIfInBounds_toArray, List.set_cons_zero, List.set_cons_succ]
  refine rest_take 8 (oi := _) (v := ?_) (by simp only [List.getElem?_toArray, List.getElem?_cons_succ, List.getElem?_cons_zero]; rfl) (by kernel_rfl) (by kernel_rfl) (by kernel_rfl) (by exact fun _ _ _ h => h) (by rfl) ?_ ?_; rotate_left; (· intro W HW; go_simp; try with_reducible rfl)
  simp only [Act.put, List.setIfInBounds_toArray, List.set_cons_zero, List.set_cons_succ]
  refine rest_call 1 (oi := _) (by simp only [List.getElem?_toArray, List.getElem?_cons_succ, List.getElem?_cons_zero]; rfl) 43 #[sV sort nr pf] _ (by kernel_rfl) (by rfl) (by go_simp) (MustS_good sort nr pf _) ?_
  rintro e w8 ⟨rfl, hb⟩; refine ⟨_, rfl, hb, ?_⟩; have HB8 := Lib.hid (bel_trans HB7.out.drew hb); have HP8 := Lib.hid (keep_at (w := w7.drew) HP7.out hb); have c58 := cell_at HP8.out 5 _ rfl; have hl8 := lt_at HP8.out; clear hb
  simp only [Act.put, List.setIfInBounds_toArray, List.set_cons_zero, List.set_cons_succ]
  refine rest_take 9 (oi := _) (v := ?_) (by simp only [List.getElem?_toArray, List.getElem?_cons_succ, List.getElem?_cons_zero]; rfl) (by kernel_rfl) (by kernel_rfl) (by kernel_rfl) (by exact fun _ _ _ h => h) (by rfl) ?_ ?_; rotate_left; (· intro W HW; go_simp; try with_reducible rfl)
  simp only [Act.put, List.setIfInBounds_toArray, List.set_cons_zero, List.set_cons_succ]
  refine rest_take 10 (oi := _) (v := ?_) (by simp only [List.getElem?_toArray, List.getElem?_cons_succ, List.getElem?_cons_zero]; rfl) (by kernel_rfl) (by kernel_rfl) (by kernel_rfl) (by exact fun _ _ _ h => h) (by rfl) ?_ ?_; rotate_left; (· intro W HW; go_simp; try with_reducible rfl)
  simp only [Act.put, List.setIfInBounds_toArray, List.set_cons_zero, List.set_cons_succ]
  refine rest_take 11 (oi := _) (v := ?_) (by simp only [List.getElem?_toArray, List.getElem?_cons_succ, List.getElem?_cons_zero]; rfl) (by kernel_rfl) (by kernel_rfl) (by kernel_rfl) (by exact fun _ _ _ h => h) (by rfl) ?_ ?_; rotate_left; (· intro W HW; go_simp; try with_reducible rfl)
  simp only [Act.put, List.setIfInBounds_toArray, List.set_cons_zero, List.set_cons_succ]
  refine rest_take 12 (oi := _) (v := ?_) (by simp only [List.getElem?_toArray, List.getElem?_cons_succ, List.getElem?_cons_zero]; rfl) (by kernel_rfl) (by kernel_rfl) (by kernel_rfl) (by exact fun _ _ _ h => h) (by rfl) ?_ ?_; rotate_left; (· intro W HW; go_simp; try with_reducible rfl)
  simp only [Act.put, List.setIfInBounds_toArray, List.set_cons_zero, List.set_cons_succ]
  refine rest_take 13 (oi := _) (v := ?_) (by simp only [List.getElem?_toArray, List.getElem?_cons_succ, List.getElem?_cons_zero]; rfl) (by kernel_rfl) (by kernel_rfl) (by kernel_rfl) (by exact fun _ _ _ h => h) (by rfl) ?_ ?_; rotate_left; (· intro W HW; go_simp; try with_reducible rfl)
  simp only [Act.put, List.setIfInBounds_toArray, List.set_cons_zero, List.set_cons_succ]
  refine rest_take 14 (oi := _) (v := ?_) (by simp only [List.getElem?_toArray, List.getElem?_cons_succ, List.getElem?_cons_zero]; rfl) (by kernel_rfl) (by kernel_rfl) (by kernel_rfl) (by exact fun _ _ _ h => h) (by rfl) ?_ ?_; rotate_left; (· intro W HW; go_simp; try with_reducible rfl)
  simp only [Act.put, List.setIfInBounds_toArray, List.set_cons_zero, List.set_cons_succ]
  refine rest_take 15 (oi := _) (v := ?_) (by simp only [List.getElem?_toArray, List.getElem?_cons_succ, List.getElem?_cons_zero]; rfl) (by kernel_rfl) (by kernel_rfl) (by kernel_rfl) (by exact fun _ _ _ h => h) (by rfl) ?_ ?_; rotate_left; (· intro W HW; go_simp; try with_reducible rfl)
  simp only [Act.put, List.setIfInBounds_toArray, List.set_cons_zero, List.set_cons_succ]
  refine rest_take 16 (oi := _) (v := ?_) (by simp only [List.getElem?_toArray, List.getElem?_cons_succ, List.getElem?_cons_zero]; rfl) (by kernel_rfl) (by kernel_rfl) (by kernel_rfl) (by exact fun _ _ _ h => h) (by rfl) ?_ ?_; rotate_left; (· intro W HW; have cw := (HW.cell (p := ⟨w.heap.size, 5, none⟩) hl8).trans c58; go_simp; try with_reducible rfl)
  simp only [Act.put, List.setIfInBounds_toArray, List.set_cons_zero, List.set_cons_succ]
  refine rest_take 17 (oi := _) (v := ?_) (by simp only [List.getElem?_toArray, List.getElem?_cons_succ, List.getElem?_cons_zero]; rfl) (by kernel_rfl) (by kernel_rfl) (by kernel_rfl) (by exact fun _ _ _ h => h) (by rfl) ?_ ?_; rotate_left; (· intro W HW; go_simp; try with_reducible rfl)
  simp only [Act.put, List.setIfInBounds_toArray, List.set_cons_zero, List.set_cons_succ]
  refine rest_take 18 (oi := _) (v := ?_) (by simp only [List.getElem?_toArray, List.getElem?_cons_succ, List.getElem?_cons_zero]; rfl) (by kernel_rfl) (by kernel_rfl) (by kernel_rfl) (by exact fun _ _ _ h => h) (by rfl) ?_ ?_; rotate_left; (· intro W HW; go_simp; try with_reducible rfl)
  simp only [Act.put, List.setIfInBounds_toArray, List.set_cons_zero, List.set_cons_succ]
  refine rest_take 19 (oi := _) (v := ?_) (by simp only [List.getElem?_toArray, List.getElem?_cons_succ, List.getElem?_cons_zero]; rfl) (by kernel_rfl) (by kernel_rfl) (by kernel_rfl) (by exact fun _ _ _ h => h) (by rfl) ?_ ?_; rotate_left; (· intro W HW; go_simp; try with_reducible rfl)
  simp only [Act.put, List.setIfInBounds_toArray, List.set_cons_zero, List.set_cons_succ]
  refine rest_done (by kernel_rfl) ?_
  go_wp2
  go_ret
  exact ⟨rfl, HB8.out⟩

set_option maxRecDepth 100000 in
set_option maxHeartbeats 8000000 in
theorem CtlMust_3 (seat count : Int) (cmd : Bool) (sort nr ns : Int) (pf : Bool) (body : ByteArray) (w : World) (hC : Codes w) :
    Calls Tryd.prog 6 #[PIn.val ⟨seat, count, cmd, 3, sort, nr, ns, pf, body⟩] w (Holds4 w) := by
  have HC := Lib.hid hC
  clear hC
  have HA : Hid (∀ w, Calls Tryd.prog 33 #[.agg #[.int .i64 seat, .int .i64 count, .bool cmd, .int .i64 3, .int .i64 sort, .int .i64 nr, .int .i64 ns, .bool pf, .string body]] w fun e w' => e = .returned (uV sort pf) ∧ Below w.heap.size w w') := fun w => any1_lit seat count cmd 3 sort nr ns pf body w
  have HI : IsAny (uV sort pf) ⟨3, sort, 0, 0, pf⟩ := isAny_cv ⟨3, sort, nr, ns, pf⟩
  have HF1 := Lib.hid (fun w => fallsI_bad (uV sort pf) (fun w => MustI_bad _ _ (by decide) w) w)
  have HF2 := Lib.hid (fun w => fallsS_bad (uV sort pf) (fun w => MustS_bad _ _ (by decide) w) w)
  have HF3 := Lib.hid (fun w => fallsU_good (uV sort pf) (.agg #[.int .i64 sort, .bool pf]) (fun w => MustU_good sort pf w) w)
  have HNR := Lib.hid (fun w => nr_lit (n := 0) (ok := false) HI rfl rfl w)
  have HII := Lib.hid HI
  clear HI
  have hsm := fun W => same_U sort pf W
  have hgu := guard_U
  go_enter Tryd.func6, Tryd.ntmps6
  go_wp2_with (first
    | ((with_reducible refine wpList_boxPlain rfl (.tmp 0) rfl rfl ?_); intro w1 hb1 hlt1 hh1; have HB1 := Lib.hid hb1; have HP1 := Lib.hid hh1; clear hb1 hh1)
    | (go_at_call 20; refine (begun4_any _ (HC.out.below HB1.out)).mono ?_; rintro e w2 ⟨rfl, hb⟩; have HB2 := Lib.hid (bel_trans HB1.out hb); have HP2 := Lib.hid (keep_at HP1.out hb); clear hb)
    | (with_reducible refine wpList_loadB rfl 34 (.tmp 1) rfl w.heap.size rfl 34 #[.int .i64 seat, .int .i64 count, .bool cmd, .int .i64 3, .int .i64 sort, .int .i64 nr, .int .i64 ns, .bool pf, .string body] HP2.out _ Tryd.underlying34 rfl (by kernel_rfl) ?_)
    | (go_at_call 33; ((with_reducible refine (HA.out _).mono ?_); rintro e w3 ⟨rfl, hb⟩; have HB3 := Lib.hid (bel_trans HB2.out hb); have HP3 := Lib.hid (keep_at HP2.out hb); clear hb))
    | (go_at_call 40; ((with_reducible refine (HF1.out _).mono ?_); rintro e w4 ⟨rfl, hb⟩; have HB4 := Lib.hid (bel_trans HB3.out hb); have HP4 := Lib.hid (keep_at HP3.out hb); clear hb))
    | (go_at_call 40; ((with_reducible refine (HF2.out _).mono ?_); rintro e w5 ⟨rfl, hb⟩; have HB5 := Lib.hid (bel_trans HB4.out hb); have HP5 := Lib.hid (keep_at HP4.out hb); clear hb))
    | (go_at_call 40; ((with_reducible refine (HF3.out _).mono ?_); rintro e w6 ⟨rfl, hb⟩; have HB6 := Lib.hid (bel_trans HB5.out hb); have HP6 := Lib.hid (keep_at HP5.out hb); have c3 := cell_at HP6.out 3 _ rfl; have hl6 := lt_at HP6.out; clear hb))
    | (go_at_call 41; ((with_reducible refine (HNR.out _).mono ?_); rintro e w7 ⟨rfl, hb⟩; have HB7 := Lib.hid (bel_trans HB6.out hb); have HP7 := Lib.hid (keep_at HP6.out hb); clear c3 hl6; have c3 := cell_at HP7.out 3 _ rfl; have hl7 := lt_at HP7.out; clear hb)))
  have c4 := cell_at HP7.out 4 _ rfl
  have c5 := cell_at HP7.out 5 _ rfl
  have c6 := cell_at HP7.out 6 _ rfl
  have c7 := cell_at HP7.out 7 _ rfl
  refine rest_begin (by kernel_rfl) ?_
  refine rest_take 0 (oi := _) (v := ?_) (by simp only [List.getElem?_toArray, List.getElem?_cons_zero]; rfl) (by kernel_rfl) (by kernel_rfl) (by kernel_rfl) (by exact fun _ _ _ h => h) (by rfl) ?_ ?_; rotate_left; (· intro W HW; go_simp; try with_reducible rfl)
  simp only [Act.put, List.setIfInBounds_toArray, List.set_cons_zero, List.set_cons_succ]
  refine rest_take 2 (oi := _) (v := ?_) (by simp only [List.getElem?_toArray, List.getElem?_cons_succ, List.getElem?_cons_zero]; rfl) (by kernel_rfl) (by kernel_rfl) (by kernel_rfl) (by exact fun _ _ _ h => h) (by rfl) ?_ ?_; rotate_left; (· intro W HW; go_simp; try with_reducible rfl)
  simp only [Act.put, List.setIfInBounds_toArray, List.set_cons_zero, List.set_cons_succ]
  refine rest_take 3 (oi := _) (v := ?_) (by simp only [List.getElem?_toArray, List.getElem?_cons_succ, List.getElem?_cons_zero]; rfl) (by kernel_rfl) (by kernel_rfl) (by kernel_rfl) (by exact fun _ _ _ h => h) (by rfl) ?_ ?_; rotate_left; (· intro W HW; have cw := (HW.cell (p := ⟨w.heap.size, 4, none⟩) hl7).trans c4; go_simp; try with_reducible rfl)
  simp only [Act.put, List.setIfInBounds_toArray, List.set_cons_zero, List.set_cons_succ]
  refine rest_take 4 (oi := _) (v := ?_) (by simp only [List.getElem?_toArray, List.getElem?_cons_succ, List.getElem?_cons_zero]; rfl) (by kernel_rfl) (by kernel_rfl) (by kernel_rfl) (by exact fun _ _ _ h => h) (by rfl) ?_ ?_; rotate_left; (· intro W HW; go_simp; try with_reducible rfl)
  simp only [Act.put, List.setIfInBounds_toArray, List.set_cons_zero, List.set_cons_succ]
  refine rest_take 5 (oi := _) (v := ?_) (by simp only [List.getElem?_toArray, List.getElem?_cons_succ, List.getElem?_cons_zero]; rfl) (by kernel_rfl) (by kernel_rfl) (by kernel_rfl) (by exact fun _ _ _ h => h) (by rfl) ?_ ?_; rotate_left; (· intro W HW; have cw := (HW.cell (p := ⟨w.heap.size, 7, none⟩) hl7).trans c7; go_simp; try with_reducible rfl)
  simp only [Act.put, List.setIfInBounds_toArray, List.set_cons_zero, List.set_cons_succ]
  refine rest_take 6 (oi := _) (v := ?_) (by simp only [List.getElem?_toArray, List.getElem?_cons_succ, List.getElem?_cons_zero]; rfl) (by kernel_rfl) (by kernel_rfl) (by kernel_rfl) (by exact fun _ _ _ h => h) (by rfl) ?_ ?_; rotate_left; (· intro W HW; go_simp; try with_reducible rfl)
  simp only [Act.put, List.setIfInBounds_toArray, List.set_cons_zero, List.set_cons_succ]
  refine rest_call 1 (oi := _) (by simp only [List.getElem?_toArray, List.getElem?_cons_succ, List.getElem?_cons_zero]; rfl) 44 #[uV sort pf] _ (by kernel_rfl) (by rfl) (by go_simp) (MustU_good sort pf _) ?_
  rintro e w8 ⟨rfl, hb⟩; refine ⟨_, rfl, hb, ?_⟩; have HB8 := Lib.hid (bel_trans HB7.out.drew hb); have HP8 := Lib.hid (keep_at (w := w7.drew) HP7.out hb); have c58 := cell_at HP8.out 5 _ rfl; have hl8 := lt_at HP8.out; clear hb
  simp only [Act.put, List.setIfInBounds_toArray, List.set_cons_zero, List.set_cons_succ]
  refine rest_take 7 (oi := _) (v := ?_) (by simp only [List.getElem?_toArray, List.getElem?_cons_succ, List.getElem?_cons_zero]; rfl) (by kernel_rfl) (by kernel_rfl) (by kernel_rfl) (by exact fun _ _ _ h => h) (by rfl) ?_ ?_; rotate_left; (· intro W HW; go_simp; try with_reducible rfl)
  simp only [Act.put, List.setIfInBounds_toArray, List.set_cons_zero, List.set_cons_succ]
  refine rest_take 8 (oi := _) (v := ?_) (by simp only [List.getElem?_toArray, List.getElem?_cons_succ, List.getElem?_cons_zero]; rfl) (by kernel_rfl) (by kernel_rfl) (by kernel_rfl) (by exact fun _ _ _ h => h) (by rfl) ?_ ?_; rotate_left; (· intro W HW; go_simp; try with_reducible rfl)
  simp only [Act.put, List.setIfInBounds_toArray, List.set_cons_zero, List.set_cons_succ]
  refine rest_take 9 (oi := _) (v := ?_) (by simp only [List.getElem?_toArray, List.getElem?_cons_succ, List.getElem?_cons_zero]; rfl) (by kernel_rfl) (by kernel_rfl) (by kernel_rfl) (by exact fun _ _ _ h => h) (by rfl) ?_ ?_; rotate_left; (· intro W HW; go_simp; try with_reducible rfl)
  simp only [Act.put, List.setIfInBounds_toArray, List.set_cons_zero, List.set_cons_succ]
  refine rest_take 10 (oi := _) (v := ?_) (by simp only [List.getElem?_toArray, List.getElem?_cons_succ, List.getElem?_cons_zero]; rfl) (by kernel_rfl) (by kernel_rfl) (by kernel_rfl) (by exact fun _ _ _ h => h) (by rfl) ?_ ?_; rotate_left; (· intro W HW; go_simp; try with_reducible rfl)
  simp only [Act.put, List.setIfInBounds_toArray, List.set_cons_zero, List.set_cons_succ]
  refine rest_take 11 (oi := _) (v := ?_) (by simp only [List.getElem?_toArray, List.getElem?_cons_succ, List.getElem?_cons_zero]; rfl) (by kernel_rfl) (by kernel_rfl) (by kernel_rfl) (by exact fun _ _ _ h => h) (by rfl) ?_ ?_; rotate_left; (· intro W HW; go_simp; try with_reducible rfl)
  simp only [Act.put, List.setIfInBounds_toArray, List.set_cons_zero, List.set_cons_succ]
  refine rest_take 12 (oi := _) (v := ?_) (by simp only [List.getElem?_toArray, List.getElem?_cons_succ, List.getElem?_cons_zero]; rfl) (by kernel_rfl) (by kernel_rfl) (by kernel_rfl) (by exact fun _ _ _ h => h) (by rfl) ?_ ?_; rotate_left; (· intro W HW; go_simp; try with_reducible rfl)
  simp only [Act.put, List.setIfInBounds_toArray, List.set_cons_zero, List.set_cons_succ]
  refine rest_take 13 (oi := _) (v := ?_) (by simp only [List.getElem?_toArray, List.getElem?_cons_succ, List.getElem?_cons_zero]; rfl) (by kernel_rfl) (by kernel_rfl) (by kernel_rfl) (by exact fun _ _ _ h => h) (by rfl) ?_ ?_; rotate_left; (· intro W HW; go_simp; try with_reducible rfl)
  simp only [Act.put, List.setIfInBounds_toArray, List.set_cons_zero, List.set_cons_succ]
  refine rest_take 14 (oi := _) (v := ?_) (by simp only [List.getElem?_toArray, List.getElem?_cons_succ, List.getElem?_cons_zero]; rfl) (by kernel_rfl) (by kernel_rfl) (by kernel_rfl) (by exact fun _ _ _ h => h) (by rfl) ?_ ?_; rotate_left; (· intro W HW; go_simp; try with_reducible rfl)
  simp only [Act.put, List.setIfInBounds_toArray, List.set_cons_zero, List.set_cons_succ]
  refine rest_take 15 (oi := _) (v := ?_) (by simp only [List.getElem?_toArray, List.getElem?_cons_succ, List.getElem?_cons_zero]; rfl) (by kernel_rfl) (by kernel_rfl) (by kernel_rfl) (by exact fun _ _ _ h => h) (by rfl) ?_ ?_; rotate_left; (· intro W HW; go_simp; try with_reducible rfl)
  simp only [Act.put, List.setIfInBounds_toArray, List.set_cons_zero, List.set_cons_succ]
  refine rest_take 16 (oi := _) (v := ?_) (by simp only [List.getElem?_toArray, List.getElem?_cons_succ, List.getElem?_cons_zero]; rfl) (by kernel_rfl) (by kernel_rfl) (by kernel_rfl) (by exact fun _ _ _ h => h) (by rfl) ?_ ?_; rotate_left; (· intro W HW; go_simp; try with_reducible rfl)
  simp only [Act.put, List.setIfInBounds_toArray, List.set_cons_zero, List.set_cons_succ]
  refine rest_done (by kernel_rfl) ?_
  go_wp2
  go_ret
  exact ⟨rfl, HB8.out⟩

set_option maxRecDepth 100000 in
set_option maxHeartbeats 8000000 in
theorem CtlMust_0 (seat count : Int) (cmd : Bool) (kind sort nr ns : Int) (pf : Bool) (body : ByteArray) (w : World) (h1 : kind ≠ 1) (h2 : kind ≠ 2) (h3 : kind ≠ 3) (hC : Codes w) :
    Calls Tryd.prog 6 #[PIn.val ⟨seat, count, cmd, kind, sort, nr, ns, pf, body⟩] w (Holds4 w) := by
  have HC := Lib.hid hC
  clear hC
  have hcv : cv ⟨kind, sort, nr, ns, pf⟩ = .nilIface := by unfold cv; rw [if_neg h1, if_neg h2, if_neg h3]
  have ha := fun w => any1_lit seat count cmd kind sort nr ns pf body w
  rw [hcv] at ha
  have HA := Lib.hid ha
  have HI : IsAny .nilIface ⟨0, 0, 0, 0, false⟩ := .inr (.inr (.inr ⟨rfl, .inl rfl⟩))
  have b1 : (kind == 1) = false := beq_eq_false_iff_ne.2 h1
  have b2 : (kind == 2) = false := beq_eq_false_iff_ne.2 h2
  have b3 : (kind == 3) = false := beq_eq_false_iff_ne.2 h3
  have d1 : (kind != 1) = true := by rw [bne, b1]; rfl
  have d2 : (kind != 2) = true := by rw [bne, b2]; rfl
  have d3 : (kind != 3) = true := by rw [bne, b3]; rfl
  have HMA : Hid (∀ w, Calls Tryd.prog 36 #[.nilIface] w fun e w' => e = .returned (.bool false) ∧ Below w.heap.size w w') := fun w => by
    have := CMay_any HI w
    unfold MayP at this
    rw [mayZ] at this
    exact this
  have HPF : Hid (∀ w, Calls Tryd.prog 38 #[.nilIface] w fun e w' => e = .returned (.bool false) ∧ Below w.heap.size w w') := fun w => CPF_any HI w
  clear h1 h2 h3 hcv ha
  have HF1 := Lib.hid (fun w => fallsI_bad .nilIface (fun w => MustI_nil w) w)
  have HF2 := Lib.hid (fun w => fallsS_bad .nilIface (fun w => MustS_nil w) w)
  have HF3 := Lib.hid (fun w => fallsU_bad .nilIface (fun w => MustU_nil w) w)
  have HNR := Lib.hid (fun w => nr_lit (n := 0) (ok := false) HI rfl rfl w)
  have HII := Lib.hid HI
  clear HI
  go_enter Tryd.func6, Tryd.ntmps6
  go_wp2_with (first
    | ((with_reducible refine wpList_boxPlain rfl (.tmp 0) rfl rfl ?_); intro w1 hb1 hlt1 hh1; have HB1 := Lib.hid hb1; have HP1 := Lib.hid hh1; clear hb1 hh1)
    | (go_at_call 20; refine (begun4_any _ (HC.out.below HB1.out)).mono ?_; rintro e w2 ⟨rfl, hb⟩; have HB2 := Lib.hid (bel_trans HB1.out hb); have HP2 := Lib.hid (keep_at HP1.out hb); clear hb)
    | (with_reducible refine wpList_loadB rfl 34 (.tmp 1) rfl w.heap.size rfl 34 #[.int .i64 seat, .int .i64 count, .bool cmd, .int .i64 kind, .int .i64 sort, .int .i64 nr, .int .i64 ns, .bool pf, .string body] HP2.out _ Tryd.underlying34 rfl (by kernel_rfl) ?_)
    | (go_at_call 33; ((with_reducible refine (HA.out _).mono ?_); rintro e w3 ⟨rfl, hb⟩; have HB3 := Lib.hid (bel_trans HB2.out hb); have HP3 := Lib.hid (keep_at HP2.out hb); clear hb))
    | (go_at_call 40; ((with_reducible refine (HF1.out _).mono ?_); rintro e w4 ⟨rfl, hb⟩; have HB4 := Lib.hid (bel_trans HB3.out hb); have HP4 := Lib.hid (keep_at HP3.out hb); clear hb))
    | (go_at_call 40; ((with_reducible refine (HF2.out _).mono ?_); rintro e w5 ⟨rfl, hb⟩; have HB5 := Lib.hid (bel_trans HB4.out hb); have HP5 := Lib.hid (keep_at HP4.out hb); clear hb))
    | (go_at_call 40; ((with_reducible refine (HF3.out _).mono ?_); rintro e w6 ⟨rfl, hb⟩; have HB6 := Lib.hid (bel_trans HB5.out hb); have HP6 := Lib.hid (keep_at HP5.out hb); have c3 := cell_at HP6.out 3 _ rfl; have hl6 := lt_at HP6.out; clear hb))
    | (go_at_call 41; ((with_reducible refine (HNR.out _).mono ?_); rintro e w7 ⟨rfl, hb⟩; have HB7 := Lib.hid (bel_trans HB6.out hb); have HP7 := Lib.hid (keep_at HP6.out hb); clear c3 hl6; have c3 := cell_at HP7.out 3 _ rfl; have hl7 := lt_at HP7.out; clear hb))
    | (go_at_call 38; ((with_reducible refine (HPF.out _).mono ?_); rintro e w8 ⟨rfl, hb⟩; have HB8 := Lib.hid (bel_trans HB7.out hb); clear hb))
    | (go_at_call 36; ((with_reducible refine (HMA.out _).mono ?_); rintro e w9 ⟨rfl, hb⟩; have HB9 := Lib.hid (bel_trans HB8.out hb); clear hb)))
  go_ret
  exact ⟨rfl, HB9.out⟩

theorem CtlMust_law (p : PIn) (w : World) (_ : p.ok) (hC : Codes w) : Calls Tryd.prog 6 #[p.val] w (Holds4 w) := by
  obtain ⟨seat, count, cmd, kind, sort, nr, ns, pf, body⟩ := p
  by_cases h1 : kind = 1
  · subst h1; exact CtlMust_1 seat count cmd sort nr ns pf body w hC
  · by_cases h2 : kind = 2
    · subst h2; exact CtlMust_2 seat count cmd sort nr ns pf body w hC
    · by_cases h3 : kind = 3
      · subst h3; exact CtlMust_3 seat count cmd sort nr ns pf body w hC
      · exact CtlMust_0 seat count cmd kind sort nr ns pf body w h1 h2 h3 hC
end Go.Proofs.YtaofomkalnagcaaDoor
