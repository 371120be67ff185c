/- The law FrameAny. -/
import Derived.Test.YtaofomkalnagcaaDoorM4H
import Derived.Test.YtaofomkalnagcaaDoorBegun4
import Derived.Test.YtaofomkalnagcaaDoorLShort

set_option linter.all false

namespace Go.Proofs.YtaofomkalnagcaaDoor
open Go.RowKit M

set_option maxRecDepth 100000 in
set_option maxHeartbeats 8000000 in
theorem FrameAny_no (v : Value) (l m : List UInt8) (p : PIn) (w : World) (hr : Rds w v l) (hm : m = l.take (75 : Int).toNat) (hp : p.ok) (hC : Codes w) (hg : getF m = none) : Calls Tryd.prog 8 #[v, p.val] w (Holds4 w) := by
  have HC := Lib.hid hC
  have HL := Lib.hid hr
  have HME := Lib.hid hm
  have HGT := Lib.hid (fun v w (hr : Rds w v m) hC => FGet_no v m w hr hg hC)
  have HRG : Hid (∀ v w, Rds w v m → Calls Tryd.prog 54 #[v] w fun e w' => e = .returned (.tuple #[plZ, .bool false]) ∧ Below w.heap.size w w') := by
    show ∀ _, _
    intro v w hr
    have h := RefGetF_any v m w hr
    unfold GetFP at h
    rw [hg] at h
    exact h
  obtain ⟨tx, htx⟩ : ∃ tx, tx = p.body.extract 0 (min p.body.size 60) := ⟨_, rfl⟩
  have htt := fun w => Text_any p.body 60 w hp.2.2.2.2.2.2 (by omega)
  rw [← htx] at htt
  have HTX := Lib.hid htt
  have HPUX := Lib.hid (fun w => FPut_no p.seat p.count p.cmd (.iface 3 (.int .i64 p.nr)) tx w (any_int _))
  have HMX := Lib.hid (fun w => FMay_no p.seat p.count p.cmd (.iface 3 (.int .i64 p.nr)) tx w (any_int _))
  have HLX := Lib.hid (fun w => FPlain_no p.seat p.count p.cmd (.iface 3 (.int .i64 p.nr)) tx w (any_int _))
  have HMY := Lib.hid (fun g w => FMay_no p.seat p.count false (.iface 74 g) ⟨#[]⟩ w (any_ptr _))
  have HEX := Lib.hid (fun w => FEq_no p.seat p.count p.cmd (.iface 3 (.int .i64 p.nr)) tx p.seat p.count p.cmd (.iface 3 (.int .i64 p.nr)) tx w (any_int _))
  obtain ⟨A, cap, rfl, _⟩ := hr
  clear hC hm htt htx hp hg
  go_enter Tryd.func8, Tryd.ntmps8
  go_wp2_with (first
    | ((with_reducible refine wpList_boxS rfl 34 _ (.tmp 1) rfl rfl (run_boxPl p.seat p.count p.cmd p.kind p.sort p.nr p.ns p.pf p.body) ?_); intro w1 hb1 hlt1 hh1; have HB1 := Lib.hid hb1; have HP1 := Lib.hid hh1; clear hb1 hh1)
    | (go_at_call 20; refine (begun4_any _ (HC.out.below HB1.out)).mono ?_; rintro e w2 ⟨rfl, hb⟩; have HB2 := Lib.hid (bel_trans HB1.out hb); have HP2 := Lib.hid (keep_at HP1.out hb); clear hb)
    | (go_at_call 53; refine (Short_to _ l m 75 _ (HL.out.below HB2.out) (by omega) (by omega) HME.out).mono ?_; rintro e w3 ⟨v3, rfl, hu, hb⟩; have HB3 := Lib.hid (bel_trans HB2.out hb); have HP3 := Lib.hid (keep_at HP2.out hb); have HV3 := Lib.hid hu.rds; obtain ⟨A3, c3, rfl, _⟩ := hu.rds; clear hu hb)
    | (go_at_call 48; ((with_reducible refine (HGT.out _ _ HV3.out (HC.out.below HB3.out)).mono ?_); rintro e w4 ⟨rfl, hb⟩; have HB4 := Lib.hid (bel_trans HB3.out hb); have HP4 := Lib.hid (keep_at HP3.out hb); have HV4 := Lib.hid (HV3.out.below hb); clear hb))
    | ((with_reducible refine wpList_storeB rfl 60 (.tmp 6) _ rfl w4.heap.size #[.int .i64 0, .int .i64 0, .bool false, .nilIface, .string ⟨#[]⟩] rfl rfl 60 _ (heap_alloc_new w4 _) (by kernel_rfl) rfl (by kernel_rfl) ?_); intro w5 hg hz hh; have HB5 := Lib.hid (bel_grown (bal HB4.out _) hg HB4.out.size); have HF5 := Lib.hid hh; have HP5 := Lib.hid (keep_grown (keep_at HP4.out (bal (bel0 w4) _)) hg (Nat.ne_of_lt (lt_at HP4.out))); have HV5 := Lib.hid ((HV4.out.alloc _).grown hg (HV4.out.apart_new (Nat.le_refl _))); clear hg hz hh)
    | (go_at_call 54; ((with_reducible refine (HRG.out _ _ HV5.out).mono ?_); rintro e w6 ⟨rfl, hb⟩; have HB6 := Lib.hid (bel_trans HB5.out hb); have HP6 := Lib.hid (keep_at HP5.out hb); have HF6 := Lib.hid (keep_at HF5.out hb); have HV6 := Lib.hid (HV5.out.below hb); clear hb))
    | ((with_reducible refine wpList_storeB rfl 34 (.tmp 8) _ rfl w6.heap.size #[.int .i64 0, .int .i64 0, .bool false, .int .i64 0, .int .i64 0, .int .i64 0, .int .i64 0, .bool false, .string ⟨#[]⟩] rfl rfl 34 _ (heap_alloc_new w6 _) (by kernel_rfl) (by kernel_rfl) (by kernel_rfl) ?_); intro w7 hg hz hh; have HB7 := Lib.hid (bel_grown (bal HB6.out _) hg HB6.out.size); have HQ7 := Lib.hid hh; have HP7 := Lib.hid (keep_grown (keep_at HP6.out (bal (bel0 w6) _)) hg (Nat.ne_of_lt (lt_at HP6.out))); have HF7 := Lib.hid (keep_grown (keep_at HF6.out (bal (bel0 w6) _)) hg (Nat.ne_of_lt (lt_at HF6.out))); have HV7 := Lib.hid ((HV6.out.alloc _).grown hg (HV6.out.apart_new (Nat.le_refl _))); clear hg hz hh))
  refine rest_begin (by kernel_rfl) ?_
  refine rest_take 0 (oi := _) (v := ?_) (by simp only [List.getElem?_toArray, List.getElem?_cons_zero]; rfl) (by kernel_rfl) (by kernel_rfl) (by kernel_rfl) (by exact fun _ _ _ h => h) (by rfl) ?_ ?_; rotate_left; (· intro W HW; go_simp; try with_reducible rfl)
  simp only [Act.put, List.setIfInBounds_toArray, List.set_cons_zero, List.set_cons_succ]
  refine rest_take 1 (oi := _) (v := ?_) (by simp only [List.getElem?_toArray, List.getElem?_cons_succ, List.getElem?_cons_zero]; rfl) (by kernel_rfl) (by kernel_rfl) (by kernel_rfl) (by exact fun _ _ _ h => h) (by rfl) ?_ ?_; rotate_left; (· intro W HW; go_simp; try with_reducible rfl)
  simp only [Act.put, List.setIfInBounds_toArray, List.set_cons_zero, List.set_cons_succ]
  refine rest_take 2 (oi := _) (v := ?_) (by simp only [List.getElem?_toArray, List.getElem?_cons_succ, List.getElem?_cons_zero]; rfl) (by kernel_rfl) (by kernel_rfl) (by kernel_rfl) (by exact fun _ _ _ h => h) (by rfl) ?_ ?_; rotate_left; (· intro W HW; go_simp; try with_reducible rfl)
  simp only [Act.put, List.setIfInBounds_toArray, List.set_cons_zero, List.set_cons_succ]
  refine rest_take 3 (oi := _) (v := ?_) (by simp only [List.getElem?_toArray, List.getElem?_cons_succ, List.getElem?_cons_zero]; rfl) (by kernel_rfl) (by kernel_rfl) (by kernel_rfl) (by exact fun _ _ _ h => h) (by rfl) ?_ ?_; rotate_left; (· intro W HW; go_simp; try with_reducible rfl)
  simp only [Act.put, List.setIfInBounds_toArray, List.set_cons_zero, List.set_cons_succ]
  refine rest_take 4 (oi := _) (v := ?_) (by simp only [List.getElem?_toArray, List.getElem?_cons_succ, List.getElem?_cons_zero]; rfl) (by kernel_rfl) (by kernel_rfl) (by kernel_rfl) (by exact fun _ _ _ h => h) (by rfl) ?_ ?_; rotate_left; (· intro W HW; go_simp; try with_reducible rfl)
  simp only [Act.put, List.setIfInBounds_toArray, List.set_cons_zero, List.set_cons_succ]
  refine rest_take 5 (oi := _) (v := ?_) (by simp only [List.getElem?_toArray, List.getElem?_cons_succ, List.getElem?_cons_zero]; rfl) (by kernel_rfl) (by kernel_rfl) (by kernel_rfl) (by exact fun _ _ _ h => h) (by rfl) ?_ ?_; rotate_left; (· intro W HW; go_simp; try with_reducible rfl)
  simp only [Act.put, List.setIfInBounds_toArray, List.set_cons_zero, List.set_cons_succ]
  refine rest_skip 6 (oi := _) (by simp only [List.getElem?_toArray, List.getElem?_cons_succ, List.getElem?_cons_zero]; rfl) (by kernel_rfl) (by kernel_rfl) (by kernel_rfl) (by exact fun _ _ _ h => h) (by rfl) ?_
  simp only [Act.put, List.setIfInBounds_toArray, List.set_cons_zero, List.set_cons_succ]
  refine rest_skip 7 (oi := _) (by simp only [List.getElem?_toArray, List.getElem?_cons_succ, List.getElem?_cons_zero]; rfl) (by kernel_rfl) (by kernel_rfl) (by kernel_rfl) (by exact fun _ _ _ h => h) (by rfl) ?_
  simp only [Act.put, List.setIfInBounds_toArray, List.set_cons_zero, List.set_cons_succ]
  refine rest_skip 8 (oi := _) (by simp only [List.getElem?_toArray, List.getElem?_cons_succ, List.getElem?_cons_zero]; rfl) (by kernel_rfl) (by kernel_rfl) (by kernel_rfl) (by exact fun _ _ _ h => h) (by rfl) ?_
  simp only [Act.put, List.setIfInBounds_toArray, List.set_cons_zero, List.set_cons_succ]
  refine rest_skip 9 (oi := _) (by simp only [List.getElem?_toArray, List.getElem?_cons_succ, List.getElem?_cons_zero]; rfl) (by kernel_rfl) (by kernel_rfl) (by kernel_rfl) (by exact fun _ _ _ h => h) (by rfl) ?_
  simp only [Act.put, List.setIfInBounds_toArray, List.set_cons_zero, List.set_cons_succ]
  refine rest_take 10 (oi := _) (v := ?_) (by simp only [List.getElem?_toArray, List.getElem?_cons_succ, List.getElem?_cons_zero]; rfl) (by kernel_rfl) (by kernel_rfl) (by kernel_rfl) (by exact fun _ _ _ h => h) (by rfl) ?_ ?_; rotate_left; (· intro W HW; go_simp; try with_reducible rfl)
  simp only [Act.put, List.setIfInBounds_toArray, List.set_cons_zero, List.set_cons_succ]
  refine rest_take 11 (oi := _) (v := ?_) (by simp only [List.getElem?_toArray, List.getElem?_cons_succ, List.getElem?_cons_zero]; rfl) (by kernel_rfl) (by kernel_rfl) (by kernel_rfl) (by exact fun _ _ _ h => h) (by rfl) ?_ ?_; rotate_left; (· intro W HW; go_simp; try with_reducible rfl)
  simp only [Act.put, List.setIfInBounds_toArray, List.set_cons_zero, List.set_cons_succ]
  refine rest_take 12 (oi := _) (v := ?_) (by simp only [List.getElem?_toArray, List.getElem?_cons_succ, List.getElem?_cons_zero]; rfl) (by kernel_rfl) (by kernel_rfl) (by kernel_rfl) (by exact fun _ _ _ h => h) (by rfl) ?_ ?_; rotate_left; (· intro W HW; go_simp; try with_reducible rfl)
  simp only [Act.put, List.setIfInBounds_toArray, List.set_cons_zero, List.set_cons_succ]
  refine rest_take 13 (oi := _) (v := ?_) (by simp only [List.getElem?_toArray, List.getElem?_cons_succ, List.getElem?_cons_zero]; rfl) (by kernel_rfl) (by kernel_rfl) (by kernel_rfl) (by exact fun _ _ _ h => h) (by rfl) ?_ ?_; rotate_left; (· intro W HW; go_simp; try with_reducible rfl)
  simp only [Act.put, List.setIfInBounds_toArray, List.set_cons_zero, List.set_cons_succ]
  refine rest_take 14 (oi := _) (v := ?_) (by simp only [List.getElem?_toArray, List.getElem?_cons_succ, List.getElem?_cons_zero]; rfl) (by kernel_rfl) (by kernel_rfl) (by kernel_rfl) (by exact fun _ _ _ h => h) (by rfl) ?_ ?_; rotate_left; (· intro W HW; go_simp; try with_reducible rfl)
  simp only [Act.put, List.setIfInBounds_toArray, List.set_cons_zero, List.set_cons_succ]
  refine rest_take 15 (oi := _) (v := ?_) (by simp only [List.getElem?_toArray, List.getElem?_cons_succ, List.getElem?_cons_zero]; rfl) (by kernel_rfl) (by kernel_rfl) (by kernel_rfl) (by exact fun _ _ _ h => h) (by rfl) ?_ ?_; rotate_left; (· intro W HW; go_simp; try with_reducible rfl)
  simp only [Act.put, List.setIfInBounds_toArray, List.set_cons_zero, List.set_cons_succ]
  refine rest_take 16 (oi := _) (v := ?_) (by simp only [List.getElem?_toArray, List.getElem?_cons_succ, List.getElem?_cons_zero]; rfl) (by kernel_rfl) (by kernel_rfl) (by kernel_rfl) (by exact fun _ _ _ h => h) (by rfl) ?_ ?_; rotate_left; (· intro W HW; go_simp; try with_reducible rfl)
  simp only [Act.put, List.setIfInBounds_toArray, List.set_cons_zero, List.set_cons_succ]
  refine rest_take 17 (oi := _) (v := ?_) (by simp only [List.getElem?_toArray, List.getElem?_cons_succ, List.getElem?_cons_zero]; rfl) (by kernel_rfl) (by kernel_rfl) (by kernel_rfl) (by exact fun _ _ _ h => h) (by rfl) ?_ ?_; rotate_left; (· intro W HW; have cw : W.cell? ⟨w4.heap.size, 3, none⟩ = some .nilIface := cell_at (keep_at (w := w7.drew) HF7.out HW) 3 _ rfl; go_simp; try with_reducible rfl)
  simp only [Act.put, List.setIfInBounds_toArray, List.set_cons_zero, List.set_cons_succ]
  refine rest_take 18 (oi := _) (v := .bool false) (by simp only [List.getElem?_toArray, List.getElem?_cons_succ, List.getElem?_cons_zero]; rfl) (by kernel_rfl) (by kernel_rfl) (by kernel_rfl) (by exact fun _ _ _ h => h) (by rfl) (fun W HW => exec_cmp rfl rfl rfl (guard_nils _ _ _ W) (neq_nils W)) ?_
  simp only [Act.put, List.setIfInBounds_toArray, List.set_cons_zero, List.set_cons_succ]
  refine rest_take 19 (oi := _) (v := ?_) (by simp only [List.getElem?_toArray, List.getElem?_cons_succ, List.getElem?_cons_zero]; rfl) (by kernel_rfl) (by kernel_rfl) (by kernel_rfl) (by exact fun _ _ _ h => h) (by rfl) ?_ ?_; rotate_left; (· intro W HW; go_simp; try with_reducible rfl)
  simp only [Act.put, List.setIfInBounds_toArray, List.set_cons_zero, List.set_cons_succ]
  refine rest_take 20 (oi := _) (v := ?_) (by simp only [List.getElem?_toArray, List.getElem?_cons_succ, List.getElem?_cons_zero]; rfl) (by kernel_rfl) (by kernel_rfl) (by kernel_rfl) (by exact fun _ _ _ h => h) (by rfl) ?_ ?_; rotate_left; (· intro W HW; go_simp; try with_reducible rfl)
  simp only [Act.put, List.setIfInBounds_toArray, List.set_cons_zero, List.set_cons_succ]
  refine rest_done (by kernel_rfl) ?_
  go_wp2
  obtain ⟨wS, hwS⟩ : ∃ wS, wS = w7.drew := ⟨_, rfl⟩
  have HBS : Hid (Below w.heap.size w wS) := by show Below _ _ _; rw [hwS]; exact HB7.out.drew
  have HPS : Hid (wS.heap[w.heap.size]? = some (.cells #[.int .i64 p.seat, .int .i64 p.count, .bool p.cmd, .int .i64 p.kind, .int .i64 p.sort, .int .i64 p.nr, .int .i64 p.ns, .bool p.pf, .string p.body] 34 (0, 0))) := by show _ = _; rw [hwS]; exact HP7.out
  rw [← hwS]
  clear hwS
  have HKP : Hid (∀ W, From wS W → W.heap[w.heap.size]? = some (.cells #[.int .i64 p.seat, .int .i64 p.count, .bool p.cmd, .int .i64 p.kind, .int .i64 p.sort, .int .i64 p.nr, .int .i64 p.ns, .bool p.pf, .string p.body] 34 (0, 0))) := by show ∀ _, _; exact fun W HW => keep_at HPS.out HW
  have HE0 : Hid (From wS wS.drew) := by show From _ _; exact (bel0 wS).drew
  have HEA : Hid (From wS (wS.drew.alloc (.cells #[.int .i64 0, .int .i64 0, .bool false, .nilIface, .string ⟨#[]⟩] 60))) := by show From _ _; exact bal (bel0 wS).drew _
  have HNX : Hid ((wS.drew.alloc (.cells #[.int .i64 0, .int .i64 0, .bool false, .nilIface, .string ⟨#[]⟩] 60)).heap[wS.heap.size]? = some (.cells #[.int .i64 0, .int .i64 0, .bool false, .nilIface, .string ⟨#[]⟩] 60 (0, 0))) := by show _ = _; exact heap_alloc_new wS.drew _
  refine' region_shared (fun W => From wS W ∧ W.heap[wS.heap.size]? = some (.cells #[.int .i64 p.seat, .int .i64 p.count, .bool p.cmd, .iface 3 (.int .i64 p.nr), .string tx] 60 (0, 0))) _ ?cont ?reg
  case reg =>
    intro hK
    refine rests_begin (From wS) (by kernel_rfl) ?_
    refine rests_take 0 (oi := _) (v := ?_) (by simp only [List.getElem?_toArray, List.getElem?_cons_zero]; rfl) (by kernel_rfl) (by kernel_rfl) (by kernel_rfl) (by exact fun _ _ _ h => h) (HE0.out) (by rfl) ?_ ?_; rotate_left; (· intro W HW; go_simp; try with_reducible rfl)
    simp only [Act.put, List.setIfInBounds_toArray, List.set_cons_zero, List.set_cons_succ]
    refine rests_take 1 (oi := _) (v := ?_) (by simp only [List.getElem?_toArray, List.getElem?_cons_succ, List.getElem?_cons_zero]; rfl) (by kernel_rfl) (by kernel_rfl) (by kernel_rfl) (by exact fun _ _ _ h => h) (HE0.out) (by rfl) ?_ ?_; rotate_left; (· intro W HW; have cw0 : W.cell? ⟨w.heap.size, 0, none⟩ = some (.int .i64 p.seat) := cell_at (HKP.out W HW) 0 _ rfl; have cw1 : W.cell? ⟨w.heap.size, 1, none⟩ = some (.int .i64 p.count) := cell_at (HKP.out W HW) 1 _ rfl; go_simp; try with_reducible rfl)
    simp only [Act.put, List.setIfInBounds_toArray, List.set_cons_zero, List.set_cons_succ]
    refine rests_take 2 (oi := _) (v := ?_) (by simp only [List.getElem?_toArray, List.getElem?_cons_succ, List.getElem?_cons_zero]; rfl) (by kernel_rfl) (by kernel_rfl) (by kernel_rfl) (by exact fun _ _ _ h => h) (HE0.out) (by rfl) ?_ ?_; rotate_left; (· intro W HW; go_simp; try with_reducible rfl)
    simp only [Act.put, List.setIfInBounds_toArray, List.set_cons_zero, List.set_cons_succ]
    refine rests_take 3 (oi := _) (v := ?_) (by simp only [List.getElem?_toArray, List.getElem?_cons_succ, List.getElem?_cons_zero]; rfl) (by kernel_rfl) (by kernel_rfl) (by kernel_rfl) (by exact fun _ _ _ h => h) (HE0.out) (by rfl) ?_ ?_; rotate_left; (· intro W HW; have cw : W.cell? ⟨w.heap.size, 2, none⟩ = some (.bool p.cmd) := cell_at (HKP.out W HW) 2 _ rfl; go_simp; try with_reducible rfl)
    simp only [Act.put, List.setIfInBounds_toArray, List.set_cons_zero, List.set_cons_succ]
    refine rests_take 4 (oi := _) (v := ?_) (by simp only [List.getElem?_toArray, List.getElem?_cons_succ, List.getElem?_cons_zero]; rfl) (by kernel_rfl) (by kernel_rfl) (by kernel_rfl) (by exact fun _ _ _ h => h) (HE0.out) (by rfl) ?_ ?_; rotate_left; (· intro W HW; go_simp; try with_reducible rfl)
    simp only [Act.put, List.setIfInBounds_toArray, List.set_cons_zero, List.set_cons_succ]
    refine rests_take 5 (oi := _) (v := ?_) (by simp only [List.getElem?_toArray, List.getElem?_cons_succ, List.getElem?_cons_zero]; rfl) (by kernel_rfl) (by kernel_rfl) (by kernel_rfl) (by exact fun _ _ _ h => h) (HE0.out) (by rfl) ?_ ?_; rotate_left; (· intro W HW; have cw : W.cell? ⟨w.heap.size, 5, none⟩ = some (.int .i64 p.nr) := cell_at (HKP.out W HW) 5 _ rfl; go_simp; try with_reducible rfl)
    simp only [Act.put, List.setIfInBounds_toArray, List.set_cons_zero, List.set_cons_succ]
    refine rests_take 6 (oi := _) (v := ?_) (by simp only [List.getElem?_toArray, List.getElem?_cons_succ, List.getElem?_cons_zero]; rfl) (by kernel_rfl) (by kernel_rfl) (by kernel_rfl) (by exact fun _ _ _ h => h) (HE0.out) (by rfl) ?_ ?_; rotate_left; (· intro W HW; go_simp; try with_reducible rfl)
    simp only [Act.put, List.setIfInBounds_toArray, List.set_cons_zero, List.set_cons_succ]
    refine rests_take 7 (oi := _) (v := ?_) (by simp only [List.getElem?_toArray, List.getElem?_cons_succ, List.getElem?_cons_zero]; rfl) (by kernel_rfl) (by kernel_rfl) (by kernel_rfl) (by exact fun _ _ _ h => h) (HE0.out) (by rfl) ?_ ?_; rotate_left; (· intro W HW; go_simp; try with_reducible rfl)
    simp only [Act.put, List.setIfInBounds_toArray, List.set_cons_zero, List.set_cons_succ]
    refine rests_take 8 (oi := _) (v := ?_) (by simp only [List.getElem?_toArray, List.getElem?_cons_succ, List.getElem?_cons_zero]; rfl) (by kernel_rfl) (by kernel_rfl) (by kernel_rfl) (by exact fun _ _ _ h => h) (HE0.out) (by rfl) ?_ ?_; rotate_left; (· intro W HW; have cw : W.cell? ⟨w.heap.size, 8, none⟩ = some (.string p.body) := cell_at (HKP.out W HW) 8 _ rfl; go_simp; try with_reducible rfl)
    simp only [Act.put, List.setIfInBounds_toArray, List.set_cons_zero, List.set_cons_succ]
    refine rests_two 9 11 (oi := _) (oj := _) (by simp only [List.getElem?_toArray, List.getElem?_cons_succ, List.getElem?_cons_zero]; rfl) (by simp only [List.getElem?_toArray, List.getElem?_cons_succ, List.getElem?_cons_zero]; rfl) (by kernel_rfl) (by rfl) (by rfl) ?_ ?_
    · refine wp_enter (f := 21) (args := #[.string p.body, .int .i64 60]) (by go_simp) (HTX.out _) ?_
      rintro e wt ⟨rfl, rfl⟩; refine ⟨_, rfl, HE0.out, ?_⟩
      simp only [Act.put, List.setIfInBounds_toArray, List.set_cons_zero, List.set_cons_succ]
      refine rests_take 10 (oi := _) (v := ?_) (by simp only [List.getElem?_toArray, List.getElem?_cons_succ, List.getElem?_cons_zero]; rfl) (by kernel_rfl) (by kernel_rfl) (by kernel_rfl) (by exact fun _ _ _ h => h) (HE0.out) (by rfl) ?_ ?_; rotate_left; (· intro W HW; go_simp; try with_reducible rfl)
      simp only [Act.put, List.setIfInBounds_toArray, List.set_cons_zero, List.set_cons_succ]
      refine rests_run 11 (oi := _) (by simp only [List.getElem?_toArray, List.getElem?_cons_succ, List.getElem?_cons_zero]; rfl) (by kernel_rfl) (by rfl) (.pointer (some ⟨wS.heap.size, 0, none⟩)) (wS.drew.alloc (.cells #[.int .i64 0, .int .i64 0, .bool false, .nilIface, .string ⟨#[]⟩] 60)) (by go_simp) ⟨HEA.out, ?_⟩
      simp only [Act.put, List.setIfInBounds_toArray, List.set_cons_zero, List.set_cons_succ]
      refine rests_storeB 12 (oi := _) (by simp only [List.getElem?_toArray, List.getElem?_cons_succ, List.getElem?_cons_zero]; rfl) (by kernel_rfl) (by rfl) 60 (.tmp 12) (.tmp 77) rfl wS.heap.size #[.int .i64 p.seat, .int .i64 p.count, .bool p.cmd, .iface 3 (.int .i64 p.nr), .string tx] rfl rfl 60 _ HNX.out (by kernel_rfl) rfl (frOne _ _ _ rfl _) ?_
      intro wx hgx hzx hhx; have HEx := Lib.hid (bel_grown HEA.out hgx (Nat.le_refl _)); have HXx := Lib.hid hhx; refine ⟨HEx.out, ?_⟩; clear hgx hzx hhx
      simp only [Act.put, List.setIfInBounds_toArray, List.set_cons_zero, List.set_cons_succ]
      refine rests_done (by kernel_rfl) ?_
      exact hK wx ⟨HEx.out, HXx.out⟩
    · refine wp_val (v := .pointer (some ⟨wS.heap.size, 0, none⟩)) (w' := wS.drew.alloc (.cells #[.int .i64 0, .int .i64 0, .bool false, .nilIface, .string ⟨#[]⟩] 60)) (by go_simp) ⟨HEA.out, ?_⟩
      simp only [Act.put, List.setIfInBounds_toArray, List.set_cons_zero, List.set_cons_succ]
      refine rests_call 9 (oi := _) (by simp only [List.getElem?_toArray, List.getElem?_cons_succ, List.getElem?_cons_zero]; rfl) 21 #[.string p.body, .int .i64 60] _ (by kernel_rfl) (by rfl) (by go_simp) (HTX.out _) ?_
      rintro e wt ⟨rfl, rfl⟩; refine ⟨_, rfl, HEA.out, ?_⟩
      simp only [Act.put, List.setIfInBounds_toArray, List.set_cons_zero, List.set_cons_succ]
      refine rests_take 10 (oi := _) (v := ?_) (by simp only [List.getElem?_toArray, List.getElem?_cons_succ, List.getElem?_cons_zero]; rfl) (by kernel_rfl) (by kernel_rfl) (by kernel_rfl) (by exact fun _ _ _ h => h) (HEA.out) (by rfl) ?_ ?_; rotate_left; (· intro W HW; go_simp; try with_reducible rfl)
      simp only [Act.put, List.setIfInBounds_toArray, List.set_cons_zero, List.set_cons_succ]
      refine rests_storeB 12 (oi := _) (by simp only [List.getElem?_toArray, List.getElem?_cons_succ, List.getElem?_cons_zero]; rfl) (by kernel_rfl) (by rfl) 60 (.tmp 12) (.tmp 77) rfl wS.heap.size #[.int .i64 p.seat, .int .i64 p.count, .bool p.cmd, .iface 3 (.int .i64 p.nr), .string tx] rfl rfl 60 _ HNX.out (by kernel_rfl) rfl (frOne _ _ _ rfl _) ?_
      intro wx hgx hzx hhx; have HEx := Lib.hid (bel_grown HEA.out hgx (Nat.le_refl _)); have HXx := Lib.hid hhx; refine ⟨HEx.out, ?_⟩; clear hgx hzx hhx
      simp only [Act.put, List.setIfInBounds_toArray, List.set_cons_zero, List.set_cons_succ]
      refine rests_done (by kernel_rfl) ?_
      exact hK wx ⟨HEx.out, HXx.out⟩
  case cont =>
    rintro wX ⟨hex, hxx⟩
    have HPX := Lib.hid (HKP.out wX hex)
    have HBX := Lib.hid (bel_trans HBS.out hex)
    have HXX := Lib.hid hxx
    have k0 := cell_at HPX.out 0 _ rfl
    have k1 := cell_at HPX.out 1 _ rfl
    clear hex hxx HKP HE0 HEA HNX HPS
    go_wp2_with (first
      | ((with_reducible refine wpList_boxS rfl 50 _ (.tmp 80) rfl rfl run_boxI ?_); intro wI hb hlt hh; have HBI := Lib.hid (bel_trans HBX.out hb); have HPI := Lib.hid (keep_at HPX.out hb); have HXI := Lib.hid (keep_at HXX.out hb); clear hb hlt hh)
      | ((with_reducible refine wpList_storeB rfl 60 (.tmp 13) _ rfl wI.heap.size #[.int .i64 p.seat, .int .i64 p.count, .bool false, .iface 74 (.pointer (some ⟨wX.heap.size, 0, none⟩)), .string ⟨#[]⟩] rfl rfl 60 _ (heap_alloc_new wI _) (by kernel_rfl) rfl (frOne _ _ _ rfl _) ?_); intro wY hg hz hh; have HBY := Lib.hid (bel_grown (bal HBI.out _) hg HBI.out.size); have HYY := Lib.hid hh; have HPY := Lib.hid (keep_grown (keep_at HPI.out (bal (bel0 wI) _)) hg (Nat.ne_of_lt (lt_at HPI.out))); have HXY := Lib.hid (keep_grown (keep_at HXI.out (bal (bel0 wI) _)) hg (Nat.ne_of_lt (lt_at HXI.out))); clear hg hz hh)
      | (with_reducible refine wpList_loadB rfl 60 (.tmp 12) rfl wS.heap.size rfl 60 #[.int .i64 p.seat, .int .i64 p.count, .bool p.cmd, .iface 3 (.int .i64 p.nr), .string tx] HXY.out _ Tryd.underlying60 rfl (by kernel_rfl) ?_)
      | (go_at_call 47; ((with_reducible refine (HPUX.out _).mono ?_); rintro e wP ⟨rfl, hb⟩; have HBP := Lib.hid (bel_trans HBY.out hb); have HXP := Lib.hid (keep_at HXY.out hb); have HYP := Lib.hid (keep_at HYY.out hb); clear hb))
      | (with_reducible refine wpList_loadB rfl 60 (.tmp 12) rfl wS.heap.size rfl 60 #[.int .i64 p.seat, .int .i64 p.count, .bool p.cmd, .iface 3 (.int .i64 p.nr), .string tx] HXP.out _ Tryd.underlying60 rfl (by kernel_rfl) ?_)
      | (go_at_call_of 52 (Value.agg #[.int .i64 p.seat, .int .i64 p.count, .bool p.cmd, .iface 3 (.int .i64 p.nr), .string tx]); ((with_reducible refine (HMX.out _).mono ?_); rintro e wM ⟨rfl, hb⟩; have HBM := Lib.hid (bel_trans HBP.out hb); have HXM := Lib.hid (keep_at HXP.out hb); have HYM := Lib.hid (keep_at HYP.out hb); clear hb; have x0 := cell_at HXM.out 0 _ rfl))
      | (with_reducible refine wpList_loadG (by kernel_rfl) 60 (.tmp 12) rfl wS.heap.size rfl 60 #[.int .i64 p.seat, .int .i64 p.count, .bool p.cmd, .iface 3 (.int .i64 p.nr), .string tx] HXM.out _ Tryd.underlying60 rfl (by kernel_rfl) ?_)
      | (go_at_call 51; ((with_reducible refine (HLX.out _).mono ?_); rintro e wN ⟨rfl, hb⟩; have HBN := Lib.hid (bel_trans HBM.out hb); have HXN := Lib.hid (keep_at HXM.out hb); have HYN := Lib.hid (keep_at HYM.out hb); clear hb))
      | (with_reducible refine wpList_cmpG (by kernel_rfl) rfl rfl rfl (guard_Pl _ _ _ _ _ _) (eql_zero _) ?_)
      | (with_reducible refine wpList_loadG (by kernel_rfl) 60 (.tmp 13) rfl wI.heap.size rfl 60 #[.int .i64 p.seat, .int .i64 p.count, .bool false, .iface 74 (.pointer (some ⟨wX.heap.size, 0, none⟩)), .string ⟨#[]⟩] HYN.out _ Tryd.underlying60 rfl (by kernel_rfl) ?_)
      | (go_at_call_of 52 (Value.agg #[.int .i64 p.seat, .int .i64 p.count, .bool false, .iface 74 (.pointer (some ⟨wX.heap.size, 0, none⟩)), .string ⟨#[]⟩]); ((with_reducible refine (HMY.out _ _).mono ?_); rintro e wO ⟨rfl, hb⟩; have HBO := Lib.hid (bel_trans HBN.out hb); have HXO := Lib.hid (keep_at HXN.out hb); have HYO := Lib.hid (keep_at HYN.out hb); clear hb))
      | (with_reducible refine wpList_loadG (by kernel_rfl) 60 (.tmp 12) rfl wS.heap.size rfl 60 #[.int .i64 p.seat, .int .i64 p.count, .bool p.cmd, .iface 3 (.int .i64 p.nr), .string tx] HXO.out _ Tryd.underlying60 rfl (by kernel_rfl) ?_)
      | (go_at_call 50; ((with_reducible refine (HEX.out _).mono ?_); rintro e wQ ⟨rfl, hb⟩; have HBQ := Lib.hid (bel_trans HBO.out hb); have HXQ := Lib.hid (keep_at HXO.out hb); have HYQ := Lib.hid (keep_at HYO.out hb); clear hb)))
    go_ret
    exact ⟨rfl, HBQ.out⟩

set_option maxRecDepth 100000 in
set_option maxHeartbeats 8000000 in
theorem FrameAny_yes (v : Value) (l m : List UInt8) (p : PIn) (w : World) (hr : Rds w v l) (hm : m = l.take (75 : Int).toNat) (hp : p.ok) (hC : Codes w) (P : PIn) (hg : getF m = some P.pl) : Calls Tryd.prog 8 #[v, p.val] w (Holds4 w) := by
  have HC := Lib.hid hC
  have HL := Lib.hid hr
  have HME := Lib.hid hm
  obtain ⟨hmay, hput⟩ := putF_getF hg
  have HGT : Hid (∀ v w, Rds w v m → Codes w → Calls Tryd.prog 48 #[v] w fun e w' => e = .returned (.tuple #[frI P, .bool true]) ∧ Below w.heap.size w w') := by show ∀ _, _; exact fun v w hr hC => FGet_yes v m P.pl w hr hg hC
  have HRG : Hid (∀ v w, Rds w v m → Calls Tryd.prog 54 #[v] w fun e w' => e = .returned (.tuple #[P.val, .bool true]) ∧ Below w.heap.size w w') := by
    show ∀ _, _
    intro v w hr
    have h := RefGetF_any v m w hr
    unfold GetFP at h
    rw [hg] at h
    exact h
  have HPN := Lib.hid (fun w => FPlain_yes P w hmay)
  have HPU : Hid (∀ w, Codes w → Calls Tryd.prog 47 #[frI P] w fun e w' => ∃ v, e = .returned (.tuple #[v, .bool true]) ∧ Own w' w.heap.size v m ∧ Below w.heap.size w w') := by
    show ∀ _, _
    intro w hC
    have h := FPut_yes P w hmay hC
    rw [hput] at h
    exact h
  have HNE : Hid (∀ W, (binOp .neq 34 P.val P.val).run Tryd.prog W = .ok (.bool false) W) := by
    show ∀ _, _
    intro W
    rw [neq_pin, decide_eq_true rfl]; rfl
  clear hmay hput
  obtain ⟨tx, htx⟩ : ∃ tx, tx = p.body.extract 0 (min p.body.size 60) := ⟨_, rfl⟩
  have htt := fun w => Text_any p.body 60 w hp.2.2.2.2.2.2 (by omega)
  rw [← htx] at htt
  have HTX := Lib.hid htt
  have HPUX := Lib.hid (fun w => FPut_no p.seat p.count p.cmd (.iface 3 (.int .i64 p.nr)) tx w (any_int _))
  have HMX := Lib.hid (fun w => FMay_no p.seat p.count p.cmd (.iface 3 (.int .i64 p.nr)) tx w (any_int _))
  have HLX := Lib.hid (fun w => FPlain_no p.seat p.count p.cmd (.iface 3 (.int .i64 p.nr)) tx w (any_int _))
  have HMY := Lib.hid (fun g w => FMay_no p.seat p.count false (.iface 74 g) ⟨#[]⟩ w (any_ptr _))
  have HEX := Lib.hid (fun w => FEq_no p.seat p.count p.cmd (.iface 3 (.int .i64 p.nr)) tx p.seat p.count p.cmd (.iface 3 (.int .i64 p.nr)) tx w (any_int _))
  obtain ⟨A, cap, rfl, _⟩ := hr
  clear hC hm htt htx hp hg
  go_enter Tryd.func8, Tryd.ntmps8
  go_wp2_with (first
    | ((with_reducible refine wpList_boxS rfl 34 _ (.tmp 1) rfl rfl (run_boxPl p.seat p.count p.cmd p.kind p.sort p.nr p.ns p.pf p.body) ?_); intro w1 hb1 hlt1 hh1; have HB1 := Lib.hid hb1; have HP1 := Lib.hid hh1; clear hb1 hh1)
    | (go_at_call 20; refine (begun4_any _ (HC.out.below HB1.out)).mono ?_; rintro e w2 ⟨rfl, hb⟩; have HB2 := Lib.hid (bel_trans HB1.out hb); have HP2 := Lib.hid (keep_at HP1.out hb); clear hb)
    | (go_at_call 53; refine (Short_to _ l m 75 _ (HL.out.below HB2.out) (by omega) (by omega) HME.out).mono ?_; rintro e w3 ⟨v3, rfl, hu, hb⟩; have HB3 := Lib.hid (bel_trans HB2.out hb); have HP3 := Lib.hid (keep_at HP2.out hb); have HV3 := Lib.hid hu.rds; obtain ⟨A3, c3, rfl, _⟩ := hu.rds; clear hu hb)
    | (go_at_call 48; ((with_reducible refine (HGT.out _ _ HV3.out (HC.out.below HB3.out)).mono ?_); rintro e w4 ⟨rfl, hb⟩; have HB4 := Lib.hid (bel_trans HB3.out hb); have HP4 := Lib.hid (keep_at HP3.out hb); have HV4 := Lib.hid (HV3.out.below hb); clear hb))
    | ((with_reducible refine wpList_storeB rfl 60 (.tmp 6) _ rfl w4.heap.size #[.int .i64 P.seat, .int .i64 P.count, .bool P.cmd, cv ⟨P.kind, P.sort, P.nr, P.ns, P.pf⟩, .string P.body] rfl rfl 60 _ (heap_alloc_new w4 _) (by kernel_rfl) rfl (frone _ _ _ _ _) ?_); intro w5 hg hz hh; have HB5 := Lib.hid (bel_grown (bal HB4.out _) hg HB4.out.size); have HF5 := Lib.hid hh; have HP5 := Lib.hid (keep_grown (keep_at HP4.out (bal (bel0 w4) _)) hg (Nat.ne_of_lt (lt_at HP4.out))); have HV5 := Lib.hid ((HV4.out.alloc _).grown hg (HV4.out.apart_new (Nat.le_refl _))); clear hg hz hh)
    | (go_at_call 54; ((with_reducible refine (HRG.out _ _ HV5.out).mono ?_); rintro e w6 ⟨rfl, hb⟩; have HB6 := Lib.hid (bel_trans HB5.out hb); have HP6 := Lib.hid (keep_at HP5.out hb); have HF6 := Lib.hid (keep_at HF5.out hb); have HV6 := Lib.hid (HV5.out.below hb); clear hb))
    | ((with_reducible refine wpList_storeB rfl 34 (.tmp 8) _ rfl w6.heap.size #[.int .i64 P.seat, .int .i64 P.count, .bool P.cmd, .int .i64 P.kind, .int .i64 P.sort, .int .i64 P.nr, .int .i64 P.ns, .bool P.pf, .string P.body] rfl rfl 34 _ (heap_alloc_new w6 _) (by kernel_rfl) (by kernel_rfl) (by kernel_rfl) ?_); intro w7 hg hz hh; have HB7 := Lib.hid (bel_grown (bal HB6.out _) hg HB6.out.size); have HQ7 := Lib.hid hh; have HP7 := Lib.hid (keep_grown (keep_at HP6.out (bal (bel0 w6) _)) hg (Nat.ne_of_lt (lt_at HP6.out))); have HF7 := Lib.hid (keep_grown (keep_at HF6.out (bal (bel0 w6) _)) hg (Nat.ne_of_lt (lt_at HF6.out))); have HV7 := Lib.hid ((HV6.out.alloc _).grown hg (HV6.out.apart_new (Nat.le_refl _))); clear hg hz hh))
  refine rest_begin (by kernel_rfl) ?_
  refine rest_take 0 (oi := _) (v := ?_) (by simp only [List.getElem?_toArray, List.getElem?_cons_zero]; rfl) (by kernel_rfl) (by kernel_rfl) (by kernel_rfl) (by exact fun _ _ _ h => h) (by rfl) ?_ ?_; rotate_left; (· intro W HW; go_simp; try with_reducible rfl)
  simp only [Act.put, List.setIfInBounds_toArray, List.set_cons_zero, List.set_cons_succ]
  refine rest_take 1 (oi := _) (v := ?_) (by simp only [List.getElem?_toArray, List.getElem?_cons_succ, List.getElem?_cons_zero]; rfl) (by kernel_rfl) (by kernel_rfl) (by kernel_rfl) (by exact fun _ _ _ h => h) (by rfl) ?_ ?_; rotate_left; (· intro W HW; go_simp; try with_reducible rfl)
  simp only [Act.put, List.setIfInBounds_toArray, List.set_cons_zero, List.set_cons_succ]
  refine rest_take 2 (oi := _) (v := ?_) (by simp only [List.getElem?_toArray, List.getElem?_cons_succ, List.getElem?_cons_zero]; rfl) (by kernel_rfl) (by kernel_rfl) (by kernel_rfl) (by exact fun _ _ _ h => h) (by rfl) ?_ ?_; rotate_left; (· intro W HW; go_simp; try with_reducible rfl)
  simp only [Act.put, List.setIfInBounds_toArray, List.set_cons_zero, List.set_cons_succ]
  refine rest_take 3 (oi := _) (v := ?_) (by simp only [List.getElem?_toArray, List.getElem?_cons_succ, List.getElem?_cons_zero]; rfl) (by kernel_rfl) (by kernel_rfl) (by kernel_rfl) (by exact fun _ _ _ h => h) (by rfl) ?_ ?_; rotate_left; (· intro W HW; go_simp; try with_reducible rfl)
  simp only [Act.put, List.setIfInBounds_toArray, List.set_cons_zero, List.set_cons_succ]
  refine rest_take 4 (oi := _) (v := ?_) (by simp only [List.getElem?_toArray, List.getElem?_cons_succ, List.getElem?_cons_zero]; rfl) (by kernel_rfl) (by kernel_rfl) (by kernel_rfl) (by exact fun _ _ _ h => h) (by rfl) ?_ ?_; rotate_left; (· intro W HW; go_simp; try with_reducible rfl)
  simp only [Act.put, List.setIfInBounds_toArray, List.set_cons_zero, List.set_cons_succ]
  refine rest_take 5 (oi := _) (v := ?_) (by simp only [List.getElem?_toArray, List.getElem?_cons_succ, List.getElem?_cons_zero]; rfl) (by kernel_rfl) (by kernel_rfl) (by kernel_rfl) (by exact fun _ _ _ h => h) (by rfl) ?_ ?_; rotate_left; (· intro W HW; go_simp; try with_reducible rfl)
  simp only [Act.put, List.setIfInBounds_toArray, List.set_cons_zero, List.set_cons_succ]
  refine rest_loadB 6 (oi := _) (by simp only [List.getElem?_toArray, List.getElem?_cons_succ, List.getElem?_cons_zero]; rfl) (by kernel_rfl) (by kernel_rfl) (by kernel_rfl) #[.int .i64 P.seat, .int .i64 P.count, .bool P.cmd, cv ⟨P.kind, P.sort, P.nr, P.ns, P.pf⟩, .string P.body] (by exact fun _ _ _ h => h) (by rfl) 60 (.tmp 6) rfl _ rfl _ (HF7.out) _ Tryd.underlying60 rfl (by kernel_rfl) ?_
  simp only [Act.put, List.setIfInBounds_toArray, List.set_cons_zero, List.set_cons_succ]
  refine rest_loadB 8 (oi := _) (by simp only [List.getElem?_toArray, List.getElem?_cons_succ, List.getElem?_cons_zero]; rfl) (by kernel_rfl) (by kernel_rfl) (by kernel_rfl) #[.int .i64 P.seat, .int .i64 P.count, .bool P.cmd, .int .i64 P.kind, .int .i64 P.sort, .int .i64 P.nr, .int .i64 P.ns, .bool P.pf, .string P.body] (by exact fun _ _ _ h => h) (by rfl) 34 (.tmp 8) rfl _ rfl _ (HQ7.out) _ Tryd.underlying34 rfl (by kernel_rfl) ?_
  simp only [Act.put, List.setIfInBounds_toArray, List.set_cons_zero, List.set_cons_succ]
  refine rest_call 7 (oi := _) (by simp only [List.getElem?_toArray, List.getElem?_cons_succ, List.getElem?_cons_zero]; rfl) 51 #[.agg #[.int .i64 P.seat, .int .i64 P.count, .bool P.cmd, cv ⟨P.kind, P.sort, P.nr, P.ns, P.pf⟩, .string P.body]] _ (by kernel_rfl) (by rfl) (by go_simp) (HPN.out w7.drew) ?_
  rintro e w8 ⟨rfl, hb⟩; refine ⟨_, rfl, hb, ?_⟩; have HB8 := Lib.hid (bel_trans HB7.out.drew hb); have HP8 := Lib.hid (keep_at (w := w7.drew) HP7.out hb); have HF8 := Lib.hid (keep_at (w := w7.drew) HF7.out hb); have HQ8 := Lib.hid (keep_at (w := w7.drew) HQ7.out hb); have HV8 := Lib.hid (Rds.below (w := w7.drew) HV7.out hb); clear hb
  simp only [Act.put, List.setIfInBounds_toArray, List.set_cons_zero, List.set_cons_succ]
  refine rest_take 9 (oi := _) (v := .bool false) (by simp only [List.getElem?_toArray, List.getElem?_cons_succ, List.getElem?_cons_zero]; rfl) (by kernel_rfl) (by kernel_rfl) (by kernel_rfl) (by exact fun _ _ _ h => h) (by rfl) (fun W HW => exec_cmp rfl rfl rfl (guard_Pl _ _ _ _ _ W) (HNE.out W)) ?_
  simp only [Act.put, List.setIfInBounds_toArray, List.set_cons_zero, List.set_cons_succ]
  refine rest_take 10 (oi := _) (v := ?_) (by simp only [List.getElem?_toArray, List.getElem?_cons_succ, List.getElem?_cons_zero]; rfl) (by kernel_rfl) (by kernel_rfl) (by kernel_rfl) (by exact fun _ _ _ h => h) (by rfl) ?_ ?_; rotate_left; (· intro W HW; go_simp; try with_reducible rfl)
  simp only [Act.put, List.setIfInBounds_toArray, List.set_cons_zero, List.set_cons_succ]
  refine rest_take 11 (oi := _) (v := ?_) (by simp only [List.getElem?_toArray, List.getElem?_cons_succ, List.getElem?_cons_zero]; rfl) (by kernel_rfl) (by kernel_rfl) (by kernel_rfl) (by exact fun _ _ _ h => h) (by rfl) ?_ ?_; rotate_left; (· intro W HW; go_simp; try with_reducible rfl)
  simp only [Act.put, List.setIfInBounds_toArray, List.set_cons_zero, List.set_cons_succ]
  refine rest_take 12 (oi := _) (v := ?_) (by simp only [List.getElem?_toArray, List.getElem?_cons_succ, List.getElem?_cons_zero]; rfl) (by kernel_rfl) (by kernel_rfl) (by kernel_rfl) (by exact fun _ _ _ h => h) (by rfl) ?_ ?_; rotate_left; (· intro W HW; go_simp; try with_reducible rfl)
  simp only [Act.put, List.setIfInBounds_toArray, List.set_cons_zero, List.set_cons_succ]
  refine rest_take 13 (oi := _) (v := ?_) (by simp only [List.getElem?_toArray, List.getElem?_cons_succ, List.getElem?_cons_zero]; rfl) (by kernel_rfl) (by kernel_rfl) (by kernel_rfl) (by exact fun _ _ _ h => h) (by rfl) ?_ ?_; rotate_left; (· intro W HW; go_simp; try with_reducible rfl)
  simp only [Act.put, List.setIfInBounds_toArray, List.set_cons_zero, List.set_cons_succ]
  refine rest_take 14 (oi := _) (v := ?_) (by simp only [List.getElem?_toArray, List.getElem?_cons_succ, List.getElem?_cons_zero]; rfl) (by kernel_rfl) (by kernel_rfl) (by kernel_rfl) (by exact fun _ _ _ h => h) (by rfl) ?_ ?_; rotate_left; (· intro W HW; go_simp; try with_reducible rfl)
  simp only [Act.put, List.setIfInBounds_toArray, List.set_cons_zero, List.set_cons_succ]
  refine rest_take 15 (oi := _) (v := ?_) (by simp only [List.getElem?_toArray, List.getElem?_cons_succ, List.getElem?_cons_zero]; rfl) (by kernel_rfl) (by kernel_rfl) (by kernel_rfl) (by exact fun _ _ _ h => h) (by rfl) ?_ ?_; rotate_left; (· intro W HW; go_simp; try with_reducible rfl)
  simp only [Act.put, List.setIfInBounds_toArray, List.set_cons_zero, List.set_cons_succ]
  refine rest_skip 16 (oi := _) (by simp only [List.getElem?_toArray, List.getElem?_cons_succ, List.getElem?_cons_zero]; rfl) (by kernel_rfl) (by kernel_rfl) (by kernel_rfl) (by exact fun _ _ _ h => h) (by rfl) ?_
  simp only [Act.put, List.setIfInBounds_toArray, List.set_cons_zero, List.set_cons_succ]
  refine rest_skip 17 (oi := _) (by simp only [List.getElem?_toArray, List.getElem?_cons_succ, List.getElem?_cons_zero]; rfl) (by kernel_rfl) (by kernel_rfl) (by kernel_rfl) (by exact fun _ _ _ h => h) (by rfl) ?_
  simp only [Act.put, List.setIfInBounds_toArray, List.set_cons_zero, List.set_cons_succ]
  refine rest_skip 18 (oi := _) (by simp only [List.getElem?_toArray, List.getElem?_cons_succ, List.getElem?_cons_zero]; rfl) (by kernel_rfl) (by kernel_rfl) (by kernel_rfl) (by exact fun _ _ _ h => h) (by rfl) ?_
  simp only [Act.put, List.setIfInBounds_toArray, List.set_cons_zero, List.set_cons_succ]
  refine rest_take 19 (oi := _) (v := ?_) (by simp only [List.getElem?_toArray, List.getElem?_cons_succ, List.getElem?_cons_zero]; rfl) (by kernel_rfl) (by kernel_rfl) (by kernel_rfl) (by exact fun _ _ _ h => h) (by rfl) ?_ ?_; rotate_left; (· intro W HW; go_simp; try with_reducible rfl)
  simp only [Act.put, List.setIfInBounds_toArray, List.set_cons_zero, List.set_cons_succ]
  refine rest_take 20 (oi := _) (v := ?_) (by simp only [List.getElem?_toArray, List.getElem?_cons_succ, List.getElem?_cons_zero]; rfl) (by kernel_rfl) (by kernel_rfl) (by kernel_rfl) (by exact fun _ _ _ h => h) (by rfl) ?_ ?_; rotate_left; (· intro W HW; go_simp; try with_reducible rfl)
  simp only [Act.put, List.setIfInBounds_toArray, List.set_cons_zero, List.set_cons_succ]
  refine rest_done (by kernel_rfl) ?_
  go_wp2_with (first
    | (with_reducible refine wpList_loadB rfl 60 (.tmp 6) rfl w4.heap.size rfl 60 #[.int .i64 P.seat, .int .i64 P.count, .bool P.cmd, cv ⟨P.kind, P.sort, P.nr, P.ns, P.pf⟩, .string P.body] HF8.out _ Tryd.underlying60 rfl (by kernel_rfl) ?_)
    | (go_at_call 47; ((with_reducible refine (HPU.out _ (HC.out.below HB8.out)).mono ?_); rintro e w9 ⟨u, rfl, hu, hb⟩; have HB9 := Lib.hid (bel_trans HB8.out hb); have HP9 := Lib.hid (keep_at HP8.out hb); have hs1 := run_str hu.rds; have hs2 := run_str (HV8.out.below hb); obtain ⟨Au, cu, rfl, _⟩ := hu.rds; clear hu hb)))
  have HPS := HP9
  have HBS := HB9
  have HKP : Hid (∀ W, From w9 W → W.heap[w.heap.size]? = some (.cells #[.int .i64 p.seat, .int .i64 p.count, .bool p.cmd, .int .i64 p.kind, .int .i64 p.sort, .int .i64 p.nr, .int .i64 p.ns, .bool p.pf, .string p.body] 34 (0, 0))) := by show ∀ _, _; exact fun W HW => keep_at HPS.out HW
  have HE0 : Hid (From w9 w9.drew) := by show From _ _; exact (bel0 w9).drew
  have HEA : Hid (From w9 (w9.drew.alloc (.cells #[.int .i64 0, .int .i64 0, .bool false, .nilIface, .string ⟨#[]⟩] 60))) := by show From _ _; exact bal (bel0 w9).drew _
  have HNX : Hid ((w9.drew.alloc (.cells #[.int .i64 0, .int .i64 0, .bool false, .nilIface, .string ⟨#[]⟩] 60)).heap[w9.heap.size]? = some (.cells #[.int .i64 0, .int .i64 0, .bool false, .nilIface, .string ⟨#[]⟩] 60 (0, 0))) := by show _ = _; exact heap_alloc_new w9.drew _
  refine' region_shared (fun W => From w9 W ∧ W.heap[w9.heap.size]? = some (.cells #[.int .i64 p.seat, .int .i64 p.count, .bool p.cmd, .iface 3 (.int .i64 p.nr), .string tx] 60 (0, 0))) _ ?cont ?reg
  case reg =>
    intro hK
    refine rests_begin (From w9) (by kernel_rfl) ?_
    refine rests_take 0 (oi := _) (v := ?_) (by simp only [List.getElem?_toArray, List.getElem?_cons_zero]; rfl) (by kernel_rfl) (by kernel_rfl) (by kernel_rfl) (by exact fun _ _ _ h => h) (HE0.out) (by rfl) ?_ ?_; rotate_left; (· intro W HW; go_simp; try with_reducible rfl)
    simp only [Act.put, List.setIfInBounds_toArray, List.set_cons_zero, List.set_cons_succ]
    refine rests_take 1 (oi := _) (v := ?_) (by simp only [List.getElem?_toArray, List.getElem?_cons_succ, List.getElem?_cons_zero]; rfl) (by kernel_rfl) (by kernel_rfl) (by kernel_rfl) (by exact fun _ _ _ h => h) (HE0.out) (by rfl) ?_ ?_; rotate_left; (· intro W HW; have cw0 : W.cell? ⟨w.heap.size, 0, none⟩ = some (.int .i64 p.seat) := cell_at (HKP.out W HW) 0 _ rfl; have cw1 : W.cell? ⟨w.heap.size, 1, none⟩ = some (.int .i64 p.count) := cell_at (HKP.out W HW) 1 _ rfl; go_simp; try with_reducible rfl)
    simp only [Act.put, List.setIfInBounds_toArray, List.set_cons_zero, List.set_cons_succ]
    refine rests_take 2 (oi := _) (v := ?_) (by simp only [List.getElem?_toArray, List.getElem?_cons_succ, List.getElem?_cons_zero]; rfl) (by kernel_rfl) (by kernel_rfl) (by kernel_rfl) (by exact fun _ _ _ h => h) (HE0.out) (by rfl) ?_ ?_; rotate_left; (· intro W HW; go_simp; try with_reducible rfl)
    simp only [Act.put, List.setIfInBounds_toArray, List.set_cons_zero, List.set_cons_succ]
    refine rests_take 3 (oi := _) (v := ?_) (by simp only [List.getElem?_toArray, List.getElem?_cons_succ, List.getElem?_cons_zero]; rfl) (by kernel_rfl) (by kernel_rfl) (by kernel_rfl) (by exact fun _ _ _ h => h) (HE0.out) (by rfl) ?_ ?_; rotate_left; (· intro W HW; have cw : W.cell? ⟨w.heap.size, 2, none⟩ = some (.bool p.cmd) := cell_at (HKP.out W HW) 2 _ rfl; go_simp; try with_reducible rfl)
    simp only [Act.put, List.setIfInBounds_toArray, List.set_cons_zero, List.set_cons_succ]
    refine rests_take 4 (oi := _) (v := ?_) (by simp only [List.getElem?_toArray, List.getElem?_cons_succ, List.getElem?_cons_zero]; rfl) (by kernel_rfl) (by kernel_rfl) (by kernel_rfl) (by exact fun _ _ _ h => h) (HE0.out) (by rfl) ?_ ?_; rotate_left; (· intro W HW; go_simp; try with_reducible rfl)
    simp only [Act.put, List.setIfInBounds_toArray, List.set_cons_zero, List.set_cons_succ]
    refine rests_take 5 (oi := _) (v := ?_) (by simp only [List.getElem?_toArray, List.getElem?_cons_succ, List.getElem?_cons_zero]; rfl) (by kernel_rfl) (by kernel_rfl) (by kernel_rfl) (by exact fun _ _ _ h => h) (HE0.out) (by rfl) ?_ ?_; rotate_left; (· intro W HW; have cw : W.cell? ⟨w.heap.size, 5, none⟩ = some (.int .i64 p.nr) := cell_at (HKP.out W HW) 5 _ rfl; go_simp; try with_reducible rfl)
    simp only [Act.put, List.setIfInBounds_toArray, List.set_cons_zero, List.set_cons_succ]
    refine rests_take 6 (oi := _) (v := ?_) (by simp only [List.getElem?_toArray, List.getElem?_cons_succ, List.getElem?_cons_zero]; rfl) (by kernel_rfl) (by kernel_rfl) (by kernel_rfl) (by exact fun _ _ _ h => h) (HE0.out) (by rfl) ?_ ?_; rotate_left; (· intro W HW; go_simp; try with_reducible rfl)
    simp only [Act.put, List.setIfInBounds_toArray, List.set_cons_zero, List.set_cons_succ]
    refine rests_take 7 (oi := _) (v := ?_) (by simp only [List.getElem?_toArray, List.getElem?_cons_succ, List.getElem?_cons_zero]; rfl) (by kernel_rfl) (by kernel_rfl) (by kernel_rfl) (by exact fun _ _ _ h => h) (HE0.out) (by rfl) ?_ ?_; rotate_left; (· intro W HW; go_simp; try with_reducible rfl)
    simp only [Act.put, List.setIfInBounds_toArray, List.set_cons_zero, List.set_cons_succ]
    refine rests_take 8 (oi := _) (v := ?_) (by simp only [List.getElem?_toArray, List.getElem?_cons_succ, List.getElem?_cons_zero]; rfl) (by kernel_rfl) (by kernel_rfl) (by kernel_rfl) (by exact fun _ _ _ h => h) (HE0.out) (by rfl) ?_ ?_; rotate_left; (· intro W HW; have cw : W.cell? ⟨w.heap.size, 8, none⟩ = some (.string p.body) := cell_at (HKP.out W HW) 8 _ rfl; go_simp; try with_reducible rfl)
    simp only [Act.put, List.setIfInBounds_toArray, List.set_cons_zero, List.set_cons_succ]
    refine rests_two 9 11 (oi := _) (oj := _) (by simp only [List.getElem?_toArray, List.getElem?_cons_succ, List.getElem?_cons_zero]; rfl) (by simp only [List.getElem?_toArray, List.getElem?_cons_succ, List.getElem?_cons_zero]; rfl) (by kernel_rfl) (by rfl) (by rfl) ?_ ?_
    · refine wp_enter (f := 21) (args := #[.string p.body, .int .i64 60]) (by go_simp) (HTX.out _) ?_
      rintro e wt ⟨rfl, rfl⟩; refine ⟨_, rfl, HE0.out, ?_⟩
      simp only [Act.put, List.setIfInBounds_toArray, List.set_cons_zero, List.set_cons_succ]
      refine rests_take 10 (oi := _) (v := ?_) (by simp only [List.getElem?_toArray, List.getElem?_cons_succ, List.getElem?_cons_zero]; rfl) (by kernel_rfl) (by kernel_rfl) (by kernel_rfl) (by exact fun _ _ _ h => h) (HE0.out) (by rfl) ?_ ?_; rotate_left; (· intro W HW; go_simp; try with_reducible rfl)
      simp only [Act.put, List.setIfInBounds_toArray, List.set_cons_zero, List.set_cons_succ]
      refine rests_run 11 (oi := _) (by simp only [List.getElem?_toArray, List.getElem?_cons_succ, List.getElem?_cons_zero]; rfl) (by kernel_rfl) (by rfl) (.pointer (some ⟨w9.heap.size, 0, none⟩)) (w9.drew.alloc (.cells #[.int .i64 0, .int .i64 0, .bool false, .nilIface, .string ⟨#[]⟩] 60)) (by go_simp) ⟨HEA.out, ?_⟩
      simp only [Act.put, List.setIfInBounds_toArray, List.set_cons_zero, List.set_cons_succ]
      refine rests_storeB 12 (oi := _) (by simp only [List.getElem?_toArray, List.getElem?_cons_succ, List.getElem?_cons_zero]; rfl) (by kernel_rfl) (by rfl) 60 (.tmp 12) (.tmp 77) rfl w9.heap.size #[.int .i64 p.seat, .int .i64 p.count, .bool p.cmd, .iface 3 (.int .i64 p.nr), .string tx] rfl rfl 60 _ HNX.out (by kernel_rfl) rfl (frOne _ _ _ rfl _) ?_
      intro wx hgx hzx hhx; have HEx := Lib.hid (bel_grown HEA.out hgx (Nat.le_refl _)); have HXx := Lib.hid hhx; refine ⟨HEx.out, ?_⟩; clear hgx hzx hhx
      simp only [Act.put, List.setIfInBounds_toArray, List.set_cons_zero, List.set_cons_succ]
      refine rests_done (by kernel_rfl) ?_
      exact hK wx ⟨HEx.out, HXx.out⟩
    · refine wp_val (v := .pointer (some ⟨w9.heap.size, 0, none⟩)) (w' := w9.drew.alloc (.cells #[.int .i64 0, .int .i64 0, .bool false, .nilIface, .string ⟨#[]⟩] 60)) (by go_simp) ⟨HEA.out, ?_⟩
      simp only [Act.put, List.setIfInBounds_toArray, List.set_cons_zero, List.set_cons_succ]
      refine rests_call 9 (oi := _) (by simp only [List.getElem?_toArray, List.getElem?_cons_succ, List.getElem?_cons_zero]; rfl) 21 #[.string p.body, .int .i64 60] _ (by kernel_rfl) (by rfl) (by go_simp) (HTX.out _) ?_
      rintro e wt ⟨rfl, rfl⟩; refine ⟨_, rfl, HEA.out, ?_⟩
      simp only [Act.put, List.setIfInBounds_toArray, List.set_cons_zero, List.set_cons_succ]
      refine rests_take 10 (oi := _) (v := ?_) (by simp only [List.getElem?_toArray, List.getElem?_cons_succ, List.getElem?_cons_zero]; rfl) (by kernel_rfl) (by kernel_rfl) (by kernel_rfl) (by exact fun _ _ _ h => h) (HEA.out) (by rfl) ?_ ?_; rotate_left; (· intro W HW; go_simp; try with_reducible rfl)
      simp only [Act.put, List.setIfInBounds_toArray, List.set_cons_zero, List.set_cons_succ]
      refine rests_storeB 12 (oi := _) (by simp only [List.getElem?_toArray, List.getElem?_cons_succ, List.getElem?_cons_zero]; rfl) (by kernel_rfl) (by rfl) 60 (.tmp 12) (.tmp 77) rfl w9.heap.size #[.int .i64 p.seat, .int .i64 p.count, .bool p.cmd, .iface 3 (.int .i64 p.nr), .string tx] rfl rfl 60 _ HNX.out (by kernel_rfl) rfl (frOne _ _ _ rfl _) ?_
      intro wx hgx hzx hhx; have HEx := Lib.hid (bel_grown HEA.out hgx (Nat.le_refl _)); have HXx := Lib.hid hhx; refine ⟨HEx.out, ?_⟩; clear hgx hzx hhx
      simp only [Act.put, List.setIfInBounds_toArray, List.set_cons_zero, List.set_cons_succ]
      refine rests_done (by kernel_rfl) ?_
      exact hK wx ⟨HEx.out, HXx.out⟩
  case cont =>
    rintro wX ⟨hex, hxx⟩
    have HPX := Lib.hid (HKP.out wX hex)
    have HBX := Lib.hid (bel_trans HBS.out hex)
    have HXX := Lib.hid hxx
    have k0 := cell_at HPX.out 0 _ rfl
    have k1 := cell_at HPX.out 1 _ rfl
    clear hex hxx HKP HE0 HEA HNX HPS
    go_wp2_with (first
      | ((with_reducible refine wpList_boxS rfl 50 _ (.tmp 80) rfl rfl run_boxI ?_); intro wI hb hlt hh; have HBI := Lib.hid (bel_trans HBX.out hb); have HPI := Lib.hid (keep_at HPX.out hb); have HXI := Lib.hid (keep_at HXX.out hb); clear hb hlt hh)
      | ((with_reducible refine wpList_storeB rfl 60 (.tmp 13) _ rfl wI.heap.size #[.int .i64 p.seat, .int .i64 p.count, .bool false, .iface 74 (.pointer (some ⟨wX.heap.size, 0, none⟩)), .string ⟨#[]⟩] rfl rfl 60 _ (heap_alloc_new wI _) (by kernel_rfl) rfl (frOne _ _ _ rfl _) ?_); intro wY hg hz hh; have HBY := Lib.hid (bel_grown (bal HBI.out _) hg HBI.out.size); have HYY := Lib.hid hh; have HPY := Lib.hid (keep_grown (keep_at HPI.out (bal (bel0 wI) _)) hg (Nat.ne_of_lt (lt_at HPI.out))); have HXY := Lib.hid (keep_grown (keep_at HXI.out (bal (bel0 wI) _)) hg (Nat.ne_of_lt (lt_at HXI.out))); clear hg hz hh)
      | (with_reducible refine wpList_loadB rfl 60 (.tmp 12) rfl w9.heap.size rfl 60 #[.int .i64 p.seat, .int .i64 p.count, .bool p.cmd, .iface 3 (.int .i64 p.nr), .string tx] HXY.out _ Tryd.underlying60 rfl (by kernel_rfl) ?_)
      | (go_at_call 47; ((with_reducible refine (HPUX.out _).mono ?_); rintro e wP ⟨rfl, hb⟩; have HBP := Lib.hid (bel_trans HBY.out hb); have HXP := Lib.hid (keep_at HXY.out hb); have HYP := Lib.hid (keep_at HYY.out hb); clear hb))
      | (with_reducible refine wpList_loadB rfl 60 (.tmp 12) rfl w9.heap.size rfl 60 #[.int .i64 p.seat, .int .i64 p.count, .bool p.cmd, .iface 3 (.int .i64 p.nr), .string tx] HXP.out _ Tryd.underlying60 rfl (by kernel_rfl) ?_)
      | (go_at_call_of 52 (Value.agg #[.int .i64 p.seat, .int .i64 p.count, .bool p.cmd, .iface 3 (.int .i64 p.nr), .string tx]); ((with_reducible refine (HMX.out _).mono ?_); rintro e wM ⟨rfl, hb⟩; have HBM := Lib.hid (bel_trans HBP.out hb); have HXM := Lib.hid (keep_at HXP.out hb); have HYM := Lib.hid (keep_at HYP.out hb); clear hb; have x0 := cell_at HXM.out 0 _ rfl))
      | (with_reducible refine wpList_loadG (by kernel_rfl) 60 (.tmp 12) rfl w9.heap.size rfl 60 #[.int .i64 p.seat, .int .i64 p.count, .bool p.cmd, .iface 3 (.int .i64 p.nr), .string tx] HXM.out _ Tryd.underlying60 rfl (by kernel_rfl) ?_)
      | (go_at_call 51; ((with_reducible refine (HLX.out _).mono ?_); rintro e wN ⟨rfl, hb⟩; have HBN := Lib.hid (bel_trans HBM.out hb); have HXN := Lib.hid (keep_at HXM.out hb); have HYN := Lib.hid (keep_at HYM.out hb); clear hb))
      | (with_reducible refine wpList_cmpG (by kernel_rfl) rfl rfl rfl (guard_Pl _ _ _ _ _ _) (eql_zero _) ?_)
      | (with_reducible refine wpList_loadG (by kernel_rfl) 60 (.tmp 13) rfl wI.heap.size rfl 60 #[.int .i64 p.seat, .int .i64 p.count, .bool false, .iface 74 (.pointer (some ⟨wX.heap.size, 0, none⟩)), .string ⟨#[]⟩] HYN.out _ Tryd.underlying60 rfl (by kernel_rfl) ?_)
      | (go_at_call_of 52 (Value.agg #[.int .i64 p.seat, .int .i64 p.count, .bool false, .iface 74 (.pointer (some ⟨wX.heap.size, 0, none⟩)), .string ⟨#[]⟩]); ((with_reducible refine (HMY.out _ _).mono ?_); rintro e wO ⟨rfl, hb⟩; have HBO := Lib.hid (bel_trans HBN.out hb); have HXO := Lib.hid (keep_at HXN.out hb); have HYO := Lib.hid (keep_at HYN.out hb); clear hb))
      | (with_reducible refine wpList_loadG (by kernel_rfl) 60 (.tmp 12) rfl w9.heap.size rfl 60 #[.int .i64 p.seat, .int .i64 p.count, .bool p.cmd, .iface 3 (.int .i64 p.nr), .string tx] HXO.out _ Tryd.underlying60 rfl (by kernel_rfl) ?_)
      | (go_at_call 50; ((with_reducible refine (HEX.out _).mono ?_); rintro e wQ ⟨rfl, hb⟩; have HBQ := Lib.hid (bel_trans HBO.out hb); have HXQ := Lib.hid (keep_at HXO.out hb); have HYQ := Lib.hid (keep_at HYO.out hb); clear hb)))
    go_ret
    exact ⟨rfl, HBQ.out⟩

theorem FrameAny_law (v : Value) (p : PIn) (l : List UInt8) (w : World) (hr : Rds w v l) (hp : p.ok) (hC : Codes w) : Calls Tryd.prog 8 #[v, p.val] w (Holds4 w) := by
  rcases hg : getF (l.take (75 : Int).toNat) with _ | P
  · exact FrameAny_no v l _ p w hr rfl hp hC hg
  · exact FrameAny_yes v l _ p w hr rfl hp hC (PIn.of P) hg
end Go.Proofs.YtaofomkalnagcaaDoor
