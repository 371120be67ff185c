/- Of layer 8: Ref8g. -/
import Derived.Test.YtcmjdbljdkabpaaGreatDoorM8C
import Derived.Test.YtcmjdbljdkabpaaGreatDoorM4H

set_option linter.all false

namespace Go.Proofs.YtcmjdbljdkabpaaGreatDoor
open Go.RowKit M

theorem exec_strB {a : Act} {oi : Oper} {W : World} {x : Operand} {u : Value} {m : List UInt8} (ho : oi.op = .convert 46 9 x) (hx : a.eval x = u) (hu : Rds W u m) : (execOp a.eval oi).run Tryz.prog W = .ok (.value (.string ⟨m.toArray⟩)) W := by
  simp only [execOp, ho, hx, Sem.run_bind, run_str hu, Result.andThen_ok, Sem.run_pure]
theorem rds_new {w : World} {g : Nat} {l : List UInt8} (hg : w.heap[g]? = some (.cells (bcs l).toArray 5 (0, 0))) (hl : l.length ≤ 1000000) : Rds w (.slice (some ⟨g, 0, none⟩) l.length l.length) l := by
  have hm : l.length ≤ maxLen := by unfold maxLen; omega
  refine ⟨_, l.length, rfl, Nat.le_refl _, hm, fun h0 => ⟨g, 0, rfl, fun j hj => ?_⟩⟩
  rw [cell_of_row w g _ _ 5 (0, 0) hg, Nat.zero_add]
  simp [bcs, hj]
/-- The three bytes in the middle. -/
def midX (an : Bool) (sn sl : Int) : List UInt8 := [if an then 1 else 0, UInt8.ofNat sn.toNat, UInt8.ofNat (sl % 256).toNat]
theorem bcs3 {n sn sl : Int} {an : Bool} (hn : n = if an then 1 else 0) (hs : 0 ≤ sn ∧ sn < 256) : (#[.int .u8 n, .int .u8 sn, .int .u8 (sl % 256)] : Array Value) = (bcs (midX an sn sl)).toArray := by
  show _ = (#[bc (if an then 1 else 0), bc (by8 sn), bc (by8 (sl % 256))] : Array Value)
  rw [by8_bc hs, by8_bc (by omega)]
  subst hn
  cases an <;> rfl
theorem putX_bytes (x : XIn) : (((((⟨(le4 x.from_).toArray⟩ : ByteArray) ++ ⟨(le4 x.to_).toArray⟩) ++ ⟨(midX x.anew x.slots x.slot).toArray⟩) ++ x.nick)).data.toList = bytesX x.xd := by
  rw [ByteArray.data_append, ByteArray.data_append, ByteArray.data_append, Array.toList_append, Array.toList_append, Array.toList_append]
  rfl

set_option maxRecDepth 100000 in
set_option maxHeartbeats 2000000 in
theorem RPutX_none (x : XIn) (w : World) (hn : x.nick.size ≤ 1000000) (hm : mayX x.xd = false) : Calls Tryz.prog 48 #[x.val] w (PutR (putX x.xd) w) := by
  have hmay := fun w => RMayX_any x w hn
  rw [hm] at hmay
  have HM := Lib.hid hmay
  have HP : Hid (putX x.xd = none) := by show putX x.xd = _; unfold putX; rw [hm]; rfl
  clear hmay hm
  obtain ⟨fr, tt, sl, sn, an, nk⟩ := x
  go_enter Tryz.func48, Tryz.ntmps48
  go_wp2_with (first
    | ((with_reducible refine wpList_boxS rfl 51 _ (.tmp 0) rfl rfl (run_boxX ⟨fr, tt, sl, sn, an, nk⟩) ?_); intro w1 hb1 hlt1 hh1; have HB1 := Lib.hid hb1; have HH1 := Lib.hid hh1; clear hb1 hh1)
    | (with_reducible refine wpList_loadB rfl 51 (.tmp 1) rfl w.heap.size rfl 51 _ HH1.out _ Tryz.underlying51 rfl (by kernel_rfl) ?_)
    | (go_at_call 81; (with_reducible refine (HM.out _).mono ?_); rintro e w2 ⟨rfl, hb⟩; have HB2 := Lib.hid (bel_trans HB1.out hb); clear hb))
  go_ret2
  exact putR_none HP.out HB2.out

set_option maxRecDepth 100000 in
set_option maxHeartbeats 8000000 in
theorem RPutX_false (fr tt sl sn : Int) (nk : ByteArray) (w : World) (hn : nk.size ≤ 1000000) (hf : u32 fr) (ht : u32 tt) (hm : mayX (XIn.xd ⟨fr, tt, sl, sn, false, nk⟩) = true) : Calls Tryz.prog 48 #[.agg #[.int .u32 fr, .int .u32 tt, .int .i64 sl, .int .i64 sn, .bool false, .string nk]] w (PutR (putX (XIn.xd ⟨fr, tt, sl, sn, false, nk⟩)) w) := by
  have hmay := fun w => RMayX_any ⟨fr, tt, sl, sn, false, nk⟩ w hn
  rw [hm] at hmay
  have HM := Lib.hid hmay
  have HP : Hid (putX (XIn.xd ⟨fr, tt, sl, sn, false, nk⟩) = some (((((⟨(le4 fr).toArray⟩ : ByteArray) ++ ⟨(le4 tt).toArray⟩) ++ ⟨(midX false sn sl).toArray⟩) ++ nk)).data.toList) := by
    show putX _ = _
    rw [putX_bytes ⟨fr, tt, sl, sn, false, nk⟩]
    unfold putX
    rw [if_pos hm]
  have hi := (mayX_iff ⟨fr, tt, sl, sn, false, nk⟩).1 hm
  simp only at hi
  obtain ⟨-, hs, -, -⟩ := hi
  have e1 : IntKind.u8.wrap sn = sn := IntWalk.u8_in _ (by omega)
  have e2 : IntKind.u8.wrap sl = sl % 256 := IntKind.wrap_u8' sl
  have hbc := bcs3 (n := 0) (sn := sn) (sl := sl) (an := false) rfl (by omega)
  have HRD : Hid (∀ (W : World) (g : Nat), W.heap[g]? = some (.cells #[.int .u8 0, .int .u8 sn, .int .u8 (sl % 256)] 5 (0, 0)) → Rds W (.slice (some ⟨g, 0, none⟩) 3 3) (midX false sn sl)) := by
    show ∀ _ _, _
    intro W g h
    rw [hbc] at h
    exact rds_new (l := midX false sn sl) h (by show 3 ≤ 1000000; decide)
  have l1 : (le4 fr).length = 4 := rfl
  have l2 : (le4 tt).length = 4 := rfl
  have l3 : (midX false sn sl).length = 3 := rfl
  have z1 : ¬ 9223372036854775807 < (le4 fr).length + (le4 tt).length := by omega
  have z2 : ¬ 9223372036854775807 < (le4 fr).length + (le4 tt).length + (midX false sn sl).length := by omega
  have z3 : ¬ 9223372036854775807 < (le4 fr).length + (le4 tt).length + (midX false sn sl).length + nk.size := by omega
  clear l1 l2 l3
  have HF := Lib.hid (fun w => Rfour_any fr w hf)
  have HT := Lib.hid (fun w => Rfour_any tt w ht)
  clear hmay hm hs hbc hn hf ht
  go_enter Tryz.func48, Tryz.ntmps48
  go_wp2_with (first
    | ((with_reducible refine wpList_boxS rfl 51 _ (.tmp 0) rfl rfl (run_boxX ⟨fr, tt, sl, sn, false, nk⟩) ?_); intro w1 hb1 hlt1 hh1; have HB1 := Lib.hid hb1; have HH1 := Lib.hid hh1; clear hb1 hh1)
    | (with_reducible refine wpList_loadB rfl 51 (.tmp 1) rfl w.heap.size rfl 51 _ HH1.out _ Tryz.underlying51 rfl (by kernel_rfl) ?_)
    | (go_at_call 81; (with_reducible refine (HM.out _).mono ?_); rintro e w2 ⟨rfl, hb⟩; have HB_2 := Lib.hid (bel_trans HB1.out hb).drew; have HP2 := Lib.hid (keep_at HH1.out hb); have c4 : w2.cell? ⟨w.heap.size, 4, none⟩ = some (.bool false) := cell_at HP2.out 4 _ rfl; clear hb))
  have HE_2 := Lib.hid (bel0 w2).drew
  have HKP : Hid (∀ W, From w2 W → W.heap[w.heap.size]? = some (.cells #[.int .u32 fr, .int .u32 tt, .int .i64 sl, .int .i64 sn, .bool false, .string nk] 51 (0, 0))) := by show ∀ _, _; exact fun W HW => keep_at HP2.out HW
  refine rests_begin (From w2) (by kernel_rfl) ?_
  refine rests_take 0 (oi := _) (v := ?_) (by simp only [List.getElem?_toArray, List.getElem?_cons_zero]; rfl) (by kernel_rfl) (by kernel_rfl) (by kernel_rfl) (by exact fun _ _ _ h => h) (HE_2.out) (by rfl) ?_ ?_; rotate_left; (· intro W HW; go_simp; try with_reducible rfl)
  simp only [Act.put, List.setIfInBounds_toArray, List.set_cons_zero, List.set_cons_succ]
  refine rests_take 1 (oi := _) (v := ?_) (by simp only [List.getElem?_toArray, List.getElem?_cons_succ, List.getElem?_cons_zero]; rfl) (by kernel_rfl) (by kernel_rfl) (by kernel_rfl) (by exact fun _ _ _ h => h) (HE_2.out) (by rfl) ?_ ?_; rotate_left; (· intro W HW; have cw0 : W.cell? ⟨w.heap.size, 0, none⟩ = some (.int .u32 fr) := cell_at (HKP.out W HW) 0 _ rfl; go_simp; try with_reducible rfl)
  simp only [Act.put, List.setIfInBounds_toArray, List.set_cons_zero, List.set_cons_succ]
  refine rests_take 3 (oi := _) (v := ?_) (by simp only [List.getElem?_toArray, List.getElem?_cons_succ, List.getElem?_cons_zero]; rfl) (by kernel_rfl) (by kernel_rfl) (by kernel_rfl) (by exact fun _ _ _ h => h) (HE_2.out) (by rfl) ?_ ?_; rotate_left; (· intro W HW; go_simp; try with_reducible rfl)
  simp only [Act.put, List.setIfInBounds_toArray, List.set_cons_zero, List.set_cons_succ]
  refine rests_take 4 (oi := _) (v := ?_) (by simp only [List.getElem?_toArray, List.getElem?_cons_succ, List.getElem?_cons_zero]; rfl) (by kernel_rfl) (by kernel_rfl) (by kernel_rfl) (by exact fun _ _ _ h => h) (HE_2.out) (by rfl) ?_ ?_; rotate_left; (· intro W HW; have cw1 : W.cell? ⟨w.heap.size, 1, none⟩ = some (.int .u32 tt) := cell_at (HKP.out W HW) 1 _ rfl; go_simp; try with_reducible rfl)
  simp only [Act.put, List.setIfInBounds_toArray, List.set_cons_zero, List.set_cons_succ]
  refine rests_take 7 (oi := _) (v := ?_) (by simp only [List.getElem?_toArray, List.getElem?_cons_succ, List.getElem?_cons_zero]; rfl) (by kernel_rfl) (by kernel_rfl) (by kernel_rfl) (by exact fun _ _ _ h => h) (HE_2.out) (by rfl) ?_ ?_; rotate_left; (· intro W HW; go_simp; try with_reducible rfl)
  simp only [Act.put, List.setIfInBounds_toArray, List.set_cons_zero, List.set_cons_succ]
  refine rests_take 8 (oi := _) (v := ?_) (by simp only [List.getElem?_toArray, List.getElem?_cons_succ, List.getElem?_cons_zero]; rfl) (by kernel_rfl) (by kernel_rfl) (by kernel_rfl) (by exact fun _ _ _ h => h) (HE_2.out) (by rfl) ?_ ?_; rotate_left; (· intro W HW; go_simp; try with_reducible rfl)
  simp only [Act.put, List.setIfInBounds_toArray, List.set_cons_zero, List.set_cons_succ]
  refine rests_take 9 (oi := _) (v := ?_) (by simp only [List.getElem?_toArray, List.getElem?_cons_succ, List.getElem?_cons_zero]; rfl) (by kernel_rfl) (by kernel_rfl) (by kernel_rfl) (by exact fun _ _ _ h => h) (HE_2.out) (by rfl) ?_ ?_; rotate_left; (· intro W HW; have cw3 : W.cell? ⟨w.heap.size, 3, none⟩ = some (.int .i64 sn) := cell_at (HKP.out W HW) 3 _ rfl; go_simp; try with_reducible rfl)
  simp only [Act.put, List.setIfInBounds_toArray, List.set_cons_zero, List.set_cons_succ]
  refine rests_take 10 (oi := _) (v := ?_) (by simp only [List.getElem?_toArray, List.getElem?_cons_succ, List.getElem?_cons_zero]; rfl) (by kernel_rfl) (by kernel_rfl) (by kernel_rfl) (by exact fun _ _ _ h => h) (HE_2.out) (by rfl) ?_ ?_; rotate_left; (· intro W HW; go_simp; try with_reducible rfl)
  simp only [Act.put, List.setIfInBounds_toArray, List.set_cons_zero, List.set_cons_succ]
  refine rests_take 11 (oi := _) (v := ?_) (by simp only [List.getElem?_toArray, List.getElem?_cons_succ, List.getElem?_cons_zero]; rfl) (by kernel_rfl) (by kernel_rfl) (by kernel_rfl) (by exact fun _ _ _ h => h) (HE_2.out) (by rfl) ?_ ?_; rotate_left; (· intro W HW; go_simp; try with_reducible rfl)
  simp only [Act.put, List.setIfInBounds_toArray, List.set_cons_zero, List.set_cons_succ]
  refine rests_take 12 (oi := _) (v := ?_) (by simp only [List.getElem?_toArray, List.getElem?_cons_succ, List.getElem?_cons_zero]; rfl) (by kernel_rfl) (by kernel_rfl) (by kernel_rfl) (by exact fun _ _ _ h => h) (HE_2.out) (by rfl) ?_ ?_; rotate_left; (· intro W HW; have cw2 : W.cell? ⟨w.heap.size, 2, none⟩ = some (.int .i64 sl) := cell_at (HKP.out W HW) 2 _ rfl; go_simp; try with_reducible rfl)
  simp only [Act.put, List.setIfInBounds_toArray, List.set_cons_zero, List.set_cons_succ]
  refine rests_take 13 (oi := _) (v := ?_) (by simp only [List.getElem?_toArray, List.getElem?_cons_succ, List.getElem?_cons_zero]; rfl) (by kernel_rfl) (by kernel_rfl) (by kernel_rfl) (by exact fun _ _ _ h => h) (HE_2.out) (by rfl) ?_ ?_; rotate_left; (· intro W HW; go_simp; try with_reducible rfl)
  simp only [Act.put, List.setIfInBounds_toArray, List.set_cons_zero, List.set_cons_succ]
  refine rests_take 17 (oi := _) (v := ?_) (by simp only [List.getElem?_toArray, List.getElem?_cons_succ, List.getElem?_cons_zero]; rfl) (by kernel_rfl) (by kernel_rfl) (by kernel_rfl) (by exact fun _ _ _ h => h) (HE_2.out) (by rfl) ?_ ?_; rotate_left; (· intro W HW; go_simp; try with_reducible rfl)
  simp only [Act.put, List.setIfInBounds_toArray, List.set_cons_zero, List.set_cons_succ]
  refine rests_take 18 (oi := _) (v := ?_) (by simp only [List.getElem?_toArray, List.getElem?_cons_succ, List.getElem?_cons_zero]; rfl) (by kernel_rfl) (by kernel_rfl) (by kernel_rfl) (by exact fun _ _ _ h => h) (HE_2.out) (by rfl) ?_ ?_; rotate_left; (· intro W HW; have cw5 : W.cell? ⟨w.heap.size, 5, none⟩ = some (.string nk) := cell_at (HKP.out W HW) 5 _ rfl; go_simp; try with_reducible rfl)
  simp only [Act.put, List.setIfInBounds_toArray, List.set_cons_zero, List.set_cons_succ]
  refine rests_two 2 14 (oi := _) (oj := _) (by simp only [List.getElem?_toArray, List.getElem?_cons_succ, List.getElem?_cons_zero]; rfl) (by simp only [List.getElem?_toArray, List.getElem?_cons_succ, List.getElem?_cons_zero]; rfl) (by kernel_rfl) (by rfl) (by rfl) ?_ ?_
  · refine wp_enter (f := 82) (args := #[.int .u32 fr]) (by go_simp) (HF.out w2.drew) ?_
    rintro e w3 ⟨rfl, hb⟩; have HB_3 := Lib.hid (bel_trans (w := w2.drew) HB_2.out hb); have HE_3 := Lib.hid (bel_trans (w := w2.drew) HE_2.out hb); refine ⟨_, rfl, HE_3.out, ?_⟩; clear hb
    simp only [Act.put, List.setIfInBounds_toArray, List.set_cons_zero, List.set_cons_succ]
    refine rests_two 5 14 (oi := _) (oj := _) (by simp only [List.getElem?_toArray, List.getElem?_cons_succ, List.getElem?_cons_zero]; rfl) (by simp only [List.getElem?_toArray, List.getElem?_cons_succ, List.getElem?_cons_zero]; rfl) (by kernel_rfl) (by rfl) (by rfl) ?_ ?_
    · refine wp_enter (f := 82) (args := #[.int .u32 tt]) (by go_simp) (HT.out w3) ?_
      rintro e w4 ⟨rfl, hb⟩; have HB_4 := Lib.hid (bel_trans (w := w3) HB_3.out hb); have HE_4 := Lib.hid (bel_trans (w := w3) HE_3.out hb); refine ⟨_, rfl, HE_4.out, ?_⟩; clear hb
      simp only [Act.put, List.setIfInBounds_toArray, List.set_cons_zero, List.set_cons_succ]
      refine rests_take 6 (oi := _) (v := ?_) (by simp only [List.getElem?_toArray, List.getElem?_cons_succ, List.getElem?_cons_zero]; rfl) (by kernel_rfl) (by kernel_rfl) (by kernel_rfl) (by exact fun _ _ _ h => h) (HE_4.out) (by rfl) ?_ ?_; rotate_left; (· intro W HW; go_simp; try with_reducible rfl)
      simp only [Act.put, List.setIfInBounds_toArray, List.set_cons_zero, List.set_cons_succ]
      refine rests_run 14 (oi := _) (by simp only [List.getElem?_toArray, List.getElem?_cons_succ, List.getElem?_cons_zero]; rfl) (by kernel_rfl) (by rfl) (.slice (some ⟨w4.heap.size, 0, none⟩) 3 3) ((w4).alloc (.cells #[.int .u8 0, .int .u8 sn, .int .u8 (sl % 256)] 5)) (by go_simp) ⟨bal HE_4.out _, ?_⟩
      have HB_5 := Lib.hid (bal (w := w4) HB_4.out (.cells #[.int .u8 0, .int .u8 sn, .int .u8 (sl % 256)] 5)); have HE_5 := Lib.hid (bal (w := w4) HE_4.out (.cells #[.int .u8 0, .int .u8 sn, .int .u8 (sl % 256)] 5)); have HN_5 := Lib.hid (heap_alloc_new (w4) (.cells #[.int .u8 0, .int .u8 sn, .int .u8 (sl % 256)] 5))
      simp only [Act.put, List.setIfInBounds_toArray, List.set_cons_zero, List.set_cons_succ]
      refine rests_run 15 (oi := _) (by simp only [List.getElem?_toArray, List.getElem?_cons_succ, List.getElem?_cons_zero]; rfl) (by kernel_rfl) (by rfl) (.string ⟨(midX false sn sl).toArray⟩) (((w4).alloc (.cells #[.int .u8 0, .int .u8 sn, .int .u8 (sl % 256)] 5))) (exec_strB (x := .tmp 24) (u := .slice (some ⟨w4.heap.size, 0, none⟩) 3 3) rfl rfl (HRD.out _ _ HN_5.out)) ⟨HE_5.out, ?_⟩
      simp only [Act.put, List.setIfInBounds_toArray, List.set_cons_zero, List.set_cons_succ]
      refine rests_take 16 (oi := _) (v := ?_) (by simp only [List.getElem?_toArray, List.getElem?_cons_succ, List.getElem?_cons_zero]; rfl) (by kernel_rfl) (by kernel_rfl) (by kernel_rfl) (by exact fun _ _ _ h => h) (HE_5.out) (by rfl) ?_ ?_; rotate_left; (· intro W HW; go_simp; try with_reducible rfl)
      simp only [Act.put, List.setIfInBounds_toArray, List.set_cons_zero, List.set_cons_succ]
      refine rests_take 19 (oi := _) (v := ?_) (by simp only [List.getElem?_toArray, List.getElem?_cons_succ, List.getElem?_cons_zero]; rfl) (by kernel_rfl) (by kernel_rfl) (by kernel_rfl) (by exact fun _ _ _ h => h) (HE_5.out) (by rfl) ?_ ?_; rotate_left; (· intro W HW; go_simp; try with_reducible rfl)
      simp only [Act.put, List.setIfInBounds_toArray, List.set_cons_zero, List.set_cons_succ]
      refine rests_take 20 (oi := _) (v := ?_) (by simp only [List.getElem?_toArray, List.getElem?_cons_succ, List.getElem?_cons_zero]; rfl) (by kernel_rfl) (by kernel_rfl) (by kernel_rfl) (by exact fun _ _ _ h => h) (HE_5.out) (by rfl) ?_ ?_; rotate_left; (· intro W HW; go_simp; try with_reducible rfl)
      simp only [Act.put, List.setIfInBounds_toArray, List.set_cons_zero, List.set_cons_succ]
      refine rests_take 21 (oi := _) (v := ?_) (by simp only [List.getElem?_toArray, List.getElem?_cons_succ, List.getElem?_cons_zero]; rfl) (by kernel_rfl) (by kernel_rfl) (by kernel_rfl) (by exact fun _ _ _ h => h) (HE_5.out) (by rfl) ?_ ?_; rotate_left; (· intro W HW; go_simp; try with_reducible rfl)
      simp only [Act.put, List.setIfInBounds_toArray, List.set_cons_zero, List.set_cons_succ]
      refine rests_done (by kernel_rfl) ?_
      go_wp2
      go_ret2
      exact putR_some HP.out HB_5.out
    · refine wp_val (v := .slice (some ⟨w3.heap.size, 0, none⟩) 3 3) (w' := (w3).alloc (.cells #[.int .u8 0, .int .u8 sn, .int .u8 (sl % 256)] 5)) (by go_simp) ⟨bal HE_3.out _, ?_⟩
      have HB_4 := Lib.hid (bal (w := w3) HB_3.out (.cells #[.int .u8 0, .int .u8 sn, .int .u8 (sl % 256)] 5)); have HE_4 := Lib.hid (bal (w := w3) HE_3.out (.cells #[.int .u8 0, .int .u8 sn, .int .u8 (sl % 256)] 5)); have HN_4 := Lib.hid (heap_alloc_new (w3) (.cells #[.int .u8 0, .int .u8 sn, .int .u8 (sl % 256)] 5))
      simp only [Act.put, List.setIfInBounds_toArray, List.set_cons_zero, List.set_cons_succ]
      refine rests_two 5 15 (oi := _) (oj := _) (by simp only [List.getElem?_toArray, List.getElem?_cons_succ, List.getElem?_cons_zero]; rfl) (by simp only [List.getElem?_toArray, List.getElem?_cons_succ, List.getElem?_cons_zero]; rfl) (by kernel_rfl) (by rfl) (by rfl) ?_ ?_
      · refine wp_enter (f := 82) (args := #[.int .u32 tt]) (by go_simp) (HT.out ((w3).alloc (.cells #[.int .u8 0, .int .u8 sn, .int .u8 (sl % 256)] 5))) ?_
        rintro e w5 ⟨rfl, hb⟩; have HB_5 := Lib.hid (bel_trans (w := ((w3).alloc (.cells #[.int .u8 0, .int .u8 sn, .int .u8 (sl % 256)] 5))) HB_4.out hb); have HE_5 := Lib.hid (bel_trans (w := ((w3).alloc (.cells #[.int .u8 0, .int .u8 sn, .int .u8 (sl % 256)] 5))) HE_4.out hb); have HN_5 := Lib.hid (keep_at (w := ((w3).alloc (.cells #[.int .u8 0, .int .u8 sn, .int .u8 (sl % 256)] 5))) HN_4.out hb); refine ⟨_, rfl, HE_5.out, ?_⟩; clear hb
        simp only [Act.put, List.setIfInBounds_toArray, List.set_cons_zero, List.set_cons_succ]
        refine rests_take 6 (oi := _) (v := ?_) (by simp only [List.getElem?_toArray, List.getElem?_cons_succ, List.getElem?_cons_zero]; rfl) (by kernel_rfl) (by kernel_rfl) (by kernel_rfl) (by exact fun _ _ _ h => h) (HE_5.out) (by rfl) ?_ ?_; rotate_left; (· intro W HW; go_simp; try with_reducible rfl)
        simp only [Act.put, List.setIfInBounds_toArray, List.set_cons_zero, List.set_cons_succ]
        refine rests_run 15 (oi := _) (by simp only [List.getElem?_toArray, List.getElem?_cons_succ, List.getElem?_cons_zero]; rfl) (by kernel_rfl) (by rfl) (.string ⟨(midX false sn sl).toArray⟩) (w5) (exec_strB (x := .tmp 24) (u := .slice (some ⟨w3.heap.size, 0, none⟩) 3 3) rfl rfl (HRD.out _ _ HN_5.out)) ⟨HE_5.out, ?_⟩
        simp only [Act.put, List.setIfInBounds_toArray, List.set_cons_zero, List.set_cons_succ]
        refine rests_take 16 (oi := _) (v := ?_) (by simp only [List.getElem?_toArray, List.getElem?_cons_succ, List.getElem?_cons_zero]; rfl) (by kernel_rfl) (by kernel_rfl) (by kernel_rfl) (by exact fun _ _ _ h => h) (HE_5.out) (by rfl) ?_ ?_; rotate_left; (· intro W HW; go_simp; try with_reducible rfl)
        simp only [Act.put, List.setIfInBounds_toArray, List.set_cons_zero, List.set_cons_succ]
        refine rests_take 19 (oi := _) (v := ?_) (by simp only [List.getElem?_toArray, List.getElem?_cons_succ, List.getElem?_cons_zero]; rfl) (by kernel_rfl) (by kernel_rfl) (by kernel_rfl) (by exact fun _ _ _ h => h) (HE_5.out) (by rfl) ?_ ?_; rotate_left; (· intro W HW; go_simp; try with_reducible rfl)
        simp only [Act.put, List.setIfInBounds_toArray, List.set_cons_zero, List.set_cons_succ]
        refine rests_take 20 (oi := _) (v := ?_) (by simp only [List.getElem?_toArray, List.getElem?_cons_succ, List.getElem?_cons_zero]; rfl) (by kernel_rfl) (by kernel_rfl) (by kernel_rfl) (by exact fun _ _ _ h => h) (HE_5.out) (by rfl) ?_ ?_; rotate_left; (· intro W HW; go_simp; try with_reducible rfl)
        simp only [Act.put, List.setIfInBounds_toArray, List.set_cons_zero, List.set_cons_succ]
        refine rests_take 21 (oi := _) (v := ?_) (by simp only [List.getElem?_toArray, List.getElem?_cons_succ, List.getElem?_cons_zero]; rfl) (by kernel_rfl) (by kernel_rfl) (by kernel_rfl) (by exact fun _ _ _ h => h) (HE_5.out) (by rfl) ?_ ?_; rotate_left; (· intro W HW; go_simp; try with_reducible rfl)
        simp only [Act.put, List.setIfInBounds_toArray, List.set_cons_zero, List.set_cons_succ]
        refine rests_done (by kernel_rfl) ?_
        go_wp2
        go_ret2
        exact putR_some HP.out HB_5.out
      · refine wp_val (v := .string ⟨(midX false sn sl).toArray⟩) (w' := ((w3).alloc (.cells #[.int .u8 0, .int .u8 sn, .int .u8 (sl % 256)] 5))) (exec_strB (x := .tmp 24) (u := .slice (some ⟨w3.heap.size, 0, none⟩) 3 3) rfl rfl (HRD.out _ _ HN_4.out)) ⟨HE_4.out, ?_⟩
        simp only [Act.put, List.setIfInBounds_toArray, List.set_cons_zero, List.set_cons_succ]
        refine rests_call 5 (oi := _) (by simp only [List.getElem?_toArray, List.getElem?_cons_succ, List.getElem?_cons_zero]; rfl) 82 #[.int .u32 tt] _ (by kernel_rfl) (by rfl) (by go_simp) (HT.out ((w3).alloc (.cells #[.int .u8 0, .int .u8 sn, .int .u8 (sl % 256)] 5))) ?_
        rintro e w5 ⟨rfl, hb⟩; have HB_5 := Lib.hid (bel_trans (w := ((w3).alloc (.cells #[.int .u8 0, .int .u8 sn, .int .u8 (sl % 256)] 5))) HB_4.out hb); have HE_5 := Lib.hid (bel_trans (w := ((w3).alloc (.cells #[.int .u8 0, .int .u8 sn, .int .u8 (sl % 256)] 5))) HE_4.out hb); have HN_5 := Lib.hid (keep_at (w := ((w3).alloc (.cells #[.int .u8 0, .int .u8 sn, .int .u8 (sl % 256)] 5))) HN_4.out hb); refine ⟨_, rfl, HE_5.out, ?_⟩; clear hb
        simp only [Act.put, List.setIfInBounds_toArray, List.set_cons_zero, List.set_cons_succ]
        refine rests_take 6 (oi := _) (v := ?_) (by simp only [List.getElem?_toArray, List.getElem?_cons_succ, List.getElem?_cons_zero]; rfl) (by kernel_rfl) (by kernel_rfl) (by kernel_rfl) (by exact fun _ _ _ h => h) (HE_5.out) (by rfl) ?_ ?_; rotate_left; (· intro W HW; go_simp; try with_reducible rfl)
        simp only [Act.put, List.setIfInBounds_toArray, List.set_cons_zero, List.set_cons_succ]
        refine rests_take 16 (oi := _) (v := ?_) (by simp only [List.getElem?_toArray, List.getElem?_cons_succ, List.getElem?_cons_zero]; rfl) (by kernel_rfl) (by kernel_rfl) (by kernel_rfl) (by exact fun _ _ _ h => h) (HE_5.out) (by rfl) ?_ ?_; rotate_left; (· intro W HW; go_simp; try with_reducible rfl)
        simp only [Act.put, List.setIfInBounds_toArray, List.set_cons_zero, List.set_cons_succ]
        refine rests_take 19 (oi := _) (v := ?_) (by simp only [List.getElem?_toArray, List.getElem?_cons_succ, List.getElem?_cons_zero]; rfl) (by kernel_rfl) (by kernel_rfl) (by kernel_rfl) (by exact fun _ _ _ h => h) (HE_5.out) (by rfl) ?_ ?_; rotate_left; (· intro W HW; go_simp; try with_reducible rfl)
        simp only [Act.put, List.setIfInBounds_toArray, List.set_cons_zero, List.set_cons_succ]
        refine rests_take 20 (oi := _) (v := ?_) (by simp only [List.getElem?_toArray, List.getElem?_cons_succ, List.getElem?_cons_zero]; rfl) (by kernel_rfl) (by kernel_rfl) (by kernel_rfl) (by exact fun _ _ _ h => h) (HE_5.out) (by rfl) ?_ ?_; rotate_left; (· intro W HW; go_simp; try with_reducible rfl)
        simp only [Act.put, List.setIfInBounds_toArray, List.set_cons_zero, List.set_cons_succ]
        refine rests_take 21 (oi := _) (v := ?_) (by simp only [List.getElem?_toArray, List.getElem?_cons_succ, List.getElem?_cons_zero]; rfl) (by kernel_rfl) (by kernel_rfl) (by kernel_rfl) (by exact fun _ _ _ h => h) (HE_5.out) (by rfl) ?_ ?_; rotate_left; (· intro W HW; go_simp; try with_reducible rfl)
        simp only [Act.put, List.setIfInBounds_toArray, List.set_cons_zero, List.set_cons_succ]
        refine rests_done (by kernel_rfl) ?_
        go_wp2
        go_ret2
        exact putR_some HP.out HB_5.out
  · refine wp_val (v := .slice (some ⟨w2.heap.size, 0, none⟩) 3 3) (w' := (w2.drew).alloc (.cells #[.int .u8 0, .int .u8 sn, .int .u8 (sl % 256)] 5)) (by go_simp) ⟨bal HE_2.out _, ?_⟩
    have HB_3 := Lib.hid (bal (w := w2.drew) HB_2.out (.cells #[.int .u8 0, .int .u8 sn, .int .u8 (sl % 256)] 5)); have HE_3 := Lib.hid (bal (w := w2.drew) HE_2.out (.cells #[.int .u8 0, .int .u8 sn, .int .u8 (sl % 256)] 5)); have HN_3 := Lib.hid (heap_alloc_new (w2.drew) (.cells #[.int .u8 0, .int .u8 sn, .int .u8 (sl % 256)] 5))
    simp only [Act.put, List.setIfInBounds_toArray, List.set_cons_zero, List.set_cons_succ]
    refine rests_two 2 15 (oi := _) (oj := _) (by simp only [List.getElem?_toArray, List.getElem?_cons_succ, List.getElem?_cons_zero]; rfl) (by simp only [List.getElem?_toArray, List.getElem?_cons_succ, List.getElem?_cons_zero]; rfl) (by kernel_rfl) (by rfl) (by rfl) ?_ ?_
    · refine wp_enter (f := 82) (args := #[.int .u32 fr]) (by go_simp) (HF.out ((w2.drew).alloc (.cells #[.int .u8 0, .int .u8 sn, .int .u8 (sl % 256)] 5))) ?_
      rintro e w4 ⟨rfl, hb⟩; have HB_4 := Lib.hid (bel_trans (w := ((w2.drew).alloc (.cells #[.int .u8 0, .int .u8 sn, .int .u8 (sl % 256)] 5))) HB_3.out hb); have HE_4 := Lib.hid (bel_trans (w := ((w2.drew).alloc (.cells #[.int .u8 0, .int .u8 sn, .int .u8 (sl % 256)] 5))) HE_3.out hb); have HN_4 := Lib.hid (keep_at (w := ((w2.drew).alloc (.cells #[.int .u8 0, .int .u8 sn, .int .u8 (sl % 256)] 5))) HN_3.out hb); refine ⟨_, rfl, HE_4.out, ?_⟩; clear hb
      simp only [Act.put, List.setIfInBounds_toArray, List.set_cons_zero, List.set_cons_succ]
      refine rests_two 5 15 (oi := _) (oj := _) (by simp only [List.getElem?_toArray, List.getElem?_cons_succ, List.getElem?_cons_zero]; rfl) (by simp only [List.getElem?_toArray, List.getElem?_cons_succ, List.getElem?_cons_zero]; rfl) (by kernel_rfl) (by rfl) (by rfl) ?_ ?_
      · refine wp_enter (f := 82) (args := #[.int .u32 tt]) (by go_simp) (HT.out w4) ?_
        rintro e w5 ⟨rfl, hb⟩; have HB_5 := Lib.hid (bel_trans (w := w4) HB_4.out hb); have HE_5 := Lib.hid (bel_trans (w := w4) HE_4.out hb); have HN_5 := Lib.hid (keep_at (w := w4) HN_4.out hb); refine ⟨_, rfl, HE_5.out, ?_⟩; clear hb
        simp only [Act.put, List.setIfInBounds_toArray, List.set_cons_zero, List.set_cons_succ]
        refine rests_take 6 (oi := _) (v := ?_) (by simp only [List.getElem?_toArray, List.getElem?_cons_succ, List.getElem?_cons_zero]; rfl) (by kernel_rfl) (by kernel_rfl) (by kernel_rfl) (by exact fun _ _ _ h => h) (HE_5.out) (by rfl) ?_ ?_; rotate_left; (· intro W HW; go_simp; try with_reducible rfl)
        simp only [Act.put, List.setIfInBounds_toArray, List.set_cons_zero, List.set_cons_succ]
        refine rests_run 15 (oi := _) (by simp only [List.getElem?_toArray, List.getElem?_cons_succ, List.getElem?_cons_zero]; rfl) (by kernel_rfl) (by rfl) (.string ⟨(midX false sn sl).toArray⟩) (w5) (exec_strB (x := .tmp 24) (u := .slice (some ⟨w2.heap.size, 0, none⟩) 3 3) rfl rfl (HRD.out _ _ HN_5.out)) ⟨HE_5.out, ?_⟩
        simp only [Act.put, List.setIfInBounds_toArray, List.set_cons_zero, List.set_cons_succ]
        refine rests_take 16 (oi := _) (v := ?_) (by simp only [List.getElem?_toArray, List.getElem?_cons_succ, List.getElem?_cons_zero]; rfl) (by kernel_rfl) (by kernel_rfl) (by kernel_rfl) (by exact fun _ _ _ h => h) (HE_5.out) (by rfl) ?_ ?_; rotate_left; (· intro W HW; go_simp; try with_reducible rfl)
        simp only [Act.put, List.setIfInBounds_toArray, List.set_cons_zero, List.set_cons_succ]
        refine rests_take 19 (oi := _) (v := ?_) (by simp only [List.getElem?_toArray, List.getElem?_cons_succ, List.getElem?_cons_zero]; rfl) (by kernel_rfl) (by kernel_rfl) (by kernel_rfl) (by exact fun _ _ _ h => h) (HE_5.out) (by rfl) ?_ ?_; rotate_left; (· intro W HW; go_simp; try with_reducible rfl)
        simp only [Act.put, List.setIfInBounds_toArray, List.set_cons_zero, List.set_cons_succ]
        refine rests_take 20 (oi := _) (v := ?_) (by simp only [List.getElem?_toArray, List.getElem?_cons_succ, List.getElem?_cons_zero]; rfl) (by kernel_rfl) (by kernel_rfl) (by kernel_rfl) (by exact fun _ _ _ h => h) (HE_5.out) (by rfl) ?_ ?_; rotate_left; (· intro W HW; go_simp; try with_reducible rfl)
        simp only [Act.put, List.setIfInBounds_toArray, List.set_cons_zero, List.set_cons_succ]
        refine rests_take 21 (oi := _) (v := ?_) (by simp only [List.getElem?_toArray, List.getElem?_cons_succ, List.getElem?_cons_zero]; rfl) (by kernel_rfl) (by kernel_rfl) (by kernel_rfl) (by exact fun _ _ _ h => h) (HE_5.out) (by rfl) ?_ ?_; rotate_left; (· intro W HW; go_simp; try with_reducible rfl)
        simp only [Act.put, List.setIfInBounds_toArray, List.set_cons_zero, List.set_cons_succ]
        refine rests_done (by kernel_rfl) ?_
        go_wp2
        go_ret2
        exact putR_some HP.out HB_5.out
      · refine wp_val (v := .string ⟨(midX false sn sl).toArray⟩) (w' := w4) (exec_strB (x := .tmp 24) (u := .slice (some ⟨w2.heap.size, 0, none⟩) 3 3) rfl rfl (HRD.out _ _ HN_4.out)) ⟨HE_4.out, ?_⟩
        simp only [Act.put, List.setIfInBounds_toArray, List.set_cons_zero, List.set_cons_succ]
        refine rests_call 5 (oi := _) (by simp only [List.getElem?_toArray, List.getElem?_cons_succ, List.getElem?_cons_zero]; rfl) 82 #[.int .u32 tt] _ (by kernel_rfl) (by rfl) (by go_simp) (HT.out w4) ?_
        rintro e w5 ⟨rfl, hb⟩; have HB_5 := Lib.hid (bel_trans (w := w4) HB_4.out hb); have HE_5 := Lib.hid (bel_trans (w := w4) HE_4.out hb); have HN_5 := Lib.hid (keep_at (w := w4) HN_4.out hb); refine ⟨_, rfl, HE_5.out, ?_⟩; clear hb
        simp only [Act.put, List.setIfInBounds_toArray, List.set_cons_zero, List.set_cons_succ]
        refine rests_take 6 (oi := _) (v := ?_) (by simp only [List.getElem?_toArray, List.getElem?_cons_succ, List.getElem?_cons_zero]; rfl) (by kernel_rfl) (by kernel_rfl) (by kernel_rfl) (by exact fun _ _ _ h => h) (HE_5.out) (by rfl) ?_ ?_; rotate_left; (· intro W HW; go_simp; try with_reducible rfl)
        simp only [Act.put, List.setIfInBounds_toArray, List.set_cons_zero, List.set_cons_succ]
        refine rests_take 16 (oi := _) (v := ?_) (by simp only [List.getElem?_toArray, List.getElem?_cons_succ, List.getElem?_cons_zero]; rfl) (by kernel_rfl) (by kernel_rfl) (by kernel_rfl) (by exact fun _ _ _ h => h) (HE_5.out) (by rfl) ?_ ?_; rotate_left; (· intro W HW; go_simp; try with_reducible rfl)
        simp only [Act.put, List.setIfInBounds_toArray, List.set_cons_zero, List.set_cons_succ]
        refine rests_take 19 (oi := _) (v := ?_) (by simp only [List.getElem?_toArray, List.getElem?_cons_succ, List.getElem?_cons_zero]; rfl) (by kernel_rfl) (by kernel_rfl) (by kernel_rfl) (by exact fun _ _ _ h => h) (HE_5.out) (by rfl) ?_ ?_; rotate_left; (· intro W HW; go_simp; try with_reducible rfl)
        simp only [Act.put, List.setIfInBounds_toArray, List.set_cons_zero, List.set_cons_succ]
        refine rests_take 20 (oi := _) (v := ?_) (by simp only [List.getElem?_toArray, List.getElem?_cons_succ, List.getElem?_cons_zero]; rfl) (by kernel_rfl) (by kernel_rfl) (by kernel_rfl) (by exact fun _ _ _ h => h) (HE_5.out) (by rfl) ?_ ?_; rotate_left; (· intro W HW; go_simp; try with_reducible rfl)
        simp only [Act.put, List.setIfInBounds_toArray, List.set_cons_zero, List.set_cons_succ]
        refine rests_take 21 (oi := _) (v := ?_) (by simp only [List.getElem?_toArray, List.getElem?_cons_succ, List.getElem?_cons_zero]; rfl) (by kernel_rfl) (by kernel_rfl) (by kernel_rfl) (by exact fun _ _ _ h => h) (HE_5.out) (by rfl) ?_ ?_; rotate_left; (· intro W HW; go_simp; try with_reducible rfl)
        simp only [Act.put, List.setIfInBounds_toArray, List.set_cons_zero, List.set_cons_succ]
        refine rests_done (by kernel_rfl) ?_
        go_wp2
        go_ret2
        exact putR_some HP.out HB_5.out
    · refine wp_val (v := .string ⟨(midX false sn sl).toArray⟩) (w' := ((w2.drew).alloc (.cells #[.int .u8 0, .int .u8 sn, .int .u8 (sl % 256)] 5))) (exec_strB (x := .tmp 24) (u := .slice (some ⟨w2.heap.size, 0, none⟩) 3 3) rfl rfl (HRD.out _ _ HN_3.out)) ⟨HE_3.out, ?_⟩
      simp only [Act.put, List.setIfInBounds_toArray, List.set_cons_zero, List.set_cons_succ]
      refine rests_call 2 (oi := _) (by simp only [List.getElem?_toArray, List.getElem?_cons_succ, List.getElem?_cons_zero]; rfl) 82 #[.int .u32 fr] _ (by kernel_rfl) (by rfl) (by go_simp) (HF.out ((w2.drew).alloc (.cells #[.int .u8 0, .int .u8 sn, .int .u8 (sl % 256)] 5))) ?_
      rintro e w4 ⟨rfl, hb⟩; have HB_4 := Lib.hid (bel_trans (w := ((w2.drew).alloc (.cells #[.int .u8 0, .int .u8 sn, .int .u8 (sl % 256)] 5))) HB_3.out hb); have HE_4 := Lib.hid (bel_trans (w := ((w2.drew).alloc (.cells #[.int .u8 0, .int .u8 sn, .int .u8 (sl % 256)] 5))) HE_3.out hb); have HN_4 := Lib.hid (keep_at (w := ((w2.drew).alloc (.cells #[.int .u8 0, .int .u8 sn, .int .u8 (sl % 256)] 5))) HN_3.out hb); refine ⟨_, rfl, HE_4.out, ?_⟩; clear hb
      simp only [Act.put, List.setIfInBounds_toArray, List.set_cons_zero, List.set_cons_succ]
      refine rests_call 5 (oi := _) (by simp only [List.getElem?_toArray, List.getElem?_cons_succ, List.getElem?_cons_zero]; rfl) 82 #[.int .u32 tt] _ (by kernel_rfl) (by rfl) (by go_simp) (HT.out w4) ?_
      rintro e w5 ⟨rfl, hb⟩; have HB_5 := Lib.hid (bel_trans (w := w4) HB_4.out hb); have HE_5 := Lib.hid (bel_trans (w := w4) HE_4.out hb); have HN_5 := Lib.hid (keep_at (w := w4) HN_4.out hb); refine ⟨_, rfl, HE_5.out, ?_⟩; clear hb
      simp only [Act.put, List.setIfInBounds_toArray, List.set_cons_zero, List.set_cons_succ]
      refine rests_take 6 (oi := _) (v := ?_) (by simp only [List.getElem?_toArray, List.getElem?_cons_succ, List.getElem?_cons_zero]; rfl) (by kernel_rfl) (by kernel_rfl) (by kernel_rfl) (by exact fun _ _ _ h => h) (HE_5.out) (by rfl) ?_ ?_; rotate_left; (· intro W HW; go_simp; try with_reducible rfl)
      simp only [Act.put, List.setIfInBounds_toArray, List.set_cons_zero, List.set_cons_succ]
      refine rests_take 16 (oi := _) (v := ?_) (by simp only [List.getElem?_toArray, List.getElem?_cons_succ, List.getElem?_cons_zero]; rfl) (by kernel_rfl) (by kernel_rfl) (by kernel_rfl) (by exact fun _ _ _ h => h) (HE_5.out) (by rfl) ?_ ?_; rotate_left; (· intro W HW; go_simp; try with_reducible rfl)
      simp only [Act.put, List.setIfInBounds_toArray, List.set_cons_zero, List.set_cons_succ]
      refine rests_take 19 (oi := _) (v := ?_) (by simp only [List.getElem?_toArray, List.getElem?_cons_succ, List.getElem?_cons_zero]; rfl) (by kernel_rfl) (by kernel_rfl) (by kernel_rfl) (by exact fun _ _ _ h => h) (HE_5.out) (by rfl) ?_ ?_; rotate_left; (· intro W HW; go_simp; try with_reducible rfl)
      simp only [Act.put, List.setIfInBounds_toArray, List.set_cons_zero, List.set_cons_succ]
      refine rests_take 20 (oi := _) (v := ?_) (by simp only [List.getElem?_toArray, List.getElem?_cons_succ, List.getElem?_cons_zero]; rfl) (by kernel_rfl) (by kernel_rfl) (by kernel_rfl) (by exact fun _ _ _ h => h) (HE_5.out) (by rfl) ?_ ?_; rotate_left; (· intro W HW; go_simp; try with_reducible rfl)
      simp only [Act.put, List.setIfInBounds_toArray, List.set_cons_zero, List.set_cons_succ]
      refine rests_take 21 (oi := _) (v := ?_) (by simp only [List.getElem?_toArray, List.getElem?_cons_succ, List.getElem?_cons_zero]; rfl) (by kernel_rfl) (by kernel_rfl) (by kernel_rfl) (by exact fun _ _ _ h => h) (HE_5.out) (by rfl) ?_ ?_; rotate_left; (· intro W HW; go_simp; try with_reducible rfl)
      simp only [Act.put, List.setIfInBounds_toArray, List.set_cons_zero, List.set_cons_succ]
      refine rests_done (by kernel_rfl) ?_
      go_wp2
      go_ret2
      exact putR_some HP.out HB_5.out

set_option maxRecDepth 100000 in
set_option maxHeartbeats 8000000 in
theorem RPutX_true (fr tt sl sn : Int) (nk : ByteArray) (w : World) (hn : nk.size ≤ 1000000) (hf : u32 fr) (ht : u32 tt) (hm : mayX (XIn.xd ⟨fr, tt, sl, sn, true, nk⟩) = true) : Calls Tryz.prog 48 #[.agg #[.int .u32 fr, .int .u32 tt, .int .i64 sl, .int .i64 sn, .bool true, .string nk]] w (PutR (putX (XIn.xd ⟨fr, tt, sl, sn, true, nk⟩)) w) := by
  have hmay := fun w => RMayX_any ⟨fr, tt, sl, sn, true, nk⟩ w hn
  rw [hm] at hmay
  have HM := Lib.hid hmay
  have HP : Hid (putX (XIn.xd ⟨fr, tt, sl, sn, true, nk⟩) = some (((((⟨(le4 fr).toArray⟩ : ByteArray) ++ ⟨(le4 tt).toArray⟩) ++ ⟨(midX true sn sl).toArray⟩) ++ nk)).data.toList) := by
    show putX _ = _
    rw [putX_bytes ⟨fr, tt, sl, sn, true, nk⟩]
    unfold putX
    rw [if_pos hm]
  have hi := (mayX_iff ⟨fr, tt, sl, sn, true, nk⟩).1 hm
  simp only at hi
  obtain ⟨-, hs, -, -⟩ := hi
  have e1 : IntKind.u8.wrap sn = sn := IntWalk.u8_in _ (by omega)
  have e2 : IntKind.u8.wrap sl = sl % 256 := IntKind.wrap_u8' sl
  have hbc := bcs3 (n := 1) (sn := sn) (sl := sl) (an := true) rfl (by omega)
  have HRD : Hid (∀ (W : World) (g : Nat), W.heap[g]? = some (.cells #[.int .u8 1, .int .u8 sn, .int .u8 (sl % 256)] 5 (0, 0)) → Rds W (.slice (some ⟨g, 0, none⟩) 3 3) (midX true sn sl)) := by
    show ∀ _ _, _
    intro W g h
    rw [hbc] at h
    exact rds_new (l := midX true sn sl) h (by show 3 ≤ 1000000; decide)
  have l1 : (le4 fr).length = 4 := rfl
  have l2 : (le4 tt).length = 4 := rfl
  have l3 : (midX true sn sl).length = 3 := rfl
  have z1 : ¬ 9223372036854775807 < (le4 fr).length + (le4 tt).length := by omega
  have z2 : ¬ 9223372036854775807 < (le4 fr).length + (le4 tt).length + (midX true sn sl).length := by omega
  have z3 : ¬ 9223372036854775807 < (le4 fr).length + (le4 tt).length + (midX true sn sl).length + nk.size := by omega
  clear l1 l2 l3
  have HF := Lib.hid (fun w => Rfour_any fr w hf)
  have HT := Lib.hid (fun w => Rfour_any tt w ht)
  clear hmay hm hs hbc hn hf ht
  go_enter Tryz.func48, Tryz.ntmps48
  go_wp2_with (first
    | ((with_reducible refine wpList_boxS rfl 51 _ (.tmp 0) rfl rfl (run_boxX ⟨fr, tt, sl, sn, true, nk⟩) ?_); intro w1 hb1 hlt1 hh1; have HB1 := Lib.hid hb1; have HH1 := Lib.hid hh1; clear hb1 hh1)
    | (with_reducible refine wpList_loadB rfl 51 (.tmp 1) rfl w.heap.size rfl 51 _ HH1.out _ Tryz.underlying51 rfl (by kernel_rfl) ?_)
    | (go_at_call 81; (with_reducible refine (HM.out _).mono ?_); rintro e w2 ⟨rfl, hb⟩; have HB_2 := Lib.hid (bel_trans HB1.out hb).drew; have HP2 := Lib.hid (keep_at HH1.out hb); have c4 : w2.cell? ⟨w.heap.size, 4, none⟩ = some (.bool true) := cell_at HP2.out 4 _ rfl; clear hb))
  have HE_2 := Lib.hid (bel0 w2).drew
  have HKP : Hid (∀ W, From w2 W → W.heap[w.heap.size]? = some (.cells #[.int .u32 fr, .int .u32 tt, .int .i64 sl, .int .i64 sn, .bool true, .string nk] 51 (0, 0))) := by show ∀ _, _; exact fun W HW => keep_at HP2.out HW
  refine rests_begin (From w2) (by kernel_rfl) ?_
  refine rests_take 0 (oi := _) (v := ?_) (by simp only [List.getElem?_toArray, List.getElem?_cons_zero]; rfl) (by kernel_rfl) (by kernel_rfl) (by kernel_rfl) (by exact fun _ _ _ h => h) (HE_2.out) (by rfl) ?_ ?_; rotate_left; (· intro W HW; go_simp; try with_reducible rfl)
  simp only [Act.put, List.setIfInBounds_toArray, List.set_cons_zero, List.set_cons_succ]
  refine rests_take 1 (oi := _) (v := ?_) (by simp only [List.getElem?_toArray, List.getElem?_cons_succ, List.getElem?_cons_zero]; rfl) (by kernel_rfl) (by kernel_rfl) (by kernel_rfl) (by exact fun _ _ _ h => h) (HE_2.out) (by rfl) ?_ ?_; rotate_left; (· intro W HW; have cw0 : W.cell? ⟨w.heap.size, 0, none⟩ = some (.int .u32 fr) := cell_at (HKP.out W HW) 0 _ rfl; go_simp; try with_reducible rfl)
  simp only [Act.put, List.setIfInBounds_toArray, List.set_cons_zero, List.set_cons_succ]
  refine rests_take 3 (oi := _) (v := ?_) (by simp only [List.getElem?_toArray, List.getElem?_cons_succ, List.getElem?_cons_zero]; rfl) (by kernel_rfl) (by kernel_rfl) (by kernel_rfl) (by exact fun _ _ _ h => h) (HE_2.out) (by rfl) ?_ ?_; rotate_left; (· intro W HW; go_simp; try with_reducible rfl)
  simp only [Act.put, List.setIfInBounds_toArray, List.set_cons_zero, List.set_cons_succ]
  refine rests_take 4 (oi := _) (v := ?_) (by simp only [List.getElem?_toArray, List.getElem?_cons_succ, List.getElem?_cons_zero]; rfl) (by kernel_rfl) (by kernel_rfl) (by kernel_rfl) (by exact fun _ _ _ h => h) (HE_2.out) (by rfl) ?_ ?_; rotate_left; (· intro W HW; have cw1 : W.cell? ⟨w.heap.size, 1, none⟩ = some (.int .u32 tt) := cell_at (HKP.out W HW) 1 _ rfl; go_simp; try with_reducible rfl)
  simp only [Act.put, List.setIfInBounds_toArray, List.set_cons_zero, List.set_cons_succ]
  refine rests_take 7 (oi := _) (v := ?_) (by simp only [List.getElem?_toArray, List.getElem?_cons_succ, List.getElem?_cons_zero]; rfl) (by kernel_rfl) (by kernel_rfl) (by kernel_rfl) (by exact fun _ _ _ h => h) (HE_2.out) (by rfl) ?_ ?_; rotate_left; (· intro W HW; go_simp; try with_reducible rfl)
  simp only [Act.put, List.setIfInBounds_toArray, List.set_cons_zero, List.set_cons_succ]
  refine rests_take 8 (oi := _) (v := ?_) (by simp only [List.getElem?_toArray, List.getElem?_cons_succ, List.getElem?_cons_zero]; rfl) (by kernel_rfl) (by kernel_rfl) (by kernel_rfl) (by exact fun _ _ _ h => h) (HE_2.out) (by rfl) ?_ ?_; rotate_left; (· intro W HW; go_simp; try with_reducible rfl)
  simp only [Act.put, List.setIfInBounds_toArray, List.set_cons_zero, List.set_cons_succ]
  refine rests_take 9 (oi := _) (v := ?_) (by simp only [List.getElem?_toArray, List.getElem?_cons_succ, List.getElem?_cons_zero]; rfl) (by kernel_rfl) (by kernel_rfl) (by kernel_rfl) (by exact fun _ _ _ h => h) (HE_2.out) (by rfl) ?_ ?_; rotate_left; (· intro W HW; have cw3 : W.cell? ⟨w.heap.size, 3, none⟩ = some (.int .i64 sn) := cell_at (HKP.out W HW) 3 _ rfl; go_simp; try with_reducible rfl)
  simp only [Act.put, List.setIfInBounds_toArray, List.set_cons_zero, List.set_cons_succ]
  refine rests_take 10 (oi := _) (v := ?_) (by simp only [List.getElem?_toArray, List.getElem?_cons_succ, List.getElem?_cons_zero]; rfl) (by kernel_rfl) (by kernel_rfl) (by kernel_rfl) (by exact fun _ _ _ h => h) (HE_2.out) (by rfl) ?_ ?_; rotate_left; (· intro W HW; go_simp; try with_reducible rfl)
  simp only [Act.put, List.setIfInBounds_toArray, List.set_cons_zero, List.set_cons_succ]
  refine rests_take 11 (oi := _) (v := ?_) (by simp only [List.getElem?_toArray, List.getElem?_cons_succ, List.getElem?_cons_zero]; rfl) (by kernel_rfl) (by kernel_rfl) (by kernel_rfl) (by exact fun _ _ _ h => h) (HE_2.out) (by rfl) ?_ ?_; rotate_left; (· intro W HW; go_simp; try with_reducible rfl)
  simp only [Act.put, List.setIfInBounds_toArray, List.set_cons_zero, List.set_cons_succ]
  refine rests_take 12 (oi := _) (v := ?_) (by simp only [List.getElem?_toArray, List.getElem?_cons_succ, List.getElem?_cons_zero]; rfl) (by kernel_rfl) (by kernel_rfl) (by kernel_rfl) (by exact fun _ _ _ h => h) (HE_2.out) (by rfl) ?_ ?_; rotate_left; (· intro W HW; have cw2 : W.cell? ⟨w.heap.size, 2, none⟩ = some (.int .i64 sl) := cell_at (HKP.out W HW) 2 _ rfl; go_simp; try with_reducible rfl)
  simp only [Act.put, List.setIfInBounds_toArray, List.set_cons_zero, List.set_cons_succ]
  refine rests_take 13 (oi := _) (v := ?_) (by simp only [List.getElem?_toArray, List.getElem?_cons_succ, List.getElem?_cons_zero]; rfl) (by kernel_rfl) (by kernel_rfl) (by kernel_rfl) (by exact fun _ _ _ h => h) (HE_2.out) (by rfl) ?_ ?_; rotate_left; (· intro W HW; go_simp; try with_reducible rfl)
  simp only [Act.put, List.setIfInBounds_toArray, List.set_cons_zero, List.set_cons_succ]
  refine rests_take 17 (oi := _) (v := ?_) (by simp only [List.getElem?_toArray, List.getElem?_cons_succ, List.getElem?_cons_zero]; rfl) (by kernel_rfl) (by kernel_rfl) (by kernel_rfl) (by exact fun _ _ _ h => h) (HE_2.out) (by rfl) ?_ ?_; rotate_left; (· intro W HW; go_simp; try with_reducible rfl)
  simp only [Act.put, List.setIfInBounds_toArray, List.set_cons_zero, List.set_cons_succ]
  refine rests_take 18 (oi := _) (v := ?_) (by simp only [List.getElem?_toArray, List.getElem?_cons_succ, List.getElem?_cons_zero]; rfl) (by kernel_rfl) (by kernel_rfl) (by kernel_rfl) (by exact fun _ _ _ h => h) (HE_2.out) (by rfl) ?_ ?_; rotate_left; (· intro W HW; have cw5 : W.cell? ⟨w.heap.size, 5, none⟩ = some (.string nk) := cell_at (HKP.out W HW) 5 _ rfl; go_simp; try with_reducible rfl)
  simp only [Act.put, List.setIfInBounds_toArray, List.set_cons_zero, List.set_cons_succ]
  refine rests_two 2 14 (oi := _) (oj := _) (by simp only [List.getElem?_toArray, List.getElem?_cons_succ, List.getElem?_cons_zero]; rfl) (by simp only [List.getElem?_toArray, List.getElem?_cons_succ, List.getElem?_cons_zero]; rfl) (by kernel_rfl) (by rfl) (by rfl) ?_ ?_
  · refine wp_enter (f := 82) (args := #[.int .u32 fr]) (by go_simp) (HF.out w2.drew) ?_
    rintro e w3 ⟨rfl, hb⟩; have HB_3 := Lib.hid (bel_trans (w := w2.drew) HB_2.out hb); have HE_3 := Lib.hid (bel_trans (w := w2.drew) HE_2.out hb); refine ⟨_, rfl, HE_3.out, ?_⟩; clear hb
    simp only [Act.put, List.setIfInBounds_toArray, List.set_cons_zero, List.set_cons_succ]
    refine rests_two 5 14 (oi := _) (oj := _) (by simp only [List.getElem?_toArray, List.getElem?_cons_succ, List.getElem?_cons_zero]; rfl) (by simp only [List.getElem?_toArray, List.getElem?_cons_succ, List.getElem?_cons_zero]; rfl) (by kernel_rfl) (by rfl) (by rfl) ?_ ?_
    · refine wp_enter (f := 82) (args := #[.int .u32 tt]) (by go_simp) (HT.out w3) ?_
      rintro e w4 ⟨rfl, hb⟩; have HB_4 := Lib.hid (bel_trans (w := w3) HB_3.out hb); have HE_4 := Lib.hid (bel_trans (w := w3) HE_3.out hb); refine ⟨_, rfl, HE_4.out, ?_⟩; clear hb
      simp only [Act.put, List.setIfInBounds_toArray, List.set_cons_zero, List.set_cons_succ]
      refine rests_take 6 (oi := _) (v := ?_) (by simp only [List.getElem?_toArray, List.getElem?_cons_succ, List.getElem?_cons_zero]; rfl) (by kernel_rfl) (by kernel_rfl) (by kernel_rfl) (by exact fun _ _ _ h => h) (HE_4.out) (by rfl) ?_ ?_; rotate_left; (· intro W HW; go_simp; try with_reducible rfl)
      simp only [Act.put, List.setIfInBounds_toArray, List.set_cons_zero, List.set_cons_succ]
      refine rests_run 14 (oi := _) (by simp only [List.getElem?_toArray, List.getElem?_cons_succ, List.getElem?_cons_zero]; rfl) (by kernel_rfl) (by rfl) (.slice (some ⟨w4.heap.size, 0, none⟩) 3 3) ((w4).alloc (.cells #[.int .u8 1, .int .u8 sn, .int .u8 (sl % 256)] 5)) (by go_simp) ⟨bal HE_4.out _, ?_⟩
      have HB_5 := Lib.hid (bal (w := w4) HB_4.out (.cells #[.int .u8 1, .int .u8 sn, .int .u8 (sl % 256)] 5)); have HE_5 := Lib.hid (bal (w := w4) HE_4.out (.cells #[.int .u8 1, .int .u8 sn, .int .u8 (sl % 256)] 5)); have HN_5 := Lib.hid (heap_alloc_new (w4) (.cells #[.int .u8 1, .int .u8 sn, .int .u8 (sl % 256)] 5))
      simp only [Act.put, List.setIfInBounds_toArray, List.set_cons_zero, List.set_cons_succ]
      refine rests_run 15 (oi := _) (by simp only [List.getElem?_toArray, List.getElem?_cons_succ, List.getElem?_cons_zero]; rfl) (by kernel_rfl) (by rfl) (.string ⟨(midX true sn sl).toArray⟩) (((w4).alloc (.cells #[.int .u8 1, .int .u8 sn, .int .u8 (sl % 256)] 5))) (exec_strB (x := .tmp 24) (u := .slice (some ⟨w4.heap.size, 0, none⟩) 3 3) rfl rfl (HRD.out _ _ HN_5.out)) ⟨HE_5.out, ?_⟩
      simp only [Act.put, List.setIfInBounds_toArray, List.set_cons_zero, List.set_cons_succ]
      refine rests_take 16 (oi := _) (v := ?_) (by simp only [List.getElem?_toArray, List.getElem?_cons_succ, List.getElem?_cons_zero]; rfl) (by kernel_rfl) (by kernel_rfl) (by kernel_rfl) (by exact fun _ _ _ h => h) (HE_5.out) (by rfl) ?_ ?_; rotate_left; (· intro W HW; go_simp; try with_reducible rfl)
      simp only [Act.put, List.setIfInBounds_toArray, List.set_cons_zero, List.set_cons_succ]
      refine rests_take 19 (oi := _) (v := ?_) (by simp only [List.getElem?_toArray, List.getElem?_cons_succ, List.getElem?_cons_zero]; rfl) (by kernel_rfl) (by kernel_rfl) (by kernel_rfl) (by exact fun _ _ _ h => h) (HE_5.out) (by rfl) ?_ ?_; rotate_left; (· intro W HW; go_simp; try with_reducible rfl)
      simp only [Act.put, List.setIfInBounds_toArray, List.set_cons_zero, List.set_cons_succ]
      refine rests_take 20 (oi := _) (v := ?_) (by simp only [List.getElem?_toArray, List.getElem?_cons_succ, List.getElem?_cons_zero]; rfl) (by kernel_rfl) (by kernel_rfl) (by kernel_rfl) (by exact fun _ _ _ h => h) (HE_5.out) (by rfl) ?_ ?_; rotate_left; (· intro W HW; go_simp; try with_reducible rfl)
      simp only [Act.put, List.setIfInBounds_toArray, List.set_cons_zero, List.set_cons_succ]
      refine rests_take 21 (oi := _) (v := ?_) (by simp only [List.getElem?_toArray, List.getElem?_cons_succ, List.getElem?_cons_zero]; rfl) (by kernel_rfl) (by kernel_rfl) (by kernel_rfl) (by exact fun _ _ _ h => h) (HE_5.out) (by rfl) ?_ ?_; rotate_left; (· intro W HW; go_simp; try with_reducible rfl)
      simp only [Act.put, List.setIfInBounds_toArray, List.set_cons_zero, List.set_cons_succ]
      refine rests_done (by kernel_rfl) ?_
      go_wp2
      go_ret2
      exact putR_some HP.out HB_5.out
    · refine wp_val (v := .slice (some ⟨w3.heap.size, 0, none⟩) 3 3) (w' := (w3).alloc (.cells #[.int .u8 1, .int .u8 sn, .int .u8 (sl % 256)] 5)) (by go_simp) ⟨bal HE_3.out _, ?_⟩
      have HB_4 := Lib.hid (bal (w := w3) HB_3.out (.cells #[.int .u8 1, .int .u8 sn, .int .u8 (sl % 256)] 5)); have HE_4 := Lib.hid (bal (w := w3) HE_3.out (.cells #[.int .u8 1, .int .u8 sn, .int .u8 (sl % 256)] 5)); have HN_4 := Lib.hid (heap_alloc_new (w3) (.cells #[.int .u8 1, .int .u8 sn, .int .u8 (sl % 256)] 5))
      simp only [Act.put, List.setIfInBounds_toArray, List.set_cons_zero, List.set_cons_succ]
      refine rests_two 5 15 (oi := _) (oj := _) (by simp only [List.getElem?_toArray, List.getElem?_cons_succ, List.getElem?_cons_zero]; rfl) (by simp only [List.getElem?_toArray, List.getElem?_cons_succ, List.getElem?_cons_zero]; rfl) (by kernel_rfl) (by rfl) (by rfl) ?_ ?_
      · refine wp_enter (f := 82) (args := #[.int .u32 tt]) (by go_simp) (HT.out ((w3).alloc (.cells #[.int .u8 1, .int .u8 sn, .int .u8 (sl % 256)] 5))) ?_
        rintro e w5 ⟨rfl, hb⟩; have HB_5 := Lib.hid (bel_trans (w := ((w3).alloc (.cells #[.int .u8 1, .int .u8 sn, .int .u8 (sl % 256)] 5))) HB_4.out hb); have HE_5 := Lib.hid (bel_trans (w := ((w3).alloc (.cells #[.int .u8 1, .int .u8 sn, .int .u8 (sl % 256)] 5))) HE_4.out hb); have HN_5 := Lib.hid (keep_at (w := ((w3).alloc (.cells #[.int .u8 1, .int .u8 sn, .int .u8 (sl % 256)] 5))) HN_4.out hb); refine ⟨_, rfl, HE_5.out, ?_⟩; clear hb
        simp only [Act.put, List.setIfInBounds_toArray, List.set_cons_zero, List.set_cons_succ]
        refine rests_take 6 (oi := _) (v := ?_) (by simp only [List.getElem?_toArray, List.getElem?_cons_succ, List.getElem?_cons_zero]; rfl) (by kernel_rfl) (by kernel_rfl) (by kernel_rfl) (by exact fun _ _ _ h => h) (HE_5.out) (by rfl) ?_ ?_; rotate_left; (· intro W HW; go_simp; try with_reducible rfl)
        simp only [Act.put, List.setIfInBounds_toArray, List.set_cons_zero, List.set_cons_succ]
        refine rests_run 15 (oi := _) (by simp only [List.getElem?_toArray, List.getElem?_cons_succ, List.getElem?_cons_zero]; rfl) (by kernel_rfl) (by rfl) (.string ⟨(midX true sn sl).toArray⟩) (w5) (exec_strB (x := .tmp 24) (u := .slice (some ⟨w3.heap.size, 0, none⟩) 3 3) rfl rfl (HRD.out _ _ HN_5.out)) ⟨HE_5.out, ?_⟩
        simp only [Act.put, List.setIfInBounds_toArray, List.set_cons_zero, List.set_cons_succ]
        refine rests_take 16 (oi := _) (v := ?_) (by simp only [List.getElem?_toArray, List.getElem?_cons_succ, List.getElem?_cons_zero]; rfl) (by kernel_rfl) (by kernel_rfl) (by kernel_rfl) (by exact fun _ _ _ h => h) (HE_5.out) (by rfl) ?_ ?_; rotate_left; (· intro W HW; go_simp; try with_reducible rfl)
        simp only [Act.put, List.setIfInBounds_toArray, List.set_cons_zero, List.set_cons_succ]
        refine rests_take 19 (oi := _) (v := ?_) (by simp only [List.getElem?_toArray, List.getElem?_cons_succ, List.getElem?_cons_zero]; rfl) (by kernel_rfl) (by kernel_rfl) (by kernel_rfl) (by exact fun _ _ _ h => h) (HE_5.out) (by rfl) ?_ ?_; rotate_left; (· intro W HW; go_simp; try with_reducible rfl)
        simp only [Act.put, List.setIfInBounds_toArray, List.set_cons_zero, List.set_cons_succ]
        refine rests_take 20 (oi := _) (v := ?_) (by simp only [List.getElem?_toArray, List.getElem?_cons_succ, List.getElem?_cons_zero]; rfl) (by kernel_rfl) (by kernel_rfl) (by kernel_rfl) (by exact fun _ _ _ h => h) (HE_5.out) (by rfl) ?_ ?_; rotate_left; (· intro W HW; go_simp; try with_reducible rfl)
        simp only [Act.put, List.setIfInBounds_toArray, List.set_cons_zero, List.set_cons_succ]
        refine rests_take 21 (oi := _) (v := ?_) (by simp only [List.getElem?_toArray, List.getElem?_cons_succ, List.getElem?_cons_zero]; rfl) (by kernel_rfl) (by kernel_rfl) (by kernel_rfl) (by exact fun _ _ _ h => h) (HE_5.out) (by rfl) ?_ ?_; rotate_left; (· intro W HW; go_simp; try with_reducible rfl)
        simp only [Act.put, List.setIfInBounds_toArray, List.set_cons_zero, List.set_cons_succ]
        refine rests_done (by kernel_rfl) ?_
        go_wp2
        go_ret2
        exact putR_some HP.out HB_5.out
      · refine wp_val (v := .string ⟨(midX true sn sl).toArray⟩) (w' := ((w3).alloc (.cells #[.int .u8 1, .int .u8 sn, .int .u8 (sl % 256)] 5))) (exec_strB (x := .tmp 24) (u := .slice (some ⟨w3.heap.size, 0, none⟩) 3 3) rfl rfl (HRD.out _ _ HN_4.out)) ⟨HE_4.out, ?_⟩
        simp only [Act.put, List.setIfInBounds_toArray, List.set_cons_zero, List.set_cons_succ]
        refine rests_call 5 (oi := _) (by simp only [List.getElem?_toArray, List.getElem?_cons_succ, List.getElem?_cons_zero]; rfl) 82 #[.int .u32 tt] _ (by kernel_rfl) (by rfl) (by go_simp) (HT.out ((w3).alloc (.cells #[.int .u8 1, .int .u8 sn, .int .u8 (sl % 256)] 5))) ?_
        rintro e w5 ⟨rfl, hb⟩; have HB_5 := Lib.hid (bel_trans (w := ((w3).alloc (.cells #[.int .u8 1, .int .u8 sn, .int .u8 (sl % 256)] 5))) HB_4.out hb); have HE_5 := Lib.hid (bel_trans (w := ((w3).alloc (.cells #[.int .u8 1, .int .u8 sn, .int .u8 (sl % 256)] 5))) HE_4.out hb); have HN_5 := Lib.hid (keep_at (w := ((w3).alloc (.cells #[.int .u8 1, .int .u8 sn, .int .u8 (sl % 256)] 5))) HN_4.out hb); refine ⟨_, rfl, HE_5.out, ?_⟩; clear hb
        simp only [Act.put, List.setIfInBounds_toArray, List.set_cons_zero, List.set_cons_succ]
        refine rests_take 6 (oi := _) (v := ?_) (by simp only [List.getElem?_toArray, List.getElem?_cons_succ, List.getElem?_cons_zero]; rfl) (by kernel_rfl) (by kernel_rfl) (by kernel_rfl) (by exact fun _ _ _ h => h) (HE_5.out) (by rfl) ?_ ?_; rotate_left; (· intro W HW; go_simp; try with_reducible rfl)
        simp only [Act.put, List.setIfInBounds_toArray, List.set_cons_zero, List.set_cons_succ]
        refine rests_take 16 (oi := _) (v := ?_) (by simp only [List.getElem?_toArray, List.getElem?_cons_succ, List.getElem?_cons_zero]; rfl) (by kernel_rfl) (by kernel_rfl) (by kernel_rfl) (by exact fun _ _ _ h => h) (HE_5.out) (by rfl) ?_ ?_; rotate_left; (· intro W HW; go_simp; try with_reducible rfl)
        simp only [Act.put, List.setIfInBounds_toArray, List.set_cons_zero, List.set_cons_succ]
        refine rests_take 19 (oi := _) (v := ?_) (by simp only [List.getElem?_toArray, List.getElem?_cons_succ, List.getElem?_cons_zero]; rfl) (by kernel_rfl) (by kernel_rfl) (by kernel_rfl) (by exact fun _ _ _ h => h) (HE_5.out) (by rfl) ?_ ?_; rotate_left; (· intro W HW; go_simp; try with_reducible rfl)
        simp only [Act.put, List.setIfInBounds_toArray, List.set_cons_zero, List.set_cons_succ]
        refine rests_take 20 (oi := _) (v := ?_) (by simp only [List.getElem?_toArray, List.getElem?_cons_succ, List.getElem?_cons_zero]; rfl) (by kernel_rfl) (by kernel_rfl) (by kernel_rfl) (by exact fun _ _ _ h => h) (HE_5.out) (by rfl) ?_ ?_; rotate_left; (· intro W HW; go_simp; try with_reducible rfl)
        simp only [Act.put, List.setIfInBounds_toArray, List.set_cons_zero, List.set_cons_succ]
        refine rests_take 21 (oi := _) (v := ?_) (by simp only [List.getElem?_toArray, List.getElem?_cons_succ, List.getElem?_cons_zero]; rfl) (by kernel_rfl) (by kernel_rfl) (by kernel_rfl) (by exact fun _ _ _ h => h) (HE_5.out) (by rfl) ?_ ?_; rotate_left; (· intro W HW; go_simp; try with_reducible rfl)
        simp only [Act.put, List.setIfInBounds_toArray, List.set_cons_zero, List.set_cons_succ]
        refine rests_done (by kernel_rfl) ?_
        go_wp2
        go_ret2
        exact putR_some HP.out HB_5.out
  · refine wp_val (v := .slice (some ⟨w2.heap.size, 0, none⟩) 3 3) (w' := (w2.drew).alloc (.cells #[.int .u8 1, .int .u8 sn, .int .u8 (sl % 256)] 5)) (by go_simp) ⟨bal HE_2.out _, ?_⟩
    have HB_3 := Lib.hid (bal (w := w2.drew) HB_2.out (.cells #[.int .u8 1, .int .u8 sn, .int .u8 (sl % 256)] 5)); have HE_3 := Lib.hid (bal (w := w2.drew) HE_2.out (.cells #[.int .u8 1, .int .u8 sn, .int .u8 (sl % 256)] 5)); have HN_3 := Lib.hid (heap_alloc_new (w2.drew) (.cells #[.int .u8 1, .int .u8 sn, .int .u8 (sl % 256)] 5))
    simp only [Act.put, List.setIfInBounds_toArray, List.set_cons_zero, List.set_cons_succ]
    refine rests_two 2 15 (oi := _) (oj := _) (by simp only [List.getElem?_toArray, List.getElem?_cons_succ, List.getElem?_cons_zero]; rfl) (by simp only [List.getElem?_toArray, List.getElem?_cons_succ, List.getElem?_cons_zero]; rfl) (by kernel_rfl) (by rfl) (by rfl) ?_ ?_
    · refine wp_enter (f := 82) (args := #[.int .u32 fr]) (by go_simp) (HF.out ((w2.drew).alloc (.cells #[.int .u8 1, .int .u8 sn, .int .u8 (sl % 256)] 5))) ?_
      rintro e w4 ⟨rfl, hb⟩; have HB_4 := Lib.hid (bel_trans (w := ((w2.drew).alloc (.cells #[.int .u8 1, .int .u8 sn, .int .u8 (sl % 256)] 5))) HB_3.out hb); have HE_4 := Lib.hid (bel_trans (w := ((w2.drew).alloc (.cells #[.int .u8 1, .int .u8 sn, .int .u8 (sl % 256)] 5))) HE_3.out hb); have HN_4 := Lib.hid (keep_at (w := ((w2.drew).alloc (.cells #[.int .u8 1, .int .u8 sn, .int .u8 (sl % 256)] 5))) HN_3.out hb); refine ⟨_, rfl, HE_4.out, ?_⟩; clear hb
      simp only [Act.put, List.setIfInBounds_toArray, List.set_cons_zero, List.set_cons_succ]
      refine rests_two 5 15 (oi := _) (oj := _) (by simp only [List.getElem?_toArray, List.getElem?_cons_succ, List.getElem?_cons_zero]; rfl) (by simp only [List.getElem?_toArray, List.getElem?_cons_succ, List.getElem?_cons_zero]; rfl) (by kernel_rfl) (by rfl) (by rfl) ?_ ?_
      · refine wp_enter (f := 82) (args := #[.int .u32 tt]) (by go_simp) (HT.out w4) ?_
        rintro e w5 ⟨rfl, hb⟩; have HB_5 := Lib.hid (bel_trans (w := w4) HB_4.out hb); have HE_5 := Lib.hid (bel_trans (w := w4) HE_4.out hb); have HN_5 := Lib.hid (keep_at (w := w4) HN_4.out hb); refine ⟨_, rfl, HE_5.out, ?_⟩; clear hb
        simp only [Act.put, List.setIfInBounds_toArray, List.set_cons_zero, List.set_cons_succ]
        refine rests_take 6 (oi := _) (v := ?_) (by simp only [List.getElem?_toArray, List.getElem?_cons_succ, List.getElem?_cons_zero]; rfl) (by kernel_rfl) (by kernel_rfl) (by kernel_rfl) (by exact fun _ _ _ h => h) (HE_5.out) (by rfl) ?_ ?_; rotate_left; (· intro W HW; go_simp; try with_reducible rfl)
        simp only [Act.put, List.setIfInBounds_toArray, List.set_cons_zero, List.set_cons_succ]
        refine rests_run 15 (oi := _) (by simp only [List.getElem?_toArray, List.getElem?_cons_succ, List.getElem?_cons_zero]; rfl) (by kernel_rfl) (by rfl) (.string ⟨(midX true sn sl).toArray⟩) (w5) (exec_strB (x := .tmp 24) (u := .slice (some ⟨w2.heap.size, 0, none⟩) 3 3) rfl rfl (HRD.out _ _ HN_5.out)) ⟨HE_5.out, ?_⟩
        simp only [Act.put, List.setIfInBounds_toArray, List.set_cons_zero, List.set_cons_succ]
        refine rests_take 16 (oi := _) (v := ?_) (by simp only [List.getElem?_toArray, List.getElem?_cons_succ, List.getElem?_cons_zero]; rfl) (by kernel_rfl) (by kernel_rfl) (by kernel_rfl) (by exact fun _ _ _ h => h) (HE_5.out) (by rfl) ?_ ?_; rotate_left; (· intro W HW; go_simp; try with_reducible rfl)
        simp only [Act.put, List.setIfInBounds_toArray, List.set_cons_zero, List.set_cons_succ]
        refine rests_take 19 (oi := _) (v := ?_) (by simp only [List.getElem?_toArray, List.getElem?_cons_succ, List.getElem?_cons_zero]; rfl) (by kernel_rfl) (by kernel_rfl) (by kernel_rfl) (by exact fun _ _ _ h => h) (HE_5.out) (by rfl) ?_ ?_; rotate_left; (· intro W HW; go_simp; try with_reducible rfl)
        simp only [Act.put, List.setIfInBounds_toArray, List.set_cons_zero, List.set_cons_succ]
        refine rests_take 20 (oi := _) (v := ?_) (by simp only [List.getElem?_toArray, List.getElem?_cons_succ, List.getElem?_cons_zero]; rfl) (by kernel_rfl) (by kernel_rfl) (by kernel_rfl) (by exact fun _ _ _ h => h) (HE_5.out) (by rfl) ?_ ?_; rotate_left; (· intro W HW; go_simp; try with_reducible rfl)
        simp only [Act.put, List.setIfInBounds_toArray, List.set_cons_zero, List.set_cons_succ]
        refine rests_take 21 (oi := _) (v := ?_) (by simp only [List.getElem?_toArray, List.getElem?_cons_succ, List.getElem?_cons_zero]; rfl) (by kernel_rfl) (by kernel_rfl) (by kernel_rfl) (by exact fun _ _ _ h => h) (HE_5.out) (by rfl) ?_ ?_; rotate_left; (· intro W HW; go_simp; try with_reducible rfl)
        simp only [Act.put, List.setIfInBounds_toArray, List.set_cons_zero, List.set_cons_succ]
        refine rests_done (by kernel_rfl) ?_
        go_wp2
        go_ret2
        exact putR_some HP.out HB_5.out
      · refine wp_val (v := .string ⟨(midX true sn sl).toArray⟩) (w' := w4) (exec_strB (x := .tmp 24) (u := .slice (some ⟨w2.heap.size, 0, none⟩) 3 3) rfl rfl (HRD.out _ _ HN_4.out)) ⟨HE_4.out, ?_⟩
        simp only [Act.put, List.setIfInBounds_toArray, List.set_cons_zero, List.set_cons_succ]
        refine rests_call 5 (oi := _) (by simp only [List.getElem?_toArray, List.getElem?_cons_succ, List.getElem?_cons_zero]; rfl) 82 #[.int .u32 tt] _ (by kernel_rfl) (by rfl) (by go_simp) (HT.out w4) ?_
        rintro e w5 ⟨rfl, hb⟩; have HB_5 := Lib.hid (bel_trans (w := w4) HB_4.out hb); have HE_5 := Lib.hid (bel_trans (w := w4) HE_4.out hb); have HN_5 := Lib.hid (keep_at (w := w4) HN_4.out hb); refine ⟨_, rfl, HE_5.out, ?_⟩; clear hb
        simp only [Act.put, List.setIfInBounds_toArray, List.set_cons_zero, List.set_cons_succ]
        refine rests_take 6 (oi := _) (v := ?_) (by simp only [List.getElem?_toArray, List.getElem?_cons_succ, List.getElem?_cons_zero]; rfl) (by kernel_rfl) (by kernel_rfl) (by kernel_rfl) (by exact fun _ _ _ h => h) (HE_5.out) (by rfl) ?_ ?_; rotate_left; (· intro W HW; go_simp; try with_reducible rfl)
        simp only [Act.put, List.setIfInBounds_toArray, List.set_cons_zero, List.set_cons_succ]
        refine rests_take 16 (oi := _) (v := ?_) (by simp only [List.getElem?_toArray, List.getElem?_cons_succ, List.getElem?_cons_zero]; rfl) (by kernel_rfl) (by kernel_rfl) (by kernel_rfl) (by exact fun _ _ _ h => h) (HE_5.out) (by rfl) ?_ ?_; rotate_left; (· intro W HW; go_simp; try with_reducible rfl)
        simp only [Act.put, List.setIfInBounds_toArray, List.set_cons_zero, List.set_cons_succ]
        refine rests_take 19 (oi := _) (v := ?_) (by simp only [List.getElem?_toArray, List.getElem?_cons_succ, List.getElem?_cons_zero]; rfl) (by kernel_rfl) (by kernel_rfl) (by kernel_rfl) (by exact fun _ _ _ h => h) (HE_5.out) (by rfl) ?_ ?_; rotate_left; (· intro W HW; go_simp; try with_reducible rfl)
        simp only [Act.put, List.setIfInBounds_toArray, List.set_cons_zero, List.set_cons_succ]
        refine rests_take 20 (oi := _) (v := ?_) (by simp only [List.getElem?_toArray, List.getElem?_cons_succ, List.getElem?_cons_zero]; rfl) (by kernel_rfl) (by kernel_rfl) (by kernel_rfl) (by exact fun _ _ _ h => h) (HE_5.out) (by rfl) ?_ ?_; rotate_left; (· intro W HW; go_simp; try with_reducible rfl)
        simp only [Act.put, List.setIfInBounds_toArray, List.set_cons_zero, List.set_cons_succ]
        refine rests_take 21 (oi := _) (v := ?_) (by simp only [List.getElem?_toArray, List.getElem?_cons_succ, List.getElem?_cons_zero]; rfl) (by kernel_rfl) (by kernel_rfl) (by kernel_rfl) (by exact fun _ _ _ h => h) (HE_5.out) (by rfl) ?_ ?_; rotate_left; (· intro W HW; go_simp; try with_reducible rfl)
        simp only [Act.put, List.setIfInBounds_toArray, List.set_cons_zero, List.set_cons_succ]
        refine rests_done (by kernel_rfl) ?_
        go_wp2
        go_ret2
        exact putR_some HP.out HB_5.out
    · refine wp_val (v := .string ⟨(midX true sn sl).toArray⟩) (w' := ((w2.drew).alloc (.cells #[.int .u8 1, .int .u8 sn, .int .u8 (sl % 256)] 5))) (exec_strB (x := .tmp 24) (u := .slice (some ⟨w2.heap.size, 0, none⟩) 3 3) rfl rfl (HRD.out _ _ HN_3.out)) ⟨HE_3.out, ?_⟩
      simp only [Act.put, List.setIfInBounds_toArray, List.set_cons_zero, List.set_cons_succ]
      refine rests_call 2 (oi := _) (by simp only [List.getElem?_toArray, List.getElem?_cons_succ, List.getElem?_cons_zero]; rfl) 82 #[.int .u32 fr] _ (by kernel_rfl) (by rfl) (by go_simp) (HF.out ((w2.drew).alloc (.cells #[.int .u8 1, .int .u8 sn, .int .u8 (sl % 256)] 5))) ?_
      rintro e w4 ⟨rfl, hb⟩; have HB_4 := Lib.hid (bel_trans (w := ((w2.drew).alloc (.cells #[.int .u8 1, .int .u8 sn, .int .u8 (sl % 256)] 5))) HB_3.out hb); have HE_4 := Lib.hid (bel_trans (w := ((w2.drew).alloc (.cells #[.int .u8 1, .int .u8 sn, .int .u8 (sl % 256)] 5))) HE_3.out hb); have HN_4 := Lib.hid (keep_at (w := ((w2.drew).alloc (.cells #[.int .u8 1, .int .u8 sn, .int .u8 (sl % 256)] 5))) HN_3.out hb); refine ⟨_, rfl, HE_4.out, ?_⟩; clear hb
      simp only [Act.put, List.setIfInBounds_toArray, List.set_cons_zero, List.set_cons_succ]
      refine rests_call 5 (oi := _) (by simp only [List.getElem?_toArray, List.getElem?_cons_succ, List.getElem?_cons_zero]; rfl) 82 #[.int .u32 tt] _ (by kernel_rfl) (by rfl) (by go_simp) (HT.out w4) ?_
      rintro e w5 ⟨rfl, hb⟩; have HB_5 := Lib.hid (bel_trans (w := w4) HB_4.out hb); have HE_5 := Lib.hid (bel_trans (w := w4) HE_4.out hb); have HN_5 := Lib.hid (keep_at (w := w4) HN_4.out hb); refine ⟨_, rfl, HE_5.out, ?_⟩; clear hb
      simp only [Act.put, List.setIfInBounds_toArray, List.set_cons_zero, List.set_cons_succ]
      refine rests_take 6 (oi := _) (v := ?_) (by simp only [List.getElem?_toArray, List.getElem?_cons_succ, List.getElem?_cons_zero]; rfl) (by kernel_rfl) (by kernel_rfl) (by kernel_rfl) (by exact fun _ _ _ h => h) (HE_5.out) (by rfl) ?_ ?_; rotate_left; (· intro W HW; go_simp; try with_reducible rfl)
      simp only [Act.put, List.setIfInBounds_toArray, List.set_cons_zero, List.set_cons_succ]
      refine rests_take 16 (oi := _) (v := ?_) (by simp only [List.getElem?_toArray, List.getElem?_cons_succ, List.getElem?_cons_zero]; rfl) (by kernel_rfl) (by kernel_rfl) (by kernel_rfl) (by exact fun _ _ _ h => h) (HE_5.out) (by rfl) ?_ ?_; rotate_left; (· intro W HW; go_simp; try with_reducible rfl)
      simp only [Act.put, List.setIfInBounds_toArray, List.set_cons_zero, List.set_cons_succ]
      refine rests_take 19 (oi := _) (v := ?_) (by simp only [List.getElem?_toArray, List.getElem?_cons_succ, List.getElem?_cons_zero]; rfl) (by kernel_rfl) (by kernel_rfl) (by kernel_rfl) (by exact fun _ _ _ h => h) (HE_5.out) (by rfl) ?_ ?_; rotate_left; (· intro W HW; go_simp; try with_reducible rfl)
      simp only [Act.put, List.setIfInBounds_toArray, List.set_cons_zero, List.set_cons_succ]
      refine rests_take 20 (oi := _) (v := ?_) (by simp only [List.getElem?_toArray, List.getElem?_cons_succ, List.getElem?_cons_zero]; rfl) (by kernel_rfl) (by kernel_rfl) (by kernel_rfl) (by exact fun _ _ _ h => h) (HE_5.out) (by rfl) ?_ ?_; rotate_left; (· intro W HW; go_simp; try with_reducible rfl)
      simp only [Act.put, List.setIfInBounds_toArray, List.set_cons_zero, List.set_cons_succ]
      refine rests_take 21 (oi := _) (v := ?_) (by simp only [List.getElem?_toArray, List.getElem?_cons_succ, List.getElem?_cons_zero]; rfl) (by kernel_rfl) (by kernel_rfl) (by kernel_rfl) (by exact fun _ _ _ h => h) (HE_5.out) (by rfl) ?_ ?_; rotate_left; (· intro W HW; go_simp; try with_reducible rfl)
      simp only [Act.put, List.setIfInBounds_toArray, List.set_cons_zero, List.set_cons_succ]
      refine rests_done (by kernel_rfl) ?_
      go_wp2
      go_ret2
      exact putR_some HP.out HB_5.out

theorem RPutX_any (x : XIn) (w : World) (hn : x.nick.size ≤ 1000000) (hf : u32 x.from_) (ht : u32 x.to_) : Calls Tryz.prog 48 #[x.val] w (PutR (putX x.xd) w) := by
  cases hm : mayX x.xd with
  | false => exact RPutX_none x w hn hm
  | true =>
    obtain ⟨fr, tt, sl, sn, an, nk⟩ := x
    cases an with
    | false => exact RPutX_false fr tt sl sn nk w hn hf ht hm
    | true => exact RPutX_true fr tt sl sn nk w hn hf ht hm
end Go.Proofs.YtcmjdbljdkabpaaGreatDoor
