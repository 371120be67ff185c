/- Of layer 8: Ref8k. -/
import Derived.Test.YtcmjdbljdkabpaaGreatDoorM8J
import Derived.Test.YtcmjdbljdkabpaaGreatDoorM8D

set_option linter.all false

namespace Go.Proofs.YtcmjdbljdkabpaaGreatDoor
open Go.RowKit M

/-- The two bytes in the middle. -/
def midS (se co : Int) : List UInt8 := [UInt8.ofNat se.toNat, UInt8.ofNat co.toNat]
theorem bcs2 {se co : Int} (hs : 0 ≤ se ∧ se < 256) (hc : 0 ≤ co ∧ co < 256) : (#[.int .u8 se, .int .u8 co] : Array Value) = (bcs (midS se co)).toArray := by
  show _ = (#[bc (by8 se), bc (by8 co)] : Array Value)
  rw [by8_bc hs, by8_bc hc]
theorem putS_bytes (s : St) : (((((⟨(le4 s.from_).toArray⟩ : ByteArray) ++ ⟨(le4 s.to_).toArray⟩) ++ ⟨(midS s.seat s.count).toArray⟩) ++ ⟨(bytesO s.o).toArray⟩)).data.toList = headS s ++ bytesO s.o := by
  rw [ByteArray.data_append, ByteArray.data_append, ByteArray.data_append, Array.toList_append, Array.toList_append, Array.toList_append]
  rfl
set_option maxRecDepth 100000 in
set_option maxHeartbeats 2000000 in
theorem RPutS_none (s : St) (w : World) (hm : maySt s = false) : Calls Tryz.prog 55 #[s.val] w (PutR (putS s) w) := by
  have hmay := fun w => RMayS_any s w
  rw [hm] at hmay
  have HM := Lib.hid hmay
  have HP : Hid (putS s = none) := by show putS s = _; unfold putS; rw [hm]; rfl
  clear hmay hm
  obtain ⟨fr, tt, se, co, ⟨b, si, wi, z, wa⟩⟩ := s
  go_enter Tryz.func55, Tryz.ntmps55
  go_wp2_with (first
    | ((with_reducible refine wpList_boxS rfl 64 _ (.tmp 0) rfl rfl (run_boxS ⟨fr, tt, se, co, ⟨b, si, wi, z, wa⟩⟩) ?_); intro w1 hb1 hlt1 hh1; have HB1 := Lib.hid hb1; have HH1 := Lib.hid hh1; clear hb1 hh1)
    | (with_reducible refine wpList_loadB rfl 64 (.tmp 1) rfl w.heap.size rfl 64 _ HH1.out _ Tryz.underlying64 rfl (by kernel_rfl) ?_)
    | (go_at_call 95; (with_reducible refine (HM.out _).mono ?_); rintro e w2 ⟨rfl, hb⟩; have HB2 := Lib.hid (bel_trans HB1.out hb); clear hb))
  go_ret2
  exact putR_none HP.out HB2.out
set_option maxRecDepth 100000 in
set_option maxHeartbeats 8000000 in
theorem RPutS_some (fr tt se co b si wi z wa : Int) (w : World) (hf : u32 fr) (ht : u32 tt) (hm : maySt ⟨fr, tt, se, co, ⟨b, si, wi, z, wa⟩⟩ = true) : Calls Tryz.prog 55 #[.agg #[.int .u32 fr, .int .u32 tt, .int .i64 se, .int .i64 co, .int .i64 b, .int .i64 si, .int .i64 wi, .int .i64 z, .int .i64 wa]] w (PutR (putS ⟨fr, tt, se, co, ⟨b, si, wi, z, wa⟩⟩) w) := by
  have hmay := fun w => RMayS_any ⟨fr, tt, se, co, ⟨b, si, wi, z, wa⟩⟩ w
  rw [hm] at hmay
  have HM := Lib.hid hmay
  have hi := (mayS_iff ⟨fr, tt, se, co, ⟨b, si, wi, z, wa⟩⟩).1 hm
  simp only at hi
  obtain ⟨-, -, hs, hc, ho⟩ := hi
  have hpo := fun w => RPutO_any ⟨b, si, wi, z, wa⟩ w
  unfold PutR at hpo
  rw [show putO ⟨b, si, wi, z, wa⟩ = some (bytesO ⟨b, si, wi, z, wa⟩) by unfold putO; rw [if_pos ho]] at hpo
  simp only [Option.getD_some, Option.isSome_some] at hpo
  have HPO := Lib.hid hpo
  have HP : Hid (putS ⟨fr, tt, se, co, ⟨b, si, wi, z, wa⟩⟩ = some (((((⟨(le4 fr).toArray⟩ : ByteArray) ++ ⟨(le4 tt).toArray⟩) ++ ⟨(midS se co).toArray⟩) ++ ⟨(bytesO ⟨b, si, wi, z, wa⟩).toArray⟩)).data.toList) := by
    show putS _ = _
    rw [putS_bytes ⟨fr, tt, se, co, ⟨b, si, wi, z, wa⟩⟩]
    unfold putS
    rw [if_pos hm]
  have e1 : IntKind.u8.wrap se = se := IntWalk.u8_in _ (by omega)
  have e2 : IntKind.u8.wrap co = co := IntWalk.u8_in _ (by omega)
  have hbc := bcs2 (se := se) (co := co) (by omega) (by omega)
  have HRD : Hid (∀ (W : World) (g : Nat), W.heap[g]? = some (.cells #[.int .u8 se, .int .u8 co] 5 (0, 0)) → Rds W (.slice (some ⟨g, 0, none⟩) 2 2) (midS se co)) := by
    show ∀ _ _, _
    intro W g h
    rw [hbc] at h
    exact rds_new (l := midS se co) h (by show 2 ≤ 1000000; decide)
  have l1 : (le4 fr).length = 4 := rfl
  have l2 : (le4 tt).length = 4 := rfl
  have l3 : (midS se co).length = 2 := rfl
  have l4 : (bytesO ⟨b, si, wi, z, wa⟩).length = 15 := rfl
  have z1 : ¬ 9223372036854775807 < (le4 fr).length + (le4 tt).length := by omega
  have z2 : ¬ 9223372036854775807 < (le4 fr).length + (le4 tt).length + (midS se co).length := by omega
  have z3 : ¬ 9223372036854775807 < (le4 fr).length + (le4 tt).length + (midS se co).length + (bytesO ⟨b, si, wi, z, wa⟩).length := by omega
  clear l1 l2 l3 l4
  have HF := Lib.hid (fun w => Rfour_any fr w hf)
  have HT := Lib.hid (fun w => Rfour_any tt w ht)
  clear hmay hm hs hc ho hpo hbc hf ht
  go_enter Tryz.func55, Tryz.ntmps55
  go_wp2_with (first
    | ((with_reducible refine wpList_boxS rfl 64 _ (.tmp 0) rfl rfl (run_boxS ⟨fr, tt, se, co, ⟨b, si, wi, z, wa⟩⟩) ?_); intro w1 hb1 hlt1 hh1; have HB1 := Lib.hid hb1; have HH1 := Lib.hid hh1; clear hb1 hh1)
    | (with_reducible refine wpList_loadB rfl 64 (.tmp 1) rfl w.heap.size rfl 64 _ HH1.out _ Tryz.underlying64 rfl (by kernel_rfl) ?_)
    | (go_at_call 95; (with_reducible refine (HM.out _).mono ?_); rintro e w2 ⟨rfl, hb⟩; have HB2 := Lib.hid (bel_trans HB1.out hb); have HP2 := Lib.hid (keep_at HH1.out hb); have c4 : w2.cell? ⟨w.heap.size, 4, none⟩ = some (.int .i64 b) := cell_at HP2.out 4 _ rfl; have c5 : w2.cell? ⟨w.heap.size, 5, none⟩ = some (.int .i64 si) := cell_at HP2.out 5 _ rfl; have c6 : w2.cell? ⟨w.heap.size, 6, none⟩ = some (.int .i64 wi) := cell_at HP2.out 6 _ rfl; have c7 : w2.cell? ⟨w.heap.size, 7, none⟩ = some (.int .i64 z) := cell_at HP2.out 7 _ rfl; have c8 : w2.cell? ⟨w.heap.size, 8, none⟩ = some (.int .i64 wa) := cell_at HP2.out 8 _ rfl; clear hb)
    | (go_at_call 24; (with_reducible refine (HPO.out _).mono ?_); rintro e w3 ⟨rfl, hb⟩; have HB_3 := Lib.hid (bel_trans HB2.out hb).drew; have HP3 := Lib.hid (keep_at HP2.out hb); clear hb))
  have HE_3 := Lib.hid (bel0 w3).drew
  have HKP : Hid (∀ W, From w3 W → W.heap[w.heap.size]? = some (.cells #[.int .u32 fr, .int .u32 tt, .int .i64 se, .int .i64 co, .int .i64 b, .int .i64 si, .int .i64 wi, .int .i64 z, .int .i64 wa] 64 (0, 0))) := by show ∀ _, _; exact fun W HW => keep_at HP3.out HW
  refine rests_begin (From w3) (by kernel_rfl) ?_
  refine rests_take 0 (oi := _) (v := ?_) (by simp only [List.getElem?_toArray, List.getElem?_cons_zero]; rfl) (by kernel_rfl) (by kernel_rfl) (by kernel_rfl) (by exact fun _ _ _ h => h) (HE_3.out) (by rfl) ?_ ?_; rotate_left; (· intro W HW; go_simp; try with_reducible rfl)
  simp only [Act.put, List.setIfInBounds_toArray, List.set_cons_zero, List.set_cons_succ]
  refine rests_take 1 (oi := _) (v := ?_) (by simp only [List.getElem?_toArray, List.getElem?_cons_succ, List.getElem?_cons_zero]; rfl) (by kernel_rfl) (by kernel_rfl) (by kernel_rfl) (by exact fun _ _ _ h => h) (HE_3.out) (by rfl) ?_ ?_; rotate_left; (· intro W HW; have cw0 : W.cell? ⟨w.heap.size, 0, none⟩ = some (.int .u32 fr) := cell_at (HKP.out W HW) 0 _ rfl; go_simp; try with_reducible rfl)
  simp only [Act.put, List.setIfInBounds_toArray, List.set_cons_zero, List.set_cons_succ]
  refine rests_take 3 (oi := _) (v := ?_) (by simp only [List.getElem?_toArray, List.getElem?_cons_succ, List.getElem?_cons_zero]; rfl) (by kernel_rfl) (by kernel_rfl) (by kernel_rfl) (by exact fun _ _ _ h => h) (HE_3.out) (by rfl) ?_ ?_; rotate_left; (· intro W HW; go_simp; try with_reducible rfl)
  simp only [Act.put, List.setIfInBounds_toArray, List.set_cons_zero, List.set_cons_succ]
  refine rests_take 4 (oi := _) (v := ?_) (by simp only [List.getElem?_toArray, List.getElem?_cons_succ, List.getElem?_cons_zero]; rfl) (by kernel_rfl) (by kernel_rfl) (by kernel_rfl) (by exact fun _ _ _ h => h) (HE_3.out) (by rfl) ?_ ?_; rotate_left; (· intro W HW; have cw1 : W.cell? ⟨w.heap.size, 1, none⟩ = some (.int .u32 tt) := cell_at (HKP.out W HW) 1 _ rfl; go_simp; try with_reducible rfl)
  simp only [Act.put, List.setIfInBounds_toArray, List.set_cons_zero, List.set_cons_succ]
  refine rests_take 7 (oi := _) (v := ?_) (by simp only [List.getElem?_toArray, List.getElem?_cons_succ, List.getElem?_cons_zero]; rfl) (by kernel_rfl) (by kernel_rfl) (by kernel_rfl) (by exact fun _ _ _ h => h) (HE_3.out) (by rfl) ?_ ?_; rotate_left; (· intro W HW; go_simp; try with_reducible rfl)
  simp only [Act.put, List.setIfInBounds_toArray, List.set_cons_zero, List.set_cons_succ]
  refine rests_take 8 (oi := _) (v := ?_) (by simp only [List.getElem?_toArray, List.getElem?_cons_succ, List.getElem?_cons_zero]; rfl) (by kernel_rfl) (by kernel_rfl) (by kernel_rfl) (by exact fun _ _ _ h => h) (HE_3.out) (by rfl) ?_ ?_; rotate_left; (· intro W HW; go_simp; try with_reducible rfl)
  simp only [Act.put, List.setIfInBounds_toArray, List.set_cons_zero, List.set_cons_succ]
  refine rests_take 9 (oi := _) (v := ?_) (by simp only [List.getElem?_toArray, List.getElem?_cons_succ, List.getElem?_cons_zero]; rfl) (by kernel_rfl) (by kernel_rfl) (by kernel_rfl) (by exact fun _ _ _ h => h) (HE_3.out) (by rfl) ?_ ?_; rotate_left; (· intro W HW; have cw2 : W.cell? ⟨w.heap.size, 2, none⟩ = some (.int .i64 se) := cell_at (HKP.out W HW) 2 _ rfl; go_simp; try with_reducible rfl)
  simp only [Act.put, List.setIfInBounds_toArray, List.set_cons_zero, List.set_cons_succ]
  refine rests_take 10 (oi := _) (v := ?_) (by simp only [List.getElem?_toArray, List.getElem?_cons_succ, List.getElem?_cons_zero]; rfl) (by kernel_rfl) (by kernel_rfl) (by kernel_rfl) (by exact fun _ _ _ h => h) (HE_3.out) (by rfl) ?_ ?_; rotate_left; (· intro W HW; go_simp; try with_reducible rfl)
  simp only [Act.put, List.setIfInBounds_toArray, List.set_cons_zero, List.set_cons_succ]
  refine rests_take 11 (oi := _) (v := ?_) (by simp only [List.getElem?_toArray, List.getElem?_cons_succ, List.getElem?_cons_zero]; rfl) (by kernel_rfl) (by kernel_rfl) (by kernel_rfl) (by exact fun _ _ _ h => h) (HE_3.out) (by rfl) ?_ ?_; rotate_left; (· intro W HW; go_simp; try with_reducible rfl)
  simp only [Act.put, List.setIfInBounds_toArray, List.set_cons_zero, List.set_cons_succ]
  refine rests_take 12 (oi := _) (v := ?_) (by simp only [List.getElem?_toArray, List.getElem?_cons_succ, List.getElem?_cons_zero]; rfl) (by kernel_rfl) (by kernel_rfl) (by kernel_rfl) (by exact fun _ _ _ h => h) (HE_3.out) (by rfl) ?_ ?_; rotate_left; (· intro W HW; go_simp; try with_reducible rfl)
  simp only [Act.put, List.setIfInBounds_toArray, List.set_cons_zero, List.set_cons_succ]
  refine rests_take 13 (oi := _) (v := ?_) (by simp only [List.getElem?_toArray, List.getElem?_cons_succ, List.getElem?_cons_zero]; rfl) (by kernel_rfl) (by kernel_rfl) (by kernel_rfl) (by exact fun _ _ _ h => h) (HE_3.out) (by rfl) ?_ ?_; rotate_left; (· intro W HW; have cw3 : W.cell? ⟨w.heap.size, 3, none⟩ = some (.int .i64 co) := cell_at (HKP.out W HW) 3 _ rfl; go_simp; try with_reducible rfl)
  simp only [Act.put, List.setIfInBounds_toArray, List.set_cons_zero, List.set_cons_succ]
  refine rests_take 14 (oi := _) (v := ?_) (by simp only [List.getElem?_toArray, List.getElem?_cons_succ, List.getElem?_cons_zero]; rfl) (by kernel_rfl) (by kernel_rfl) (by kernel_rfl) (by exact fun _ _ _ h => h) (HE_3.out) (by rfl) ?_ ?_; rotate_left; (· intro W HW; go_simp; try with_reducible rfl)
  simp only [Act.put, List.setIfInBounds_toArray, List.set_cons_zero, List.set_cons_succ]
  refine rests_take 18 (oi := _) (v := ?_) (by simp only [List.getElem?_toArray, List.getElem?_cons_succ, List.getElem?_cons_zero]; rfl) (by kernel_rfl) (by kernel_rfl) (by kernel_rfl) (by exact fun _ _ _ h => h) (HE_3.out) (by rfl) ?_ ?_; rotate_left; (· intro W HW; go_simp; try with_reducible rfl)
  simp only [Act.put, List.setIfInBounds_toArray, List.set_cons_zero, List.set_cons_succ]
  refine rests_two 2 15 (oi := _) (oj := _) (by simp only [List.getElem?_toArray, List.getElem?_cons_succ, List.getElem?_cons_zero]; rfl) (by simp only [List.getElem?_toArray, List.getElem?_cons_succ, List.getElem?_cons_zero]; rfl) (by kernel_rfl) (by rfl) (by rfl) ?_ ?_
  · refine wp_enter (f := 82) (args := #[.int .u32 fr]) (by go_simp) (HF.out w3.drew) ?_
    rintro e w4 ⟨rfl, hb⟩; have HB_4 := Lib.hid (bel_trans (w := w3.drew) HB_3.out hb); have HE_4 := Lib.hid (bel_trans (w := w3.drew) HE_3.out hb); refine ⟨_, rfl, HE_4.out, ?_⟩; clear hb
    simp only [Act.put, List.setIfInBounds_toArray, List.set_cons_zero, List.set_cons_succ]
    refine rests_two 5 15 (oi := _) (oj := _) (by simp only [List.getElem?_toArray, List.getElem?_cons_succ, List.getElem?_cons_zero]; rfl) (by simp only [List.getElem?_toArray, List.getElem?_cons_succ, List.getElem?_cons_zero]; rfl) (by kernel_rfl) (by rfl) (by rfl) ?_ ?_
    · refine wp_enter (f := 82) (args := #[.int .u32 tt]) (by go_simp) (HT.out w4) ?_
      rintro e w5 ⟨rfl, hb⟩; have HB_5 := Lib.hid (bel_trans (w := w4) HB_4.out hb); have HE_5 := Lib.hid (bel_trans (w := w4) HE_4.out hb); refine ⟨_, rfl, HE_5.out, ?_⟩; clear hb
      simp only [Act.put, List.setIfInBounds_toArray, List.set_cons_zero, List.set_cons_succ]
      refine rests_take 6 (oi := _) (v := ?_) (by simp only [List.getElem?_toArray, List.getElem?_cons_succ, List.getElem?_cons_zero]; rfl) (by kernel_rfl) (by kernel_rfl) (by kernel_rfl) (by exact fun _ _ _ h => h) (HE_5.out) (by rfl) ?_ ?_; rotate_left; (· intro W HW; go_simp; try with_reducible rfl)
      simp only [Act.put, List.setIfInBounds_toArray, List.set_cons_zero, List.set_cons_succ]
      refine rests_run 15 (oi := _) (by simp only [List.getElem?_toArray, List.getElem?_cons_succ, List.getElem?_cons_zero]; rfl) (by kernel_rfl) (by rfl) (.slice (some ⟨w5.heap.size, 0, none⟩) 2 2) ((w5).alloc (.cells #[.int .u8 se, .int .u8 co] 5)) (by go_simp) ⟨bal HE_5.out _, ?_⟩
      have HB_6 := Lib.hid (bal (w := w5) HB_5.out (.cells #[.int .u8 se, .int .u8 co] 5)); have HE_6 := Lib.hid (bal (w := w5) HE_5.out (.cells #[.int .u8 se, .int .u8 co] 5)); have HN_6 := Lib.hid (heap_alloc_new (w5) (.cells #[.int .u8 se, .int .u8 co] 5))
      simp only [Act.put, List.setIfInBounds_toArray, List.set_cons_zero, List.set_cons_succ]
      refine rests_run 16 (oi := _) (by simp only [List.getElem?_toArray, List.getElem?_cons_succ, List.getElem?_cons_zero]; rfl) (by kernel_rfl) (by rfl) (.string ⟨(midS se co).toArray⟩) (((w5).alloc (.cells #[.int .u8 se, .int .u8 co] 5))) (exec_strB (x := .tmp 30) (u := .slice (some ⟨w5.heap.size, 0, none⟩) 2 2) rfl rfl (HRD.out _ _ HN_6.out)) ⟨HE_6.out, ?_⟩
      simp only [Act.put, List.setIfInBounds_toArray, List.set_cons_zero, List.set_cons_succ]
      refine rests_take 17 (oi := _) (v := ?_) (by simp only [List.getElem?_toArray, List.getElem?_cons_succ, List.getElem?_cons_zero]; rfl) (by kernel_rfl) (by kernel_rfl) (by kernel_rfl) (by exact fun _ _ _ h => h) (HE_6.out) (by rfl) ?_ ?_; rotate_left; (· intro W HW; go_simp; try with_reducible rfl)
      simp only [Act.put, List.setIfInBounds_toArray, List.set_cons_zero, List.set_cons_succ]
      refine rests_take 19 (oi := _) (v := ?_) (by simp only [List.getElem?_toArray, List.getElem?_cons_succ, List.getElem?_cons_zero]; rfl) (by kernel_rfl) (by kernel_rfl) (by kernel_rfl) (by exact fun _ _ _ h => h) (HE_6.out) (by rfl) ?_ ?_; rotate_left; (· intro W HW; go_simp; try with_reducible rfl)
      simp only [Act.put, List.setIfInBounds_toArray, List.set_cons_zero, List.set_cons_succ]
      refine rests_take 20 (oi := _) (v := ?_) (by simp only [List.getElem?_toArray, List.getElem?_cons_succ, List.getElem?_cons_zero]; rfl) (by kernel_rfl) (by kernel_rfl) (by kernel_rfl) (by exact fun _ _ _ h => h) (HE_6.out) (by rfl) ?_ ?_; rotate_left; (· intro W HW; go_simp; try with_reducible rfl)
      simp only [Act.put, List.setIfInBounds_toArray, List.set_cons_zero, List.set_cons_succ]
      refine rests_take 21 (oi := _) (v := ?_) (by simp only [List.getElem?_toArray, List.getElem?_cons_succ, List.getElem?_cons_zero]; rfl) (by kernel_rfl) (by kernel_rfl) (by kernel_rfl) (by exact fun _ _ _ h => h) (HE_6.out) (by rfl) ?_ ?_; rotate_left; (· intro W HW; go_simp; try with_reducible rfl)
      simp only [Act.put, List.setIfInBounds_toArray, List.set_cons_zero, List.set_cons_succ]
      refine rests_done (by kernel_rfl) ?_
      go_wp2
      go_ret2
      exact putR_some HP.out HB_6.out
    · refine wp_val (v := .slice (some ⟨w4.heap.size, 0, none⟩) 2 2) (w' := (w4).alloc (.cells #[.int .u8 se, .int .u8 co] 5)) (by go_simp) ⟨bal HE_4.out _, ?_⟩
      have HB_5 := Lib.hid (bal (w := w4) HB_4.out (.cells #[.int .u8 se, .int .u8 co] 5)); have HE_5 := Lib.hid (bal (w := w4) HE_4.out (.cells #[.int .u8 se, .int .u8 co] 5)); have HN_5 := Lib.hid (heap_alloc_new (w4) (.cells #[.int .u8 se, .int .u8 co] 5))
      simp only [Act.put, List.setIfInBounds_toArray, List.set_cons_zero, List.set_cons_succ]
      refine rests_two 5 16 (oi := _) (oj := _) (by simp only [List.getElem?_toArray, List.getElem?_cons_succ, List.getElem?_cons_zero]; rfl) (by simp only [List.getElem?_toArray, List.getElem?_cons_succ, List.getElem?_cons_zero]; rfl) (by kernel_rfl) (by rfl) (by rfl) ?_ ?_
      · refine wp_enter (f := 82) (args := #[.int .u32 tt]) (by go_simp) (HT.out ((w4).alloc (.cells #[.int .u8 se, .int .u8 co] 5))) ?_
        rintro e w6 ⟨rfl, hb⟩; have HB_6 := Lib.hid (bel_trans (w := ((w4).alloc (.cells #[.int .u8 se, .int .u8 co] 5))) HB_5.out hb); have HE_6 := Lib.hid (bel_trans (w := ((w4).alloc (.cells #[.int .u8 se, .int .u8 co] 5))) HE_5.out hb); have HN_6 := Lib.hid (keep_at (w := ((w4).alloc (.cells #[.int .u8 se, .int .u8 co] 5))) HN_5.out hb); refine ⟨_, rfl, HE_6.out, ?_⟩; clear hb
        simp only [Act.put, List.setIfInBounds_toArray, List.set_cons_zero, List.set_cons_succ]
        refine rests_take 6 (oi := _) (v := ?_) (by simp only [List.getElem?_toArray, List.getElem?_cons_succ, List.getElem?_cons_zero]; rfl) (by kernel_rfl) (by kernel_rfl) (by kernel_rfl) (by exact fun _ _ _ h => h) (HE_6.out) (by rfl) ?_ ?_; rotate_left; (· intro W HW; go_simp; try with_reducible rfl)
        simp only [Act.put, List.setIfInBounds_toArray, List.set_cons_zero, List.set_cons_succ]
        refine rests_run 16 (oi := _) (by simp only [List.getElem?_toArray, List.getElem?_cons_succ, List.getElem?_cons_zero]; rfl) (by kernel_rfl) (by rfl) (.string ⟨(midS se co).toArray⟩) (w6) (exec_strB (x := .tmp 30) (u := .slice (some ⟨w4.heap.size, 0, none⟩) 2 2) rfl rfl (HRD.out _ _ HN_6.out)) ⟨HE_6.out, ?_⟩
        simp only [Act.put, List.setIfInBounds_toArray, List.set_cons_zero, List.set_cons_succ]
        refine rests_take 17 (oi := _) (v := ?_) (by simp only [List.getElem?_toArray, List.getElem?_cons_succ, List.getElem?_cons_zero]; rfl) (by kernel_rfl) (by kernel_rfl) (by kernel_rfl) (by exact fun _ _ _ h => h) (HE_6.out) (by rfl) ?_ ?_; rotate_left; (· intro W HW; go_simp; try with_reducible rfl)
        simp only [Act.put, List.setIfInBounds_toArray, List.set_cons_zero, List.set_cons_succ]
        refine rests_take 19 (oi := _) (v := ?_) (by simp only [List.getElem?_toArray, List.getElem?_cons_succ, List.getElem?_cons_zero]; rfl) (by kernel_rfl) (by kernel_rfl) (by kernel_rfl) (by exact fun _ _ _ h => h) (HE_6.out) (by rfl) ?_ ?_; rotate_left; (· intro W HW; go_simp; try with_reducible rfl)
        simp only [Act.put, List.setIfInBounds_toArray, List.set_cons_zero, List.set_cons_succ]
        refine rests_take 20 (oi := _) (v := ?_) (by simp only [List.getElem?_toArray, List.getElem?_cons_succ, List.getElem?_cons_zero]; rfl) (by kernel_rfl) (by kernel_rfl) (by kernel_rfl) (by exact fun _ _ _ h => h) (HE_6.out) (by rfl) ?_ ?_; rotate_left; (· intro W HW; go_simp; try with_reducible rfl)
        simp only [Act.put, List.setIfInBounds_toArray, List.set_cons_zero, List.set_cons_succ]
        refine rests_take 21 (oi := _) (v := ?_) (by simp only [List.getElem?_toArray, List.getElem?_cons_succ, List.getElem?_cons_zero]; rfl) (by kernel_rfl) (by kernel_rfl) (by kernel_rfl) (by exact fun _ _ _ h => h) (HE_6.out) (by rfl) ?_ ?_; rotate_left; (· intro W HW; go_simp; try with_reducible rfl)
        simp only [Act.put, List.setIfInBounds_toArray, List.set_cons_zero, List.set_cons_succ]
        refine rests_done (by kernel_rfl) ?_
        go_wp2
        go_ret2
        exact putR_some HP.out HB_6.out
      · refine wp_val (v := .string ⟨(midS se co).toArray⟩) (w' := ((w4).alloc (.cells #[.int .u8 se, .int .u8 co] 5))) (exec_strB (x := .tmp 30) (u := .slice (some ⟨w4.heap.size, 0, none⟩) 2 2) rfl rfl (HRD.out _ _ HN_5.out)) ⟨HE_5.out, ?_⟩
        simp only [Act.put, List.setIfInBounds_toArray, List.set_cons_zero, List.set_cons_succ]
        refine rests_call 5 (oi := _) (by simp only [List.getElem?_toArray, List.getElem?_cons_succ, List.getElem?_cons_zero]; rfl) 82 #[.int .u32 tt] _ (by kernel_rfl) (by rfl) (by go_simp) (HT.out ((w4).alloc (.cells #[.int .u8 se, .int .u8 co] 5))) ?_
        rintro e w6 ⟨rfl, hb⟩; have HB_6 := Lib.hid (bel_trans (w := ((w4).alloc (.cells #[.int .u8 se, .int .u8 co] 5))) HB_5.out hb); have HE_6 := Lib.hid (bel_trans (w := ((w4).alloc (.cells #[.int .u8 se, .int .u8 co] 5))) HE_5.out hb); have HN_6 := Lib.hid (keep_at (w := ((w4).alloc (.cells #[.int .u8 se, .int .u8 co] 5))) HN_5.out hb); refine ⟨_, rfl, HE_6.out, ?_⟩; clear hb
        simp only [Act.put, List.setIfInBounds_toArray, List.set_cons_zero, List.set_cons_succ]
        refine rests_take 6 (oi := _) (v := ?_) (by simp only [List.getElem?_toArray, List.getElem?_cons_succ, List.getElem?_cons_zero]; rfl) (by kernel_rfl) (by kernel_rfl) (by kernel_rfl) (by exact fun _ _ _ h => h) (HE_6.out) (by rfl) ?_ ?_; rotate_left; (· intro W HW; go_simp; try with_reducible rfl)
        simp only [Act.put, List.setIfInBounds_toArray, List.set_cons_zero, List.set_cons_succ]
        refine rests_take 17 (oi := _) (v := ?_) (by simp only [List.getElem?_toArray, List.getElem?_cons_succ, List.getElem?_cons_zero]; rfl) (by kernel_rfl) (by kernel_rfl) (by kernel_rfl) (by exact fun _ _ _ h => h) (HE_6.out) (by rfl) ?_ ?_; rotate_left; (· intro W HW; go_simp; try with_reducible rfl)
        simp only [Act.put, List.setIfInBounds_toArray, List.set_cons_zero, List.set_cons_succ]
        refine rests_take 19 (oi := _) (v := ?_) (by simp only [List.getElem?_toArray, List.getElem?_cons_succ, List.getElem?_cons_zero]; rfl) (by kernel_rfl) (by kernel_rfl) (by kernel_rfl) (by exact fun _ _ _ h => h) (HE_6.out) (by rfl) ?_ ?_; rotate_left; (· intro W HW; go_simp; try with_reducible rfl)
        simp only [Act.put, List.setIfInBounds_toArray, List.set_cons_zero, List.set_cons_succ]
        refine rests_take 20 (oi := _) (v := ?_) (by simp only [List.getElem?_toArray, List.getElem?_cons_succ, List.getElem?_cons_zero]; rfl) (by kernel_rfl) (by kernel_rfl) (by kernel_rfl) (by exact fun _ _ _ h => h) (HE_6.out) (by rfl) ?_ ?_; rotate_left; (· intro W HW; go_simp; try with_reducible rfl)
        simp only [Act.put, List.setIfInBounds_toArray, List.set_cons_zero, List.set_cons_succ]
        refine rests_take 21 (oi := _) (v := ?_) (by simp only [List.getElem?_toArray, List.getElem?_cons_succ, List.getElem?_cons_zero]; rfl) (by kernel_rfl) (by kernel_rfl) (by kernel_rfl) (by exact fun _ _ _ h => h) (HE_6.out) (by rfl) ?_ ?_; rotate_left; (· intro W HW; go_simp; try with_reducible rfl)
        simp only [Act.put, List.setIfInBounds_toArray, List.set_cons_zero, List.set_cons_succ]
        refine rests_done (by kernel_rfl) ?_
        go_wp2
        go_ret2
        exact putR_some HP.out HB_6.out
  · refine wp_val (v := .slice (some ⟨w3.heap.size, 0, none⟩) 2 2) (w' := (w3.drew).alloc (.cells #[.int .u8 se, .int .u8 co] 5)) (by go_simp) ⟨bal HE_3.out _, ?_⟩
    have HB_4 := Lib.hid (bal (w := w3.drew) HB_3.out (.cells #[.int .u8 se, .int .u8 co] 5)); have HE_4 := Lib.hid (bal (w := w3.drew) HE_3.out (.cells #[.int .u8 se, .int .u8 co] 5)); have HN_4 := Lib.hid (heap_alloc_new (w3.drew) (.cells #[.int .u8 se, .int .u8 co] 5))
    simp only [Act.put, List.setIfInBounds_toArray, List.set_cons_zero, List.set_cons_succ]
    refine rests_two 2 16 (oi := _) (oj := _) (by simp only [List.getElem?_toArray, List.getElem?_cons_succ, List.getElem?_cons_zero]; rfl) (by simp only [List.getElem?_toArray, List.getElem?_cons_succ, List.getElem?_cons_zero]; rfl) (by kernel_rfl) (by rfl) (by rfl) ?_ ?_
    · refine wp_enter (f := 82) (args := #[.int .u32 fr]) (by go_simp) (HF.out ((w3.drew).alloc (.cells #[.int .u8 se, .int .u8 co] 5))) ?_
      rintro e w5 ⟨rfl, hb⟩; have HB_5 := Lib.hid (bel_trans (w := ((w3.drew).alloc (.cells #[.int .u8 se, .int .u8 co] 5))) HB_4.out hb); have HE_5 := Lib.hid (bel_trans (w := ((w3.drew).alloc (.cells #[.int .u8 se, .int .u8 co] 5))) HE_4.out hb); have HN_5 := Lib.hid (keep_at (w := ((w3.drew).alloc (.cells #[.int .u8 se, .int .u8 co] 5))) HN_4.out hb); refine ⟨_, rfl, HE_5.out, ?_⟩; clear hb
      simp only [Act.put, List.setIfInBounds_toArray, List.set_cons_zero, List.set_cons_succ]
      refine rests_two 5 16 (oi := _) (oj := _) (by simp only [List.getElem?_toArray, List.getElem?_cons_succ, List.getElem?_cons_zero]; rfl) (by simp only [List.getElem?_toArray, List.getElem?_cons_succ, List.getElem?_cons_zero]; rfl) (by kernel_rfl) (by rfl) (by rfl) ?_ ?_
      · refine wp_enter (f := 82) (args := #[.int .u32 tt]) (by go_simp) (HT.out w5) ?_
        rintro e w6 ⟨rfl, hb⟩; have HB_6 := Lib.hid (bel_trans (w := w5) HB_5.out hb); have HE_6 := Lib.hid (bel_trans (w := w5) HE_5.out hb); have HN_6 := Lib.hid (keep_at (w := w5) HN_5.out hb); refine ⟨_, rfl, HE_6.out, ?_⟩; clear hb
        simp only [Act.put, List.setIfInBounds_toArray, List.set_cons_zero, List.set_cons_succ]
        refine rests_take 6 (oi := _) (v := ?_) (by simp only [List.getElem?_toArray, List.getElem?_cons_succ, List.getElem?_cons_zero]; rfl) (by kernel_rfl) (by kernel_rfl) (by kernel_rfl) (by exact fun _ _ _ h => h) (HE_6.out) (by rfl) ?_ ?_; rotate_left; (· intro W HW; go_simp; try with_reducible rfl)
        simp only [Act.put, List.setIfInBounds_toArray, List.set_cons_zero, List.set_cons_succ]
        refine rests_run 16 (oi := _) (by simp only [List.getElem?_toArray, List.getElem?_cons_succ, List.getElem?_cons_zero]; rfl) (by kernel_rfl) (by rfl) (.string ⟨(midS se co).toArray⟩) (w6) (exec_strB (x := .tmp 30) (u := .slice (some ⟨w3.heap.size, 0, none⟩) 2 2) rfl rfl (HRD.out _ _ HN_6.out)) ⟨HE_6.out, ?_⟩
        simp only [Act.put, List.setIfInBounds_toArray, List.set_cons_zero, List.set_cons_succ]
        refine rests_take 17 (oi := _) (v := ?_) (by simp only [List.getElem?_toArray, List.getElem?_cons_succ, List.getElem?_cons_zero]; rfl) (by kernel_rfl) (by kernel_rfl) (by kernel_rfl) (by exact fun _ _ _ h => h) (HE_6.out) (by rfl) ?_ ?_; rotate_left; (· intro W HW; go_simp; try with_reducible rfl)
        simp only [Act.put, List.setIfInBounds_toArray, List.set_cons_zero, List.set_cons_succ]
        refine rests_take 19 (oi := _) (v := ?_) (by simp only [List.getElem?_toArray, List.getElem?_cons_succ, List.getElem?_cons_zero]; rfl) (by kernel_rfl) (by kernel_rfl) (by kernel_rfl) (by exact fun _ _ _ h => h) (HE_6.out) (by rfl) ?_ ?_; rotate_left; (· intro W HW; go_simp; try with_reducible rfl)
        simp only [Act.put, List.setIfInBounds_toArray, List.set_cons_zero, List.set_cons_succ]
        refine rests_take 20 (oi := _) (v := ?_) (by simp only [List.getElem?_toArray, List.getElem?_cons_succ, List.getElem?_cons_zero]; rfl) (by kernel_rfl) (by kernel_rfl) (by kernel_rfl) (by exact fun _ _ _ h => h) (HE_6.out) (by rfl) ?_ ?_; rotate_left; (· intro W HW; go_simp; try with_reducible rfl)
        simp only [Act.put, List.setIfInBounds_toArray, List.set_cons_zero, List.set_cons_succ]
        refine rests_take 21 (oi := _) (v := ?_) (by simp only [List.getElem?_toArray, List.getElem?_cons_succ, List.getElem?_cons_zero]; rfl) (by kernel_rfl) (by kernel_rfl) (by kernel_rfl) (by exact fun _ _ _ h => h) (HE_6.out) (by rfl) ?_ ?_; rotate_left; (· intro W HW; go_simp; try with_reducible rfl)
        simp only [Act.put, List.setIfInBounds_toArray, List.set_cons_zero, List.set_cons_succ]
        refine rests_done (by kernel_rfl) ?_
        go_wp2
        go_ret2
        exact putR_some HP.out HB_6.out
      · refine wp_val (v := .string ⟨(midS se co).toArray⟩) (w' := w5) (exec_strB (x := .tmp 30) (u := .slice (some ⟨w3.heap.size, 0, none⟩) 2 2) rfl rfl (HRD.out _ _ HN_5.out)) ⟨HE_5.out, ?_⟩
        simp only [Act.put, List.setIfInBounds_toArray, List.set_cons_zero, List.set_cons_succ]
        refine rests_call 5 (oi := _) (by simp only [List.getElem?_toArray, List.getElem?_cons_succ, List.getElem?_cons_zero]; rfl) 82 #[.int .u32 tt] _ (by kernel_rfl) (by rfl) (by go_simp) (HT.out w5) ?_
        rintro e w6 ⟨rfl, hb⟩; have HB_6 := Lib.hid (bel_trans (w := w5) HB_5.out hb); have HE_6 := Lib.hid (bel_trans (w := w5) HE_5.out hb); have HN_6 := Lib.hid (keep_at (w := w5) HN_5.out hb); refine ⟨_, rfl, HE_6.out, ?_⟩; clear hb
        simp only [Act.put, List.setIfInBounds_toArray, List.set_cons_zero, List.set_cons_succ]
        refine rests_take 6 (oi := _) (v := ?_) (by simp only [List.getElem?_toArray, List.getElem?_cons_succ, List.getElem?_cons_zero]; rfl) (by kernel_rfl) (by kernel_rfl) (by kernel_rfl) (by exact fun _ _ _ h => h) (HE_6.out) (by rfl) ?_ ?_; rotate_left; (· intro W HW; go_simp; try with_reducible rfl)
        simp only [Act.put, List.setIfInBounds_toArray, List.set_cons_zero, List.set_cons_succ]
        refine rests_take 17 (oi := _) (v := ?_) (by simp only [List.getElem?_toArray, List.getElem?_cons_succ, List.getElem?_cons_zero]; rfl) (by kernel_rfl) (by kernel_rfl) (by kernel_rfl) (by exact fun _ _ _ h => h) (HE_6.out) (by rfl) ?_ ?_; rotate_left; (· intro W HW; go_simp; try with_reducible rfl)
        simp only [Act.put, List.setIfInBounds_toArray, List.set_cons_zero, List.set_cons_succ]
        refine rests_take 19 (oi := _) (v := ?_) (by simp only [List.getElem?_toArray, List.getElem?_cons_succ, List.getElem?_cons_zero]; rfl) (by kernel_rfl) (by kernel_rfl) (by kernel_rfl) (by exact fun _ _ _ h => h) (HE_6.out) (by rfl) ?_ ?_; rotate_left; (· intro W HW; go_simp; try with_reducible rfl)
        simp only [Act.put, List.setIfInBounds_toArray, List.set_cons_zero, List.set_cons_succ]
        refine rests_take 20 (oi := _) (v := ?_) (by simp only [List.getElem?_toArray, List.getElem?_cons_succ, List.getElem?_cons_zero]; rfl) (by kernel_rfl) (by kernel_rfl) (by kernel_rfl) (by exact fun _ _ _ h => h) (HE_6.out) (by rfl) ?_ ?_; rotate_left; (· intro W HW; go_simp; try with_reducible rfl)
        simp only [Act.put, List.setIfInBounds_toArray, List.set_cons_zero, List.set_cons_succ]
        refine rests_take 21 (oi := _) (v := ?_) (by simp only [List.getElem?_toArray, List.getElem?_cons_succ, List.getElem?_cons_zero]; rfl) (by kernel_rfl) (by kernel_rfl) (by kernel_rfl) (by exact fun _ _ _ h => h) (HE_6.out) (by rfl) ?_ ?_; rotate_left; (· intro W HW; go_simp; try with_reducible rfl)
        simp only [Act.put, List.setIfInBounds_toArray, List.set_cons_zero, List.set_cons_succ]
        refine rests_done (by kernel_rfl) ?_
        go_wp2
        go_ret2
        exact putR_some HP.out HB_6.out
    · refine wp_val (v := .string ⟨(midS se co).toArray⟩) (w' := ((w3.drew).alloc (.cells #[.int .u8 se, .int .u8 co] 5))) (exec_strB (x := .tmp 30) (u := .slice (some ⟨w3.heap.size, 0, none⟩) 2 2) rfl rfl (HRD.out _ _ HN_4.out)) ⟨HE_4.out, ?_⟩
      simp only [Act.put, List.setIfInBounds_toArray, List.set_cons_zero, List.set_cons_succ]
      refine rests_call 2 (oi := _) (by simp only [List.getElem?_toArray, List.getElem?_cons_succ, List.getElem?_cons_zero]; rfl) 82 #[.int .u32 fr] _ (by kernel_rfl) (by rfl) (by go_simp) (HF.out ((w3.drew).alloc (.cells #[.int .u8 se, .int .u8 co] 5))) ?_
      rintro e w5 ⟨rfl, hb⟩; have HB_5 := Lib.hid (bel_trans (w := ((w3.drew).alloc (.cells #[.int .u8 se, .int .u8 co] 5))) HB_4.out hb); have HE_5 := Lib.hid (bel_trans (w := ((w3.drew).alloc (.cells #[.int .u8 se, .int .u8 co] 5))) HE_4.out hb); have HN_5 := Lib.hid (keep_at (w := ((w3.drew).alloc (.cells #[.int .u8 se, .int .u8 co] 5))) HN_4.out hb); refine ⟨_, rfl, HE_5.out, ?_⟩; clear hb
      simp only [Act.put, List.setIfInBounds_toArray, List.set_cons_zero, List.set_cons_succ]
      refine rests_call 5 (oi := _) (by simp only [List.getElem?_toArray, List.getElem?_cons_succ, List.getElem?_cons_zero]; rfl) 82 #[.int .u32 tt] _ (by kernel_rfl) (by rfl) (by go_simp) (HT.out w5) ?_
      rintro e w6 ⟨rfl, hb⟩; have HB_6 := Lib.hid (bel_trans (w := w5) HB_5.out hb); have HE_6 := Lib.hid (bel_trans (w := w5) HE_5.out hb); have HN_6 := Lib.hid (keep_at (w := w5) HN_5.out hb); refine ⟨_, rfl, HE_6.out, ?_⟩; clear hb
      simp only [Act.put, List.setIfInBounds_toArray, List.set_cons_zero, List.set_cons_succ]
      refine rests_take 6 (oi := _) (v := ?_) (by simp only [List.getElem?_toArray, List.getElem?_cons_succ, List.getElem?_cons_zero]; rfl) (by kernel_rfl) (by kernel_rfl) (by kernel_rfl) (by exact fun _ _ _ h => h) (HE_6.out) (by rfl) ?_ ?_; rotate_left; (· intro W HW; go_simp; try with_reducible rfl)
      simp only [Act.put, List.setIfInBounds_toArray, List.set_cons_zero, List.set_cons_succ]
      refine rests_take 17 (oi := _) (v := ?_) (by simp only [List.getElem?_toArray, List.getElem?_cons_succ, List.getElem?_cons_zero]; rfl) (by kernel_rfl) (by kernel_rfl) (by kernel_rfl) (by exact fun _ _ _ h => h) (HE_6.out) (by rfl) ?_ ?_; rotate_left; (· intro W HW; go_simp; try with_reducible rfl)
      simp only [Act.put, List.setIfInBounds_toArray, List.set_cons_zero, List.set_cons_succ]
      refine rests_take 19 (oi := _) (v := ?_) (by simp only [List.getElem?_toArray, List.getElem?_cons_succ, List.getElem?_cons_zero]; rfl) (by kernel_rfl) (by kernel_rfl) (by kernel_rfl) (by exact fun _ _ _ h => h) (HE_6.out) (by rfl) ?_ ?_; rotate_left; (· intro W HW; go_simp; try with_reducible rfl)
      simp only [Act.put, List.setIfInBounds_toArray, List.set_cons_zero, List.set_cons_succ]
      refine rests_take 20 (oi := _) (v := ?_) (by simp only [List.getElem?_toArray, List.getElem?_cons_succ, List.getElem?_cons_zero]; rfl) (by kernel_rfl) (by kernel_rfl) (by kernel_rfl) (by exact fun _ _ _ h => h) (HE_6.out) (by rfl) ?_ ?_; rotate_left; (· intro W HW; go_simp; try with_reducible rfl)
      simp only [Act.put, List.setIfInBounds_toArray, List.set_cons_zero, List.set_cons_succ]
      refine rests_take 21 (oi := _) (v := ?_) (by simp only [List.getElem?_toArray, List.getElem?_cons_succ, List.getElem?_cons_zero]; rfl) (by kernel_rfl) (by kernel_rfl) (by kernel_rfl) (by exact fun _ _ _ h => h) (HE_6.out) (by rfl) ?_ ?_; rotate_left; (· intro W HW; go_simp; try with_reducible rfl)
      simp only [Act.put, List.setIfInBounds_toArray, List.set_cons_zero, List.set_cons_succ]
      refine rests_done (by kernel_rfl) ?_
      go_wp2
      go_ret2
      exact putR_some HP.out HB_6.out

theorem RPutS_any (s : St) (w : World) (hf : u32 s.from_) (ht : u32 s.to_) : Calls Tryz.prog 55 #[s.val] w (PutR (putS s) w) := by
  cases hm : maySt s with
  | false => exact RPutS_none s w hm
  | true =>
    obtain ⟨fr, tt, se, co, ⟨b, si, wi, z, wa⟩⟩ := s
    exact RPutS_some fr tt se co b si wi z wa w hf ht hm
end Go.Proofs.YtcmjdbljdkabpaaGreatDoor
