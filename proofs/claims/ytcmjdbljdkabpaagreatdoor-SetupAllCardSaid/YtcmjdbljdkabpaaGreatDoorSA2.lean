/- Package setup (as landed at 3ea5f42): a beginning as bytes. -/
import Derived.Test.YtcmjdbljdkabpaaGreatDoorSA1
import Derived.Test.YtcmjdbljdkabpaaGreatDoorZA2
import Derived.Test.YtcmjdbljdkabpaaGreatDoorZA3
import Derived.Test.YtcmjdbljdkabpaaGreatDoorM8E
import Derived.Test.YtcmjdbljdkabpaaGreatDoorM8K

set_option linter.all false

namespace Go.Proofs.YtcmjdbljdkabpaaGreatDoor
open Go.RowKit M

set_option maxRecDepth 100000 in
set_option maxHeartbeats 2000000 in
theorem SPut_poor (fr tt se co b si wi z wa : Int) (w : World) (hok : Of5.ok ⟨b, si, wi, z, wa⟩) (hm : mayO ⟨b, si, wi, z, wa⟩ = false) : Calls Tryz.prog 54 #[.agg #[.int .u32 fr, .int .u32 tt, .int .i64 se, .int .i64 co, .int .i64 b, .int .i64 si, .int .i64 wi, .int .i64 z, .int .i64 wa]] w (PutR (putS ⟨fr, tt, se, co, ⟨b, si, wi, z, wa⟩⟩) w) := by
  have hpo := fun w => QPut_any ⟨b, si, wi, z, wa⟩ w hok
  unfold PutR at hpo
  rw [show putO ⟨b, si, wi, z, wa⟩ = none by unfold putO; rw [hm]; rfl] at hpo
  simp only [Option.getD_none, Option.isSome_none] at hpo
  have HPO := Lib.hid hpo
  have HP : Hid (putS ⟨fr, tt, se, co, ⟨b, si, wi, z, wa⟩⟩ = none) := by show putS _ = _; unfold putS; rw [maySt_fine]; simp only; rw [hm, Bool.and_false]; rfl
  clear hpo hm hok
  go_enter Tryz.func54, Tryz.ntmps54
  go_wp2_with (first
    | ((with_reducible refine wpList_boxS rfl 64 _ (.tmp 0) rfl rfl (run_boxS ⟨fr, tt, se, co, ⟨b, si, wi, z, wa⟩⟩) ?_); intro w1 hb1 hlt1 hh1; have HB1 := Lib.hid hb1; have HP1 := Lib.hid hh1; have c4 : w1.cell? ⟨w.heap.size, 4, none⟩ = some (.int .i64 b) := cell_at hh1 4 _ rfl; have c5 : w1.cell? ⟨w.heap.size, 5, none⟩ = some (.int .i64 si) := cell_at hh1 5 _ rfl; have c6 : w1.cell? ⟨w.heap.size, 6, none⟩ = some (.int .i64 wi) := cell_at hh1 6 _ rfl; have c7 : w1.cell? ⟨w.heap.size, 7, none⟩ = some (.int .i64 z) := cell_at hh1 7 _ rfl; have c8 : w1.cell? ⟨w.heap.size, 8, none⟩ = some (.int .i64 wa) := cell_at hh1 8 _ rfl; clear hb1 hh1)
    | (go_at_call 23; (with_reducible refine (HPO.out _).mono ?_); rintro e w2 ⟨rfl, hb⟩; have HB2 := Lib.hid (bel_trans HB1.out hb); have HP2 := Lib.hid (keep_at HP1.out hb); clear hb))
  go_ret2
  exact putR_none HP.out HB2.out
set_option maxRecDepth 100000 in
set_option maxHeartbeats 2000000 in
theorem SPut_bad (fr tt se co b si wi z wa : Int) (w : World) (hok : Of5.ok ⟨b, si, wi, z, wa⟩) (hm : mayO ⟨b, si, wi, z, wa⟩ = true) (hn : fineS ⟨fr, tt, se, co, ⟨b, si, wi, z, wa⟩⟩ = false) : Calls Tryz.prog 54 #[.agg #[.int .u32 fr, .int .u32 tt, .int .i64 se, .int .i64 co, .int .i64 b, .int .i64 si, .int .i64 wi, .int .i64 z, .int .i64 wa]] w (PutR (putS ⟨fr, tt, se, co, ⟨b, si, wi, z, wa⟩⟩) w) := by
  have hpo := fun w => QPut_any ⟨b, si, wi, z, wa⟩ w hok
  unfold PutR at hpo
  rw [show putO ⟨b, si, wi, z, wa⟩ = some (bytesO ⟨b, si, wi, z, wa⟩) by unfold putO; rw [if_pos hm]] at hpo
  simp only [Option.getD_some, Option.isSome_some] at hpo
  have hfi := fun w => SareFine_any ⟨fr, tt, se, co, ⟨b, si, wi, z, wa⟩⟩ w
  rw [hn] at hfi
  have HM := Lib.hid hfi
  have HP : Hid (putS ⟨fr, tt, se, co, ⟨b, si, wi, z, wa⟩⟩ = none) := by show putS _ = _; unfold putS; rw [maySt_fine, hn]; rfl
  have HPO := Lib.hid hpo
  clear hpo hm hn hok hfi
  go_enter Tryz.func54, Tryz.ntmps54
  go_wp2_with (first
    | ((with_reducible refine wpList_boxS rfl 64 _ (.tmp 0) rfl rfl (run_boxS ⟨fr, tt, se, co, ⟨b, si, wi, z, wa⟩⟩) ?_); intro w1 hb1 hlt1 hh1; have HB1 := Lib.hid hb1; have HP1 := Lib.hid hh1; have c4 : w1.cell? ⟨w.heap.size, 4, none⟩ = some (.int .i64 b) := cell_at hh1 4 _ rfl; have c5 : w1.cell? ⟨w.heap.size, 5, none⟩ = some (.int .i64 si) := cell_at hh1 5 _ rfl; have c6 : w1.cell? ⟨w.heap.size, 6, none⟩ = some (.int .i64 wi) := cell_at hh1 6 _ rfl; have c7 : w1.cell? ⟨w.heap.size, 7, none⟩ = some (.int .i64 z) := cell_at hh1 7 _ rfl; have c8 : w1.cell? ⟨w.heap.size, 8, none⟩ = some (.int .i64 wa) := cell_at hh1 8 _ rfl; clear hb1 hh1)
    | (go_at_call 23; (with_reducible refine (HPO.out _).mono ?_); rintro e w2 ⟨rfl, hb⟩; have HB2 := Lib.hid (bel_trans HB1.out hb); have HP2 := Lib.hid (keep_at HP1.out hb); clear hb)
    | (with_reducible refine wpList_loadG (by kernel_rfl) 64 (.tmp 1) rfl w.heap.size rfl 64 #[.int .u32 fr, .int .u32 tt, .int .i64 se, .int .i64 co, .int .i64 b, .int .i64 si, .int .i64 wi, .int .i64 z, .int .i64 wa] HP2.out _ Tryz.underlying64 rfl (by kernel_rfl) ?_)
    | (go_at_call 94; (with_reducible refine (HM.out _).mono ?_); rintro e w3 ⟨rfl, hb⟩; have HB3 := Lib.hid (bel_trans HB2.out hb); have HP3 := Lib.hid (keep_at HP2.out hb); clear hb))
  go_ret2
  exact putR_none HP.out HB3.out
set_option maxRecDepth 100000 in
set_option maxHeartbeats 8000000 in
theorem SPut_some (fr tt se co b si wi z wa : Int) (w : World) (hok : Of5.ok ⟨b, si, wi, z, wa⟩) (hf : u32 fr) (ht : u32 tt) (hm : mayO ⟨b, si, wi, z, wa⟩ = true) (hn : fineS ⟨fr, tt, se, co, ⟨b, si, wi, z, wa⟩⟩ = true) : Calls Tryz.prog 54 #[.agg #[.int .u32 fr, .int .u32 tt, .int .i64 se, .int .i64 co, .int .i64 b, .int .i64 si, .int .i64 wi, .int .i64 z, .int .i64 wa]] w (PutR (putS ⟨fr, tt, se, co, ⟨b, si, wi, z, wa⟩⟩) w) := by
  have hpo := fun w => QPut_any ⟨b, si, wi, z, wa⟩ w hok
  unfold PutR at hpo
  rw [show putO ⟨b, si, wi, z, wa⟩ = some (bytesO ⟨b, si, wi, z, wa⟩) by unfold putO; rw [if_pos hm]] at hpo
  simp only [Option.getD_some, Option.isSome_some] at hpo
  have hfi := fun w => SareFine_any ⟨fr, tt, se, co, ⟨b, si, wi, z, wa⟩⟩ w
  rw [hn] at hfi
  have HM := Lib.hid hfi
  have hi : (0 ≤ se ∧ se < 8) ∧ (0 ≤ co ∧ co ≤ 249) := by
    unfold fineS addrOk at hn
    simp only [Bool.and_eq_true, decide_eq_true_eq] at hn
    exact hn.2
  have HP : Hid (putS ⟨fr, tt, se, co, ⟨b, si, wi, z, wa⟩⟩ = some (headS ⟨fr, tt, se, co, ⟨b, si, wi, z, wa⟩⟩ ++ bytesO ⟨b, si, wi, z, wa⟩)) := by show putS _ = _; unfold putS; rw [maySt_fine, hn]; simp only; rw [hm]; rfl
  obtain ⟨B, hB⟩ : ∃ B : ByteArray, B = ⟨(bytesO ⟨b, si, wi, z, wa⟩).toArray⟩ := ⟨_, rfl⟩
  rw [← hB] at hpo
  have hBs : B.size ≤ 20 := by rw [hB]; show (bytesO ⟨b, si, wi, z, wa⟩).toArray.size ≤ 20; rw [List.size_toArray]; exact (by decide : 15 ≤ 20)
  have HALL : Hid ((([] ++ le4 fr ++ le4 tt) ++ midS se co) ++ B.data.toList = headS ⟨fr, tt, se, co, ⟨b, si, wi, z, wa⟩⟩ ++ bytesO ⟨b, si, wi, z, wa⟩) := by show _ = _; rw [hB]; rfl
  have HPO := Lib.hid hpo
  have e1 : IntKind.u8.wrap se = se := IntWalk.u8_in _ (by omega)
  have e2 : IntKind.u8.wrap co = co := IntWalk.u8_in _ (by omega)
  have hbc := bcs2 (se := se) (co := co) (by omega) (by omega)
  have HRD : Hid (∀ (W : World) (g : Nat), W.heap[g]? = some (.cells #[.int .u8 se, .int .u8 co] 5 (0, 0)) → Rds W (.slice (some ⟨g, 0, none⟩) 2 2) (midS se co)) := by
    show ∀ _ _, _
    intro W g h
    rw [hbc] at h
    exact rds_new (l := midS se co) h (by show 2 ≤ 1000000; decide)
  have HUF := Lib.hid hf
  have HUT := Lib.hid ht
  have HA : Hid (∀ (v : Value) (l : List UInt8) (n : Int) (w : World) (base : Nat), Own w base v l → u32 n → l.length ≤ 1000 → base ≤ w.heap.size → Calls Tryz.prog 79 #[v, .int .u32 n] w fun e w' => ∃ v', e = .returned v' ∧ Own w' base v' (l ++ le4 n) ∧ Below base w w') := by
    show ∀ _, _
    intro v l n w base h1 h2 h3 h4
    exact XaddId_any v l n base w h1 h2 h3 h4
  have HC10 : Hid (10 + (B.size : Int) = ((10 + B.size : Nat) : Int)) := by show _ = _; omega
  have hC10 : 10 + B.size ≤ 1000000 := by omega
  obtain ⟨i0, hi0, hz0, hz1, hz2⟩ := info_parts byte_info
  clear hpo hm hn hok hfi hi hf ht hbc hB
  go_enter Tryz.func54, Tryz.ntmps54
  go_wp2_with (first
    | ((with_reducible refine wpList_boxS rfl 64 _ (.tmp 0) rfl rfl (run_boxS ⟨fr, tt, se, co, ⟨b, si, wi, z, wa⟩⟩) ?_); intro w1 hb1 hlt1 hh1; have HB1 := Lib.hid hb1; have HP1 := Lib.hid hh1; have c4 : w1.cell? ⟨w.heap.size, 4, none⟩ = some (.int .i64 b) := cell_at hh1 4 _ rfl; have c5 : w1.cell? ⟨w.heap.size, 5, none⟩ = some (.int .i64 si) := cell_at hh1 5 _ rfl; have c6 : w1.cell? ⟨w.heap.size, 6, none⟩ = some (.int .i64 wi) := cell_at hh1 6 _ rfl; have c7 : w1.cell? ⟨w.heap.size, 7, none⟩ = some (.int .i64 z) := cell_at hh1 7 _ rfl; have c8 : w1.cell? ⟨w.heap.size, 8, none⟩ = some (.int .i64 wa) := cell_at hh1 8 _ rfl; clear hb1 hh1)
    | (go_at_call 23; (with_reducible refine (HPO.out _).mono ?_); rintro e w2 ⟨rfl, hb⟩; have HB2 := Lib.hid (bel_trans HB1.out hb); have HP2 := Lib.hid (keep_at HP1.out hb); clear hb)
    | (with_reducible refine wpList_loadG (by kernel_rfl) 64 (.tmp 1) rfl w.heap.size rfl 64 #[.int .u32 fr, .int .u32 tt, .int .i64 se, .int .i64 co, .int .i64 b, .int .i64 si, .int .i64 wi, .int .i64 z, .int .i64 wa] HP2.out _ Tryz.underlying64 rfl (by kernel_rfl) ?_)
    | (go_at_call 94; (with_reducible refine (HM.out _).mono ?_); rintro e w3 ⟨rfl, hb⟩; have HB3 := Lib.hid (bel_trans HB2.out hb); have HP3 := Lib.hid (keep_at HP2.out hb); clear hb)
    | ((with_reducible refine wpList_make0 rfl (.const (.int .i64 0)) (.tmp 22) rfl .i64 .i64 (10 + (B.size : Int)) (10 + B.size) w3.heap.size rfl rfl HC10.out hC10 (Nat.le_refl _) ?_); intro w4 hown4 hb4 hlt4; have HO4 := Lib.hid hown4; have HE4 := Lib.hid hb4; have HP4 := Lib.hid (keep_at HP3.out hb4); have c0 : w4.cell? ⟨w.heap.size, 0, none⟩ = some (.int .u32 fr) := cell_at HP4.out 0 _ rfl; clear hown4 hb4 hlt4)
    | (go_at_call 79; first | ((with_reducible refine (HA.out _ _ _ _ _ HO4.out HUF.out (by simp) HE4.out.size).mono ?_); rintro e w5 ⟨v5, rfl, ho5, hb5⟩; obtain ⟨L5, hL5⟩ : ∃ L, L = [] ++ le4 fr := ⟨_, rfl⟩; rw [← hL5] at ho5; have HL5 := Lib.hid hL5; clear hL5; have HE5 := Lib.hid (HE4.out.trans hb5); have HP5 := Lib.hid (keep_at HP3.out HE5.out); have HO5 := Lib.hid ho5; obtain ⟨A5, cap5, rfl, _⟩ := ho5.rds; have c1 : w5.cell? ⟨w.heap.size, 1, none⟩ = some (.int .u32 tt) := cell_at HP5.out 1 _ rfl; clear ho5 hb5) | ((with_reducible refine (HA.out _ _ _ _ _ HO5.out HUT.out (by rw [HL5.out]; simp [le4]) HE5.out.size).mono ?_); rintro e w6 ⟨v6, rfl, ho6, hb6⟩; obtain ⟨L6, hL6⟩ : ∃ L, L = L5 ++ le4 tt := ⟨_, rfl⟩; rw [← hL6] at ho6; have HL6 := Lib.hid hL6; clear hL6; have HE6 := Lib.hid (HE5.out.trans hb6); have HP6 := Lib.hid (keep_at HP3.out HE6.out); have HO6 := Lib.hid ho6; obtain ⟨A6, cap6, rfl, _⟩ := ho6.rds; have c2 : w6.cell? ⟨w.heap.size, 2, none⟩ = some (.int .i64 se) := cell_at HP6.out 2 _ rfl; have c3 : w6.cell? ⟨w.heap.size, 3, none⟩ = some (.int .i64 co) := cell_at HP6.out 3 _ rfl; clear ho6 hb6))
    | (at_builtin; refine wpList_app rfl (.tmp 32) (.tmp 41) rfl w3.heap.size _ (.slice (some ⟨w6.heap.size, 0, none⟩) 2 2) L6 (midS se co) rfl rfl (HO6.out.alloc _) (HRD.out _ _ (heap_alloc_new w6 _)) (by rw [HL6.out, HL5.out]; simp [le4, midS]) (by have := HE6.out.size; simp; omega) ?_; intro u7 w7 hown7 hg7 hat7; have HE7 := Lib.hid ((HE6.out.alloc HE6.out.size _).grown hg7 (by have := HE6.out.size; simp; omega) (fun k hk => (HO6.out.lt k hk).1)); obtain ⟨L7, hL7⟩ : ∃ L, L = L6 ++ midS se co := ⟨_, rfl⟩; rw [← hL7] at hown7; have HL7 := Lib.hid hL7; have HO7 := Lib.hid hown7; obtain ⟨A7, cap7, rfl, _⟩ := hown7.rds; have HLL : Hid (L7.length = 10) := (by show _ = _; rw [HL7.out, HL6.out, HL5.out]; rfl); clear hL7 hown7 hg7 hat7)
    | (at_builtin
       refine Lib.wpList_append_own_string _ rfl (.tmp 43) (.tmp 44) 46 9 rfl w3.heap.size 5 i0 Tryz.underlying46 Tryz.underlying9 hi0 hz0 hz1 hz2 _ L7.length _ rfl HO7.out B rfl (by have := HLL.out; unfold maxLen; omega) (by have := HLL.out; omega) HE7.out.size ?_
       intro u8 w8 hown8 hg8 _hnil
       have h8 : Own w8 w3.heap.size u8 (L7 ++ B.data.toList) := (by
         unfold Own
         rw [bcs_append, List.length_append, len_data]
         exact hown8)
       have HO8 := Lib.hid h8
       have HE8 := Lib.hid (HE7.out.grown hg8 HE7.out.size (fun k hk => (HO7.out.lt k hk).1))
       clear h8 hown8 hg8 _hnil)
    | (with_reducible refine wpList_strB rfl (.tmp 45) rfl u8 (L7 ++ B.data.toList) rfl HO8.out.rds ?_))
  go_ret2
  have hlt : w.heap.size ≤ w3.heap.size := Nat.le_of_lt (lt_at HP3.out)
  refine ⟨?_, HB3.out.trans (HE8.out.mono hlt)⟩
  have hb := HALL.out
  rw [HP.out, ← hb, HL7.out, HL6.out, HL5.out]
  rfl
theorem SPut_any (s : St) (w : World) (hs : s.ok) : Calls Tryz.prog 54 #[s.val] w (PutR (putS s) w) := by
  obtain ⟨hu1, hu2⟩ := St.u hs
  have hok : s.o.ok := hs.2.2.2.2
  obtain ⟨fr, tt, se, co, ⟨b, si, wi, z, wa⟩⟩ := s
  cases hm : mayO ⟨b, si, wi, z, wa⟩ with
  | false => exact SPut_poor fr tt se co b si wi z wa w hok hm
  | true =>
    cases hn : fineS ⟨fr, tt, se, co, ⟨b, si, wi, z, wa⟩⟩ with
    | false => exact SPut_bad fr tt se co b si wi z wa w hok hm hn
    | true => exact SPut_some fr tt se co b si wi z wa w hok hu1 hu2 hm hn
end Go.Proofs.YtcmjdbljdkabpaaGreatDoor
