/- Package xid (as landed at 554d44f): a device's word as bytes. -/
import Derived.Test.YtcmjdbljdkabpaaGreatDoorM8G
import Derived.Test.YtcmjdbljdkabpaaGreatDoorZA2
import Derived.Test.YtcmjdbljdkabpaaGreatDoorM8D
import Derived.Test.YtcmjdbljdkabpaaGreatDoorM4G

set_option linter.all false

namespace Go.Proofs.YtcmjdbljdkabpaaGreatDoor
open Go.RowKit M

set_option maxRecDepth 100000 in
set_option maxHeartbeats 2000000 in
theorem XPut_none (x : XIn) (w : World) (hm : mayX x.xd = false) : Calls Tryz.prog 47 #[x.val] w (PutR (putX x.xd) w) := by
  have hmay := fun w => XMay_all x w
  rw [hm] at hmay
  have HM := Lib.hid hmay
  have HP : Hid (putX x.xd = none) := by show putX x.xd = _; unfold putX; rw [hm]; rfl
  clear hmay hm
  obtain ⟨fr, tt, sl, sn, an, nk⟩ := x
  go_enter Tryz.func47, Tryz.ntmps47
  go_wp2_with (first
    | ((with_reducible refine wpList_boxS rfl 51 _ (.tmp 0) rfl rfl (run_boxX ⟨fr, tt, sl, sn, an, nk⟩) ?_); intro w1 hb1 hlt1 hh1; have HB1 := Lib.hid hb1; have HP1 := Lib.hid hh1; clear hb1 hh1)
    | (with_reducible refine wpList_loadB rfl 51 (.tmp 1) rfl w.heap.size rfl 51 _ HP1.out _ Tryz.underlying51 rfl (by kernel_rfl) ?_)
    | (go_at_call 49; (with_reducible refine (HM.out _).mono ?_); rintro e w2 ⟨rfl, hb⟩; have HB2 := Lib.hid (bel_trans HB1.out hb); have HE2 := Lib.hid hb; have HP2 := Lib.hid (keep_at HP1.out hb); have d5 := cell_at HP2.out 5 _ rfl; clear hb))
  go_ret2
  exact putR_none HP.out HB2.out

theorem mayL_size {s : ByteArray} (h : mayL (bl s) = true) : s.size ≤ 20 := by
  unfold mayL at h
  rw [Bool.and_eq_true, decide_eq_true_eq, bl_length] at h
  exact h.1
theorem mayX_room {x : XIn} (h : mayX x.xd = true) : x.nick.size ≤ 20 ∧ 0 ≤ x.slots ∧ x.slots < 256 := by
  have h' := (mayX_iff x).1 h
  obtain ⟨_, h1, _, h2⟩ := h'
  have := mayL_size h2
  omega
theorem putX_all (x : XIn) : (([] ++ le4 x.from_ ++ le4 x.to_) ++ midX x.anew x.slots x.slot) ++ x.nick.data.toList = bytesX x.xd := rfl
theorem rds_mid (w : World) {fl sn sl : Int} {an : Bool} (h : fl = if an then 1 else 0) (hb : ∀ n, n = (if an then 1 else 0) → (#[.int .u8 n, .int .u8 sn, .int .u8 (sl % 256)] : Array Value) = (bcs (midX an sn sl)).toArray) :
    Rds (w.alloc (.cells #[.int .u8 fl, .int .u8 sn, .int .u8 (sl % 256)] 5)) (.slice (some ⟨w.heap.size, 0, none⟩) 3 3) (midX an sn sl) := by
  rw [hb fl h]
  exact (Own.built w (midX an sn sl) 0 (Nat.zero_le _) (by simp [maxLen, midX])).rds
set_option maxRecDepth 100000 in
set_option maxHeartbeats 8000000 in
theorem XPut_some (x : XIn) (w : World) (hok : x.ok) (hm : mayX x.xd = true) : Calls Tryz.prog 47 #[x.val] w (PutR (putX x.xd) w) := by
  have hmay := fun w => XMay_all x w
  rw [hm] at hmay
  obtain ⟨hnk, hs0, hs1⟩ := mayX_room hm
  obtain ⟨hu1, hu2⟩ := XIn.u hok
  have HM := Lib.hid hmay
  have HP : Hid (putX x.xd = some (bytesX x.xd)) := by show putX x.xd = _; unfold putX; rw [hm]; rfl
  have HALL := Lib.hid (putX_all x)
  clear hmay hm hok
  obtain ⟨fr, tt, sl, sn, an, nk⟩ := x
  simp only [XIn.xd] at hnk hs0 hs1 hu1 hu2
  have HUF := Lib.hid hu1
  have HUT := Lib.hid hu2
  have HA : Hid (∀ (v : Value) (l : List UInt8) (n : Int) (w : World) (base : Nat), Own w base v l → u32 n → l.length ≤ 1000 → base ≤ w.heap.size → Calls Tryz.prog 79 #[v, .int .u32 n] w fun e w' => ∃ v', e = .returned v' ∧ Own w' base v' (l ++ le4 n) ∧ Below base w w') := by
    show ∀ _, _
    intro v l n w base h1 h2 h3 h4
    exact XaddId_any v l n base w h1 h2 h3 h4
  have HFL := Lib.hid (fun w => Xflag_any an w)
  have q1 : IntKind.u8.wrap sn = sn := IntWalk.u8_in _ (by omega)
  have q2 : IntKind.u8.wrap sl = sl % 256 := IntKind.wrap_u8 sl
  have HB3 := Lib.hid (fun n (hn : n = if an then 1 else 0) => bcs3 (sl := sl) hn ⟨hs0, hs1⟩)
  have HC11 : Hid (11 + (nk.size : Int) = ((11 + nk.size : Nat) : Int)) := by show _ = _; omega
  have hC11 : 11 + nk.size ≤ 1000000 := by omega
  obtain ⟨i0, hi0, hz0, hz1, hz2⟩ := info_parts byte_info
  clear hu1 hu2 hs0 hs1
  go_enter Tryz.func47, Tryz.ntmps47
  go_wp2_with (first
    | ((with_reducible refine wpList_boxS rfl 51 _ (.tmp 0) rfl rfl (run_boxX ⟨fr, tt, sl, sn, an, nk⟩) ?_); intro w1 hb1 hlt1 hh1; have HB1 := Lib.hid hb1; have HP1 := Lib.hid hh1; clear hb1 hh1)
    | (with_reducible refine wpList_loadB rfl 51 (.tmp 1) rfl w.heap.size rfl 51 _ HP1.out _ Tryz.underlying51 rfl (by kernel_rfl) ?_)
    | (go_at_call 49; (with_reducible refine (HM.out _).mono ?_); rintro e w2 ⟨rfl, hb⟩; have HB2 := Lib.hid (bel_trans HB1.out hb); have HE2 := Lib.hid hb; have HP2 := Lib.hid (keep_at HP1.out hb); have d5 := cell_at HP2.out 5 _ rfl; clear hb)
    | ((with_reducible refine wpList_make0 rfl (.const (.int .i64 0)) (.tmp 11) rfl .i64 .i64 (11 + (nk.size : Int)) (11 + nk.size) w1.heap.size rfl rfl HC11.out hC11 HE2.out.size ?_); intro w3 hown3 hb3 hlt3; have HO3 := Lib.hid hown3; have HE3 := Lib.hid (bel_trans HE2.out hb3); have HP3 := Lib.hid (keep_at HP1.out HE3.out); have c0 := cell_at HP3.out 0 _ rfl; clear hown3 hb3 hlt3)
    | (go_at_call 79; first | ((with_reducible refine (HA.out _ _ _ _ _ HO3.out HUF.out (by simp) HE3.out.size).mono ?_); rintro e w4 ⟨v4, rfl, ho4, hb4⟩; obtain ⟨L4, hL4⟩ : ∃ L, L = [] ++ le4 fr := ⟨_, rfl⟩; rw [← hL4] at ho4; have HL4 := Lib.hid hL4; clear hL4; have HE4 := Lib.hid (HE3.out.trans hb4); have HP4 := Lib.hid (keep_at HP1.out HE4.out); have HO4 := Lib.hid ho4; obtain ⟨A4, cap4, rfl, _⟩ := ho4.rds; have c1 := cell_at HP4.out 1 _ rfl; clear ho4 hb4) | ((with_reducible refine (HA.out _ _ _ _ _ HO4.out HUT.out (by rw [HL4.out]; simp [le4]) HE4.out.size).mono ?_); rintro e w5 ⟨v5, rfl, ho5, hb5⟩; obtain ⟨L5, hL5⟩ : ∃ L, L = L4 ++ le4 tt := ⟨_, rfl⟩; rw [← hL5] at ho5; have HL5 := Lib.hid hL5; clear hL5; have HE5 := Lib.hid (HE4.out.trans hb5); have HP5 := Lib.hid (keep_at HP1.out HE5.out); have HO5 := Lib.hid ho5; obtain ⟨A5, cap5, rfl, _⟩ := ho5.rds; clear ho5 hb5)))
  have hlt : w.heap.size < w1.heap.size := lt_at HP1.out
  have HKP : Hid (∀ W, From w1 W → W.heap[w.heap.size]? = some (.cells #[.int .u32 fr, .int .u32 tt, .int .i64 sl, .int .i64 sn, .bool an, .string nk] 51 (0, 0))) := by show ∀ _, _; exact fun W HW => keep_at HP1.out HW
  refine rests_begin (From w1) (by kernel_rfl) ?_
  refine rests_take 0 (oi := _) (v := ?_) (by simp only [List.getElem?_toArray, List.getElem?_cons_zero]; rfl) (by kernel_rfl) (by kernel_rfl) (by kernel_rfl) (by exact fun _ _ _ h => h) (HE5.out.drew) (by rfl) ?_ ?_; rotate_left; (· intro W HW; go_simp; try with_reducible rfl)
  simp only [Act.put, List.setIfInBounds_toArray, List.set_cons_zero, List.set_cons_succ]
  refine rests_take 1 (oi := _) (v := ?_) (by simp only [List.getElem?_toArray, List.getElem?_cons_succ, List.getElem?_cons_zero]; rfl) (by kernel_rfl) (by kernel_rfl) (by kernel_rfl) (by exact fun _ _ _ h => h) (HE5.out.drew) (by rfl) ?_ ?_; rotate_left; (· intro W HW; go_simp; try with_reducible rfl)
  simp only [Act.put, List.setIfInBounds_toArray, List.set_cons_zero, List.set_cons_succ]
  refine rests_take 2 (oi := _) (v := ?_) (by simp only [List.getElem?_toArray, List.getElem?_cons_succ, List.getElem?_cons_zero]; rfl) (by kernel_rfl) (by kernel_rfl) (by kernel_rfl) (by exact fun _ _ _ h => h) (HE5.out.drew) (by rfl) ?_ ?_; rotate_left; (· intro W HW; have cw4 : W.cell? ⟨w.heap.size, 4, none⟩ = some (.bool an) := cell_at (HKP.out W HW) 4 _ rfl; go_simp; try with_reducible rfl)
  simp only [Act.put, List.setIfInBounds_toArray, List.set_cons_zero, List.set_cons_succ]
  refine rests_take 4 (oi := _) (v := ?_) (by simp only [List.getElem?_toArray, List.getElem?_cons_succ, List.getElem?_cons_zero]; rfl) (by kernel_rfl) (by kernel_rfl) (by kernel_rfl) (by exact fun _ _ _ h => h) (HE5.out.drew) (by rfl) ?_ ?_; rotate_left; (· intro W HW; go_simp; try with_reducible rfl)
  simp only [Act.put, List.setIfInBounds_toArray, List.set_cons_zero, List.set_cons_succ]
  refine rests_take 5 (oi := _) (v := ?_) (by simp only [List.getElem?_toArray, List.getElem?_cons_succ, List.getElem?_cons_zero]; rfl) (by kernel_rfl) (by kernel_rfl) (by kernel_rfl) (by exact fun _ _ _ h => h) (HE5.out.drew) (by rfl) ?_ ?_; rotate_left; (· intro W HW; have cw3 : W.cell? ⟨w.heap.size, 3, none⟩ = some (.int .i64 sn) := cell_at (HKP.out W HW) 3 _ rfl; go_simp; try with_reducible rfl)
  simp only [Act.put, List.setIfInBounds_toArray, List.set_cons_zero, List.set_cons_succ]
  refine rests_take 6 (oi := _) (v := ?_) (by simp only [List.getElem?_toArray, List.getElem?_cons_succ, List.getElem?_cons_zero]; rfl) (by kernel_rfl) (by kernel_rfl) (by kernel_rfl) (by exact fun _ _ _ h => h) (HE5.out.drew) (by rfl) ?_ ?_; rotate_left; (· intro W HW; go_simp; try with_reducible rfl)
  simp only [Act.put, List.setIfInBounds_toArray, List.set_cons_zero, List.set_cons_succ]
  refine rests_take 7 (oi := _) (v := ?_) (by simp only [List.getElem?_toArray, List.getElem?_cons_succ, List.getElem?_cons_zero]; rfl) (by kernel_rfl) (by kernel_rfl) (by kernel_rfl) (by exact fun _ _ _ h => h) (HE5.out.drew) (by rfl) ?_ ?_; rotate_left; (· intro W HW; go_simp; try with_reducible rfl)
  simp only [Act.put, List.setIfInBounds_toArray, List.set_cons_zero, List.set_cons_succ]
  refine rests_take 8 (oi := _) (v := ?_) (by simp only [List.getElem?_toArray, List.getElem?_cons_succ, List.getElem?_cons_zero]; rfl) (by kernel_rfl) (by kernel_rfl) (by kernel_rfl) (by exact fun _ _ _ h => h) (HE5.out.drew) (by rfl) ?_ ?_; rotate_left; (· intro W HW; have cw2 : W.cell? ⟨w.heap.size, 2, none⟩ = some (.int .i64 sl) := cell_at (HKP.out W HW) 2 _ rfl; go_simp; try with_reducible rfl)
  simp only [Act.put, List.setIfInBounds_toArray, List.set_cons_zero, List.set_cons_succ]
  refine rests_take 9 (oi := _) (v := ?_) (by simp only [List.getElem?_toArray, List.getElem?_cons_succ, List.getElem?_cons_zero]; rfl) (by kernel_rfl) (by kernel_rfl) (by kernel_rfl) (by exact fun _ _ _ h => h) (HE5.out.drew) (by rfl) ?_ ?_; rotate_left; (· intro W HW; go_simp; try with_reducible rfl)
  simp only [Act.put, List.setIfInBounds_toArray, List.set_cons_zero, List.set_cons_succ]
  refine rests_call 3 (oi := _) (by simp only [List.getElem?_toArray, List.getElem?_cons_succ, List.getElem?_cons_zero]; rfl) 80 #[.bool an] _ (by kernel_rfl) (by rfl) (by go_simp) (HFL.out w5.drew) ?_
  rintro e w6 ⟨rfl, rfl⟩; refine ⟨_, rfl, HE5.out.drew, ?_⟩; obtain ⟨fl, hfl⟩ : ∃ fl : Int, fl = (if an then 1 else 0) := ⟨_, rfl⟩; rw [← hfl]; have HFLG := Lib.hid hfl; clear hfl
  simp only [Act.put, List.setIfInBounds_toArray, List.set_cons_zero, List.set_cons_succ]
  refine rests_run 10 (oi := _) (by simp only [List.getElem?_toArray, List.getElem?_cons_succ, List.getElem?_cons_zero]; rfl) (by kernel_rfl) (by rfl) (.slice (some ⟨w5.drew.heap.size, 0, none⟩) 3 3) (w5.drew.alloc (.cells #[.int .u8 fl, .int .u8 sn, .int .u8 (sl % 256)] 5)) (by go_simp) ⟨bal HE5.out.drew _, ?_⟩
  simp only [Act.put, List.setIfInBounds_toArray, List.set_cons_zero, List.set_cons_succ]
  refine rests_app 11 (oi := _) (by simp only [List.getElem?_toArray, List.getElem?_cons_succ, List.getElem?_cons_zero]; rfl) (.tmp 21) (.tmp 31) (by kernel_rfl) (by rfl) rfl w1.heap.size _ _ L5 (midX an sn sl) rfl rfl (HO5.out.below (w := w5) (bal (bel0 w5).drew _)) (rds_mid w5.drew HFLG.out HB3.out) (by rw [HL5.out, HL4.out]; simp [le4, midX]) (bal HE5.out.drew _).size ?_
  intro u6 w6 hown6 hg6 hat6; have HE6 := Lib.hid ((bal HE5.out.drew (.cells #[.int .u8 fl, .int .u8 sn, .int .u8 (sl % 256)] 5)).grown hg6 (bal HE5.out.drew _).size (fun k hk => (HO5.out.lt k hk).1)); have HP6 := Lib.hid (keep_at HP1.out HE6.out); obtain ⟨L6, hL6⟩ : ∃ L, L = L5 ++ midX an sn sl := ⟨_, rfl⟩; rw [← hL6] at hown6; have HL6 := Lib.hid hL6; have HO6 := Lib.hid hown6; obtain ⟨A6, cap6, rfl, _⟩ := hown6.rds; refine ⟨HE6.out, ?_⟩; clear hL6 hown6 hg6 hat6
  simp only [Act.put, List.setIfInBounds_toArray, List.set_cons_zero, List.set_cons_succ]
  refine rests_take 12 (oi := _) (v := ?_) (by simp only [List.getElem?_toArray, List.getElem?_cons_succ, List.getElem?_cons_zero]; rfl) (by kernel_rfl) (by kernel_rfl) (by kernel_rfl) (by exact fun _ _ _ h => h) (HE6.out) (by rfl) ?_ ?_; rotate_left; (· intro W HW; go_simp; try with_reducible rfl)
  simp only [Act.put, List.setIfInBounds_toArray, List.set_cons_zero, List.set_cons_succ]
  refine rests_done (by kernel_rfl) ?_
  have e5 := cell_at HP6.out 5 _ rfl
  have HLL : Hid (L6.length = 11) := by show _ = _; rw [HL6.out, HL5.out, HL4.out]; rfl
  go_wp2_with (first
    | (at_builtin
       refine Lib.wpList_append_own_string _ rfl (.tmp 33) (.tmp 35) 46 9 rfl w1.heap.size 5 i0 Tryz.underlying46 Tryz.underlying9 hi0 hz0 hz1 hz2 _ L6.length _ rfl HO6.out nk rfl (by have := HLL.out; unfold maxLen; omega) (by have := HLL.out; omega) HE6.out.size ?_
       intro u7 w7 hown7 hg7 _hnil
       have h7 : Own w7 w1.heap.size u7 (L6 ++ nk.data.toList) := (by
         unfold Own
         rw [bcs_append, List.length_append, len_data]
         exact hown7)
       have HO7 := Lib.hid h7
       have HE7 := Lib.hid (HE6.out.grown hg7 HE6.out.size (fun k hk => (HO6.out.lt k hk).1))
       clear h7 hown7 hg7 _hnil)
    | (with_reducible refine wpList_strB rfl (.tmp 36) rfl u7 (L6 ++ nk.data.toList) rfl HO7.out.rds ?_))
  go_ret2
  refine ⟨?_, HB1.out.trans (HE7.out.mono (Nat.le_of_lt hlt))⟩
  have hb := HALL.out
  rw [HP.out, ← hb, HL6.out, HL5.out, HL4.out]
  rfl
theorem XPut_any (x : XIn) (w : World) (hx : x.ok) : Calls Tryz.prog 47 #[x.val] w (PutR (putX x.xd) w) := by
  rcases h : mayX x.xd with _ | _
  · exact XPut_none x w h
  · exact XPut_some x w hx h
end Go.Proofs.YtcmjdbljdkabpaaGreatDoor
