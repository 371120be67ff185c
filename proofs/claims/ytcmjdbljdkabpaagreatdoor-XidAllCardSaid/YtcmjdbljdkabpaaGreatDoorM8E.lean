/- Of layer 8: QA3, Ref8d. -/
import Derived.Test.YtcmjdbljdkabpaaGreatDoorM8C
import Derived.Test.YtcmjdbljdkabpaaGreatDoorM4J
import Derived.Test.YtcmjdbljdkabpaaGreatDoorM4B
import Derived.Test.YtcmjdbljdkabpaaGreatDoorM8D
import Derived.Test.YtcmjdbljdkabpaaGreatDoorM4I
import Derived.Test.YtcmjdbljdkabpaaGreatDoorM4H

set_option linter.all false

namespace Go.Proofs.YtcmjdbljdkabpaaGreatDoor
open Go.RowKit M

theorem rdT_new {w : World} {g : Nat} {l : List Tp} {cs : Array Value} {t : TypeId} (hg : w.heap[g]? = some (.cells cs t (0, 0))) (hcs : cs = (tcs l).toArray) (hl : l.length ≤ maxLen) : RdT w (.slice (some ⟨g, 0, none⟩) l.length l.length) l := by
  subst hcs
  refine ⟨some ⟨g, 0, none⟩, l.length, rfl, Nat.le_refl _, hl, fun _ => ⟨g, 0, rfl, lt_at hg, fun j u hu => ?_⟩⟩
  rw [Nat.zero_add]
  exact cell_at hg j u (by simpa using hu)
theorem results_cell1 {P : Program} {fn : Func} {p : Tmp} {ty : TypeId} (h : fn.results = #[.cell p ty]) (tmps : Array Value) (w : World) (g : Nat) (t : TypeId) (cs : Array Value) (fr : Nat × Nat) (d : TypeDesc)
    (hp : tmps.getD p undef = .pointer (some ⟨g, 0, none⟩)) (hg : w.heap[g]? = some (.cells cs t fr))
    (hu : P.underlying ty = some d) (hd : (match d with | .struct _ | .array _ _ => true | _ => false) = true) (hi : (P.info? ty).map (·.size) = some cs.size) :
    (results fn tmps).run P w = .ok (.agg cs) w := by
  have hp' : tmps[p]?.getD undef = .pointer (some ⟨g, 0, none⟩) := by simpa using hp
  simp [results, h, hp', asAddr, run_loadVar_row w g t ty cs fr d hg hu hd hi]
set_option maxRecDepth 100000 in
set_option maxHeartbeats 2000000 in
theorem Qone_any (id n : Int) (w : World) (hn : 0 ≤ n ∧ n < 256) : Calls Tryz.prog 62 #[.int .i64 id, .int .i64 n] w fun e w' => e = .returned (.agg #[.int .i64 id, .string ⟨[by8 n].toArray⟩]) ∧ Below w.heap.size w w' := by
  have e1 : IntKind.u8.wrap n = n := IntWalk.u8_in _ (by omega)
  have HBC : Hid ((#[.int .u8 n] : Array Value) = (bcs [by8 n]).toArray) := by
    show _ = (#[bc (by8 n)] : Array Value)
    rw [by8_bc hn]
  have HONE : Hid ((#[.int .i64 id, .string ⟨[by8 n].toArray⟩] : Array Value).all (·.oneCell') = true) := by show _ = true; simp [Value.oneCell']
  have HR : Hid (((w.alloc (.cells #[.int .i64 0, .string ⟨#[]⟩] 39)).alloc (.cells #[.int .u8 n] 5)).heap[w.heap.size]? = some (.cells #[.int .i64 0, .string ⟨#[]⟩] 39 (0, 0))) := keep_at (heap_alloc_new w _) (bal (bel0 _) _)
  have HB : Hid (Below w.heap.size w ((w.alloc (.cells #[.int .i64 0, .string ⟨#[]⟩] 39)).alloc (.cells #[.int .u8 n] 5))) := bal (bal (bel0 w) _) _
  clear hn
  go_enter Tryz.func62, Tryz.ntmps62
  go_wp2_with (first
    | ((with_reducible refine wpList_strB rfl (.tmp 8) rfl (.slice (some ⟨w.heap.size + 1, 0, none⟩) 1 1) [by8 n] rfl ?hu ?_); case hu => (rw [HBC.out]; exact (Own.built2 w _ [by8 n] 0 (by omega) (by simp [maxLen])).rds))
    | ((with_reducible refine wpList_storeB rfl 39 (.tmp 4) _ rfl w.heap.size #[.int .i64 id, .string ⟨[by8 n].toArray⟩] rfl rfl 39 _ HR.out (by kernel_rfl) (by kernel_rfl) HONE.out ?_); intro w6 hg6 hz6 hh6; have HB6 := Lib.hid (bel_grown HB.out hg6 (Nat.le_refl _)); have HR6 := Lib.hid hh6; clear hg6 hz6 hh6))
  exact ⟨rfl, _, results_cell1 rfl _ _ w.heap.size _ _ _ _ rfl HR6.out Tryz.underlying39 rfl (by kernel_rfl), rfl, HB6.out⟩
theorem tcs_five (b s wi z wa : Int) : (#[.int .i64 1, .string ⟨[by8 b].toArray⟩, .int .i64 2, .string ⟨[by8 s].toArray⟩, .int .i64 3, .string ⟨[by8 wi].toArray⟩, .int .i64 4, .string ⟨[by8 z].toArray⟩, .int .i64 5, .string ⟨[by8 wa].toArray⟩] : Array Value) = (tcs (fiveT ⟨b, s, wi, z, wa⟩)).toArray := rfl
set_option maxRecDepth 100000 in
set_option maxHeartbeats 8000000 in
theorem QPut_some (b s wi z wa : Int) (w : World) (ho : Of5.ok ⟨b, s, wi, z, wa⟩) (hm : mayO ⟨b, s, wi, z, wa⟩ = true) : Calls Tryz.prog 23 #[.agg #[.int .i64 b, .int .i64 s, .int .i64 wi, .int .i64 z, .int .i64 wa]] w (PutR (putO ⟨b, s, wi, z, wa⟩) w) := by
  have hmay := fun w => QMay_any ⟨b, s, wi, z, wa⟩ w ho
  rw [hm] at hmay
  have HM := Lib.hid hmay
  have HP : Hid (putO ⟨b, s, wi, z, wa⟩ = some (bytesO ⟨b, s, wi, z, wa⟩)) := by show putO _ = _; unfold putO; rw [if_pos hm]
  obtain ⟨h1, h2, h3, h4, h5⟩ := mayO_parts hm
  simp only at h1 h2 h3 h4 h5
  have H1 := Lib.hid (fun w => Qone_any 1 b w (by omega))
  have H2 := Lib.hid (fun w => Qone_any 2 s w (by omega))
  have H3 := Lib.hid (fun w => Qone_any 3 wi w (by omega))
  have H4 := Lib.hid (fun w => Qone_any 4 z w (by omega))
  have H5 := Lib.hid (fun w => Qone_any 5 wa w (by omega))
  have HTP : Hid (∀ (W : World) (g : Nat), W.heap[g]? = some (.cells #[.int .i64 1, .string ⟨[by8 b].toArray⟩, .int .i64 2, .string ⟨[by8 s].toArray⟩, .int .i64 3, .string ⟨[by8 wi].toArray⟩, .int .i64 4, .string ⟨[by8 z].toArray⟩, .int .i64 5, .string ⟨[by8 wa].toArray⟩] 39 (0, 0)) → Calls Tryz.prog 41 #[.slice (some ⟨g, 0, none⟩) 5 5] W fun e w' => e = .returned (.tuple #[.string ⟨(bytesO ⟨b, s, wi, z, wa⟩).toArray⟩, .bool true]) ∧ Below W.heap.size W w') := by
    show ∀ _ _, _
    intro W g hg
    have hr : RdT W (.slice (some ⟨g, 0, none⟩) 5 5) (fiveT ⟨b, s, wi, z, wa⟩) := rdT_new hg (tcs_five b s wi z wa) (by show 5 ≤ maxLen; unfold maxLen; decide)
    have h := TPut_any _ _ W hr (by show 5 ≤ 1000; decide) (fun t ht => by
      have := (five_ok ⟨b, s, wi, z, wa⟩ t ht).2.2
      omega)
    unfold PutTP at h
    rw [putT_five] at h
    exact h
  clear hmay hm ho h1 h2 h3 h4 h5
  go_enter Tryz.func23, Tryz.ntmps23
  go_wp2_with (first
    | ((with_reducible refine wpList_boxS rfl 23 _ (.tmp 0) rfl rfl (run_boxOf ⟨b, s, wi, z, wa⟩) ?_); intro w1 hb1 hlt1 hh1; have HB1 := Lib.hid hb1; have HH1 := Lib.hid hh1; clear hb1 hh1)
    | (with_reducible refine wpList_loadB rfl 23 (.tmp 1) rfl w.heap.size rfl 23 _ HH1.out _ Tryz.underlying23 rfl (by kernel_rfl) ?_)
    | (go_at_call 25; (with_reducible refine (HM.out _).mono ?_); rintro e w2 ⟨rfl, hb⟩; have HB_2 := Lib.hid (bel_trans HB1.out hb).drew; have HP2 := Lib.hid (keep_at HH1.out hb); clear hb))
  have HE_2 := Lib.hid (bel0 w2).drew
  have HKP : Hid (∀ W, From w2 W → W.heap[w.heap.size]? = some (.cells #[.int .i64 b, .int .i64 s, .int .i64 wi, .int .i64 z, .int .i64 wa] 23 (0, 0))) := by show ∀ _, _; exact fun W HW => keep_at HP2.out HW
  refine rests_begin (From w2) (by kernel_rfl) ?_
  refine rests_take 0 (oi := _) (v := ?_) (by simp only [List.getElem?_toArray, List.getElem?_cons_zero]; rfl) (by kernel_rfl) (by kernel_rfl) (by kernel_rfl) (by exact fun _ _ _ h => h) (HE_2.out) (by rfl) ?_ ?_; rotate_left; (· intro W HW; go_simp; try with_reducible rfl)
  simp only [Act.put, List.setIfInBounds_toArray, List.set_cons_zero, List.set_cons_succ]
  refine rests_take 1 (oi := _) (v := ?_) (by simp only [List.getElem?_toArray, List.getElem?_cons_succ, List.getElem?_cons_zero]; rfl) (by kernel_rfl) (by kernel_rfl) (by kernel_rfl) (by exact fun _ _ _ h => h) (HE_2.out) (by rfl) ?_ ?_; rotate_left; (· intro W HW; have cw0 : W.cell? ⟨w.heap.size, 0, none⟩ = some (.int .i64 b) := cell_at (HKP.out W HW) 0 _ rfl; go_simp; try with_reducible rfl)
  simp only [Act.put, List.setIfInBounds_toArray, List.set_cons_zero, List.set_cons_succ]
  refine rests_take 3 (oi := _) (v := ?_) (by simp only [List.getElem?_toArray, List.getElem?_cons_succ, List.getElem?_cons_zero]; rfl) (by kernel_rfl) (by kernel_rfl) (by kernel_rfl) (by exact fun _ _ _ h => h) (HE_2.out) (by rfl) ?_ ?_; rotate_left; (· intro W HW; go_simp; try with_reducible rfl)
  simp only [Act.put, List.setIfInBounds_toArray, List.set_cons_zero, List.set_cons_succ]
  refine rests_take 4 (oi := _) (v := ?_) (by simp only [List.getElem?_toArray, List.getElem?_cons_succ, List.getElem?_cons_zero]; rfl) (by kernel_rfl) (by kernel_rfl) (by kernel_rfl) (by exact fun _ _ _ h => h) (HE_2.out) (by rfl) ?_ ?_; rotate_left; (· intro W HW; have cw1 : W.cell? ⟨w.heap.size, 1, none⟩ = some (.int .i64 s) := cell_at (HKP.out W HW) 1 _ rfl; go_simp; try with_reducible rfl)
  simp only [Act.put, List.setIfInBounds_toArray, List.set_cons_zero, List.set_cons_succ]
  refine rests_take 6 (oi := _) (v := ?_) (by simp only [List.getElem?_toArray, List.getElem?_cons_succ, List.getElem?_cons_zero]; rfl) (by kernel_rfl) (by kernel_rfl) (by kernel_rfl) (by exact fun _ _ _ h => h) (HE_2.out) (by rfl) ?_ ?_; rotate_left; (· intro W HW; go_simp; try with_reducible rfl)
  simp only [Act.put, List.setIfInBounds_toArray, List.set_cons_zero, List.set_cons_succ]
  refine rests_take 7 (oi := _) (v := ?_) (by simp only [List.getElem?_toArray, List.getElem?_cons_succ, List.getElem?_cons_zero]; rfl) (by kernel_rfl) (by kernel_rfl) (by kernel_rfl) (by exact fun _ _ _ h => h) (HE_2.out) (by rfl) ?_ ?_; rotate_left; (· intro W HW; have cw2 : W.cell? ⟨w.heap.size, 2, none⟩ = some (.int .i64 wi) := cell_at (HKP.out W HW) 2 _ rfl; go_simp; try with_reducible rfl)
  simp only [Act.put, List.setIfInBounds_toArray, List.set_cons_zero, List.set_cons_succ]
  refine rests_take 9 (oi := _) (v := ?_) (by simp only [List.getElem?_toArray, List.getElem?_cons_succ, List.getElem?_cons_zero]; rfl) (by kernel_rfl) (by kernel_rfl) (by kernel_rfl) (by exact fun _ _ _ h => h) (HE_2.out) (by rfl) ?_ ?_; rotate_left; (· intro W HW; go_simp; try with_reducible rfl)
  simp only [Act.put, List.setIfInBounds_toArray, List.set_cons_zero, List.set_cons_succ]
  refine rests_take 10 (oi := _) (v := ?_) (by simp only [List.getElem?_toArray, List.getElem?_cons_succ, List.getElem?_cons_zero]; rfl) (by kernel_rfl) (by kernel_rfl) (by kernel_rfl) (by exact fun _ _ _ h => h) (HE_2.out) (by rfl) ?_ ?_; rotate_left; (· intro W HW; have cw3 : W.cell? ⟨w.heap.size, 3, none⟩ = some (.int .i64 z) := cell_at (HKP.out W HW) 3 _ rfl; go_simp; try with_reducible rfl)
  simp only [Act.put, List.setIfInBounds_toArray, List.set_cons_zero, List.set_cons_succ]
  refine rests_take 12 (oi := _) (v := ?_) (by simp only [List.getElem?_toArray, List.getElem?_cons_succ, List.getElem?_cons_zero]; rfl) (by kernel_rfl) (by kernel_rfl) (by kernel_rfl) (by exact fun _ _ _ h => h) (HE_2.out) (by rfl) ?_ ?_; rotate_left; (· intro W HW; go_simp; try with_reducible rfl)
  simp only [Act.put, List.setIfInBounds_toArray, List.set_cons_zero, List.set_cons_succ]
  refine rests_take 13 (oi := _) (v := ?_) (by simp only [List.getElem?_toArray, List.getElem?_cons_succ, List.getElem?_cons_zero]; rfl) (by kernel_rfl) (by kernel_rfl) (by kernel_rfl) (by exact fun _ _ _ h => h) (HE_2.out) (by rfl) ?_ ?_; rotate_left; (· intro W HW; have cw4 : W.cell? ⟨w.heap.size, 4, none⟩ = some (.int .i64 wa) := cell_at (HKP.out W HW) 4 _ rfl; go_simp; try with_reducible rfl)
  simp only [Act.put, List.setIfInBounds_toArray, List.set_cons_zero, List.set_cons_succ]
  refine rests_call 2 (oi := _) (by simp only [List.getElem?_toArray, List.getElem?_cons_succ, List.getElem?_cons_zero]; rfl) 62 #[.int .i64 1, .int .i64 b] _ (by kernel_rfl) (by rfl) (by go_simp) (H1.out w2.drew) ?_
  rintro e w3 ⟨rfl, hb⟩; have HB_3 := Lib.hid (bel_trans (w := w2.drew) HB_2.out hb); have HE_3 := Lib.hid (bel_trans (w := w2.drew) HE_2.out hb); refine ⟨_, rfl, HE_3.out, ?_⟩; clear hb
  simp only [Act.put, List.setIfInBounds_toArray, List.set_cons_zero, List.set_cons_succ]
  refine rests_call 5 (oi := _) (by simp only [List.getElem?_toArray, List.getElem?_cons_succ, List.getElem?_cons_zero]; rfl) 62 #[.int .i64 2, .int .i64 s] _ (by kernel_rfl) (by rfl) (by go_simp) (H2.out w3) ?_
  rintro e w4 ⟨rfl, hb⟩; have HB_4 := Lib.hid (bel_trans (w := w3) HB_3.out hb); have HE_4 := Lib.hid (bel_trans (w := w3) HE_3.out hb); refine ⟨_, rfl, HE_4.out, ?_⟩; clear hb
  simp only [Act.put, List.setIfInBounds_toArray, List.set_cons_zero, List.set_cons_succ]
  refine rests_call 8 (oi := _) (by simp only [List.getElem?_toArray, List.getElem?_cons_succ, List.getElem?_cons_zero]; rfl) 62 #[.int .i64 3, .int .i64 wi] _ (by kernel_rfl) (by rfl) (by go_simp) (H3.out w4) ?_
  rintro e w5 ⟨rfl, hb⟩; have HB_5 := Lib.hid (bel_trans (w := w4) HB_4.out hb); have HE_5 := Lib.hid (bel_trans (w := w4) HE_4.out hb); refine ⟨_, rfl, HE_5.out, ?_⟩; clear hb
  simp only [Act.put, List.setIfInBounds_toArray, List.set_cons_zero, List.set_cons_succ]
  refine rests_call 11 (oi := _) (by simp only [List.getElem?_toArray, List.getElem?_cons_succ, List.getElem?_cons_zero]; rfl) 62 #[.int .i64 4, .int .i64 z] _ (by kernel_rfl) (by rfl) (by go_simp) (H4.out w5) ?_
  rintro e w6 ⟨rfl, hb⟩; have HB_6 := Lib.hid (bel_trans (w := w5) HB_5.out hb); have HE_6 := Lib.hid (bel_trans (w := w5) HE_5.out hb); refine ⟨_, rfl, HE_6.out, ?_⟩; clear hb
  simp only [Act.put, List.setIfInBounds_toArray, List.set_cons_zero, List.set_cons_succ]
  refine rests_call 14 (oi := _) (by simp only [List.getElem?_toArray, List.getElem?_cons_succ, List.getElem?_cons_zero]; rfl) 62 #[.int .i64 5, .int .i64 wa] _ (by kernel_rfl) (by rfl) (by go_simp) (H5.out w6) ?_
  rintro e w7 ⟨rfl, hb⟩; have HB_7 := Lib.hid (bel_trans (w := w6) HB_6.out hb); have HE_7 := Lib.hid (bel_trans (w := w6) HE_6.out hb); refine ⟨_, rfl, HE_7.out, ?_⟩; clear hb
  simp only [Act.put, List.setIfInBounds_toArray, List.set_cons_zero, List.set_cons_succ]
  refine rests_run 15 (oi := _) (by simp only [List.getElem?_toArray, List.getElem?_cons_succ, List.getElem?_cons_zero]; rfl) (by kernel_rfl) (by rfl) (.slice (some ⟨w7.heap.size, 0, none⟩) 5 5) ((w7).alloc (.cells #[.int .i64 1, .string ⟨[by8 b].toArray⟩, .int .i64 2, .string ⟨[by8 s].toArray⟩, .int .i64 3, .string ⟨[by8 wi].toArray⟩, .int .i64 4, .string ⟨[by8 z].toArray⟩, .int .i64 5, .string ⟨[by8 wa].toArray⟩] 39)) (by go_simp) ⟨bal HE_7.out _, ?_⟩
  have HB_8 := Lib.hid (bal (w := w7) HB_7.out (.cells #[.int .i64 1, .string ⟨[by8 b].toArray⟩, .int .i64 2, .string ⟨[by8 s].toArray⟩, .int .i64 3, .string ⟨[by8 wi].toArray⟩, .int .i64 4, .string ⟨[by8 z].toArray⟩, .int .i64 5, .string ⟨[by8 wa].toArray⟩] 39)); have HE_8 := Lib.hid (bal (w := w7) HE_7.out (.cells #[.int .i64 1, .string ⟨[by8 b].toArray⟩, .int .i64 2, .string ⟨[by8 s].toArray⟩, .int .i64 3, .string ⟨[by8 wi].toArray⟩, .int .i64 4, .string ⟨[by8 z].toArray⟩, .int .i64 5, .string ⟨[by8 wa].toArray⟩] 39)); have HN_8 := Lib.hid (heap_alloc_new (w7) (.cells #[.int .i64 1, .string ⟨[by8 b].toArray⟩, .int .i64 2, .string ⟨[by8 s].toArray⟩, .int .i64 3, .string ⟨[by8 wi].toArray⟩, .int .i64 4, .string ⟨[by8 z].toArray⟩, .int .i64 5, .string ⟨[by8 wa].toArray⟩] 39))
  simp only [Act.put, List.setIfInBounds_toArray, List.set_cons_zero, List.set_cons_succ]
  refine rests_call 16 (oi := _) (by simp only [List.getElem?_toArray, List.getElem?_cons_succ, List.getElem?_cons_zero]; rfl) 41 #[.slice (some ⟨w7.heap.size, 0, none⟩) 5 5] _ (by kernel_rfl) (by rfl) (by go_simp) (HTP.out ((w7).alloc (.cells #[.int .i64 1, .string ⟨[by8 b].toArray⟩, .int .i64 2, .string ⟨[by8 s].toArray⟩, .int .i64 3, .string ⟨[by8 wi].toArray⟩, .int .i64 4, .string ⟨[by8 z].toArray⟩, .int .i64 5, .string ⟨[by8 wa].toArray⟩] 39)) _ HN_8.out) ?_
  rintro e w9 ⟨rfl, hb⟩; have HB_9 := Lib.hid (bel_trans (w := ((w7).alloc (.cells #[.int .i64 1, .string ⟨[by8 b].toArray⟩, .int .i64 2, .string ⟨[by8 s].toArray⟩, .int .i64 3, .string ⟨[by8 wi].toArray⟩, .int .i64 4, .string ⟨[by8 z].toArray⟩, .int .i64 5, .string ⟨[by8 wa].toArray⟩] 39))) HB_8.out hb); have HE_9 := Lib.hid (bel_trans (w := ((w7).alloc (.cells #[.int .i64 1, .string ⟨[by8 b].toArray⟩, .int .i64 2, .string ⟨[by8 s].toArray⟩, .int .i64 3, .string ⟨[by8 wi].toArray⟩, .int .i64 4, .string ⟨[by8 z].toArray⟩, .int .i64 5, .string ⟨[by8 wa].toArray⟩] 39))) HE_8.out hb); have HN_9 := Lib.hid (keep_at (w := ((w7).alloc (.cells #[.int .i64 1, .string ⟨[by8 b].toArray⟩, .int .i64 2, .string ⟨[by8 s].toArray⟩, .int .i64 3, .string ⟨[by8 wi].toArray⟩, .int .i64 4, .string ⟨[by8 z].toArray⟩, .int .i64 5, .string ⟨[by8 wa].toArray⟩] 39))) HN_8.out hb); refine ⟨_, rfl, HE_9.out, ?_⟩; clear hb
  simp only [Act.put, List.setIfInBounds_toArray, List.set_cons_zero, List.set_cons_succ]
  refine rests_take 17 (oi := _) (v := ?_) (by simp only [List.getElem?_toArray, List.getElem?_cons_succ, List.getElem?_cons_zero]; rfl) (by kernel_rfl) (by kernel_rfl) (by kernel_rfl) (by exact fun _ _ _ h => h) (HE_9.out) (by rfl) ?_ ?_; rotate_left; (· intro W HW; go_simp; try with_reducible rfl)
  simp only [Act.put, List.setIfInBounds_toArray, List.set_cons_zero, List.set_cons_succ]
  refine rests_take 18 (oi := _) (v := ?_) (by simp only [List.getElem?_toArray, List.getElem?_cons_succ, List.getElem?_cons_zero]; rfl) (by kernel_rfl) (by kernel_rfl) (by kernel_rfl) (by exact fun _ _ _ h => h) (HE_9.out) (by rfl) ?_ ?_; rotate_left; (· intro W HW; go_simp; try with_reducible rfl)
  simp only [Act.put, List.setIfInBounds_toArray, List.set_cons_zero, List.set_cons_succ]
  refine rests_take 19 (oi := _) (v := ?_) (by simp only [List.getElem?_toArray, List.getElem?_cons_succ, List.getElem?_cons_zero]; rfl) (by kernel_rfl) (by kernel_rfl) (by kernel_rfl) (by exact fun _ _ _ h => h) (HE_9.out) (by rfl) ?_ ?_; rotate_left; (· intro W HW; go_simp; try with_reducible rfl)
  simp only [Act.put, List.setIfInBounds_toArray, List.set_cons_zero, List.set_cons_succ]
  refine rests_take 20 (oi := _) (v := ?_) (by simp only [List.getElem?_toArray, List.getElem?_cons_succ, List.getElem?_cons_zero]; rfl) (by kernel_rfl) (by kernel_rfl) (by kernel_rfl) (by exact fun _ _ _ h => h) (HE_9.out) (by rfl) ?_ ?_; rotate_left; (· intro W HW; go_simp; try with_reducible rfl)
  simp only [Act.put, List.setIfInBounds_toArray, List.set_cons_zero, List.set_cons_succ]
  refine rests_done (by kernel_rfl) ?_
  go_wp2
  go_ret2
  exact putR_some (s := ⟨(bytesO ⟨b, s, wi, z, wa⟩).toArray⟩) HP.out HB_9.out
theorem QPut_any (o : Of5) (w : World) (ho : o.ok) : Calls Tryz.prog 23 #[o.val] w (PutR (putO o) w) := by
  by_cases hm : mayO o = true
  · exact QPut_some o.baud o.silent o.win o.size o.wait w ho hm
  · have hm' : mayO o = false := by simpa using hm
    have hmay := fun w => QMay_any o w ho
    rw [hm'] at hmay
    have HM := Lib.hid hmay
    have HP : Hid (putO o = none) := by show putO o = _; unfold putO; rw [hm']; rfl
    obtain ⟨b, s, wi, z, wa⟩ := o
    clear hmay hm hm' ho
    go_enter Tryz.func23, Tryz.ntmps23
    go_wp2_with (first
      | ((with_reducible refine wpList_boxS rfl 23 _ (.tmp 0) rfl rfl (run_boxOf ⟨b, s, wi, z, wa⟩) ?_); intro w1 hb1 hlt1 hh1; have HB1 := Lib.hid hb1; have HH1 := Lib.hid hh1; clear hb1 hh1)
      | (with_reducible refine wpList_loadB rfl 23 (.tmp 1) rfl w.heap.size rfl 23 _ HH1.out _ Tryz.underlying23 rfl (by kernel_rfl) ?_)
      | (go_at_call 25; (with_reducible refine (HM.out _).mono ?_); rintro e w2 ⟨rfl, hb⟩; have HB2 := Lib.hid (bel_trans HB1.out hb); clear hb))
    go_ret2
    exact putR_none HP.out HB2.out
end Go.Proofs.YtcmjdbljdkabpaaGreatDoor

namespace Go.Proofs.YtcmjdbljdkabpaaGreatDoor
open Go.RowKit M

/-- What was found of the numbers below k. -/
def vcs (l : List Tp) (k : Nat) : Array Value := #[.int .i64 0, .int .i64 (if 1 < k then valT l 1 else 0), .int .i64 (if 2 < k then valT l 2 else 0), .int .i64 (if 3 < k then valT l 3 else 0), .int .i64 (if 4 < k then valT l 4 else 0), .int .i64 (if 5 < k then valT l 5 else 0)]
theorem vcs_set {l : List Tp} {k : Nat} (h1 : 1 ≤ k) (h5 : k ≤ 5) {x : Int} (hx : valT l (k : Int) = x) : (vcs l k).setIfInBounds k (.int .i64 x) = vcs l (k + 1) := by
  subst hx
  rcases (show k = 1 ∨ k = 2 ∨ k = 3 ∨ k = 4 ∨ k = 5 by omega) with rfl | rfl | rfl | rfl | rfl <;> rfl
theorem vcs_keep {l : List Tp} {k : Nat} (h1 : 1 ≤ k) (h5 : k ≤ 5) (hx : valT l (k : Int) = 0) : vcs l k = vcs l (k + 1) := by
  rcases (show k = 1 ∨ k = 2 ∨ k = 3 ∨ k = 4 ∨ k = 5 by omega) with rfl | rfl | rfl | rfl | rfl <;> (unfold vcs; simp at hx; simp [hx])
theorem fnd1_hit {l : List Tp} {id : Int} {k : Nat} (hk : k < l.length) (hno : ∀ t ∈ l.take k, t.1 ≠ id) (he : (l[k]).1 = id) : fnd1 l id = some (l[k]).2 := by
  have e : l = l.take k ++ (l[k] :: l.drop (k + 1)) := by rw [← List.drop_eq_getElem_cons hk, List.take_append_drop]
  obtain ⟨x, hx⟩ : ∃ x, x = l[k] := ⟨_, rfl⟩
  rw [← hx] at he e ⊢
  unfold fnd1
  rw [e, List.find?_append, List.find?_eq_none.2 (fun t ht => by simpa using hno t ht)]
  simp [he]
theorem valT_one {l : List Tp} {id : Int} {a : UInt8} (h : fnd1 l id = some [a]) : valT l id = (a.toNat : Int) := by unfold valT; rw [h]
theorem valT_not {l : List Tp} {id : Int} {t : List UInt8} (h : fnd1 l id = some t) (hn : t.length ≠ 1) : valT l id = 0 := by
  unfold valT; rw [h]
  match t, hn with
  | [], _ => rfl
  | [_], hn => simp at hn
  | _ :: _ :: _, _ => rfl
theorem valT_none {l : List Tp} {id : Int} (h : fnd1 l id = none) : valT l id = 0 := by unfold valT; rw [h]
def GO (l : List Tp) (w2 : World) (k : Nat) (wr : World) : Prop := Below w2.heap.size w2 wr ∧ wr.heap[w2.heap.size]? = some (.cells (vcs l k) 85 (0, 0))
theorem GO.keep {l : List Tp} {w2 wr : World} {k : Nat} (h : GO l w2 k wr) (h1 : 1 ≤ k) (h5 : k ≤ 5) (hx : valT l (k : Int) = 0) : GO l w2 (k + 1) wr := ⟨h.1, by rw [← vcs_keep h1 h5 hx]; exact h.2⟩
theorem GO.set {l : List Tp} {w2 wr w' : World} {k : Nat} {x : Int} (h : GO l w2 k wr) (h1 : 1 ≤ k) (h5 : k ≤ 5) (hx : valT l (k : Int) = x) (hg : wr.grownBy w' (some w2.heap.size)) (hh : w'.heap[w2.heap.size]? = some (.cells ((vcs l k).setIfInBounds k (.int .i64 x)) 85 (0, 0))) : GO l w2 (k + 1) w' :=
  ⟨bel_grown h.1 hg (Nat.le_refl _), by rw [← vcs_set h1 h5 hx]; exact hh⟩

theorem GO.setc {l : List Tp} {w2 wr : World} {k : Nat} {x : Int} (h : GO l w2 k wr) (h1 : 1 ≤ k) (h5 : k ≤ 5) (hx : valT l (k : Int) = x) : GO l w2 (k + 1) (wr.setCell ⟨w2.heap.size, k, none⟩ (.int .i64 x)) := by
  have hgb : wr.grownBy (wr.setCell ⟨w2.heap.size, k, none⟩ (.int .i64 x)) (some w2.heap.size) := ⟨rfl, rfl, rfl, by simp [World.setCell], fun j _ hj => by
    have hne : w2.heap.size ≠ j := fun e => hj (by rw [e])
    simp [World.setCell, Array.getElem?_modify, hne]⟩
  exact h.set h1 h5 hx hgb (by simp [World.setCell, Array.getElem?_modify, h.2])

set_option maxRecDepth 100000 in
set_option maxHeartbeats 4000000 in
theorem RGetO_none (s : ByteArray) (w : World) (hs : s.size ≤ maxLen) (hg : getT s.data.toList = none) : Calls Tryz.prog 39 #[.string s] w (OfferR (getO s.data.toList) w) := by
  have hgt := fun w => RefGetT_any s w hs
  unfold GetTP at hgt
  rw [hg] at hgt
  simp only [Option.isSome_none, Option.getD_none] at hgt
  have HGT := Lib.hid hgt
  have HO : Hid (getO s.data.toList = none) := by show getO _ = _; unfold getO; rw [hg]; rfl
  clear hgt hg hs
  go_enter Tryz.func39, Tryz.ntmps39
  go_wp2_with (first
    | (go_at_call 40; (with_reducible refine (HGT.out _).mono ?_); rintro e w2 ⟨v, rfl, ho, hb⟩; obtain ⟨A, cap, rfl, _, _⟩ := ho.shape; have HB2 := Lib.hid (bel_trans (bal (bel0 w) _) hb); have HR2 := Lib.hid (keep_at (heap_alloc_new w _) hb); clear hb ho)
    | ((with_reducible refine wpList_storeB rfl 23 (.tmp 2) _ rfl w.heap.size #[.int .i64 0, .int .i64 0, .int .i64 0, .int .i64 0, .int .i64 0] rfl rfl 23 _ HR2.out (by kernel_rfl) (by kernel_rfl) (by kernel_rfl) ?_); intro w6 hg6 hz6 hh6; have HB6 := Lib.hid (bel_grown HB2.out hg6 (Nat.le_refl _)); have HR6 := Lib.hid hh6; clear hg6 hz6 hh6))
  exact ⟨rfl, _, results_cell2 rfl _ _ w.heap.size _ _ _ _ (.bool false) rfl rfl HR6.out Tryz.underlying23 rfl (by kernel_rfl), offerR_none HO.out HB6.out⟩
theorem getT_small {s : List UInt8} {l : List Tp} (h : getT s = some l) : l.length ≤ 32 ∧ ∀ t ∈ l, okT t := by
  unfold getT at h
  split at h
  · rename_i h64
    obtain ⟨h1, h2⟩ := getL_some h
    refine ⟨?_, h2⟩
    have key : ∀ m : List Tp, 2 * m.length ≤ (flat m).length := by
      intro m
      induction m with
      | nil => simp
      | cons t m ih => rw [flat_cons, List.length_append, tb_len, List.length_cons]; omega
    have := key l
    rw [h1] at this
    omega
  · cases h

set_option maxRecDepth 100000 in
set_option maxHeartbeats 8000000 in
theorem RGetO_some (s : ByteArray) (w : World) (l : List Tp) (hs : s.size ≤ maxLen) (hg : getT s.data.toList = some l) : Calls Tryz.prog 39 #[.string s] w (OfferR (getO s.data.toList) w) := by
  have hgt := fun w => RefGetT_any s w hs
  unfold GetTP at hgt
  rw [hg] at hgt
  simp only [Option.isSome_some, Option.getD_some] at hgt
  have HGT := Lib.hid hgt
  obtain ⟨hll, hok⟩ := getT_small hg
  have HOK := Lib.hid hok
  have HG : Hid (getO s.data.toList = if mayO (offerT l) then some (offerT l) else none) := by show getO _ = _; unfold getO; rw [hg]; rfl
  clear hgt hg hs hok
  go_enter Tryz.func39, Tryz.ntmps39
  go_wp2_with (go_at_call 40; (with_reducible refine (HGT.out _).mono ?_); rintro e w2 ⟨v, rfl, ho, hb⟩; obtain ⟨A, cap, rfl, _, _⟩ := ho.shape; have HB2 := Lib.hid (bel_trans (bal (bel0 w) _) hb); have HR2 := Lib.hid (keep_at (heap_alloc_new w _) hb); have HRD := Lib.hid ho.rd; clear hb ho)
  have HGL : Hid (w.heap.size < w2.heap.size) := lt_at HR2.out
  go_loopw [7] (fun i wr => ∃ k : Nat, 1 ≤ k ∧ k ≤ 6 ∧ i = .int .i64 k ∧ GO l w2 k wr) (fun i _ => 6 - (intOf i).toNat)
  case atStart => exact ⟨1, by omega, by omega, rfl, bal (bel0 w2) _, heap_alloc_new w2 _⟩
  case round =>
    obtain ⟨k, hk1, hk6, rfl, hR⟩ := hrel
    have HR := Lib.hid hR
    clear hR
    by_cases hlt : k ≤ 5
    · have td1 : decide ((k : Int) ≤ 5) = true := decide_eq_true (by omega)
      go_wp2
      obtain ⟨wo, rfl⟩ : ∃ wo : World, wo = wr := ⟨_, rfl⟩
      go_loopw [8] (fun i wr => wr = wo ∧ ∃ j : Nat, j ≤ l.length ∧ i = .int .i64 j ∧ ∀ t ∈ l.take j, t.1 ≠ (k : Int)) (fun i _ => l.length - (intOf i).toNat)
      case atStart => exact ⟨rfl, 0, by omega, rfl, fun t ht => by simp at ht⟩
      case round =>
        obtain ⟨rfl, j, hj, rfl, hno⟩ := hrel
        have HNO := Lib.hid hno
        clear hno
        by_cases hlj : j < l.length
        · have td2 : decide ((j : Int) < (l.length : Int)) = true := decide_eq_true (by omega)
          obtain ⟨b, off, rfl, hbl, hc1, hc2⟩ := ((HRD.out.below HR.out.1)).at_ hlj
          obtain ⟨id, hid⟩ : ∃ id, (l[j]).1 = id := ⟨_, rfl⟩
          obtain ⟨T, hT⟩ : ∃ T : ByteArray, T = ⟨(l[j]).2.toArray⟩ := ⟨_, rfl⟩
          have hTs : T.size = (l[j]).2.length := by rw [hT]; show ((l[j]).2.toArray).size = _; simp
          have HTL : Hid (T.data.toList = (l[j]).2) := by show T.data.toList = _; rw [hT]
          rw [hid] at hc1
          rw [← hT] at hc2
          have HID := Lib.hid hid
          have HTS := Lib.hid hTs
          clear hid hT hTs
          by_cases he : id = (k : Int)
          · have HF : Hid (fnd1 l (k : Int) = some (l[j]).2) := fnd1_hit hlj HNO.out (by rw [HID.out]; exact he)
            have tne : (id != (k : Int)) = false := by rw [he]; simp
            by_cases h1 : T.size = 1
            · have hp0 : 0 < T.size := by omega
              obtain ⟨a, ha⟩ : ∃ a, T[0]'hp0 = a := ⟨_, rfl⟩
              have HV : Hid (valT l (k : Int) = (a.toNat : Int)) := by
                refine valT_one (by rw [HF.out, ← HTL.out]; congr 1; have hl := ba_len T; rw [h1] at hl; match hq : T.data.toList, hl with | [x], _ => (rw [← ha]; congr 1; show x = T.data[0]'(show 0 < T.size by omega); rw [← Array.getElem_toList]; simp [hq]))
              have hal := a.toNat_lt
              have v0 : (0 : Int) < (T.size : Int) := by omega
              have v1 : IntKind.i64.wrap (a.toNat : Int) = (a.toNat : Int) := IntWalk.i64_in _ (by omega)
              have v2 : ((T.size : Int) == 1) = true := by rw [h1]; rfl
              have v3 : (0 : Int) ≤ (k : Int) := by omega
              have v4 : (k : Int) < 6 := by omega
              clear he h1
              have HR5 := Lib.hid (HR.out.setc hk1 hlt HV.out)
              have cf : wr.frozen? ⟨w2.heap.size, k, none⟩ = false := frz_at HR.out.2 k
              obtain ⟨u, cc⟩ : ∃ u, wr.cell? ⟨w2.heap.size, k, none⟩ = some u := ⟨_, cell_at HR.out.2 k _ (Array.getElem?_eq_getElem (show k < 6 by omega))⟩
              go_wp2
              go_roundw
              case rel => exact ⟨k + 1, by omega, by omega, by go_num, HR5.out⟩
              case measure => simp [intOf]; omega
            · have HV : Hid (valT l (k : Int) = 0) := valT_not HF.out (by rw [← HTS.out]; exact h1)
              have v2 : ((T.size : Int) == 1) = false := by rw [beq_eq_false_iff_ne]; omega
              clear he h1
              go_wp2
              go_roundw
              case rel => exact ⟨k + 1, by omega, by omega, by go_num, HR.out.keep hk1 hlt HV.out⟩
              case measure => simp [intOf]; omega
          · have HN2 : Hid (∀ t ∈ l.take (j + 1), t.1 ≠ (k : Int)) := by
              show ∀ t ∈ l.take (j + 1), t.1 ≠ (k : Int)
              rw [List.take_succ_eq_append_getElem hlj]
              intro t ht
              rcases List.mem_append.1 ht with h | h
              · exact HNO.out t h
              · rw [List.mem_singleton.1 h, HID.out]; exact he
            have tne : (id != (k : Int)) = true := by rw [bne_iff_ne]; exact he
            clear he
            go_wp2
            go_roundw
            case rel => exact ⟨trivial, j + 1, by omega, by go_num, HN2.out⟩
            case measure => simp [intOf] <;> omega
        · have td2 : decide ((j : Int) < (l.length : Int)) = false := decide_eq_false (by omega)
          have HV : Hid (valT l (k : Int) = 0) := valT_none (fnd1_none (fun t ht => HNO.out t (by rw [List.take_of_length_le (by omega)]; exact ht)))
          go_wp2
          go_roundw
          case rel => exact ⟨k + 1, by omega, by omega, by go_num, HR.out.keep hk1 hlt HV.out⟩
          case measure => simp [intOf]; omega
    · obtain rfl : k = 6 := by omega
      have hh := HR.out.2
      have c1 : wr.cell? ⟨w2.heap.size, 1, none⟩ = some (.int .i64 (valT l 1)) := cell_at hh 1 _ rfl
      have c2 : wr.cell? ⟨w2.heap.size, 2, none⟩ = some (.int .i64 (valT l 2)) := cell_at hh 2 _ rfl
      have c3 : wr.cell? ⟨w2.heap.size, 3, none⟩ = some (.int .i64 (valT l 3)) := cell_at hh 3 _ rfl
      have c4 : wr.cell? ⟨w2.heap.size, 4, none⟩ = some (.int .i64 (valT l 4)) := cell_at hh 4 _ rfl
      have c5 : wr.cell? ⟨w2.heap.size, 5, none⟩ = some (.int .i64 (valT l 5)) := cell_at hh 5 _ rfl
      clear hh
      have hmay := fun w => RMayO_any ⟨valT l 1, valT l 2, valT l 3, valT l 4, valT l 5⟩ w
      have HONE : Hid ((#[.int .i64 (valT l 1), .int .i64 (valT l 2), .int .i64 (valT l 3), .int .i64 (valT l 4), .int .i64 (valT l 5)] : Array Value).all (·.oneCell') = true) := by show _ = true; simp [Value.oneCell']
      by_cases hm : mayO ⟨valT l 1, valT l 2, valT l 3, valT l 4, valT l 5⟩ = true
      · rw [hm] at hmay
        have HMAY := Lib.hid hmay
        have HO : Hid (getO s.data.toList = some ⟨valT l 1, valT l 2, valT l 3, valT l 4, valT l 5⟩) := by show getO _ = _; rw [HG.out]; exact if_pos hm
        clear hmay hm
        go_wp2_with (first
          | (go_at_call 58; (with_reducible refine (HMAY.out _).mono ?_); rintro e w4 ⟨rfl, hb⟩; have HB4 := Lib.hid (bel_trans (bal (bel_trans HB2.out HR.out.1) (.cells #[.int .i64 (valT l 1), .int .i64 (valT l 2), .int .i64 (valT l 3), .int .i64 (valT l 4), .int .i64 (valT l 5)] 23)) hb); have HR4 := Lib.hid (keep_at (keep_at (keep_at HR2.out HR.out.1) (bal (bel0 wr) (.cells #[.int .i64 (valT l 1), .int .i64 (valT l 2), .int .i64 (valT l 3), .int .i64 (valT l 4), .int .i64 (valT l 5)] 23))) hb); have HK4 := Lib.hid (keep_at (heap_alloc_new wr (.cells #[.int .i64 (valT l 1), .int .i64 (valT l 2), .int .i64 (valT l 3), .int .i64 (valT l 4), .int .i64 (valT l 5)] 23)) hb); clear hb)
          | (with_reducible refine wpList_loadB rfl 23 (.tmp 9) rfl wr.heap.size rfl 23 _ HK4.out _ Tryz.underlying23 rfl (by kernel_rfl) ?_)
          | ((with_reducible refine wpList_storeB rfl 23 (.tmp 2) _ rfl w.heap.size #[.int .i64 (valT l 1), .int .i64 (valT l 2), .int .i64 (valT l 3), .int .i64 (valT l 4), .int .i64 (valT l 5)] rfl rfl 23 _ HR4.out (by kernel_rfl) (by kernel_rfl) HONE.out ?_); intro w6 hg6 hz6 hh6; have HB6 := Lib.hid (bel_grown HB4.out hg6 (Nat.le_refl _)); have HR6 := Lib.hid hh6; clear hg6 hz6 hh6))
        exact ⟨rfl, _, results_cell2 rfl _ _ w.heap.size _ _ _ _ (.bool true) rfl rfl HR6.out Tryz.underlying23 rfl (by kernel_rfl), offerR_some HO.out HB6.out⟩
      · have hm' : mayO ⟨valT l 1, valT l 2, valT l 3, valT l 4, valT l 5⟩ = false := by simpa using hm
        rw [hm'] at hmay
        have HMAY := Lib.hid hmay
        have HO : Hid (getO s.data.toList = none) := by show getO _ = _; rw [HG.out]; exact if_neg hm
        clear hmay hm hm'
        go_wp2_with (first
          | (go_at_call 58; (with_reducible refine (HMAY.out _).mono ?_); rintro e w4 ⟨rfl, hb⟩; have HB4 := Lib.hid (bel_trans (bal (bel_trans HB2.out HR.out.1) (.cells #[.int .i64 (valT l 1), .int .i64 (valT l 2), .int .i64 (valT l 3), .int .i64 (valT l 4), .int .i64 (valT l 5)] 23)) hb); have HR4 := Lib.hid (keep_at (keep_at (keep_at HR2.out HR.out.1) (bal (bel0 wr) (.cells #[.int .i64 (valT l 1), .int .i64 (valT l 2), .int .i64 (valT l 3), .int .i64 (valT l 4), .int .i64 (valT l 5)] 23))) hb); have HK4 := Lib.hid (keep_at (heap_alloc_new wr (.cells #[.int .i64 (valT l 1), .int .i64 (valT l 2), .int .i64 (valT l 3), .int .i64 (valT l 4), .int .i64 (valT l 5)] 23)) hb); clear hb)
          | ((with_reducible refine wpList_storeB rfl 23 (.tmp 2) _ rfl w.heap.size #[.int .i64 0, .int .i64 0, .int .i64 0, .int .i64 0, .int .i64 0] rfl rfl 23 _ HR4.out (by kernel_rfl) (by kernel_rfl) (by kernel_rfl) ?_); intro w6 hg6 hz6 hh6; have HB6 := Lib.hid (bel_grown HB4.out hg6 (Nat.le_refl _)); have HR6 := Lib.hid hh6; clear hg6 hz6 hh6))
        exact ⟨rfl, _, results_cell2 rfl _ _ w.heap.size _ _ _ _ (.bool false) rfl rfl HR6.out Tryz.underlying23 rfl (by kernel_rfl), offerR_none HO.out HB6.out⟩
theorem RGetO_any (s : ByteArray) (w : World) (hs : s.size ≤ maxLen) : Calls Tryz.prog 39 #[.string s] w (OfferR (getO s.data.toList) w) := by
  cases hg : getT s.data.toList with
  | none => exact RGetO_none s w hs hg
  | some l => exact RGetO_some s w l hs hg
end Go.Proofs.YtcmjdbljdkabpaaGreatDoor
