/- Of layer 8: MA2, ZA1. -/
import Derived.Test.YtcmjdbljdkabpaaGreatDoorM8F
import Derived.Test.YtcmjdbljdkabpaaGreatDoorM8D
import Derived.Test.YtcmjdbljdkabpaaGreatDoorM8C

set_option linter.all false

namespace Go.Proofs.YtcmjdbljdkabpaaGreatDoor
open Go.RowKit

/-- Two boxes stand. -/
structure TwoB (p q : Nat) (A B : Array Value) (W : World) : Prop where
  a : W.heap[p]? = some (.cells A 23 (0, 0))
  b : W.heap[q]? = some (.cells B 23 (0, 0))
theorem TwoB.below {p q : Nat} {A B : Array Value} {W W' : World} (h : TwoB p q A B W) (hb : Below W.heap.size W W') : TwoB p q A B W' := ⟨keep_at h.a hb, keep_at h.b hb⟩
theorem TwoB.grown {p q g : Nat} {A B : Array Value} {W W' : World} (h : TwoB p q A B W) (hg : W.grownBy W' (some g)) (h1 : p ≠ g) (h2 : q ≠ g) : TwoB p q A B W' := ⟨keep_grown h.a hg h1, keep_grown h.b hg h2⟩
set_option maxRecDepth 100000 in
set_option maxHeartbeats 4000000 in
theorem MDeal_no1 (a0 a1 a2 a3 a4 b0 b1 b2 b3 b4 : Int) (w : World) (ha : Of5.ok ⟨a0, a1, a2, a3, a4⟩) (hm : mayO ⟨a0, a1, a2, a3, a4⟩ = false) : Calls Tryz.prog 42 #[.agg #[.int .i64 a0, .int .i64 a1, .int .i64 a2, .int .i64 a3, .int .i64 a4], .agg #[.int .i64 b0, .int .i64 b1, .int .i64 b2, .int .i64 b3, .int .i64 b4]] w (DealR (dealM ⟨a0, a1, a2, a3, a4⟩ ⟨b0, b1, b2, b3, b4⟩) w) := by
  have hm1 := fun w => QMay_any ⟨a0, a1, a2, a3, a4⟩ w ha
  rw [hm] at hm1
  have HM1 := Lib.hid hm1
  have HM2 : Hid True := trivial
  have HP : Hid (dealM ⟨a0, a1, a2, a3, a4⟩ ⟨b0, b1, b2, b3, b4⟩ = none) := by show dealM _ _ = _; unfold dealM; rw [hm]; rfl
  clear hm hm1 ha
  go_enter Tryz.func42, Tryz.ntmps42
  go_wp2_with (first
    | ((with_reducible refine wpList_boxS rfl 23 _ (.tmp 0) rfl rfl (run_boxOf ⟨a0, a1, a2, a3, a4⟩) ?_); intro w1 hb hlt hh; have HB1 := Lib.hid hb; have HA1 := Lib.hid hh; clear hb hlt hh)
    | ((with_reducible refine wpList_boxS rfl 23 _ (.tmp 1) rfl rfl (run_boxOf ⟨b0, b1, b2, b3, b4⟩) ?_); intro w2 hb hlt hh; have HB2 := Lib.hid (bel_trans HB1.out hb); have HA2 := Lib.hid (keep_at HA1.out hb); have HP2 := Lib.hid hh; clear hb hlt hh)
    | (with_reducible refine wpList_loadB rfl 23 (.tmp 2) rfl w.heap.size rfl 23 _ (keep_at HA2.out (bal (bel0 w2) (.cells #[.int .i64 0, .int .i64 0, .int .i64 0, .int .i64 0, .int .i64 0] 42))) _ Tryz.underlying23 rfl (by kernel_rfl) ?_)
    | (go_at_call 25; first
      | ((with_reducible refine (HM1.out _).mono ?_); rintro e w3 ⟨rfl, hb⟩; have HB3 := Lib.hid (bel_trans (bal HB2.out (.cells #[.int .i64 0, .int .i64 0, .int .i64 0, .int .i64 0, .int .i64 0] 42)) hb); have HA3 := Lib.hid (keep_at (keep_at HA2.out (bal (bel0 w2) (.cells #[.int .i64 0, .int .i64 0, .int .i64 0, .int .i64 0, .int .i64 0] 42))) hb); have HP3 := Lib.hid (keep_at (keep_at HP2.out (bal (bel0 w2) (.cells #[.int .i64 0, .int .i64 0, .int .i64 0, .int .i64 0, .int .i64 0] 42))) hb); have HQ3 := Lib.hid (keep_at (heap_alloc_new w2 (.cells #[.int .i64 0, .int .i64 0, .int .i64 0, .int .i64 0, .int .i64 0] 42)) hb); clear hb)
      | ((with_reducible refine (HM2.out _).mono ?_); rintro e w4 ⟨rfl, hb⟩; have HB4 := Lib.hid (bel_trans HB3.out hb); have HA4 := Lib.hid (keep_at HA3.out hb); have HP4 := Lib.hid (keep_at HP3.out hb); have HQ4 := Lib.hid (keep_at HQ3.out hb); clear hb))
    | ((with_reducible refine wpList_storeB rfl 42 (.tmp 4) _ rfl w2.heap.size #[.int .i64 0, .int .i64 0, .int .i64 0, .int .i64 0, .int .i64 0] rfl rfl 42 _ HQ3.out (by kernel_rfl) (by kernel_rfl) (by kernel_rfl) ?_); intro w6 hg hz hh; have HB6 := Lib.hid (bel_grown HB3.out hg HB2.out.size); have HR6 := Lib.hid hh; clear hg hz hh))
  exact ⟨rfl, _, results_cell2 rfl _ _ w2.heap.size _ _ _ _ (.bool false) rfl rfl HR6.out Tryz.underlying42 rfl (by kernel_rfl), dealR_none HP.out HB6.out⟩
set_option maxRecDepth 100000 in
set_option maxHeartbeats 4000000 in
theorem MDeal_no2 (a0 a1 a2 a3 a4 b0 b1 b2 b3 b4 : Int) (w : World) (ha : Of5.ok ⟨a0, a1, a2, a3, a4⟩) (hb : Of5.ok ⟨b0, b1, b2, b3, b4⟩) (hm : mayO ⟨a0, a1, a2, a3, a4⟩ = true) (hn : mayO ⟨b0, b1, b2, b3, b4⟩ = false) : Calls Tryz.prog 42 #[.agg #[.int .i64 a0, .int .i64 a1, .int .i64 a2, .int .i64 a3, .int .i64 a4], .agg #[.int .i64 b0, .int .i64 b1, .int .i64 b2, .int .i64 b3, .int .i64 b4]] w (DealR (dealM ⟨a0, a1, a2, a3, a4⟩ ⟨b0, b1, b2, b3, b4⟩) w) := by
  have hm1 := fun w => QMay_any ⟨a0, a1, a2, a3, a4⟩ w ha
  have hm2 := fun w => QMay_any ⟨b0, b1, b2, b3, b4⟩ w hb
  rw [hm] at hm1
  rw [hn] at hm2
  have HM1 := Lib.hid hm1
  have HM2 := Lib.hid hm2
  have HP : Hid (dealM ⟨a0, a1, a2, a3, a4⟩ ⟨b0, b1, b2, b3, b4⟩ = none) := by show dealM _ _ = _; unfold dealM; rw [hm, hn]; rfl
  clear hm hn hm1 hm2 ha hb
  go_enter Tryz.func42, Tryz.ntmps42
  go_wp2_with (first
    | ((with_reducible refine wpList_boxS rfl 23 _ (.tmp 0) rfl rfl (run_boxOf ⟨a0, a1, a2, a3, a4⟩) ?_); intro w1 hb hlt hh; have HB1 := Lib.hid hb; have HA1 := Lib.hid hh; clear hb hlt hh)
    | ((with_reducible refine wpList_boxS rfl 23 _ (.tmp 1) rfl rfl (run_boxOf ⟨b0, b1, b2, b3, b4⟩) ?_); intro w2 hb hlt hh; have HB2 := Lib.hid (bel_trans HB1.out hb); have HA2 := Lib.hid (keep_at HA1.out hb); have HP2 := Lib.hid hh; clear hb hlt hh)
    | (with_reducible refine wpList_loadB rfl 23 (.tmp 2) rfl w.heap.size rfl 23 _ (keep_at HA2.out (bal (bel0 w2) (.cells #[.int .i64 0, .int .i64 0, .int .i64 0, .int .i64 0, .int .i64 0] 42))) _ Tryz.underlying23 rfl (by kernel_rfl) ?_)
    | (with_reducible refine wpList_loadG (by kernel_rfl) 23 (.tmp 3) rfl w1.heap.size rfl 23 #[.int .i64 b0, .int .i64 b1, .int .i64 b2, .int .i64 b3, .int .i64 b4] HP3.out _ Tryz.underlying23 rfl (by kernel_rfl) ?_)
    | (go_at_call 25; first
      | ((with_reducible refine (HM1.out _).mono ?_); rintro e w3 ⟨rfl, hb⟩; have HB3 := Lib.hid (bel_trans (bal HB2.out (.cells #[.int .i64 0, .int .i64 0, .int .i64 0, .int .i64 0, .int .i64 0] 42)) hb); have HA3 := Lib.hid (keep_at (keep_at HA2.out (bal (bel0 w2) (.cells #[.int .i64 0, .int .i64 0, .int .i64 0, .int .i64 0, .int .i64 0] 42))) hb); have HP3 := Lib.hid (keep_at (keep_at HP2.out (bal (bel0 w2) (.cells #[.int .i64 0, .int .i64 0, .int .i64 0, .int .i64 0, .int .i64 0] 42))) hb); have HQ3 := Lib.hid (keep_at (heap_alloc_new w2 (.cells #[.int .i64 0, .int .i64 0, .int .i64 0, .int .i64 0, .int .i64 0] 42)) hb); clear hb)
      | ((with_reducible refine (HM2.out _).mono ?_); rintro e w4 ⟨rfl, hb⟩; have HB4 := Lib.hid (bel_trans HB3.out hb); have HA4 := Lib.hid (keep_at HA3.out hb); have HP4 := Lib.hid (keep_at HP3.out hb); have HQ4 := Lib.hid (keep_at HQ3.out hb); clear hb))
    | ((with_reducible refine wpList_storeB rfl 42 (.tmp 4) _ rfl w2.heap.size #[.int .i64 0, .int .i64 0, .int .i64 0, .int .i64 0, .int .i64 0] rfl rfl 42 _ HQ4.out (by kernel_rfl) (by kernel_rfl) (by kernel_rfl) ?_); intro w6 hg hz hh; have HB6 := Lib.hid (bel_grown HB4.out hg HB2.out.size); have HR6 := Lib.hid hh; clear hg hz hh))
  exact ⟨rfl, _, results_cell2 rfl _ _ w2.heap.size _ _ _ _ (.bool false) rfl rfl HR6.out Tryz.underlying42 rfl (by kernel_rfl), dealR_none HP.out HB6.out⟩
set_option maxRecDepth 100000 in
set_option maxHeartbeats 16000000 in
theorem MDeal_yes (a0 a1 a2 a3 a4 b0 b1 b2 b3 b4 : Int) (w : World) (ha : Of5.ok ⟨a0, a1, a2, a3, a4⟩) (hb : Of5.ok ⟨b0, b1, b2, b3, b4⟩) (hm : mayO ⟨a0, a1, a2, a3, a4⟩ = true) (hn : mayO ⟨b0, b1, b2, b3, b4⟩ = true) : Calls Tryz.prog 42 #[.agg #[.int .i64 a0, .int .i64 a1, .int .i64 a2, .int .i64 a3, .int .i64 a4], .agg #[.int .i64 b0, .int .i64 b1, .int .i64 b2, .int .i64 b3, .int .i64 b4]] w (DealR (dealM ⟨a0, a1, a2, a3, a4⟩ ⟨b0, b1, b2, b3, b4⟩) w) := by
  have hm1 := fun w => QMay_any ⟨a0, a1, a2, a3, a4⟩ w ha
  have hm2 := fun w => QMay_any ⟨b0, b1, b2, b3, b4⟩ w hb
  rw [hm] at hm1
  rw [hn] at hm2
  have HM1 := Lib.hid hm1
  have HM2 := Lib.hid hm2
  have hbd := dealD_bounds hm hn
  have hP : dealM ⟨a0, a1, a2, a3, a4⟩ ⟨b0, b1, b2, b3, b4⟩ = some (dealD ⟨a0, a1, a2, a3, a4⟩ ⟨b0, b1, b2, b3, b4⟩) := by unfold dealM; rw [hm, hn]; rfl
  have hwb := high_bound (mayO_parts hn).2.2.1.1 7 (by decide) (by have h127 : b2 ≤ 127 := (mayO_parts hn).2.2.1.2; show b2 < 128; omega)
  obtain ⟨p1, p2, p3, p4, p5⟩ := mayO_parts hm
  obtain ⟨q1, q2, q3, q4, q5⟩ := mayO_parts hn
  simp only at p1 p2 p3 p4 p5 q1 q2 q3 q4 q5
  unfold dealD at hbd hP
  simp only at hbd hP hwb
  have hh1 := fun w => QHigh_any (bits .and .i64 a0 b0) w (and_wf _ _)
  rw [and_hi2 (by omega) (by omega)] at hh1
  have hl1 := fun w => QLow_any (bits .and .i64 a1 b1) w (and_wf _ _)
  rw [and_lo2 (by omega) (by omega)] at hl1
  have xh := hi2_lt a0 b0 4
  have xl := lo2_ge 3 a1 b1 3 (Nat.le_refl _)
  have hba := fun w => QBaud_any (hi2 a0 b0 4) w (wf64 (by omega))
  have hh3 := fun w => QHigh_any b3 w (wf64 (by omega))
  have xh3 := highB_lt b3 16
  have hsz := fun w => QSize_any (high b3) w (wf64 (by unfold high; omega))
  have hsi := fun w => QSilent_any (lo2 3 a1 b1 3) w (wf64 (by omega))
  have hhw := fun w => QHigh_any b2 w (wf64 (by omega))
  have hlo := fun w => QLow_any b4 w (wf64 (by omega))
  have hfr := fun w => MFrame_any (sizeQ (high b3)) (baud (hi2 a0 b0 4)) w (by omega) (wf64 (by omega))
  clear xh xl xh3 p1 p2 p3 p4 p5 q1 q2 q3 q4 q5
  generalize hi2 a0 b0 4 = hi at *
  generalize lo2 3 a1 b1 3 = ls at *
  generalize high b3 = hs at *
  generalize sizeQ hs = sz at *
  generalize baud hi = bd at *
  generalize silent ls = sl at *
  generalize low b4 = lo at *
  generalize high b2 = hw at *
  generalize frameM sz bd = f at *
  obtain ⟨hn7, ehn⟩ : ∃ n : Nat, hw + 1 = (n : Int) := ⟨(hw + 1).toNat, by omega⟩
  have hf5 : 1 ≤ f ∧ f ≤ 5 := hbd.2.2.1
  have hwi := fun w => Mwin_any hn7 f w (by omega) (by omega)
  rw [show (hw + 1).toNat = hn7 by omega] at hP
  generalize winM f hn7 = wn at *
  have ehw : IntKind.i64.wrap (hw + 1) = (hn7 : Int) := by rw [ehn]; exact IntWalk.i64_in _ (by omega)
  have HH1 := Lib.hid hh1
  have HBA := Lib.hid hba
  have HH3 := Lib.hid hh3
  have HSZ := Lib.hid hsz
  have HL1 := Lib.hid hl1
  have HSI := Lib.hid hsi
  have HHW := Lib.hid hhw
  have HFR := Lib.hid hfr
  have HWI := Lib.hid hwi
  have HL2 := Lib.hid hlo
  have HP := Lib.hid hP
  have HONE : Hid ((#[.int .i64 bd, .int .i64 sl, .int .i64 wn, .int .i64 sz, .int .i64 lo] : Array Value).all (·.oneCell') = true) := by show _ = true; simp [Value.oneCell']
  clear hm hn hm1 hm2 hbd hP hwb hh1 hba hh3 hsz hl1 hsi hhw hfr hwi hlo ehn hf5 ha hb
  go_enter Tryz.func42, Tryz.ntmps42
  go_wp2_with (first
    | ((with_reducible refine wpList_boxS rfl 23 _ (.tmp 0) rfl rfl (run_boxOf ⟨a0, a1, a2, a3, a4⟩) ?_); intro w1 hb hlt hh; have HB1 := Lib.hid hb; have HA1 := Lib.hid hh; clear hb hlt hh)
    | ((with_reducible refine wpList_boxS rfl 23 _ (.tmp 1) rfl rfl (run_boxOf ⟨b0, b1, b2, b3, b4⟩) ?_); intro w2 hb hlt hh; have HB2 := Lib.hid (bel_trans HB1.out hb); have HA2 := Lib.hid (keep_at HA1.out hb); have HP2 := Lib.hid hh; clear hb hlt hh)
    | (with_reducible refine wpList_loadB rfl 23 (.tmp 2) rfl w.heap.size rfl 23 _ (keep_at HA2.out (bal (bel0 w2) (.cells #[.int .i64 0, .int .i64 0, .int .i64 0, .int .i64 0, .int .i64 0] 42))) _ Tryz.underlying23 rfl (by kernel_rfl) ?_)
    | (with_reducible refine wpList_loadG (by kernel_rfl) 23 (.tmp 3) rfl w1.heap.size rfl 23 #[.int .i64 b0, .int .i64 b1, .int .i64 b2, .int .i64 b3, .int .i64 b4] HP3.out _ Tryz.underlying23 rfl (by kernel_rfl) ?_)
    | (go_at_call 25; first
      | ((with_reducible refine (HM1.out _).mono ?_); rintro e w3 ⟨rfl, hb⟩; have HB3 := Lib.hid (bel_trans (bal HB2.out (.cells #[.int .i64 0, .int .i64 0, .int .i64 0, .int .i64 0, .int .i64 0] 42)) hb); have HA3 := Lib.hid (keep_at (keep_at HA2.out (bal (bel0 w2) (.cells #[.int .i64 0, .int .i64 0, .int .i64 0, .int .i64 0, .int .i64 0] 42))) hb); have HP3 := Lib.hid (keep_at (keep_at HP2.out (bal (bel0 w2) (.cells #[.int .i64 0, .int .i64 0, .int .i64 0, .int .i64 0, .int .i64 0] 42))) hb); have HQ3 := Lib.hid (keep_at (heap_alloc_new w2 (.cells #[.int .i64 0, .int .i64 0, .int .i64 0, .int .i64 0, .int .i64 0] 42)) hb); clear hb)
      | ((with_reducible refine (HM2.out _).mono ?_); rintro e w4 ⟨rfl, hb⟩; have HB4 := Lib.hid (bel_trans HB3.out hb); have HA4 := Lib.hid (keep_at HA3.out hb); have HP4 := Lib.hid (keep_at HP3.out hb); have HQ4 := Lib.hid (keep_at HQ3.out hb); have ca : w4.cell? ⟨w.heap.size, 0, none⟩ = some (.int .i64 a0) := cell_at HA4.out 0 _ rfl; have cb : w4.cell? ⟨w1.heap.size, 0, none⟩ = some (.int .i64 b0) := cell_at HP4.out 0 _ rfl; clear hb))
    | (go_at_call 26; first
      | ((with_reducible refine (HH1.out _).mono ?_); rintro e w5 ⟨rfl, hb⟩; have HB5 := Lib.hid (bel_trans HB4.out hb); have HA5 := Lib.hid (keep_at HA4.out hb); have HP5 := Lib.hid (keep_at HP4.out hb); have HQ5 := Lib.hid (keep_at HQ4.out hb); clear hb)
      | ((with_reducible refine (HH3.out _).mono ?_); rintro e w7 ⟨rfl, hb⟩; have HB7 := Lib.hid (bel_trans HB6.out hb); have HA7 := Lib.hid (keep_at HA6.out hb); have HP7 := Lib.hid (keep_at HP6.out hb); have HQ7 := Lib.hid (keep_at HQ6.out hb); clear hb))
    | (go_at_call 30; ((with_reducible refine (HBA.out _).mono ?_); rintro e w6 ⟨rfl, hb⟩; have HB6 := Lib.hid (bel_trans HB5.out hb); have HA6 := Lib.hid (keep_at HA5.out hb); have HP6 := Lib.hid (keep_at HP5.out hb); have HQ6 := Lib.hid (keep_at HQ5.out hb); have cb6 : w6.cell? ⟨w1.heap.size, 3, none⟩ = some (.int .i64 b3) := cell_at HP6.out 3 _ rfl; clear hb))
    | (go_at_call 34; ((with_reducible refine (HSZ.out _).mono ?_); rintro e w8 ⟨rfl, hb⟩; have HB8 := Lib.hid (bel_trans HB7.out hb); have HA8 := Lib.hid (keep_at HA7.out hb); have HP8 := Lib.hid (keep_at HP7.out hb); have HQ8 := Lib.hid (keep_at HQ7.out hb); clear hb)))
  have HB_8 := Lib.hid (HB8.out).drew
  have HE_8 : Hid (TwoB w.heap.size w1.heap.size #[.int .i64 a0, .int .i64 a1, .int .i64 a2, .int .i64 a3, .int .i64 a4] #[.int .i64 b0, .int .i64 b1, .int .i64 b2, .int .i64 b3, .int .i64 b4] w8.drew) := by show _ ; exact ⟨HA8.out, HP8.out⟩
  have HQ_8 := Lib.hid (show w8.drew.heap[w2.heap.size]? = _ from HQ8.out)
  have HN1 : Hid (w.heap.size ≠ w2.heap.size) := by show _ ≠ _; exact Nat.ne_of_lt (lt_at HA2.out)
  have HN2 : Hid (w1.heap.size ≠ w2.heap.size) := by show _ ≠ _; exact Nat.ne_of_lt (lt_at HP2.out)
  refine rests_begin (TwoB w.heap.size w1.heap.size #[.int .i64 a0, .int .i64 a1, .int .i64 a2, .int .i64 a3, .int .i64 a4] #[.int .i64 b0, .int .i64 b1, .int .i64 b2, .int .i64 b3, .int .i64 b4]) (by kernel_rfl) ?_
  refine rests_take 0 (oi := _) (v := ?_) (by simp only [List.getElem?_toArray, List.getElem?_cons_zero]; rfl) (by kernel_rfl) (by kernel_rfl) (by kernel_rfl) (by exact fun _ _ _ h => h) (HE_8.out) (by rfl) ?_ ?_; rotate_left; (· intro W HW; go_simp; try with_reducible rfl)
  simp only [Act.put, List.setIfInBounds_toArray, List.set_cons_zero, List.set_cons_succ]
  refine rests_take 1 (oi := _) (v := ?_) (by simp only [List.getElem?_toArray, List.getElem?_cons_succ, List.getElem?_cons_zero]; rfl) (by kernel_rfl) (by kernel_rfl) (by kernel_rfl) (by exact fun _ _ _ h => h) (HE_8.out) (by rfl) ?_ ?_; rotate_left; (· intro W HW; go_simp; try with_reducible rfl)
  simp only [Act.put, List.setIfInBounds_toArray, List.set_cons_zero, List.set_cons_succ]
  refine rests_take 2 (oi := _) (v := ?_) (by simp only [List.getElem?_toArray, List.getElem?_cons_succ, List.getElem?_cons_zero]; rfl) (by kernel_rfl) (by kernel_rfl) (by kernel_rfl) (by exact fun _ _ _ h => h) (HE_8.out) (by rfl) ?_ ?_; rotate_left; (· intro W HW; have cw1 : W.cell? ⟨w.heap.size, 1, none⟩ = some (.int .i64 a1) := cell_at HW.a 1 _ rfl; go_simp; try with_reducible rfl)
  simp only [Act.put, List.setIfInBounds_toArray, List.set_cons_zero, List.set_cons_succ]
  refine rests_take 3 (oi := _) (v := ?_) (by simp only [List.getElem?_toArray, List.getElem?_cons_succ, List.getElem?_cons_zero]; rfl) (by kernel_rfl) (by kernel_rfl) (by kernel_rfl) (by exact fun _ _ _ h => h) (HE_8.out) (by rfl) ?_ ?_; rotate_left; (· intro W HW; go_simp; try with_reducible rfl)
  simp only [Act.put, List.setIfInBounds_toArray, List.set_cons_zero, List.set_cons_succ]
  refine rests_take 4 (oi := _) (v := ?_) (by simp only [List.getElem?_toArray, List.getElem?_cons_succ, List.getElem?_cons_zero]; rfl) (by kernel_rfl) (by kernel_rfl) (by kernel_rfl) (by exact fun _ _ _ h => h) (HE_8.out) (by rfl) ?_ ?_; rotate_left; (· intro W HW; have cw1 : W.cell? ⟨w1.heap.size, 1, none⟩ = some (.int .i64 b1) := cell_at HW.b 1 _ rfl; go_simp; try with_reducible rfl)
  simp only [Act.put, List.setIfInBounds_toArray, List.set_cons_zero, List.set_cons_succ]
  refine rests_take 5 (oi := _) (v := ?_) (by simp only [List.getElem?_toArray, List.getElem?_cons_succ, List.getElem?_cons_zero]; rfl) (by kernel_rfl) (by kernel_rfl) (by kernel_rfl) (by exact fun _ _ _ h => h) (HE_8.out) (by rfl) ?_ ?_; rotate_left; (· intro W HW; go_simp; try with_reducible rfl)
  simp only [Act.put, List.setIfInBounds_toArray, List.set_cons_zero, List.set_cons_succ]
  refine rests_take 8 (oi := _) (v := ?_) (by simp only [List.getElem?_toArray, List.getElem?_cons_succ, List.getElem?_cons_zero]; rfl) (by kernel_rfl) (by kernel_rfl) (by kernel_rfl) (by exact fun _ _ _ h => h) (HE_8.out) (by rfl) ?_ ?_; rotate_left; (· intro W HW; go_simp; try with_reducible rfl)
  simp only [Act.put, List.setIfInBounds_toArray, List.set_cons_zero, List.set_cons_succ]
  refine rests_take 9 (oi := _) (v := ?_) (by simp only [List.getElem?_toArray, List.getElem?_cons_succ, List.getElem?_cons_zero]; rfl) (by kernel_rfl) (by kernel_rfl) (by kernel_rfl) (by exact fun _ _ _ h => h) (HE_8.out) (by rfl) ?_ ?_; rotate_left; (· intro W HW; have cw2 : W.cell? ⟨w1.heap.size, 2, none⟩ = some (.int .i64 b2) := cell_at HW.b 2 _ rfl; go_simp; try with_reducible rfl)
  simp only [Act.put, List.setIfInBounds_toArray, List.set_cons_zero, List.set_cons_succ]
  refine rests_take 12 (oi := _) (v := ?_) (by simp only [List.getElem?_toArray, List.getElem?_cons_succ, List.getElem?_cons_zero]; rfl) (by kernel_rfl) (by kernel_rfl) (by kernel_rfl) (by exact fun _ _ _ h => h) (HE_8.out) (by rfl) ?_ ?_; rotate_left; (· intro W HW; go_simp; try with_reducible rfl)
  simp only [Act.put, List.setIfInBounds_toArray, List.set_cons_zero, List.set_cons_succ]
  refine rests_take 13 (oi := _) (v := ?_) (by simp only [List.getElem?_toArray, List.getElem?_cons_succ, List.getElem?_cons_zero]; rfl) (by kernel_rfl) (by kernel_rfl) (by kernel_rfl) (by exact fun _ _ _ h => h) (HE_8.out) (by rfl) ?_ ?_; rotate_left; (· intro W HW; go_simp; try with_reducible rfl)
  simp only [Act.put, List.setIfInBounds_toArray, List.set_cons_zero, List.set_cons_succ]
  refine rests_take 16 (oi := _) (v := ?_) (by simp only [List.getElem?_toArray, List.getElem?_cons_succ, List.getElem?_cons_zero]; rfl) (by kernel_rfl) (by kernel_rfl) (by kernel_rfl) (by exact fun _ _ _ h => h) (HE_8.out) (by rfl) ?_ ?_; rotate_left; (· intro W HW; go_simp; try with_reducible rfl)
  simp only [Act.put, List.setIfInBounds_toArray, List.set_cons_zero, List.set_cons_succ]
  refine rests_take 17 (oi := _) (v := ?_) (by simp only [List.getElem?_toArray, List.getElem?_cons_succ, List.getElem?_cons_zero]; rfl) (by kernel_rfl) (by kernel_rfl) (by kernel_rfl) (by exact fun _ _ _ h => h) (HE_8.out) (by rfl) ?_ ?_; rotate_left; (· intro W HW; go_simp; try with_reducible rfl)
  simp only [Act.put, List.setIfInBounds_toArray, List.set_cons_zero, List.set_cons_succ]
  refine rests_take 18 (oi := _) (v := ?_) (by simp only [List.getElem?_toArray, List.getElem?_cons_succ, List.getElem?_cons_zero]; rfl) (by kernel_rfl) (by kernel_rfl) (by kernel_rfl) (by exact fun _ _ _ h => h) (HE_8.out) (by rfl) ?_ ?_; rotate_left; (· intro W HW; have cw4 : W.cell? ⟨w1.heap.size, 4, none⟩ = some (.int .i64 b4) := cell_at HW.b 4 _ rfl; go_simp; try with_reducible rfl)
  simp only [Act.put, List.setIfInBounds_toArray, List.set_cons_zero, List.set_cons_succ]
  refine rests_call 6 (oi := _) (by simp only [List.getElem?_toArray, List.getElem?_cons_succ, List.getElem?_cons_zero]; rfl) 28 #[.int .i64 (bits .and .i64 a1 b1)] _ (by kernel_rfl) (by rfl) (by go_simp) (HL1.out (w8.drew)) ?_
  rintro e w9 ⟨rfl, hb⟩; have HB_9 := Lib.hid (bel_trans (w := w8.drew) HB_8.out hb); have HE_9 := Lib.hid ((HE_8.out).below hb); have HQ_9 := Lib.hid (keep_at (w := w8.drew) HQ_8.out hb); refine ⟨_, rfl, HE_9.out, ?_⟩; clear hb
  simp only [Act.put, List.setIfInBounds_toArray, List.set_cons_zero, List.set_cons_succ]
  refine rests_call 7 (oi := _) (by simp only [List.getElem?_toArray, List.getElem?_cons_succ, List.getElem?_cons_zero]; rfl) 32 #[.int .i64 ls] _ (by kernel_rfl) (by rfl) (by go_simp) (HSI.out (w9)) ?_
  rintro e w10 ⟨rfl, hb⟩; have HB_10 := Lib.hid (bel_trans (w := w9) HB_9.out hb); have HE_10 := Lib.hid ((HE_9.out).below hb); have HQ_10 := Lib.hid (keep_at (w := w9) HQ_9.out hb); refine ⟨_, rfl, HE_10.out, ?_⟩; clear hb
  simp only [Act.put, List.setIfInBounds_toArray, List.set_cons_zero, List.set_cons_succ]
  refine rests_call 10 (oi := _) (by simp only [List.getElem?_toArray, List.getElem?_cons_succ, List.getElem?_cons_zero]; rfl) 26 #[.int .i64 b2] _ (by kernel_rfl) (by rfl) (by go_simp) (HHW.out (w10)) ?_
  rintro e w11 ⟨rfl, hb⟩; have HB_11 := Lib.hid (bel_trans (w := w10) HB_10.out hb); have HE_11 := Lib.hid ((HE_10.out).below hb); have HQ_11 := Lib.hid (keep_at (w := w10) HQ_10.out hb); refine ⟨_, rfl, HE_11.out, ?_⟩; clear hb
  simp only [Act.put, List.setIfInBounds_toArray, List.set_cons_zero, List.set_cons_succ]
  refine rests_take 11 (oi := _) (v := ?_) (by simp only [List.getElem?_toArray, List.getElem?_cons_succ, List.getElem?_cons_zero]; rfl) (by kernel_rfl) (by kernel_rfl) (by kernel_rfl) (by exact fun _ _ _ h => h) (HE_11.out) (by rfl) ?_ ?_; rotate_left; (· intro W HW; go_simp; try with_reducible rfl)
  simp only [Act.put, List.setIfInBounds_toArray, List.set_cons_zero, List.set_cons_succ]
  refine rests_call 14 (oi := _) (by simp only [List.getElem?_toArray, List.getElem?_cons_succ, List.getElem?_cons_zero]; rfl) 44 #[.int .i64 sz, .int .i64 bd] _ (by kernel_rfl) (by rfl) (by go_simp) (HFR.out (w11)) ?_
  rintro e w12 ⟨rfl, hb⟩; have HB_12 := Lib.hid (bel_trans (w := w11) HB_11.out hb); have HE_12 := Lib.hid ((HE_11.out).below hb); have HQ_12 := Lib.hid (keep_at (w := w11) HQ_11.out hb); refine ⟨_, rfl, HE_12.out, ?_⟩; clear hb
  simp only [Act.put, List.setIfInBounds_toArray, List.set_cons_zero, List.set_cons_succ]
  refine rests_call 15 (oi := _) (by simp only [List.getElem?_toArray, List.getElem?_cons_succ, List.getElem?_cons_zero]; rfl) 75 #[.int .i64 (hn7 : Int), .int .i64 f] _ (by kernel_rfl) (by rfl) (by go_simp) (HWI.out (w12)) ?_
  rintro e w' ⟨rfl, hw'⟩; rw [hw']; clear hw'; refine ⟨_, rfl, HE_12.out, ?_⟩
  simp only [Act.put, List.setIfInBounds_toArray, List.set_cons_zero, List.set_cons_succ]
  refine rests_call 19 (oi := _) (by simp only [List.getElem?_toArray, List.getElem?_cons_succ, List.getElem?_cons_zero]; rfl) 28 #[.int .i64 b4] _ (by kernel_rfl) (by rfl) (by go_simp) (HL2.out (w12)) ?_
  rintro e w13 ⟨rfl, hb⟩; have HB_13 := Lib.hid (bel_trans (w := w12) HB_12.out hb); have HE_13 := Lib.hid ((HE_12.out).below hb); have HQ_13 := Lib.hid (keep_at (w := w12) HQ_12.out hb); refine ⟨_, rfl, HE_13.out, ?_⟩; clear hb
  simp only [Act.put, List.setIfInBounds_toArray, List.set_cons_zero, List.set_cons_succ]
  refine rests_take 20 (oi := _) (v := ?_) (by simp only [List.getElem?_toArray, List.getElem?_cons_succ, List.getElem?_cons_zero]; rfl) (by kernel_rfl) (by kernel_rfl) (by kernel_rfl) (by exact fun _ _ _ h => h) (HE_13.out) (by rfl) ?_ ?_; rotate_left; (· intro W HW; go_simp; try with_reducible rfl)
  simp only [Act.put, List.setIfInBounds_toArray, List.set_cons_zero, List.set_cons_succ]
  refine rests_storeB 21 (oi := _) (by simp only [List.getElem?_toArray, List.getElem?_cons_succ, List.getElem?_cons_zero]; rfl) (by kernel_rfl) (by rfl) 42 (.tmp 4) (.tmp 48) rfl (w2.heap.size) #[.int .i64 bd, .int .i64 sl, .int .i64 wn, .int .i64 sz, .int .i64 lo] rfl rfl 42 _ HQ_13.out (by kernel_rfl) rfl HONE.out ?_
  intro w14 hg14 hz14 hh14; have HR14 := Lib.hid hh14; have HB14 := Lib.hid (bel_grown HB_13.out hg14 HB2.out.size); have HE14 := Lib.hid ((HE_13.out).grown hg14 HN1.out HN2.out); refine ⟨HE14.out, ?_⟩; clear hg14 hz14 hh14
  simp only [Act.put, List.setIfInBounds_toArray, List.set_cons_zero, List.set_cons_succ]
  refine rests_take 22 (oi := _) (v := ?_) (by simp only [List.getElem?_toArray, List.getElem?_cons_succ, List.getElem?_cons_zero]; rfl) (by kernel_rfl) (by kernel_rfl) (by kernel_rfl) (by exact fun _ _ _ h => h) (HE14.out) (by rfl) ?_ ?_; rotate_left; (· intro W HW; go_simp; try with_reducible rfl)
  simp only [Act.put, List.setIfInBounds_toArray, List.set_cons_zero, List.set_cons_succ]
  refine rests_done (by kernel_rfl) ?_
  go_wp2
  exact ⟨rfl, _, results_cell2 rfl _ _ w2.heap.size _ _ _ _ (.bool true) rfl rfl HR14.out Tryz.underlying42 rfl (by kernel_rfl), dealR_some HP.out HB14.out⟩
/-- What two agree on, as landed. -/
theorem MDeal_any (a b : Of5) (w : World) (ha : a.ok) (hb : b.ok) : Calls Tryz.prog 42 #[a.val, b.val] w (DealR (dealM a b) w) := by
  obtain ⟨a0, a1, a2, a3, a4⟩ := a
  obtain ⟨b0, b1, b2, b3, b4⟩ := b
  rcases hm : mayO ⟨a0, a1, a2, a3, a4⟩ with _ | _
  · exact MDeal_no1 a0 a1 a2 a3 a4 b0 b1 b2 b3 b4 w ha hm
  · rcases hn : mayO ⟨b0, b1, b2, b3, b4⟩ with _ | _
    · exact MDeal_no2 a0 a1 a2 a3 a4 b0 b1 b2 b3 b4 w ha hb hm hn
    · exact MDeal_yes a0 a1 a2 a3 a4 b0 b1 b2 b3 b4 w ha hb hm hn
end Go.Proofs.YtcmjdbljdkabpaaGreatDoor

namespace Go.Proofs.YtcmjdbljdkabpaaGreatDoor
open Go.RowKit M

theorem XisId_any (n : Int) (w : World) : Calls Tryz.prog 83 #[.int .u32 n] w fun e w' => e = .returned (.bool (ownN n)) ∧ w' = w := by
  obtain ⟨q, hq⟩ : ∃ q, q = ownN n := ⟨_, rfl⟩
  rw [← hq]
  unfold ownN at hq
  by_cases h1 : n = 0
  · have HQ : Hid (q = false) := by show q = false; rw [hq, h1]; rfl
    have t1 : (n != 0) = false := by rw [h1]; rfl
    clear hq h1
    go_enter Tryz.func83, Tryz.ntmps83
    go_wp2
    go_ret
    exact ⟨by rw [HQ.out]; rfl, rfl⟩
  · by_cases h2 : n = 4294967295
    · have HQ : Hid (q = false) := by show q = false; rw [hq, h2]; rfl
      have t1 : (n != 0) = true := by simpa using h1
      have t2 : (n != 4294967295) = false := by rw [h2]; rfl
      clear hq h1 h2
      go_enter Tryz.func83, Tryz.ntmps83
      go_wp2
      go_ret
      exact ⟨by rw [HQ.out]; rfl, rfl⟩
    · have t1 : (n != 0) = true := by simpa using h1
      have t2 : (n != 4294967295) = true := by simpa using h2
      have HQ : Hid (q = true) := by show q = true; rw [hq, t1, t2]; rfl
      clear hq h1 h2
      go_enter Tryz.func83, Tryz.ntmps83
      go_wp2
      go_ret
      exact ⟨by rw [HQ.out]; rfl, rfl⟩
theorem XisRound_any (n : Int) (w : World) : Calls Tryz.prog 84 #[.int .i64 n] w fun e w' => e = .returned (.bool (decide (n = 1 ∨ n = 6 ∨ n = 8))) ∧ w' = w := by
  obtain ⟨q, hq⟩ : ∃ q, q = decide (n = 1 ∨ n = 6 ∨ n = 8) := ⟨_, rfl⟩
  rw [← hq]
  have HQ : Hid (∀ b : Bool, (b = true ↔ (n = 1 ∨ n = 6 ∨ n = 8)) → Ending.returned (.bool b) = .returned (.bool q)) := by
    show ∀ _, _
    intro b h
    congr 2
    rw [Bool.eq_iff_iff, h, hq, decide_eq_true_eq]
  clear hq
  go_enter Tryz.func84, Tryz.ntmps84
  go_wp2
  all_goals
    go_ret
    refine ⟨HQ.out _ ?_, rfl⟩
    clear HQ
    first | (simp at *; done) | (simp at *; omega) | omega
set_option maxRecDepth 100000 in
set_option maxHeartbeats 4000000 in
theorem XMay_all (x : XIn) (w : World) : Calls Tryz.prog 49 #[x.val] w fun e w' => e = .returned (.bool (mayX x.xd)) ∧ Below w.heap.size w w' := by
  have hi := mayX_iff x
  obtain ⟨fr, tt, sl, sn, an, nk⟩ := x
  simp only at hi
  have hown := fun w => XisId_any fr w
  have hrnd := fun w => XisRound_any sn w
  have hmay := fun w => May_any nk w
  generalize mayX (XIn.xd ⟨fr, tt, sl, sn, an, nk⟩) = res at *
  generalize ownN fr = ow at *
  generalize mayL (bl nk) = ml at *
  have hfin : ∀ q : Bool, (q = true ↔ (ow = true ∧ (sn = 1 ∨ sn = 6 ∨ sn = 8) ∧ (-1 ≤ sl ∧ sl < sn) ∧ ml = true)) → Ending.returned (.bool q) = .returned (.bool res) := by
    intro q h
    congr 2
    rw [Bool.eq_iff_iff, h, hi]
  obtain ⟨rn, hrn⟩ : ∃ rn, rn = decide (sn = 1 ∨ sn = 6 ∨ sn = 8) := ⟨_, rfl⟩
  rw [← hrn] at hrnd
  have HRN := Lib.hid hrn
  have HF := Lib.hid hfin
  have HOWN := Lib.hid hown
  have HRND := Lib.hid hrnd
  have HMAY := Lib.hid hmay
  clear hfin hown hmay hi hrnd hrn
  go_enter Tryz.func49, Tryz.ntmps49
  go_wp2_with (with_reducible refine wpList_boxS rfl 51 _ (.tmp 0) rfl rfl (run_boxX ⟨fr, tt, sl, sn, an, nk⟩) ?_)
  intro w1 hb1 hlt1 hh1
  have c0 : w1.cell? ⟨w.heap.size, 0, none⟩ = some (.int .u32 fr) := cell_at hh1 0 _ rfl
  have c2 : w1.cell? ⟨w.heap.size, 2, none⟩ = some (.int .i64 sl) := cell_at hh1 2 _ rfl
  have c3 : w1.cell? ⟨w.heap.size, 3, none⟩ = some (.int .i64 sn) := cell_at hh1 3 _ rfl
  have c5 : w1.cell? ⟨w.heap.size, 5, none⟩ = some (.string nk) := cell_at hh1 5 _ rfl
  have HB := Lib.hid hb1
  clear hb1 hh1
  go_wp2_with (first
    | (go_at_call 83; (with_reducible refine (HOWN.out _).mono ?_); rintro e w' ⟨rfl, rfl⟩)
    | (go_at_call 84; (with_reducible refine (HRND.out _).mono ?_); rintro e w' ⟨rfl, rfl⟩)
    | (go_at_call 85; (with_reducible refine (HMAY.out _).mono ?_); rintro e w2 ⟨rfl, hb⟩; have HB2 := Lib.hid (bel_trans HB.out hb); clear hb))
  all_goals
    go_ret
    refine ⟨HF.out _ ?_, by first | exact HB2.out | exact HB.out⟩
    have hrn := HRN.out
    clear HF HB HOWN HRND HMAY c0 c2 c3 c5 HRN
    cases ow <;> cases ml <;> cases rn <;> (first | (simp at *; done) | (simp at *; omega) | (simp; omega) | omega)
theorem XMay_any (x : XIn) (w : World) (_ : x.ok) : Calls Tryz.prog 49 #[x.val] w fun e w' => e = .returned (.bool (mayX x.xd)) ∧ Below w.heap.size w w' := XMay_all x w
end Go.Proofs.YtcmjdbljdkabpaaGreatDoor
