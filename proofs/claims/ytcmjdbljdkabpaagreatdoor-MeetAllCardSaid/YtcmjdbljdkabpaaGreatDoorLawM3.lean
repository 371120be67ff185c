/- The law MeetAll. -/
import Derived.Test.YtcmjdbljdkabpaaGreatDoorQ8S
import Derived.Test.YtcmjdbljdkabpaaGreatDoorM8N
import Derived.Test.YtcmjdbljdkabpaaGreatDoorM8M
import Derived.Test.YtcmjdbljdkabpaaGreatDoorBegun8
import Derived.Test.YtcmjdbljdkabpaaGreatDoorM4H

set_option linter.all false

namespace Go.Proofs.YtcmjdbljdkabpaaGreatDoor
open Go.RowKit M

set_option maxRecDepth 100000 in
set_option maxHeartbeats 8000000 in
theorem MeetAll_core (a0 a1 a2 a3 a4 b0 b1 b2 b3 b4 d0 d1 d2 d3 d4 : Int) (q : Bool) (s bd s' bd' : Int) (w : World) (hC : Codes w)
    (hd : ∀ w, Calls Tryz.prog 42 #[.agg #[.int .i64 a0, .int .i64 a1, .int .i64 a2, .int .i64 a3, .int .i64 a4], .agg #[.int .i64 b0, .int .i64 b1, .int .i64 b2, .int .i64 b3, .int .i64 b4]] w fun e w' => e = .returned (.tuple #[.agg #[.int .i64 d0, .int .i64 d1, .int .i64 d2, .int .i64 d3, .int .i64 d4], .bool q]) ∧ Below w.heap.size w w')
    (hr : ∀ w, Calls Tryz.prog 43 #[.agg #[.int .i64 a0, .int .i64 a1, .int .i64 a2, .int .i64 a3, .int .i64 a4], .agg #[.int .i64 b0, .int .i64 b1, .int .i64 b2, .int .i64 b3, .int .i64 b4]] w fun e w' => e = .returned (.tuple #[.agg #[.int .i64 d0, .int .i64 d1, .int .i64 d2, .int .i64 d3, .int .i64 d4], .bool q]) ∧ Below w.heap.size w w')
    (hs' : 0 ≤ s' ∧ s' ≤ 1000) (hb' : (Lit.int .i64 bd').wf = true)
    (hcase : (s < 0 ∧ s' = 64 ∧ bd' = 32) ∨ (0 ≤ s ∧ 1000 < s ∧ s' = 64 ∧ bd' = 32) ∨ (0 ≤ s ∧ s ≤ 1000 ∧ 1000 < bd ∧ s' = 64 ∧ bd' = 32) ∨ (0 ≤ s ∧ s ≤ 1000 ∧ bd ≤ 1000 ∧ s' = s ∧ bd' = bd)) :
    Calls Tryz.prog 5 #[.agg #[.int .i64 a0, .int .i64 a1, .int .i64 a2, .int .i64 a3, .int .i64 a4], .agg #[.int .i64 b0, .int .i64 b1, .int .i64 b2, .int .i64 b3, .int .i64 b4], .int .i64 s, .int .i64 bd] w (Holds8 w) := by
  have HC0 := Lib.hid hC
  have HD := Lib.hid hd
  have HR := Lib.hid hr
  have HMF := Lib.hid (fun w => MFrame_any s' bd' w hs' hb')
  have HRF := Lib.hid (fun w => RFrame_any s' bd' w hs' hb')
  have HEQ := Lib.hid (fun W => eql_De5 ⟨d0, d1, d2, d3, d4⟩ ⟨d0, d1, d2, d3, d4⟩ W)
  clear hC hd hr hs' hb'
  generalize frameM s' bd' = f at HMF HRF
  rcases hcase with ⟨h1, rfl, rfl⟩ | ⟨h1, h2, rfl, rfl⟩ | ⟨h1, h2, h3, rfl, rfl⟩ | ⟨h1, h2, h3, rfl, rfl⟩
  all_goals
    go_enter Tryz.func5, Tryz.ntmps5
    go_wp2_with (first
      | ((with_reducible refine wpList_boxS rfl 23 _ (.tmp 0) rfl rfl (run_boxOf ⟨a0, a1, a2, a3, a4⟩) ?_); intro w1 hb hlt hh; have HB1 := Lib.hid hb; have HC1 := Lib.hid (HC0.out.below hb); have A1 := Lib.hid (hh); clear hb hlt hh)
      | ((with_reducible refine wpList_boxS rfl 23 _ (.tmp 1) rfl rfl (run_boxOf ⟨b0, b1, b2, b3, b4⟩) ?_); intro w2 hb hlt hh; have HB2 := Lib.hid (bel_trans HB1.out hb); have A2 := Lib.hid (keep_at A1.out hb); have HC2 := Lib.hid (HC1.out.below hb); have B2 := Lib.hid (hh); clear hb hlt hh)
      | (with_reducible refine wpList_loadB rfl 23 (.tmp 4) rfl (w.heap.size) rfl 23 _ A3.out _ Tryz.underlying23 rfl (by kernel_rfl) ?_)
      | (with_reducible refine wpList_loadB rfl 23 (.tmp 5) rfl (w1.heap.size) rfl 23 _ B3.out _ Tryz.underlying23 rfl (by kernel_rfl) ?_)
      | (with_reducible refine wpList_loadB rfl 23 (.tmp 4) rfl (w.heap.size) rfl 23 _ A4.out _ Tryz.underlying23 rfl (by kernel_rfl) ?_)
      | (with_reducible refine wpList_loadB rfl 23 (.tmp 5) rfl (w1.heap.size) rfl 23 _ B4.out _ Tryz.underlying23 rfl (by kernel_rfl) ?_)
      | (with_reducible refine wpList_loadB rfl 42 (.tmp 10) rfl (w4.heap.size) rfl 42 _ D5.out _ Tryz.underlying42 rfl (by kernel_rfl) ?_)
      | (with_reducible refine wpList_loadB rfl 42 (.tmp 12) rfl (w5.heap.size) rfl 42 _ E5.out _ Tryz.underlying42 rfl (by kernel_rfl) ?_)
      | (with_reducible refine wpList_cmpG (by kernel_rfl) rfl rfl rfl (guard_De5 _ _ _ _ _ _) (HEQ.out _) ?_)
      | (go_at_call 21; ((with_reducible refine (begun8_any _ HC2.out).mono ?_); rintro e w3 ⟨rfl, hb⟩; have HB3 := Lib.hid (bel_trans HB2.out hb); have A3 := Lib.hid (keep_at A2.out hb); have B3 := Lib.hid (keep_at B2.out hb); have HC3 := Lib.hid (HC2.out.below hb); clear hb))
      | (go_at_call 42; ((with_reducible refine (HD.out _).mono ?_); rintro e w4 ⟨rfl, hb⟩; have HB4 := Lib.hid (bal ((bel_trans HB3.out hb)) (.cells #[.int .i64 d0, .int .i64 d1, .int .i64 d2, .int .i64 d3, .int .i64 d4] 42)); have A4 := Lib.hid (keep_at (keep_at A3.out hb) (bal (bel0 w4) (.cells #[.int .i64 d0, .int .i64 d1, .int .i64 d2, .int .i64 d3, .int .i64 d4] 42))); have B4 := Lib.hid (keep_at (keep_at B3.out hb) (bal (bel0 w4) (.cells #[.int .i64 d0, .int .i64 d1, .int .i64 d2, .int .i64 d3, .int .i64 d4] 42))); have HC4 := Lib.hid ((HC3.out.below hb).below (bal (bel0 w4) (.cells #[.int .i64 d0, .int .i64 d1, .int .i64 d2, .int .i64 d3, .int .i64 d4] 42))); have D4 := Lib.hid ((heap_alloc_new w4 (.cells #[.int .i64 d0, .int .i64 d1, .int .i64 d2, .int .i64 d3, .int .i64 d4] 42))); clear hb))
      | (go_at_call 43; ((with_reducible refine (HR.out _).mono ?_); rintro e w5 ⟨rfl, hb⟩; have HB5 := Lib.hid (bal ((bel_trans HB4.out hb)) (.cells #[.int .i64 d0, .int .i64 d1, .int .i64 d2, .int .i64 d3, .int .i64 d4] 42)); have A5 := Lib.hid (keep_at (keep_at A4.out hb) (bal (bel0 w5) (.cells #[.int .i64 d0, .int .i64 d1, .int .i64 d2, .int .i64 d3, .int .i64 d4] 42))); have B5 := Lib.hid (keep_at (keep_at B4.out hb) (bal (bel0 w5) (.cells #[.int .i64 d0, .int .i64 d1, .int .i64 d2, .int .i64 d3, .int .i64 d4] 42))); have D5 := Lib.hid (keep_at (keep_at D4.out hb) (bal (bel0 w5) (.cells #[.int .i64 d0, .int .i64 d1, .int .i64 d2, .int .i64 d3, .int .i64 d4] 42))); have HC5 := Lib.hid ((HC4.out.below hb).below (bal (bel0 w5) (.cells #[.int .i64 d0, .int .i64 d1, .int .i64 d2, .int .i64 d3, .int .i64 d4] 42))); have E5 := Lib.hid ((heap_alloc_new w5 (.cells #[.int .i64 d0, .int .i64 d1, .int .i64 d2, .int .i64 d3, .int .i64 d4] 42))); clear hb))
      | (go_at_call 44; ((with_reducible refine (HMF.out _).mono ?_); rintro e w6 ⟨rfl, hb⟩; have HB6 := Lib.hid (bel_trans HB5.out hb); have A6 := Lib.hid (keep_at A5.out hb); have B6 := Lib.hid (keep_at B5.out hb); have D6 := Lib.hid (keep_at D5.out hb); have E6 := Lib.hid (keep_at E5.out hb); have HC6 := Lib.hid (HC5.out.below hb); clear hb))
      | (go_at_call 45; ((with_reducible refine (HRF.out _).mono ?_); rintro e w' ⟨rfl, hw'⟩; rw [hw']; clear hw')))
    go_ret
    refine ⟨?_, HB6.out⟩
    simp
theorem MeetAll_law (a b : Of5) (s bd : Int) (w : World) (ha : a.ok) (hb : b.ok) (hs : (Lit.int .i64 s).wf = true) (hbd : (Lit.int .i64 bd).wf = true) (hC : Codes w) : Calls Tryz.prog 5 #[a.val, b.val, .int .i64 s, .int .i64 bd] w (Holds8 w) := by
  have h1 := fun w => MDeal_any a b w ha hb
  have h2 := fun w => RDeal_any a b w
  unfold DealR at h1 h2
  generalize (dealM a b).getD De5.zero = d at h1 h2
  generalize (dealM a b).isSome = q at h1 h2
  by_cases c1 : s < 0
  · exact MeetAll_core _ _ _ _ _ _ _ _ _ _ d.baud d.silent d.win d.size d.wait q s bd 64 32 w hC h1 h2 (by omega) (by decide) (.inl ⟨c1, rfl, rfl⟩)
  · by_cases c2 : 1000 < s
    · exact MeetAll_core _ _ _ _ _ _ _ _ _ _ d.baud d.silent d.win d.size d.wait q s bd 64 32 w hC h1 h2 (by omega) (by decide) (.inr (.inl ⟨by omega, c2, rfl, rfl⟩))
    · by_cases c3 : 1000 < bd
      · exact MeetAll_core _ _ _ _ _ _ _ _ _ _ d.baud d.silent d.win d.size d.wait q s bd 64 32 w hC h1 h2 (by omega) (by decide) (.inr (.inr (.inl ⟨by omega, by omega, c3, rfl, rfl⟩)))
      · exact MeetAll_core _ _ _ _ _ _ _ _ _ _ d.baud d.silent d.win d.size d.wait q s bd s bd w hC h1 h2 (by omega) hbd (.inr (.inr (.inr ⟨by omega, by omega, by omega, rfl, rfl⟩)))
end Go.Proofs.YtcmjdbljdkabpaaGreatDoor
