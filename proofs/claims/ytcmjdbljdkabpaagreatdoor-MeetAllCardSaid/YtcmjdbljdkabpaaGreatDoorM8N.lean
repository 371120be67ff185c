/- Of layer 8: Ref8n. -/
import Derived.Test.YtcmjdbljdkabpaaGreatDoorM8E
import Derived.Test.YtcmjdbljdkabpaaGreatDoorM4H

set_option linter.all false

namespace Go.Proofs.YtcmjdbljdkabpaaGreatDoor
open Go.RowKit

theorem region_sharedN {P : Program} {id : Nat} {ops : Array Oper} {a : Act} {w : World} {Q : Exit → Act → World → Prop} (F : Nat → World → Prop) (A : Nat → Act) (hcont : ∀ g w5, F g w5 → Q .normal (A g) w5) (h : (∀ g w5, F g w5 → Q .normal (A g) w5) → (Code.region id ops true).wp P Q a w) : (Code.region id ops true).wp P Q a w := h hcont
/-- Two offers, the result, the deal in the making. -/
structure DealW (w : World) (p q g : Nat) (A B d : Array Value) (wr : World) : Prop where
  bel : Below w.heap.size w wr
  a : wr.heap[w.heap.size]? = some (.cells A 23 (0, 0))
  b : wr.heap[p]? = some (.cells B 23 (0, 0))
  r : wr.heap[q]? = some (.cells #[.int .i64 0, .int .i64 0, .int .i64 0, .int .i64 0, .int .i64 0] 42 (0, 0))
  d : wr.heap[g]? = some (.cells d 42 (0, 0))
  ga : w.heap.size < g
  gp : p < g
  gq : q < g
theorem DealW.mk_ {w : World} {p q g : Nat} {A B d : Array Value} {wr : World} (h1 : Below w.heap.size w wr) (h2 : wr.heap[w.heap.size]? = some (.cells A 23 (0, 0))) (h3 : wr.heap[p]? = some (.cells B 23 (0, 0))) (h4 : wr.heap[q]? = some (.cells #[.int .i64 0, .int .i64 0, .int .i64 0, .int .i64 0, .int .i64 0] 42 (0, 0))) (h5 : wr.heap[g]? = some (.cells d 42 (0, 0))) (h6 : w.heap.size < g) (h7 : p < g) (h8 : q < g) : DealW w p q g A B d wr := ⟨h1, h2, h3, h4, h5, h6, h7, h8⟩
theorem DealW.below {w : World} {p q g : Nat} {A B d : Array Value} {wr w' : World} (h : DealW w p q g A B d wr) (hb : Below wr.heap.size wr w') : DealW w p q g A B d w' :=
  ⟨bel_trans h.bel hb, keep_at h.a hb, keep_at h.b hb, keep_at h.r hb, keep_at h.d hb, h.ga, h.gp, h.gq⟩
theorem DealW.set {w : World} {p q g : Nat} {A B d e : Array Value} {wr w' : World} (h : DealW w p q g A B d wr) (hg : wr.grownBy w' (some g)) (hh : w'.heap[g]? = some (.cells e 42 (0, 0))) : DealW w p q g A B e w' :=
  ⟨bel_grown h.bel hg (Nat.le_of_lt h.ga), keep_grown h.a hg (Nat.ne_of_lt h.ga), keep_grown h.b hg (Nat.ne_of_lt h.gp), keep_grown h.r hg (Nat.ne_of_lt h.gq), hh, h.ga, h.gp, h.gq⟩
theorem hi2_t {x y : Int} {k : Nat} (h : both x y k = true) : hi2 x y (k + 1) = (k : Int) := by
  show (if both x y k then (k : Int) else hi2 x y k) = _
  rw [h]; rfl
theorem hi2_f {x y : Int} {k : Nat} (h : both x y k = false) : hi2 x y (k + 1) = hi2 x y k := by
  show (if both x y k then (k : Int) else hi2 x y k) = _
  rw [h]; rfl
theorem lo2_t {m : Nat} {x y : Int} {k : Nat} (h : both x y (m - (k + 1)) = true) : lo2 m x y (k + 1) = ((m - (k + 1) : Nat) : Int) := by
  show (if both x y (m - (k + 1)) then ((m - (k + 1) : Nat) : Int) else lo2 m x y k) = _
  rw [h]; rfl
theorem lo2_f {m : Nat} {x y : Int} {k : Nat} (h : both x y (m - (k + 1)) = false) : lo2 m x y (k + 1) = lo2 m x y k := by
  show (if both x y (m - (k + 1)) then ((m - (k + 1) : Nat) : Int) else lo2 m x y k) = _
  rw [h]; rfl
set_option maxRecDepth 100000 in
set_option maxHeartbeats 4000000 in
theorem RDeal_no1 (a0 a1 a2 a3 a4 b0 b1 b2 b3 b4 : Int) (w : World) (hm : mayO ⟨a0, a1, a2, a3, a4⟩ = false) : Calls Tryz.prog 43 #[.agg #[.int .i64 a0, .int .i64 a1, .int .i64 a2, .int .i64 a3, .int .i64 a4], .agg #[.int .i64 b0, .int .i64 b1, .int .i64 b2, .int .i64 b3, .int .i64 b4]] w (DealR (dealM ⟨a0, a1, a2, a3, a4⟩ ⟨b0, b1, b2, b3, b4⟩) w) := by
  have hm1 := fun w => RMayO_any ⟨a0, a1, a2, a3, a4⟩ w
  rw [hm] at hm1
  have HM1 := Lib.hid hm1
  have HM2 : Hid True := trivial
  have HP : Hid (dealM ⟨a0, a1, a2, a3, a4⟩ ⟨b0, b1, b2, b3, b4⟩ = none) := by show dealM _ _ = _; unfold dealM; rw [hm]; rfl
  clear hm hm1
  go_enter Tryz.func43, Tryz.ntmps43
  go_wp2_with (first
    | ((with_reducible refine wpList_boxS rfl 23 _ (.tmp 0) rfl rfl (run_boxOf ⟨a0, a1, a2, a3, a4⟩) ?_); intro w1 hb hlt hh; have HB1 := Lib.hid hb; have HA1 := Lib.hid hh; clear hb hlt hh)
    | ((with_reducible refine wpList_boxS rfl 23 _ (.tmp 1) rfl rfl (run_boxOf ⟨b0, b1, b2, b3, b4⟩) ?_); intro w2 hb hlt hh; have HB2 := Lib.hid (bel_trans HB1.out hb); have HA2 := Lib.hid (keep_at HA1.out hb); have HP2 := Lib.hid hh; clear hb hlt hh)
    | (with_reducible refine wpList_loadB rfl 23 (.tmp 2) rfl w.heap.size rfl 23 _ (keep_at HA2.out (bal (bel0 w2) (.cells #[.int .i64 0, .int .i64 0, .int .i64 0, .int .i64 0, .int .i64 0] 42))) _ Tryz.underlying23 rfl (by kernel_rfl) ?_)
    | (go_at_call 58; first
      | ((with_reducible refine (HM1.out _).mono ?_); rintro e w3 ⟨rfl, hb⟩; have HB3 := Lib.hid (bel_trans (bal HB2.out (.cells #[.int .i64 0, .int .i64 0, .int .i64 0, .int .i64 0, .int .i64 0] 42)) hb); have HA3 := Lib.hid (keep_at (keep_at HA2.out (bal (bel0 w2) (.cells #[.int .i64 0, .int .i64 0, .int .i64 0, .int .i64 0, .int .i64 0] 42))) hb); have HP3 := Lib.hid (keep_at (keep_at HP2.out (bal (bel0 w2) (.cells #[.int .i64 0, .int .i64 0, .int .i64 0, .int .i64 0, .int .i64 0] 42))) hb); have HQ3 := Lib.hid (keep_at (heap_alloc_new w2 (.cells #[.int .i64 0, .int .i64 0, .int .i64 0, .int .i64 0, .int .i64 0] 42)) hb); clear hb)
      | ((with_reducible refine (HM2.out _).mono ?_); rintro e w4 ⟨rfl, hb⟩; have HB4 := Lib.hid (bel_trans HB3.out hb); have HA4 := Lib.hid (keep_at HA3.out hb); have HP4 := Lib.hid (keep_at HP3.out hb); have HQ4 := Lib.hid (keep_at HQ3.out hb); clear hb))
    | ((with_reducible refine wpList_storeB rfl 42 (.tmp 4) _ rfl w2.heap.size #[.int .i64 0, .int .i64 0, .int .i64 0, .int .i64 0, .int .i64 0] rfl rfl 42 _ HQ3.out (by kernel_rfl) (by kernel_rfl) (by kernel_rfl) ?_); intro w6 hg hz hh; have HB6 := Lib.hid (bel_grown HB3.out hg HB2.out.size); have HR6 := Lib.hid hh; clear hg hz hh))
  exact ⟨rfl, _, results_cell2 rfl _ _ w2.heap.size _ _ _ _ (.bool false) rfl rfl HR6.out Tryz.underlying42 rfl (by kernel_rfl), dealR_none HP.out HB6.out⟩
set_option maxRecDepth 100000 in
set_option maxHeartbeats 4000000 in
theorem RDeal_no2 (a0 a1 a2 a3 a4 b0 b1 b2 b3 b4 : Int) (w : World) (hm : mayO ⟨a0, a1, a2, a3, a4⟩ = true) (hn : mayO ⟨b0, b1, b2, b3, b4⟩ = false) : Calls Tryz.prog 43 #[.agg #[.int .i64 a0, .int .i64 a1, .int .i64 a2, .int .i64 a3, .int .i64 a4], .agg #[.int .i64 b0, .int .i64 b1, .int .i64 b2, .int .i64 b3, .int .i64 b4]] w (DealR (dealM ⟨a0, a1, a2, a3, a4⟩ ⟨b0, b1, b2, b3, b4⟩) w) := by
  have hm1 := fun w => RMayO_any ⟨a0, a1, a2, a3, a4⟩ w
  have hm2 := fun w => RMayO_any ⟨b0, b1, b2, b3, b4⟩ w
  rw [hm] at hm1
  rw [hn] at hm2
  have HM1 := Lib.hid hm1
  have HM2 := Lib.hid hm2
  have HP : Hid (dealM ⟨a0, a1, a2, a3, a4⟩ ⟨b0, b1, b2, b3, b4⟩ = none) := by show dealM _ _ = _; unfold dealM; rw [hm, hn]; rfl
  clear hm hn hm1 hm2
  go_enter Tryz.func43, Tryz.ntmps43
  go_wp2_with (first
    | ((with_reducible refine wpList_boxS rfl 23 _ (.tmp 0) rfl rfl (run_boxOf ⟨a0, a1, a2, a3, a4⟩) ?_); intro w1 hb hlt hh; have HB1 := Lib.hid hb; have HA1 := Lib.hid hh; clear hb hlt hh)
    | ((with_reducible refine wpList_boxS rfl 23 _ (.tmp 1) rfl rfl (run_boxOf ⟨b0, b1, b2, b3, b4⟩) ?_); intro w2 hb hlt hh; have HB2 := Lib.hid (bel_trans HB1.out hb); have HA2 := Lib.hid (keep_at HA1.out hb); have HP2 := Lib.hid hh; clear hb hlt hh)
    | (with_reducible refine wpList_loadB rfl 23 (.tmp 2) rfl w.heap.size rfl 23 _ (keep_at HA2.out (bal (bel0 w2) (.cells #[.int .i64 0, .int .i64 0, .int .i64 0, .int .i64 0, .int .i64 0] 42))) _ Tryz.underlying23 rfl (by kernel_rfl) ?_)
    | (with_reducible refine wpList_loadG (by kernel_rfl) 23 (.tmp 3) rfl w1.heap.size rfl 23 #[.int .i64 b0, .int .i64 b1, .int .i64 b2, .int .i64 b3, .int .i64 b4] HP3.out _ Tryz.underlying23 rfl (by kernel_rfl) ?_)
    | (go_at_call 58; first
      | ((with_reducible refine (HM1.out _).mono ?_); rintro e w3 ⟨rfl, hb⟩; have HB3 := Lib.hid (bel_trans (bal HB2.out (.cells #[.int .i64 0, .int .i64 0, .int .i64 0, .int .i64 0, .int .i64 0] 42)) hb); have HA3 := Lib.hid (keep_at (keep_at HA2.out (bal (bel0 w2) (.cells #[.int .i64 0, .int .i64 0, .int .i64 0, .int .i64 0, .int .i64 0] 42))) hb); have HP3 := Lib.hid (keep_at (keep_at HP2.out (bal (bel0 w2) (.cells #[.int .i64 0, .int .i64 0, .int .i64 0, .int .i64 0, .int .i64 0] 42))) hb); have HQ3 := Lib.hid (keep_at (heap_alloc_new w2 (.cells #[.int .i64 0, .int .i64 0, .int .i64 0, .int .i64 0, .int .i64 0] 42)) hb); clear hb)
      | ((with_reducible refine (HM2.out _).mono ?_); rintro e w4 ⟨rfl, hb⟩; have HB4 := Lib.hid (bel_trans HB3.out hb); have HA4 := Lib.hid (keep_at HA3.out hb); have HP4 := Lib.hid (keep_at HP3.out hb); have HQ4 := Lib.hid (keep_at HQ3.out hb); clear hb))
    | ((with_reducible refine wpList_storeB rfl 42 (.tmp 4) _ rfl w2.heap.size #[.int .i64 0, .int .i64 0, .int .i64 0, .int .i64 0, .int .i64 0] rfl rfl 42 _ HQ4.out (by kernel_rfl) (by kernel_rfl) (by kernel_rfl) ?_); intro w6 hg hz hh; have HB6 := Lib.hid (bel_grown HB4.out hg HB2.out.size); have HR6 := Lib.hid hh; clear hg hz hh))
  exact ⟨rfl, _, results_cell2 rfl _ _ w2.heap.size _ _ _ _ (.bool false) rfl rfl HR6.out Tryz.underlying42 rfl (by kernel_rfl), dealR_none HP.out HB6.out⟩
set_option maxRecDepth 100000 in
set_option maxHeartbeats 16000000 in
theorem RDeal_yes (a0 a1 a2 a3 a4 b0 b1 b2 b3 b4 : Int) (w : World) (hm : mayO ⟨a0, a1, a2, a3, a4⟩ = true) (hn : mayO ⟨b0, b1, b2, b3, b4⟩ = true) : Calls Tryz.prog 43 #[.agg #[.int .i64 a0, .int .i64 a1, .int .i64 a2, .int .i64 a3, .int .i64 a4], .agg #[.int .i64 b0, .int .i64 b1, .int .i64 b2, .int .i64 b3, .int .i64 b4]] w (DealR (dealM ⟨a0, a1, a2, a3, a4⟩ ⟨b0, b1, b2, b3, b4⟩) w) := by
  have hm1 := fun w => RMayO_any ⟨a0, a1, a2, a3, a4⟩ w
  have hm2 := fun w => RMayO_any ⟨b0, b1, b2, b3, b4⟩ w
  rw [hm] at hm1
  rw [hn] at hm2
  have HM1 := Lib.hid hm1
  have HM2 := Lib.hid hm2
  have hbd := dealD_bounds hm hn
  have hP : dealM ⟨a0, a1, a2, a3, a4⟩ ⟨b0, b1, b2, b3, b4⟩ = some (dealD ⟨a0, a1, a2, a3, a4⟩ ⟨b0, b1, b2, b3, b4⟩) := by unfold dealM; rw [hm, hn]; rfl
  have hwb := high_bound (mayO_parts hn).2.2.1.1 7 (by decide) (by have h127 : b2 ≤ 127 := (mayO_parts hn).2.2.1.2; show b2 < 128; omega)
  unfold dealD at hbd hP
  simp only at hbd hP hwb
  have hh3 := fun w => RHigh_any b3 w
  have hsz := fun w => RSize_any (high b3) w
  have hlo := fun w => RLow_any b4 w
  have hhw := fun w => RHigh_any b2 w
  have hfr := fun w => RFrame_any (sizeQ (high b3)) (baud (hi2 a0 b0 4)) w (by omega) (wf64 (by omega))
  obtain ⟨bd, ebd⟩ : ∃ f : Nat → Int, f = fun k => baud (hi2 a0 b0 k) := ⟨_, rfl⟩
  have bd0 : bd 0 = 0 := by rw [ebd]; rfl
  have bdt : ∀ k, both a0 b0 k = true → bd (k + 1) = baud k := fun k h => by rw [ebd]; show baud (hi2 a0 b0 (k + 1)) = _; rw [hi2_t h]
  have bdf : ∀ k, both a0 b0 k = false → bd (k + 1) = bd k := fun k h => by rw [ebd]; show baud (hi2 a0 b0 (k + 1)) = baud (hi2 a0 b0 k); rw [hi2_f h]
  obtain ⟨sl, esl⟩ : ∃ f : Nat → Int, f = fun k => silent (lo2 3 a1 b1 k) := ⟨_, rfl⟩
  have sl0 : sl 0 = 0 := by rw [esl]; rfl
  have slt : ∀ k, both a1 b1 (3 - (k + 1)) = true → sl (k + 1) = silent ((3 - (k + 1) : Nat) : Int) := fun k h => by rw [esl]; show silent (lo2 3 a1 b1 (k + 1)) = _; rw [lo2_t h]
  have slf : ∀ k, both a1 b1 (3 - (k + 1)) = false → sl (k + 1) = sl k := fun k h => by rw [esl]; show silent (lo2 3 a1 b1 (k + 1)) = silent (lo2 3 a1 b1 k); rw [lo2_f h]
  rw [show baud (hi2 a0 b0 4) = bd 4 by rw [ebd]] at hbd hP hfr
  rw [show silent (lo2 3 a1 b1 3) = sl 3 by rw [esl]] at hP
  generalize high b3 = hs at *
  generalize sizeQ hs = sz at *
  generalize low b4 = lo at *
  generalize high b2 = hw at *
  generalize frameM sz (bd 4) = f at *
  obtain ⟨hn7, ehn⟩ : ∃ n : Nat, hw + 1 = (n : Int) := ⟨(hw + 1).toNat, by omega⟩
  have hf5 : 1 ≤ f ∧ f ≤ 5 := hbd.2.2.1
  have hn1 : 1 ≤ hn7 ∧ hn7 ≤ 7 := by omega
  rw [show (hw + 1).toNat = hn7 by omega] at hP
  obtain ⟨wn, ewn⟩ : ∃ g : Nat → Int, g = winM f := ⟨_, rfl⟩
  have wn0 : wn 0 = 1 := by rw [ewn]; rfl
  have wnt : ∀ k : Nat, ((k : Int) + 1) * f ≤ 30 → wn (k + 1) = (k : Int) + 1 := fun k h => by rw [ewn]; show (if ((k : Int) + 1) * f ≤ 30 then (k : Int) + 1 else winM f k) = _; rw [if_pos h]
  have wnf : ∀ k : Nat, ¬ ((k : Int) + 1) * f ≤ 30 → wn (k + 1) = wn k := fun k h => by rw [ewn]; show (if ((k : Int) + 1) * f ≤ 30 then (k : Int) + 1 else winM f k) = _; rw [if_neg h]
  rw [← ewn] at hP
  have ehw : IntKind.i64.wrap (hw + 1) = (hn7 : Int) := by rw [ehn]; exact IntWalk.i64_in _ (by omega)
  have HH3 := Lib.hid hh3
  have HSZ := Lib.hid hsz
  have HLO := Lib.hid hlo
  have HHW := Lib.hid hhw
  have HFR := Lib.hid hfr
  have HP := Lib.hid hP
  have BD0 := Lib.hid bd0
  have BDT := Lib.hid bdt
  have BDF := Lib.hid bdf
  have SL0 := Lib.hid sl0
  have SLT := Lib.hid slt
  have SLF := Lib.hid slf
  have WN0 := Lib.hid wn0
  have WNT := Lib.hid wnt
  have WNF := Lib.hid wnf
  have HN1 := Lib.hid hn1
  have HF5 := Lib.hid hf5
  have EHW := Lib.hid ehw
  have HONE0 : Hid ((#[.int .i64 0, .int .i64 0, .int .i64 1, .int .i64 sz, .int .i64 lo] : Array Value).all (·.oneCell') = true) := by show _ = true; simp [Value.oneCell']
  clear hm hn hm1 hm2 hbd hP hwb hh3 hsz hlo hhw hfr ebd bd0 bdt bdf esl sl0 slt slf ehn hf5 hn1 ewn wn0 wnt wnf ehw
  go_enter Tryz.func43, Tryz.ntmps43
  go_wp2_with (first
    | ((with_reducible refine wpList_boxS rfl 23 _ (.tmp 0) rfl rfl (run_boxOf ⟨a0, a1, a2, a3, a4⟩) ?_); intro w1 hb hlt hh; have HB1 := Lib.hid hb; have HA1 := Lib.hid hh; clear hb hlt hh)
    | ((with_reducible refine wpList_boxS rfl 23 _ (.tmp 1) rfl rfl (run_boxOf ⟨b0, b1, b2, b3, b4⟩) ?_); intro w2 hb hlt hh; have HB2 := Lib.hid (bel_trans HB1.out hb); have HA2 := Lib.hid (keep_at HA1.out hb); have HP2 := Lib.hid hh; clear hb hlt hh)
    | (with_reducible refine wpList_loadB rfl 23 (.tmp 2) rfl w.heap.size rfl 23 _ (keep_at HA2.out (bal (bel0 w2) (.cells #[.int .i64 0, .int .i64 0, .int .i64 0, .int .i64 0, .int .i64 0] 42))) _ Tryz.underlying23 rfl (by kernel_rfl) ?_)
    | (with_reducible refine wpList_loadG (by kernel_rfl) 23 (.tmp 3) rfl w1.heap.size rfl 23 #[.int .i64 b0, .int .i64 b1, .int .i64 b2, .int .i64 b3, .int .i64 b4] HP3.out _ Tryz.underlying23 rfl (by kernel_rfl) ?_)
    | (go_at_call 58; first
      | ((with_reducible refine (HM1.out _).mono ?_); rintro e w3 ⟨rfl, hb⟩; have HB3 := Lib.hid (bel_trans (bal HB2.out (.cells #[.int .i64 0, .int .i64 0, .int .i64 0, .int .i64 0, .int .i64 0] 42)) hb); have HA3 := Lib.hid (keep_at (keep_at HA2.out (bal (bel0 w2) (.cells #[.int .i64 0, .int .i64 0, .int .i64 0, .int .i64 0, .int .i64 0] 42))) hb); have HP3 := Lib.hid (keep_at (keep_at HP2.out (bal (bel0 w2) (.cells #[.int .i64 0, .int .i64 0, .int .i64 0, .int .i64 0, .int .i64 0] 42))) hb); have HQ3 := Lib.hid (keep_at (heap_alloc_new w2 (.cells #[.int .i64 0, .int .i64 0, .int .i64 0, .int .i64 0, .int .i64 0] 42)) hb); clear hb)
      | ((with_reducible refine (HM2.out _).mono ?_); rintro e w4 ⟨rfl, hb⟩; have HB4 := Lib.hid (bel_trans HB3.out hb); have HA4 := Lib.hid (keep_at HA3.out hb); have HP4 := Lib.hid (keep_at HP3.out hb); have HQ4 := Lib.hid (keep_at HQ3.out hb); clear hb)))
  have HB_4 := Lib.hid (HB4.out).drew
  have HE_4 := Lib.hid (bel0 w4).drew
  have HA_4 := Lib.hid (show w4.drew.heap[w.heap.size]? = _ from HA4.out)
  have HP_4 := Lib.hid (show w4.drew.heap[w1.heap.size]? = _ from HP4.out)
  have HQ_4 := Lib.hid (show w4.drew.heap[w2.heap.size]? = _ from HQ4.out)
  have HKP : Hid (∀ W, From w4 W → W.heap[w1.heap.size]? = some (.cells #[.int .i64 b0, .int .i64 b1, .int .i64 b2, .int .i64 b3, .int .i64 b4] 23 (0, 0))) := by show ∀ _, _; exact fun W HW => keep_at HP4.out HW
  refine' region_sharedN (fun g W => DealW w w1.heap.size w2.heap.size g #[.int .i64 a0, .int .i64 a1, .int .i64 a2, .int .i64 a3, .int .i64 a4] #[.int .i64 b0, .int .i64 b1, .int .i64 b2, .int .i64 b3, .int .i64 b4] #[.int .i64 0, .int .i64 0, .int .i64 1, .int .i64 sz, .int .i64 lo] W) _ ?cont ?reg
  case reg =>
    intro hK
    refine rests_begin (From w4) (by kernel_rfl) ?_
    refine rests_take 0 (oi := _) (v := ?_) (by simp only [List.getElem?_toArray, List.getElem?_cons_zero]; rfl) (by kernel_rfl) (by kernel_rfl) (by kernel_rfl) (by exact fun _ _ _ h => h) (HE_4.out) (by rfl) ?_ ?_; rotate_left; (· intro W HW; go_simp; try with_reducible rfl)
    simp only [Act.put, List.setIfInBounds_toArray, List.set_cons_zero, List.set_cons_succ]
    refine rests_take 1 (oi := _) (v := ?_) (by simp only [List.getElem?_toArray, List.getElem?_cons_succ, List.getElem?_cons_zero]; rfl) (by kernel_rfl) (by kernel_rfl) (by kernel_rfl) (by exact fun _ _ _ h => h) (HE_4.out) (by rfl) ?_ ?_; rotate_left; (· intro W HW; have cw3 : W.cell? ⟨w1.heap.size, 3, none⟩ = some (.int .i64 b3) := cell_at (HKP.out W HW) 3 _ rfl; go_simp; try with_reducible rfl)
    simp only [Act.put, List.setIfInBounds_toArray, List.set_cons_zero, List.set_cons_succ]
    refine rests_take 4 (oi := _) (v := ?_) (by simp only [List.getElem?_toArray, List.getElem?_cons_succ, List.getElem?_cons_zero]; rfl) (by kernel_rfl) (by kernel_rfl) (by kernel_rfl) (by exact fun _ _ _ h => h) (HE_4.out) (by rfl) ?_ ?_; rotate_left; (· intro W HW; go_simp; try with_reducible rfl)
    simp only [Act.put, List.setIfInBounds_toArray, List.set_cons_zero, List.set_cons_succ]
    refine rests_take 5 (oi := _) (v := ?_) (by simp only [List.getElem?_toArray, List.getElem?_cons_succ, List.getElem?_cons_zero]; rfl) (by kernel_rfl) (by kernel_rfl) (by kernel_rfl) (by exact fun _ _ _ h => h) (HE_4.out) (by rfl) ?_ ?_; rotate_left; (· intro W HW; have cw4 : W.cell? ⟨w1.heap.size, 4, none⟩ = some (.int .i64 b4) := cell_at (HKP.out W HW) 4 _ rfl; go_simp; try with_reducible rfl)
    simp only [Act.put, List.setIfInBounds_toArray, List.set_cons_zero, List.set_cons_succ]
    refine rests_two 2 8 (oi := _) (oj := _) (by simp only [List.getElem?_toArray, List.getElem?_cons_succ, List.getElem?_cons_zero]; rfl) (by simp only [List.getElem?_toArray, List.getElem?_cons_succ, List.getElem?_cons_zero]; rfl) (by kernel_rfl) (by rfl) (by rfl) ?_ ?_
    · refine wp_enter (f := 27) (args := #[.int .i64 b3]) (by go_simp) (HH3.out (w4.drew)) ?_
      rintro e w' ⟨rfl, hw'⟩; rw [hw']; clear hw'; refine ⟨_, rfl, HE_4.out, ?_⟩
      simp only [Act.put, List.setIfInBounds_toArray, List.set_cons_zero, List.set_cons_succ]
      refine rests_two 3 8 (oi := _) (oj := _) (by simp only [List.getElem?_toArray, List.getElem?_cons_succ, List.getElem?_cons_zero]; rfl) (by simp only [List.getElem?_toArray, List.getElem?_cons_succ, List.getElem?_cons_zero]; rfl) (by kernel_rfl) (by rfl) (by rfl) ?_ ?_
      · refine wp_enter (f := 35) (args := #[.int .i64 hs]) (by go_simp) (HSZ.out (w4.drew)) ?_
        rintro e w5 ⟨rfl, hb⟩; have HB_5 := Lib.hid (bel_trans (w := w4.drew) HB_4.out hb); have HE_5 := Lib.hid (bel_trans (w := w4.drew) HE_4.out hb); have HA_5 := Lib.hid (keep_at (w := w4.drew) HA_4.out hb); have HP_5 := Lib.hid (keep_at (w := w4.drew) HP_4.out hb); have HQ_5 := Lib.hid (keep_at (w := w4.drew) HQ_4.out hb); refine ⟨_, rfl, HE_5.out, ?_⟩; clear hb
        simp only [Act.put, List.setIfInBounds_toArray, List.set_cons_zero, List.set_cons_succ]
        refine rests_two 6 8 (oi := _) (oj := _) (by simp only [List.getElem?_toArray, List.getElem?_cons_succ, List.getElem?_cons_zero]; rfl) (by simp only [List.getElem?_toArray, List.getElem?_cons_succ, List.getElem?_cons_zero]; rfl) (by kernel_rfl) (by rfl) (by rfl) ?_ ?_
        · refine wp_enter (f := 29) (args := #[.int .i64 b4]) (by go_simp) (HLO.out (w5)) ?_
          rintro e w' ⟨rfl, hw'⟩; rw [hw']; clear hw'; refine ⟨_, rfl, HE_5.out, ?_⟩
          simp only [Act.put, List.setIfInBounds_toArray, List.set_cons_zero, List.set_cons_succ]
          refine rests_take 7 (oi := _) (v := ?_) (by simp only [List.getElem?_toArray, List.getElem?_cons_succ, List.getElem?_cons_zero]; rfl) (by kernel_rfl) (by kernel_rfl) (by kernel_rfl) (by exact fun _ _ _ h => h) (HE_5.out) (by rfl) ?_ ?_; rotate_left; (· intro W HW; go_simp; try with_reducible rfl)
          simp only [Act.put, List.setIfInBounds_toArray, List.set_cons_zero, List.set_cons_succ]
          have HGa := Lib.hid (lt_at HA_5.out); have HGp := Lib.hid (lt_at HP_5.out); have HGq := Lib.hid (lt_at HQ_5.out); have HGe := Lib.hid (HE_5.out.size)
          refine rests_run 8 (oi := _) (by simp only [List.getElem?_toArray, List.getElem?_cons_succ, List.getElem?_cons_zero]; rfl) (by kernel_rfl) (by rfl) (.pointer (some ⟨w5.heap.size, 0, none⟩)) ((w5).alloc (.cells #[.int .i64 0, .int .i64 0, .int .i64 0, .int .i64 0, .int .i64 0] 42)) (by go_simp) ⟨bal HE_5.out _, ?_⟩
          have HB_6 := Lib.hid (bal (w := w5) HB_5.out (.cells #[.int .i64 0, .int .i64 0, .int .i64 0, .int .i64 0, .int .i64 0] 42)); have HE_6 := Lib.hid (bal (w := w5) HE_5.out (.cells #[.int .i64 0, .int .i64 0, .int .i64 0, .int .i64 0, .int .i64 0] 42)); have HA_6 := Lib.hid (keep_at (w := w5) HA_5.out (bal (bel0 (w5)) (.cells #[.int .i64 0, .int .i64 0, .int .i64 0, .int .i64 0, .int .i64 0] 42))); have HP_6 := Lib.hid (keep_at (w := w5) HP_5.out (bal (bel0 (w5)) (.cells #[.int .i64 0, .int .i64 0, .int .i64 0, .int .i64 0, .int .i64 0] 42))); have HQ_6 := Lib.hid (keep_at (w := w5) HQ_5.out (bal (bel0 (w5)) (.cells #[.int .i64 0, .int .i64 0, .int .i64 0, .int .i64 0, .int .i64 0] 42))); have HN_6 := Lib.hid (heap_alloc_new (w5) (.cells #[.int .i64 0, .int .i64 0, .int .i64 0, .int .i64 0, .int .i64 0] 42))
          simp only [Act.put, List.setIfInBounds_toArray, List.set_cons_zero, List.set_cons_succ]
          refine rests_storeB 9 (oi := _) (by simp only [List.getElem?_toArray, List.getElem?_cons_succ, List.getElem?_cons_zero]; rfl) (by kernel_rfl) (by rfl) 42 (.tmp 6) (.tmp 26) rfl (w5.heap.size) #[.int .i64 0, .int .i64 0, .int .i64 1, .int .i64 sz, .int .i64 lo] rfl rfl 42 _ HN_6.out (by kernel_rfl) rfl HONE0.out ?_
          intro w7 hg7 hz7 hh7; have HR7 := Lib.hid (DealW.mk_ (g := w5.heap.size) (bel_grown HB_6.out hg7 (Nat.le_of_lt HGa.out)) (keep_grown HA_6.out hg7 (Nat.ne_of_lt HGa.out)) (keep_grown HP_6.out hg7 (Nat.ne_of_lt HGp.out)) (keep_grown HQ_6.out hg7 (Nat.ne_of_lt HGq.out)) hh7 HGa.out HGp.out HGq.out); refine ⟨bel_grown HE_6.out hg7 HGe.out, ?_⟩; clear hg7 hz7 hh7
          simp only [Act.put, List.setIfInBounds_toArray, List.set_cons_zero, List.set_cons_succ]
          refine rests_done (by kernel_rfl) ?_
          have hF := HR7.out
          revert hF
          generalize w5.heap.size = g
          intro hF
          exact hK g _ hF
        · have HGa := Lib.hid (lt_at HA_5.out); have HGp := Lib.hid (lt_at HP_5.out); have HGq := Lib.hid (lt_at HQ_5.out); have HGe := Lib.hid (HE_5.out.size)
          refine wp_val (v := .pointer (some ⟨w5.heap.size, 0, none⟩)) (w' := (w5).alloc (.cells #[.int .i64 0, .int .i64 0, .int .i64 0, .int .i64 0, .int .i64 0] 42)) (by go_simp) ⟨bal HE_5.out _, ?_⟩
          have HB_6 := Lib.hid (bal (w := w5) HB_5.out (.cells #[.int .i64 0, .int .i64 0, .int .i64 0, .int .i64 0, .int .i64 0] 42)); have HE_6 := Lib.hid (bal (w := w5) HE_5.out (.cells #[.int .i64 0, .int .i64 0, .int .i64 0, .int .i64 0, .int .i64 0] 42)); have HA_6 := Lib.hid (keep_at (w := w5) HA_5.out (bal (bel0 (w5)) (.cells #[.int .i64 0, .int .i64 0, .int .i64 0, .int .i64 0, .int .i64 0] 42))); have HP_6 := Lib.hid (keep_at (w := w5) HP_5.out (bal (bel0 (w5)) (.cells #[.int .i64 0, .int .i64 0, .int .i64 0, .int .i64 0, .int .i64 0] 42))); have HQ_6 := Lib.hid (keep_at (w := w5) HQ_5.out (bal (bel0 (w5)) (.cells #[.int .i64 0, .int .i64 0, .int .i64 0, .int .i64 0, .int .i64 0] 42))); have HN_6 := Lib.hid (heap_alloc_new (w5) (.cells #[.int .i64 0, .int .i64 0, .int .i64 0, .int .i64 0, .int .i64 0] 42))
          simp only [Act.put, List.setIfInBounds_toArray, List.set_cons_zero, List.set_cons_succ]
          refine rests_call 6 (oi := _) (by simp only [List.getElem?_toArray, List.getElem?_cons_succ, List.getElem?_cons_zero]; rfl) 29 #[.int .i64 b4] _ (by kernel_rfl) (by rfl) (by go_simp) (HLO.out (((w5).alloc (.cells #[.int .i64 0, .int .i64 0, .int .i64 0, .int .i64 0, .int .i64 0] 42)))) ?_
          rintro e w' ⟨rfl, hw'⟩; rw [hw']; clear hw'; refine ⟨_, rfl, HE_6.out, ?_⟩
          simp only [Act.put, List.setIfInBounds_toArray, List.set_cons_zero, List.set_cons_succ]
          refine rests_take 7 (oi := _) (v := ?_) (by simp only [List.getElem?_toArray, List.getElem?_cons_succ, List.getElem?_cons_zero]; rfl) (by kernel_rfl) (by kernel_rfl) (by kernel_rfl) (by exact fun _ _ _ h => h) (HE_6.out) (by rfl) ?_ ?_; rotate_left; (· intro W HW; go_simp; try with_reducible rfl)
          simp only [Act.put, List.setIfInBounds_toArray, List.set_cons_zero, List.set_cons_succ]
          refine rests_storeB 9 (oi := _) (by simp only [List.getElem?_toArray, List.getElem?_cons_succ, List.getElem?_cons_zero]; rfl) (by kernel_rfl) (by rfl) 42 (.tmp 6) (.tmp 26) rfl (w5.heap.size) #[.int .i64 0, .int .i64 0, .int .i64 1, .int .i64 sz, .int .i64 lo] rfl rfl 42 _ HN_6.out (by kernel_rfl) rfl HONE0.out ?_
          intro w7 hg7 hz7 hh7; have HR7 := Lib.hid (DealW.mk_ (g := w5.heap.size) (bel_grown HB_6.out hg7 (Nat.le_of_lt HGa.out)) (keep_grown HA_6.out hg7 (Nat.ne_of_lt HGa.out)) (keep_grown HP_6.out hg7 (Nat.ne_of_lt HGp.out)) (keep_grown HQ_6.out hg7 (Nat.ne_of_lt HGq.out)) hh7 HGa.out HGp.out HGq.out); refine ⟨bel_grown HE_6.out hg7 HGe.out, ?_⟩; clear hg7 hz7 hh7
          simp only [Act.put, List.setIfInBounds_toArray, List.set_cons_zero, List.set_cons_succ]
          refine rests_done (by kernel_rfl) ?_
          have hF := HR7.out
          revert hF
          generalize w5.heap.size = g
          intro hF
          exact hK g _ hF
      · have HGa := Lib.hid (lt_at HA_4.out); have HGp := Lib.hid (lt_at HP_4.out); have HGq := Lib.hid (lt_at HQ_4.out); have HGe := Lib.hid (HE_4.out.size)
        refine wp_val (v := .pointer (some ⟨w4.heap.size, 0, none⟩)) (w' := (w4.drew).alloc (.cells #[.int .i64 0, .int .i64 0, .int .i64 0, .int .i64 0, .int .i64 0] 42)) (by go_simp) ⟨bal HE_4.out _, ?_⟩
        have HB_5 := Lib.hid (bal (w := w4.drew) HB_4.out (.cells #[.int .i64 0, .int .i64 0, .int .i64 0, .int .i64 0, .int .i64 0] 42)); have HE_5 := Lib.hid (bal (w := w4.drew) HE_4.out (.cells #[.int .i64 0, .int .i64 0, .int .i64 0, .int .i64 0, .int .i64 0] 42)); have HA_5 := Lib.hid (keep_at (w := w4.drew) HA_4.out (bal (bel0 (w4.drew)) (.cells #[.int .i64 0, .int .i64 0, .int .i64 0, .int .i64 0, .int .i64 0] 42))); have HP_5 := Lib.hid (keep_at (w := w4.drew) HP_4.out (bal (bel0 (w4.drew)) (.cells #[.int .i64 0, .int .i64 0, .int .i64 0, .int .i64 0, .int .i64 0] 42))); have HQ_5 := Lib.hid (keep_at (w := w4.drew) HQ_4.out (bal (bel0 (w4.drew)) (.cells #[.int .i64 0, .int .i64 0, .int .i64 0, .int .i64 0, .int .i64 0] 42))); have HN_5 := Lib.hid (heap_alloc_new (w4.drew) (.cells #[.int .i64 0, .int .i64 0, .int .i64 0, .int .i64 0, .int .i64 0] 42))
        simp only [Act.put, List.setIfInBounds_toArray, List.set_cons_zero, List.set_cons_succ]
        refine rests_call 3 (oi := _) (by simp only [List.getElem?_toArray, List.getElem?_cons_succ, List.getElem?_cons_zero]; rfl) 35 #[.int .i64 hs] _ (by kernel_rfl) (by rfl) (by go_simp) (HSZ.out (((w4.drew).alloc (.cells #[.int .i64 0, .int .i64 0, .int .i64 0, .int .i64 0, .int .i64 0] 42)))) ?_
        rintro e w6 ⟨rfl, hb⟩; have HB_6 := Lib.hid (bel_trans (w := ((w4.drew).alloc (.cells #[.int .i64 0, .int .i64 0, .int .i64 0, .int .i64 0, .int .i64 0] 42))) HB_5.out hb); have HE_6 := Lib.hid (bel_trans (w := ((w4.drew).alloc (.cells #[.int .i64 0, .int .i64 0, .int .i64 0, .int .i64 0, .int .i64 0] 42))) HE_5.out hb); have HA_6 := Lib.hid (keep_at (w := ((w4.drew).alloc (.cells #[.int .i64 0, .int .i64 0, .int .i64 0, .int .i64 0, .int .i64 0] 42))) HA_5.out hb); have HP_6 := Lib.hid (keep_at (w := ((w4.drew).alloc (.cells #[.int .i64 0, .int .i64 0, .int .i64 0, .int .i64 0, .int .i64 0] 42))) HP_5.out hb); have HQ_6 := Lib.hid (keep_at (w := ((w4.drew).alloc (.cells #[.int .i64 0, .int .i64 0, .int .i64 0, .int .i64 0, .int .i64 0] 42))) HQ_5.out hb); have HN_6 := Lib.hid (keep_at (w := ((w4.drew).alloc (.cells #[.int .i64 0, .int .i64 0, .int .i64 0, .int .i64 0, .int .i64 0] 42))) HN_5.out hb); refine ⟨_, rfl, HE_6.out, ?_⟩; clear hb
        simp only [Act.put, List.setIfInBounds_toArray, List.set_cons_zero, List.set_cons_succ]
        refine rests_call 6 (oi := _) (by simp only [List.getElem?_toArray, List.getElem?_cons_succ, List.getElem?_cons_zero]; rfl) 29 #[.int .i64 b4] _ (by kernel_rfl) (by rfl) (by go_simp) (HLO.out (w6)) ?_
        rintro e w' ⟨rfl, hw'⟩; rw [hw']; clear hw'; refine ⟨_, rfl, HE_6.out, ?_⟩
        simp only [Act.put, List.setIfInBounds_toArray, List.set_cons_zero, List.set_cons_succ]
        refine rests_take 7 (oi := _) (v := ?_) (by simp only [List.getElem?_toArray, List.getElem?_cons_succ, List.getElem?_cons_zero]; rfl) (by kernel_rfl) (by kernel_rfl) (by kernel_rfl) (by exact fun _ _ _ h => h) (HE_6.out) (by rfl) ?_ ?_; rotate_left; (· intro W HW; go_simp; try with_reducible rfl)
        simp only [Act.put, List.setIfInBounds_toArray, List.set_cons_zero, List.set_cons_succ]
        refine rests_storeB 9 (oi := _) (by simp only [List.getElem?_toArray, List.getElem?_cons_succ, List.getElem?_cons_zero]; rfl) (by kernel_rfl) (by rfl) 42 (.tmp 6) (.tmp 26) rfl (w4.heap.size) #[.int .i64 0, .int .i64 0, .int .i64 1, .int .i64 sz, .int .i64 lo] rfl rfl 42 _ HN_6.out (by kernel_rfl) rfl HONE0.out ?_
        intro w7 hg7 hz7 hh7; have HR7 := Lib.hid (DealW.mk_ (g := w4.heap.size) (bel_grown HB_6.out hg7 (Nat.le_of_lt HGa.out)) (keep_grown HA_6.out hg7 (Nat.ne_of_lt HGa.out)) (keep_grown HP_6.out hg7 (Nat.ne_of_lt HGp.out)) (keep_grown HQ_6.out hg7 (Nat.ne_of_lt HGq.out)) hh7 HGa.out HGp.out HGq.out); refine ⟨bel_grown HE_6.out hg7 HGe.out, ?_⟩; clear hg7 hz7 hh7
        simp only [Act.put, List.setIfInBounds_toArray, List.set_cons_zero, List.set_cons_succ]
        refine rests_done (by kernel_rfl) ?_
        have hF := HR7.out
        revert hF
        generalize w4.heap.size = g
        intro hF
        exact hK g _ hF
    · have HGa := Lib.hid (lt_at HA_4.out); have HGp := Lib.hid (lt_at HP_4.out); have HGq := Lib.hid (lt_at HQ_4.out); have HGe := Lib.hid (HE_4.out.size)
      refine wp_val (v := .pointer (some ⟨w4.heap.size, 0, none⟩)) (w' := (w4.drew).alloc (.cells #[.int .i64 0, .int .i64 0, .int .i64 0, .int .i64 0, .int .i64 0] 42)) (by go_simp) ⟨bal HE_4.out _, ?_⟩
      have HB_5 := Lib.hid (bal (w := w4.drew) HB_4.out (.cells #[.int .i64 0, .int .i64 0, .int .i64 0, .int .i64 0, .int .i64 0] 42)); have HE_5 := Lib.hid (bal (w := w4.drew) HE_4.out (.cells #[.int .i64 0, .int .i64 0, .int .i64 0, .int .i64 0, .int .i64 0] 42)); have HA_5 := Lib.hid (keep_at (w := w4.drew) HA_4.out (bal (bel0 (w4.drew)) (.cells #[.int .i64 0, .int .i64 0, .int .i64 0, .int .i64 0, .int .i64 0] 42))); have HP_5 := Lib.hid (keep_at (w := w4.drew) HP_4.out (bal (bel0 (w4.drew)) (.cells #[.int .i64 0, .int .i64 0, .int .i64 0, .int .i64 0, .int .i64 0] 42))); have HQ_5 := Lib.hid (keep_at (w := w4.drew) HQ_4.out (bal (bel0 (w4.drew)) (.cells #[.int .i64 0, .int .i64 0, .int .i64 0, .int .i64 0, .int .i64 0] 42))); have HN_5 := Lib.hid (heap_alloc_new (w4.drew) (.cells #[.int .i64 0, .int .i64 0, .int .i64 0, .int .i64 0, .int .i64 0] 42))
      simp only [Act.put, List.setIfInBounds_toArray, List.set_cons_zero, List.set_cons_succ]
      refine rests_call 2 (oi := _) (by simp only [List.getElem?_toArray, List.getElem?_cons_succ, List.getElem?_cons_zero]; rfl) 27 #[.int .i64 b3] _ (by kernel_rfl) (by rfl) (by go_simp) (HH3.out (((w4.drew).alloc (.cells #[.int .i64 0, .int .i64 0, .int .i64 0, .int .i64 0, .int .i64 0] 42)))) ?_
      rintro e w' ⟨rfl, hw'⟩; rw [hw']; clear hw'; refine ⟨_, rfl, HE_5.out, ?_⟩
      simp only [Act.put, List.setIfInBounds_toArray, List.set_cons_zero, List.set_cons_succ]
      refine rests_call 3 (oi := _) (by simp only [List.getElem?_toArray, List.getElem?_cons_succ, List.getElem?_cons_zero]; rfl) 35 #[.int .i64 hs] _ (by kernel_rfl) (by rfl) (by go_simp) (HSZ.out (((w4.drew).alloc (.cells #[.int .i64 0, .int .i64 0, .int .i64 0, .int .i64 0, .int .i64 0] 42)))) ?_
      rintro e w6 ⟨rfl, hb⟩; have HB_6 := Lib.hid (bel_trans (w := ((w4.drew).alloc (.cells #[.int .i64 0, .int .i64 0, .int .i64 0, .int .i64 0, .int .i64 0] 42))) HB_5.out hb); have HE_6 := Lib.hid (bel_trans (w := ((w4.drew).alloc (.cells #[.int .i64 0, .int .i64 0, .int .i64 0, .int .i64 0, .int .i64 0] 42))) HE_5.out hb); have HA_6 := Lib.hid (keep_at (w := ((w4.drew).alloc (.cells #[.int .i64 0, .int .i64 0, .int .i64 0, .int .i64 0, .int .i64 0] 42))) HA_5.out hb); have HP_6 := Lib.hid (keep_at (w := ((w4.drew).alloc (.cells #[.int .i64 0, .int .i64 0, .int .i64 0, .int .i64 0, .int .i64 0] 42))) HP_5.out hb); have HQ_6 := Lib.hid (keep_at (w := ((w4.drew).alloc (.cells #[.int .i64 0, .int .i64 0, .int .i64 0, .int .i64 0, .int .i64 0] 42))) HQ_5.out hb); have HN_6 := Lib.hid (keep_at (w := ((w4.drew).alloc (.cells #[.int .i64 0, .int .i64 0, .int .i64 0, .int .i64 0, .int .i64 0] 42))) HN_5.out hb); refine ⟨_, rfl, HE_6.out, ?_⟩; clear hb
      simp only [Act.put, List.setIfInBounds_toArray, List.set_cons_zero, List.set_cons_succ]
      refine rests_call 6 (oi := _) (by simp only [List.getElem?_toArray, List.getElem?_cons_succ, List.getElem?_cons_zero]; rfl) 29 #[.int .i64 b4] _ (by kernel_rfl) (by rfl) (by go_simp) (HLO.out (w6)) ?_
      rintro e w' ⟨rfl, hw'⟩; rw [hw']; clear hw'; refine ⟨_, rfl, HE_6.out, ?_⟩
      simp only [Act.put, List.setIfInBounds_toArray, List.set_cons_zero, List.set_cons_succ]
      refine rests_take 7 (oi := _) (v := ?_) (by simp only [List.getElem?_toArray, List.getElem?_cons_succ, List.getElem?_cons_zero]; rfl) (by kernel_rfl) (by kernel_rfl) (by kernel_rfl) (by exact fun _ _ _ h => h) (HE_6.out) (by rfl) ?_ ?_; rotate_left; (· intro W HW; go_simp; try with_reducible rfl)
      simp only [Act.put, List.setIfInBounds_toArray, List.set_cons_zero, List.set_cons_succ]
      refine rests_storeB 9 (oi := _) (by simp only [List.getElem?_toArray, List.getElem?_cons_succ, List.getElem?_cons_zero]; rfl) (by kernel_rfl) (by rfl) 42 (.tmp 6) (.tmp 26) rfl (w4.heap.size) #[.int .i64 0, .int .i64 0, .int .i64 1, .int .i64 sz, .int .i64 lo] rfl rfl 42 _ HN_6.out (by kernel_rfl) rfl HONE0.out ?_
      intro w7 hg7 hz7 hh7; have HR7 := Lib.hid (DealW.mk_ (g := w4.heap.size) (bel_grown HB_6.out hg7 (Nat.le_of_lt HGa.out)) (keep_grown HA_6.out hg7 (Nat.ne_of_lt HGa.out)) (keep_grown HP_6.out hg7 (Nat.ne_of_lt HGp.out)) (keep_grown HQ_6.out hg7 (Nat.ne_of_lt HGq.out)) hh7 HGa.out HGp.out HGq.out); refine ⟨bel_grown HE_6.out hg7 HGe.out, ?_⟩; clear hg7 hz7 hh7
      simp only [Act.put, List.setIfInBounds_toArray, List.set_cons_zero, List.set_cons_succ]
      refine rests_done (by kernel_rfl) ?_
      have hF := HR7.out
      revert hF
      generalize w4.heap.size = g
      intro hF
      exact hK g _ hF
  case cont =>
    intro g w5 hR
    have HR5 := Lib.hid hR
    clear hR
    go_wp2
    go_loopw [7] (fun i wr => ∃ k : Nat, k ≤ 4 ∧ i = .int .i64 k ∧ DealW w w1.heap.size w2.heap.size g #[.int .i64 a0, .int .i64 a1, .int .i64 a2, .int .i64 a3, .int .i64 a4] #[.int .i64 b0, .int .i64 b1, .int .i64 b2, .int .i64 b3, .int .i64 b4] #[.int .i64 (bd k), .int .i64 0, .int .i64 1, .int .i64 sz, .int .i64 lo] wr) (fun i _ => 4 - (intOf i).toNat)
    case atStart => exact ⟨0, by omega, rfl, by rw [BD0.out]; exact HR5.out⟩
    case round =>
      obtain ⟨k, hk, rfl, hR⟩ := hrel
      have HR := Lib.hid hR
      clear hR
      by_cases hlt : k < 4
      · have td : decide ((k : Int) < 4) = true := decide_eq_true (by omega)
        have ca : wr.cell? ⟨w.heap.size, 0, none⟩ = some (.int .i64 a0) := cell_at HR.out.a 0 _ rfl
        have cb : wr.cell? ⟨w1.heap.size, 0, none⟩ = some (.int .i64 b0) := cell_at HR.out.b 0 _ rfl
        have h1 := fun w => Rat_any a0 k w (by omega)
        have h2 := fun w => Rat_any b0 k w (by omega)
        rcases hx : atB a0 k with _ | _
        · have HN : Hid (bd (k + 1) = bd k) := BDF.out k (by unfold both; rw [hx]; rfl)
          rw [hx] at h1
          have H1 := Lib.hid h1
          clear hx h1 h2
          go_wp2_with (go_at_call 65; ((with_reducible refine (H1.out _).mono ?_); rintro e w' ⟨rfl, hw'⟩; rw [hw']; clear hw'))
          go_roundw
          case rel => exact ⟨k + 1, by omega, by go_num, by rw [HN.out]; exact HR.out⟩
          case measure => simp [intOf]; omega
        · rcases hy : atB b0 k with _ | _
          · have HN : Hid (bd (k + 1) = bd k) := BDF.out k (by unfold both; rw [hx, hy]; rfl)
            rw [hx] at h1
            rw [hy] at h2
            have H1 := Lib.hid h1
            have H2 := Lib.hid h2
            clear hx hy h1 h2
            go_wp2_with (go_at_call 65; first
              | ((with_reducible refine (H1.out _).mono ?_); rintro e w' ⟨rfl, hw'⟩; rw [hw']; clear hw')
              | ((with_reducible refine (H2.out _).mono ?_); rintro e w' ⟨rfl, hw'⟩; rw [hw']; clear hw'))
            go_roundw
            case rel => exact ⟨k + 1, by omega, by go_num, by rw [HN.out]; exact HR.out⟩
            case measure => simp [intOf]; omega
          · have HN : Hid (bd (k + 1) = baud k) := BDT.out k (by unfold both; rw [hx, hy]; rfl)
            rw [hx] at h1
            rw [hy] at h2
            have H1 := Lib.hid h1
            have H2 := Lib.hid h2
            have H3 := Lib.hid (fun w => RBaud_any (k : Int) w)
            clear hx hy h1 h2
            go_wp2_with (first
              | (go_at_call 65; first
                | ((with_reducible refine (H1.out _).mono ?_); rintro e w' ⟨rfl, hw'⟩; rw [hw']; clear hw')
                | ((with_reducible refine (H2.out _).mono ?_); rintro e w' ⟨rfl, hw'⟩; rw [hw']; clear hw'))
              | (go_at_call 31; (with_reducible refine (H3.out _).mono ?_); rintro e w6 ⟨rfl, hb⟩; have HR6 := Lib.hid (HR.out.below hb); clear hb)
              | ((with_reducible refine wpList_store1 rfl 3 (.tmp 43) (.tmp 42) rfl g 0 (.int .i64 (baud k)) rfl rfl 42 _ HR6.out.d (by simp) (storeInt g 0 _) ?_); intro w7 hg hh; have HR7 : Hid (DealW w w1.heap.size w2.heap.size g #[.int .i64 a0, .int .i64 a1, .int .i64 a2, .int .i64 a3, .int .i64 a4] #[.int .i64 b0, .int .i64 b1, .int .i64 b2, .int .i64 b3, .int .i64 b4] #[.int .i64 (baud k), .int .i64 0, .int .i64 1, .int .i64 sz, .int .i64 lo] w7) := HR6.out.set hg hh; clear hg hh))
            go_roundw
            case rel => exact ⟨k + 1, by omega, by go_num, by rw [HN.out]; exact HR7.out⟩
            case measure => simp [intOf]; omega
      · obtain rfl : k = 4 := by omega
        go_wp2
        go_loopw [8] (fun i wr => ∃ k : Nat, k ≤ 3 ∧ i = .int .i64 (2 - (k : Int)) ∧ DealW w w1.heap.size w2.heap.size g #[.int .i64 a0, .int .i64 a1, .int .i64 a2, .int .i64 a3, .int .i64 a4] #[.int .i64 b0, .int .i64 b1, .int .i64 b2, .int .i64 b3, .int .i64 b4] #[.int .i64 (bd 4), .int .i64 (sl k), .int .i64 1, .int .i64 sz, .int .i64 lo] wr) (fun i _ => (intOf i + 1).toNat)
        case atStart => exact ⟨0, by omega, rfl, by rw [SL0.out]; exact HR.out⟩
        case round =>
          clear HR
          obtain ⟨k, hk, rfl, hR⟩ := hrel
          have HR := Lib.hid hR
          clear hR
          by_cases hlt2 : k < 3
          · obtain ⟨j, hj⟩ : ∃ j, j = 3 - (k + 1) := ⟨_, rfl⟩
            have e1 : (2 - (k : Int)) = (j : Int) := by omega
            rw [e1]
            have hj2 : j ≤ 2 := by omega
            have HJ : Hid (IntKind.i64.wrap ((j : Int) - 1) = 2 - ((k + 1 : Nat) : Int)) := by show _ = _; rw [IntWalk.i64_in _ (by omega)]; omega
            have td2 : decide ((0 : Int) ≤ (j : Int)) = true := decide_eq_true (by omega)
            have ca : wr.cell? ⟨w.heap.size, 1, none⟩ = some (.int .i64 a1) := cell_at HR.out.a 1 _ rfl
            have cb : wr.cell? ⟨w1.heap.size, 1, none⟩ = some (.int .i64 b1) := cell_at HR.out.b 1 _ rfl
            have h1 := fun w => Rat_any a1 j w (by omega)
            have h2 := fun w => Rat_any b1 j w (by omega)
            rcases hx : atB a1 j with _ | _
            · have HN : Hid (sl (k + 1) = sl k) := SLF.out k (by rw [← hj]; unfold both; rw [hx]; rfl)
              rw [hx] at h1
              have H1 := Lib.hid h1
              clear hx h1 h2 e1 hj
              go_wp2_with (go_at_call 65; ((with_reducible refine (H1.out _).mono ?_); rintro e w' ⟨rfl, hw'⟩; rw [hw']; clear hw'))
              go_roundw
              case rel => exact ⟨_, _, _, _, _, _, _, _, _, _, _, _, _, _, _, _, _, _, ⟨k + 1, by omega, by first | exact congrArg (Value.int .i64) HJ.out | (have := HJ.out; rw [IntWalk.i64_in _ (by omega)] at this; exact congrArg (Value.int .i64) this), by rw [HN.out]; exact HR.out⟩, rfl⟩
              case measure => simp [intOf] <;> omega
            · rcases hy : atB b1 j with _ | _
              · have HN : Hid (sl (k + 1) = sl k) := SLF.out k (by rw [← hj]; unfold both; rw [hx, hy]; rfl)
                rw [hx] at h1
                rw [hy] at h2
                have H1 := Lib.hid h1
                have H2 := Lib.hid h2
                clear hx hy h1 h2 e1 hj
                go_wp2_with (go_at_call 65; first
                  | ((with_reducible refine (H1.out _).mono ?_); rintro e w' ⟨rfl, hw'⟩; rw [hw']; clear hw')
                  | ((with_reducible refine (H2.out _).mono ?_); rintro e w' ⟨rfl, hw'⟩; rw [hw']; clear hw'))
                go_roundw
                case rel => exact ⟨_, _, _, _, _, _, _, _, _, _, _, _, _, _, _, _, _, _, ⟨k + 1, by omega, by first | exact congrArg (Value.int .i64) HJ.out | (have := HJ.out; rw [IntWalk.i64_in _ (by omega)] at this; exact congrArg (Value.int .i64) this), by rw [HN.out]; exact HR.out⟩, rfl⟩
                case measure => simp [intOf] <;> omega
              · have HN : Hid (sl (k + 1) = silent j) := by show sl (k + 1) = _; rw [hj]; exact SLT.out k (by rw [← hj]; unfold both; rw [hx, hy]; rfl)
                rw [hx] at h1
                rw [hy] at h2
                have H1 := Lib.hid h1
                have H2 := Lib.hid h2
                have H3 := Lib.hid (fun w => RSilent_any (j : Int) w)
                clear hx hy h1 h2 e1 hj
                go_wp2_with (first
                  | (go_at_call 65; first
                    | ((with_reducible refine (H1.out _).mono ?_); rintro e w' ⟨rfl, hw'⟩; rw [hw']; clear hw')
                    | ((with_reducible refine (H2.out _).mono ?_); rintro e w' ⟨rfl, hw'⟩; rw [hw']; clear hw'))
                  | (go_at_call 33; (with_reducible refine (H3.out _).mono ?_); rintro e w6 ⟨rfl, hb⟩; have HR6 := Lib.hid (HR.out.below hb); clear hb)
                  | ((with_reducible refine wpList_store1 rfl 3 (.tmp 60) (.tmp 59) rfl g 1 (.int .i64 (silent j)) rfl rfl 42 _ HR6.out.d (by simp) (storeInt g 1 _) ?_); intro w7 hg hh; have HR7 : Hid (DealW w w1.heap.size w2.heap.size g #[.int .i64 a0, .int .i64 a1, .int .i64 a2, .int .i64 a3, .int .i64 a4] #[.int .i64 b0, .int .i64 b1, .int .i64 b2, .int .i64 b3, .int .i64 b4] #[.int .i64 (bd 4), .int .i64 (silent j), .int .i64 1, .int .i64 sz, .int .i64 lo] w7) := HR6.out.set hg hh; clear hg hh))
                go_roundw
                case rel => exact ⟨_, _, _, _, _, _, _, _, _, _, _, _, _, _, _, _, _, _, ⟨k + 1, by omega, by first | exact congrArg (Value.int .i64) HJ.out | (have := HJ.out; rw [IntWalk.i64_in _ (by omega)] at this; exact congrArg (Value.int .i64) this), by rw [HN.out]; exact HR7.out⟩, rfl⟩
                case measure => simp [intOf] <;> omega
          · obtain rfl : k = 3 := by omega
            rw [show (2 - ((3 : Nat) : Int)) = -1 from rfl]
            go_wp2
            go_loopw [9] (fun i wr => ∃ k : Nat, k ≤ hn7 ∧ i = .int .i64 ((k : Int) + 1) ∧ DealW w w1.heap.size w2.heap.size g #[.int .i64 a0, .int .i64 a1, .int .i64 a2, .int .i64 a3, .int .i64 a4] #[.int .i64 b0, .int .i64 b1, .int .i64 b2, .int .i64 b3, .int .i64 b4] #[.int .i64 (bd 4), .int .i64 (sl 3), .int .i64 (wn k), .int .i64 sz, .int .i64 lo] wr) (fun i _ => (8 - intOf i).toNat)
            case atStart => exact ⟨0, by omega, rfl, by rw [WN0.out]; exact HR.out⟩
            case round =>
              clear HR
              obtain ⟨k, hk, rfl, hR⟩ := hrel
              have HR := Lib.hid hR
              clear hR
              obtain ⟨hn2, hn3⟩ := HN1.out
              have ehw := EHW.out
              have cb : wr.cell? ⟨w1.heap.size, 2, none⟩ = some (.int .i64 b2) := cell_at HR.out.b 2 _ rfl
              by_cases hlt3 : k < hn7
              · have td3 : decide ((k : Int) + 1 ≤ (hn7 : Int)) = true := decide_eq_true (by omega)
                have cd0 : wr.cell? ⟨g, 0, none⟩ = some (.int .i64 (bd 4)) := cell_at HR.out.d 0 _ rfl
                have cd3 : wr.cell? ⟨g, 3, none⟩ = some (.int .i64 sz) := cell_at HR.out.d 3 _ rfl
                have v1 : IntKind.i64.wrap ((k : Int) + 1 + 1) = (k : Int) + 1 + 1 := IntWalk.i64_in _ (by omega)
                obtain ⟨hf1, hf2⟩ := HF5.out
                have v2 : IntKind.i64.wrap (((k : Int) + 1) * f) = ((k : Int) + 1) * f := by
                  have p1 : 0 ≤ ((k : Int) + 1) * f := Int.mul_nonneg (by omega) (by omega)
                  have p2 : ((k : Int) + 1) * f ≤ 7 * 5 := Int.mul_le_mul (by omega) (by omega) (by omega) (by omega)
                  exact IntWalk.i64_in _ (by omega)
                clear hf1 hf2
                by_cases h30 : ((k : Int) + 1) * f ≤ 30
                · have HN : Hid (wn (k + 1) = (k : Int) + 1) := WNT.out k h30
                  have td4 : decide (((k : Int) + 1) * f ≤ 30) = true := decide_eq_true h30
                  clear h30
                  go_wp2_with (first
                    | (go_at_call 27; ((with_reducible refine (HHW.out _).mono ?_); rintro e w' ⟨rfl, hw'⟩; rw [hw']; clear hw'))
                    | (go_at_call 45; ((with_reducible refine (HFR.out _).mono ?_); rintro e w' ⟨rfl, hw'⟩; rw [hw']; clear hw'))
                    | ((with_reducible refine wpList_store1 rfl 3 (.tmp 78) (.tmp 77) rfl g 2 (.int .i64 ((k : Int) + 1)) rfl rfl 42 _ HR.out.d (by simp) (storeInt g 2 _) ?_); intro w7 hg hh; have HR7 : Hid (DealW w w1.heap.size w2.heap.size g #[.int .i64 a0, .int .i64 a1, .int .i64 a2, .int .i64 a3, .int .i64 a4] #[.int .i64 b0, .int .i64 b1, .int .i64 b2, .int .i64 b3, .int .i64 b4] #[.int .i64 (bd 4), .int .i64 (sl 3), .int .i64 ((k : Int) + 1), .int .i64 sz, .int .i64 lo] w7) := HR.out.set hg hh; clear hg hh))
                  go_roundw
                  case rel => exact ⟨_, _, _, _, _, _, _, _, _, _, _, _, _, _, _, _, _, _, _, ⟨k + 1, by omega, by go_num, by rw [HN.out]; exact HR7.out⟩, rfl⟩
                  case measure => simp [intOf]; omega
                · have HN : Hid (wn (k + 1) = wn k) := WNF.out k (by first | exact h30 | exact Int.not_le.1 h30)
                  have td4 : decide (((k : Int) + 1) * f ≤ 30) = false := decide_eq_false h30
                  clear h30
                  go_wp2_with (first
                    | (go_at_call 27; ((with_reducible refine (HHW.out _).mono ?_); rintro e w' ⟨rfl, hw'⟩; rw [hw']; clear hw'))
                    | (go_at_call 45; ((with_reducible refine (HFR.out _).mono ?_); rintro e w' ⟨rfl, hw'⟩; rw [hw']; clear hw')))
                  go_roundw
                  case rel => exact ⟨_, _, _, _, _, _, _, _, _, _, _, _, _, _, _, _, _, _, _, ⟨k + 1, by omega, by go_num, by rw [HN.out]; exact HR.out⟩, rfl⟩
                  case measure => simp [intOf]; omega
              · obtain rfl : k = hn7 := by omega
                have td3 : decide ((k : Int) + 1 ≤ (k : Int)) = false := decide_eq_false (by omega)
                have HONE : Hid ((#[.int .i64 (bd 4), .int .i64 (sl 3), .int .i64 (wn k), .int .i64 sz, .int .i64 lo] : Array Value).all (·.oneCell') = true) := by show _ = true; simp [Value.oneCell']
                go_wp2_with (first
                  | (go_at_call 27; ((with_reducible refine (HHW.out _).mono ?_); rintro e w' ⟨rfl, hw'⟩; rw [hw']; clear hw'))
                  | (with_reducible refine wpList_loadB rfl 42 (.tmp 6) rfl g rfl 42 _ HR.out.d _ Tryz.underlying42 rfl (by kernel_rfl) ?_)
                  | ((with_reducible refine wpList_storeB rfl 42 (.tmp 4) _ rfl w2.heap.size #[.int .i64 (bd 4), .int .i64 (sl 3), .int .i64 (wn k), .int .i64 sz, .int .i64 lo] rfl rfl 42 _ HR.out.r (by kernel_rfl) (by kernel_rfl) HONE.out ?_); intro w10 hg hz hh; have HB10 := Lib.hid (bel_grown HR.out.bel hg HB2.out.size); have HR10 := Lib.hid hh; clear hg hz hh))
                exact ⟨rfl, _, results_cell2 rfl _ _ w2.heap.size _ _ _ _ (.bool true) rfl rfl HR10.out Tryz.underlying42 rfl (by kernel_rfl), dealR_some (o := ⟨bd 4, sl 3, wn k, sz, lo⟩) HP.out HB10.out⟩
theorem RDeal_any (a b : Of5) (w : World) : Calls Tryz.prog 43 #[a.val, b.val] w (DealR (dealM a b) w) := by
  cases hm : mayO a with
  | false => exact RDeal_no1 _ _ _ _ _ _ _ _ _ _ w hm
  | true =>
    cases hn : mayO b with
    | false => exact RDeal_no2 _ _ _ _ _ _ _ _ _ _ w hm hn
    | true => exact RDeal_yes _ _ _ _ _ _ _ _ _ _ w hm hn
end Go.Proofs.YtcmjdbljdkabpaaGreatDoor
