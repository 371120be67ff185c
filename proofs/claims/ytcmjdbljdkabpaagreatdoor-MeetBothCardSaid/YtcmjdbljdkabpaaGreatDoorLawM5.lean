/- The law MeetBoth. -/
import Derived.Test.YtcmjdbljdkabpaaGreatDoorQ8S
import Derived.Test.YtcmjdbljdkabpaaGreatDoorM8E
import Derived.Test.YtcmjdbljdkabpaaGreatDoorM8M
import Derived.Test.YtcmjdbljdkabpaaGreatDoorBegun8
import Derived.Test.YtcmjdbljdkabpaaGreatDoorM4H
import Derived.Test.YtcmjdbljdkabpaaGreatDoorM8O

set_option linter.all false

namespace Go.Proofs.YtcmjdbljdkabpaaGreatDoor
open Go.RowKit M

structure BothW (w : World) (p g h : Nat) (A B D E : Array Value) (wr : World) : Prop where
  bel : Below w.heap.size w wr
  a : wr.heap[w.heap.size]? = some (.cells A 23 (0, 0))
  b : wr.heap[p]? = some (.cells B 23 (0, 0))
  d : wr.heap[g]? = some (.cells D 42 (0, 0))
  e : wr.heap[h]? = some (.cells E 42 (0, 0))
theorem BothW.below {w : World} {p g h : Nat} {A B D E : Array Value} {wr w' : World} (k : BothW w p g h A B D E wr) (hb : Below wr.heap.size wr w') : BothW w p g h A B D E w' :=
  ⟨bel_trans k.bel hb, keep_at k.a hb, keep_at k.b hb, keep_at k.d hb, keep_at k.e hb⟩
theorem BothW.drew {w : World} {p g h : Nat} {A B D E : Array Value} {wr : World} (k : BothW w p g h A B D E wr) : BothW w p g h A B D E wr.drew := ⟨k.bel.drew, k.a, k.b, k.d, k.e⟩
set_option maxRecDepth 100000 in
set_option maxHeartbeats 4000000 in
theorem MeetBoth_no (a0 a1 a2 a3 a4 b0 b1 b2 b3 b4 : Int) (v : Value) (l : List UInt8) (w : World) (hv : Rds w v l) (hC : Codes w)
    (hd1 : ∀ w, Calls Tryz.prog 42 #[.agg #[.int .i64 a0, .int .i64 a1, .int .i64 a2, .int .i64 a3, .int .i64 a4], .agg #[.int .i64 b0, .int .i64 b1, .int .i64 b2, .int .i64 b3, .int .i64 b4]] w fun e w' => e = .returned (.tuple #[.agg #[.int .i64 0, .int .i64 0, .int .i64 0, .int .i64 0, .int .i64 0], .bool false]) ∧ Below w.heap.size w w') (hd2 : ∀ w, Calls Tryz.prog 42 #[.agg #[.int .i64 b0, .int .i64 b1, .int .i64 b2, .int .i64 b3, .int .i64 b4], .agg #[.int .i64 a0, .int .i64 a1, .int .i64 a2, .int .i64 a3, .int .i64 a4]] w fun e w' => e = .returned (.tuple #[.agg #[.int .i64 0, .int .i64 0, .int .i64 0, .int .i64 0, .int .i64 0], .bool false]) ∧ Below w.heap.size w w') : Calls Tryz.prog 6 #[.agg #[.int .i64 a0, .int .i64 a1, .int .i64 a2, .int .i64 a3, .int .i64 a4], .agg #[.int .i64 b0, .int .i64 b1, .int .i64 b2, .int .i64 b3, .int .i64 b4], v] w (Holds8 w) := by
  obtain ⟨va, ca, rfl, -, -, -⟩ := hv
  have HC0 := Lib.hid hC
  have HD1 := Lib.hid hd1
  have HD2 := Lib.hid hd2
  clear hC hd1 hd2
  go_enter Tryz.func6, Tryz.ntmps6
  go_wp2_with (first
    | ((with_reducible refine wpList_boxS rfl 23 _ (.tmp 0) rfl rfl (run_boxOf ⟨a0, a1, a2, a3, a4⟩) ?_); intro w1 hb hlt hh; have HB1 := Lib.hid hb; have HC1 := Lib.hid (HC0.out.below hb); have A1 := Lib.hid (hh); clear hb hlt hh)
    | ((with_reducible refine wpList_boxS rfl 23 _ (.tmp 1) rfl rfl (run_boxOf ⟨b0, b1, b2, b3, b4⟩) ?_); intro w2 hb hlt hh; have HB2 := Lib.hid (bel_trans HB1.out hb); have A2 := Lib.hid (keep_at A1.out hb); have HC2 := Lib.hid (HC1.out.below hb); have B2 := Lib.hid (hh); clear hb hlt hh)
    | (with_reducible refine wpList_loadB rfl 23 (.tmp 3) rfl (w.heap.size) rfl 23 _ A3.out _ Tryz.underlying23 rfl (by kernel_rfl) ?_)
    | (with_reducible refine wpList_loadB rfl 23 (.tmp 4) rfl (w1.heap.size) rfl 23 _ B3.out _ Tryz.underlying23 rfl (by kernel_rfl) ?_)
    | (with_reducible refine wpList_loadB rfl 23 (.tmp 4) rfl (w1.heap.size) rfl 23 _ B4.out _ Tryz.underlying23 rfl (by kernel_rfl) ?_)
    | (with_reducible refine wpList_loadB rfl 23 (.tmp 3) rfl (w.heap.size) rfl 23 _ A4.out _ Tryz.underlying23 rfl (by kernel_rfl) ?_)
    | (go_at_call 21; ((with_reducible refine (begun8_any _ HC2.out).mono ?_); rintro e w3 ⟨rfl, hb⟩; have HB3 := Lib.hid (bel_trans HB2.out hb); have A3 := Lib.hid (keep_at A2.out hb); have B3 := Lib.hid (keep_at B2.out hb); have HC3 := Lib.hid (HC2.out.below hb); clear hb))
    | (go_at_call 42; first
      | ((with_reducible refine (HD1.out _).mono ?_); rintro e w4 ⟨rfl, hb⟩; have HB4 := Lib.hid (bal ((bel_trans HB3.out hb)) (.cells #[.int .i64 0, .int .i64 0, .int .i64 0, .int .i64 0, .int .i64 0] 42)); have A4 := Lib.hid (keep_at (keep_at A3.out hb) (bal (bel0 w4) (.cells #[.int .i64 0, .int .i64 0, .int .i64 0, .int .i64 0, .int .i64 0] 42))); have B4 := Lib.hid (keep_at (keep_at B3.out hb) (bal (bel0 w4) (.cells #[.int .i64 0, .int .i64 0, .int .i64 0, .int .i64 0, .int .i64 0] 42))); have HC4 := Lib.hid ((HC3.out.below hb).below (bal (bel0 w4) (.cells #[.int .i64 0, .int .i64 0, .int .i64 0, .int .i64 0, .int .i64 0] 42))); have D4 := Lib.hid ((heap_alloc_new w4 (.cells #[.int .i64 0, .int .i64 0, .int .i64 0, .int .i64 0, .int .i64 0] 42))); clear hb)
      | ((with_reducible refine (HD2.out _).mono ?_); rintro e w5 ⟨rfl, hb⟩; have HB5 := Lib.hid (bal ((bel_trans HB4.out hb)) (.cells #[.int .i64 0, .int .i64 0, .int .i64 0, .int .i64 0, .int .i64 0] 42)); have A5 := Lib.hid (keep_at (keep_at A4.out hb) (bal (bel0 w5) (.cells #[.int .i64 0, .int .i64 0, .int .i64 0, .int .i64 0, .int .i64 0] 42))); have B5 := Lib.hid (keep_at (keep_at B4.out hb) (bal (bel0 w5) (.cells #[.int .i64 0, .int .i64 0, .int .i64 0, .int .i64 0, .int .i64 0] 42))); have D5 := Lib.hid (keep_at (keep_at D4.out hb) (bal (bel0 w5) (.cells #[.int .i64 0, .int .i64 0, .int .i64 0, .int .i64 0, .int .i64 0] 42))); have HC5 := Lib.hid ((HC4.out.below hb).below (bal (bel0 w5) (.cells #[.int .i64 0, .int .i64 0, .int .i64 0, .int .i64 0, .int .i64 0] 42))); have E5 := Lib.hid ((heap_alloc_new w5 (.cells #[.int .i64 0, .int .i64 0, .int .i64 0, .int .i64 0, .int .i64 0] 42))); clear hb)))
  go_ret
  exact ⟨rfl, HB5.out⟩
set_option maxRecDepth 100000 in
set_option maxHeartbeats 16000000 in
theorem MeetBoth_yes (a0 a1 a2 a3 a4 b0 b1 b2 b3 b4 d0 d1 d3 e2 e3 e4 f : Int) (dn n : Nat) (v : Value) (l : List UInt8) (w : World) (hv : Rds w v l) (hC : Codes w)
    (hd1 : ∀ w, Calls Tryz.prog 42 #[.agg #[.int .i64 a0, .int .i64 a1, .int .i64 a2, .int .i64 a3, .int .i64 a4], .agg #[.int .i64 b0, .int .i64 b1, .int .i64 b2, .int .i64 b3, .int .i64 b4]] w fun e w' => e = .returned (.tuple #[.agg #[.int .i64 d0, .int .i64 d1, .int .i64 (dn : Int), .int .i64 d3, .int .i64 (low b4)], .bool true]) ∧ Below w.heap.size w w') (hd2 : ∀ w, Calls Tryz.prog 42 #[.agg #[.int .i64 b0, .int .i64 b1, .int .i64 b2, .int .i64 b3, .int .i64 b4], .agg #[.int .i64 a0, .int .i64 a1, .int .i64 a2, .int .i64 a3, .int .i64 a4]] w fun e w' => e = .returned (.tuple #[.agg #[.int .i64 d0, .int .i64 d1, .int .i64 e2, .int .i64 e3, .int .i64 e4], .bool true]) ∧ Below w.heap.size w w')
    (hdn : 1 ≤ dn ∧ dn ≤ 7) (hw1 : (dn : Int) ≤ high b2 + 1) (hhb : 0 ≤ high b2 ∧ high b2 ≤ 6) (he2 : e2 ≤ high a2 + 1) (hha : 0 ≤ high a2 ∧ high a2 ≤ 6) (hf : 1 ≤ f ∧ f ≤ 5) (hfe : frameM d3 d0 = f) (h30 : (dn : Int) * f ≤ 30)
    (hd3 : 0 ≤ d3 ∧ d3 ≤ 64) (hd0 : 32 ≤ d0 ∧ d0 ≤ 256) (hn : 3 + d3 = (n : Int)) (hfit : 2 * (n : Int) + 7 ≤ f * d0) : Calls Tryz.prog 6 #[.agg #[.int .i64 a0, .int .i64 a1, .int .i64 a2, .int .i64 a3, .int .i64 a4], .agg #[.int .i64 b0, .int .i64 b1, .int .i64 b2, .int .i64 b3, .int .i64 b4], v] w (Holds8 w) := by
  have hv2 := hv
  obtain ⟨va, ca, rfl, -, -, -⟩ := hv2
  have HV := Lib.hid hv
  have HC0 := Lib.hid hC
  have hhb_ := fun w => RHigh_any b2 w
  have hha_ := fun w => RHigh_any a2 w
  have hlo_ := fun w => RLow_any b4 w
  have hmf := fun w => MFrame_any d3 d0 w (by omega) (wf64 (by omega))
  rw [hfe] at hmf
  generalize high b2 = hb at *
  generalize high a2 = ha at *
  generalize low b4 = lo at *
  have HD1 := Lib.hid hd1
  have HD2 := Lib.hid hd2
  have HHB := Lib.hid hhb_
  have HHA := Lib.hid hha_
  have HLO := Lib.hid hlo_
  have HMF := Lib.hid hmf
  have v1 : IntKind.i64.wrap (hb + 1) = hb + 1 := IntWalk.i64_in _ (by omega)
  have v2 : IntKind.i64.wrap (ha + 1) = ha + 1 := IntWalk.i64_in _ (by omega)
  have v3 : IntKind.i64.wrap ((dn : Int) * f) = (dn : Int) * f := by
    have p1 : 0 ≤ (dn : Int) * f := Int.mul_nonneg (by omega) (by omega)
    exact IntWalk.i64_in _ (by omega)
  have v4 : IntKind.i64.wrap (n : Int) = (n : Int) := IntWalk.i64_in _ (by omega)
  have v5 : IntKind.i64.wrap (3 + d3) = (n : Int) := by rw [hn]; exact v4
  have td1 : decide ((dn : Int) < 1) = false := decide_eq_false (by omega)
  have td1b : ¬ dn = 0 := by omega
  have td1c : 1 ≤ dn := by omega
  have td2 : decide (hb + 1 < (dn : Int)) = false := decide_eq_false (by omega)
  have td3 : decide (ha + 1 < e2) = false := decide_eq_false (by omega)
  have td4 : decide (30 < (dn : Int) * f) = false := decide_eq_false (by omega)
  have HF := Lib.hid (And.intro v1 (And.intro v2 (And.intro v3 (And.intro td1 (And.intro td1b (And.intro td1c (And.intro td2 (And.intro td3 td4))))))))
  have HG := Lib.hid (And.intro v4 (And.intro v5 (And.intro hn (And.intro hdn (And.intro hf (And.intro h30 (And.intro hd0 (And.intro hfit hd3))))))))
  clear v1 v2 v3 v4 v5 td1 td1b td1c td2 td3 td4 hv hC hd1 hd2 hdn hw1 hhb he2 hha hf hfe h30 hd3 hd0 hn hfit hhb_ hha_ hlo_ hmf
  go_enter Tryz.func6, Tryz.ntmps6
  go_wp2_with (first
    | ((with_reducible refine wpList_boxS rfl 23 _ (.tmp 0) rfl rfl (run_boxOf ⟨a0, a1, a2, a3, a4⟩) ?_); intro w1 hb hlt hh; have HB1 := Lib.hid hb; have HC1 := Lib.hid (HC0.out.below hb); have A1 := Lib.hid (hh); clear hb hlt hh)
    | ((with_reducible refine wpList_boxS rfl 23 _ (.tmp 1) rfl rfl (run_boxOf ⟨b0, b1, b2, b3, b4⟩) ?_); intro w2 hb hlt hh; have HB2 := Lib.hid (bel_trans HB1.out hb); have A2 := Lib.hid (keep_at A1.out hb); have HC2 := Lib.hid (HC1.out.below hb); have B2 := Lib.hid (hh); clear hb hlt hh)
    | (with_reducible refine wpList_loadB rfl 23 (.tmp 3) rfl (w.heap.size) rfl 23 _ A3.out _ Tryz.underlying23 rfl (by kernel_rfl) ?_)
    | (with_reducible refine wpList_loadB rfl 23 (.tmp 4) rfl (w1.heap.size) rfl 23 _ B3.out _ Tryz.underlying23 rfl (by kernel_rfl) ?_)
    | (with_reducible refine wpList_loadB rfl 23 (.tmp 4) rfl (w1.heap.size) rfl 23 _ B4.out _ Tryz.underlying23 rfl (by kernel_rfl) ?_)
    | (with_reducible refine wpList_loadB rfl 23 (.tmp 3) rfl (w.heap.size) rfl 23 _ A4.out _ Tryz.underlying23 rfl (by kernel_rfl) ?_)
    | (go_at_call 21; ((with_reducible refine (begun8_any _ HC2.out).mono ?_); rintro e w3 ⟨rfl, hb⟩; have HB3 := Lib.hid (bel_trans HB2.out hb); have A3 := Lib.hid (keep_at A2.out hb); have B3 := Lib.hid (keep_at B2.out hb); have HC3 := Lib.hid (HC2.out.below hb); clear hb))
    | (go_at_call 42; first
      | ((with_reducible refine (HD1.out _).mono ?_); rintro e w4 ⟨rfl, hb⟩; have HB4 := Lib.hid (bal ((bel_trans HB3.out hb)) (.cells #[.int .i64 d0, .int .i64 d1, .int .i64 (dn : Int), .int .i64 d3, .int .i64 lo] 42)); have A4 := Lib.hid (keep_at (keep_at A3.out hb) (bal (bel0 w4) (.cells #[.int .i64 d0, .int .i64 d1, .int .i64 (dn : Int), .int .i64 d3, .int .i64 lo] 42))); have B4 := Lib.hid (keep_at (keep_at B3.out hb) (bal (bel0 w4) (.cells #[.int .i64 d0, .int .i64 d1, .int .i64 (dn : Int), .int .i64 d3, .int .i64 lo] 42))); have HC4 := Lib.hid ((HC3.out.below hb).below (bal (bel0 w4) (.cells #[.int .i64 d0, .int .i64 d1, .int .i64 (dn : Int), .int .i64 d3, .int .i64 lo] 42))); have D4 := Lib.hid ((heap_alloc_new w4 (.cells #[.int .i64 d0, .int .i64 d1, .int .i64 (dn : Int), .int .i64 d3, .int .i64 lo] 42))); clear hb)
      | ((with_reducible refine (HD2.out _).mono ?_); rintro e w5 ⟨rfl, hb⟩; have HB5 := Lib.hid (bal ((bel_trans HB4.out hb)) (.cells #[.int .i64 d0, .int .i64 d1, .int .i64 e2, .int .i64 e3, .int .i64 e4] 42)); have A5 := Lib.hid (keep_at (keep_at A4.out hb) (bal (bel0 w5) (.cells #[.int .i64 d0, .int .i64 d1, .int .i64 e2, .int .i64 e3, .int .i64 e4] 42))); have B5 := Lib.hid (keep_at (keep_at B4.out hb) (bal (bel0 w5) (.cells #[.int .i64 d0, .int .i64 d1, .int .i64 e2, .int .i64 e3, .int .i64 e4] 42))); have D5 := Lib.hid (keep_at (keep_at D4.out hb) (bal (bel0 w5) (.cells #[.int .i64 d0, .int .i64 d1, .int .i64 e2, .int .i64 e3, .int .i64 e4] 42))); have HC5 := Lib.hid ((HC4.out.below hb).below (bal (bel0 w5) (.cells #[.int .i64 d0, .int .i64 d1, .int .i64 e2, .int .i64 e3, .int .i64 e4] 42))); have E5 := Lib.hid ((heap_alloc_new w5 (.cells #[.int .i64 d0, .int .i64 d1, .int .i64 e2, .int .i64 e3, .int .i64 e4] 42))); clear hb)))
  obtain ⟨ws, hws⟩ : ∃ ws, ws = w5.alloc (.cells #[.int .i64 d0, .int .i64 d1, .int .i64 e2, .int .i64 e3, .int .i64 e4] 42) := ⟨_, rfl⟩
  have hS : BothW w w1.heap.size w4.heap.size w5.heap.size #[.int .i64 a0, .int .i64 a1, .int .i64 a2, .int .i64 a3, .int .i64 a4] #[.int .i64 b0, .int .i64 b1, .int .i64 b2, .int .i64 b3, .int .i64 b4] #[.int .i64 d0, .int .i64 d1, .int .i64 (dn : Int), .int .i64 d3, .int .i64 lo] #[.int .i64 d0, .int .i64 d1, .int .i64 e2, .int .i64 e3, .int .i64 e4] ws := by rw [hws]; exact ⟨HB5.out, A5.out, B5.out, D5.out, E5.out⟩
  have HS := Lib.hid hS
  rw [← hws]
  clear hws hS
  obtain ⟨v1, v2, v3, td1, td1b, td1c, td2, td3, td4⟩ := HF.out
  refine rest_begin (by kernel_rfl) ?_
  refine rest_take 0 (oi := _) (v := ?_) (by simp only [List.getElem?_toArray, List.getElem?_cons_zero]; rfl) (by kernel_rfl) (by kernel_rfl) (by kernel_rfl) (by exact fun _ _ _ h => h) (by rfl) ?_ ?_; rotate_left; (· intro W HW; go_simp; try with_reducible rfl)
  simp only [Act.put, List.setIfInBounds_toArray, List.set_cons_zero, List.set_cons_succ]
  refine rest_take 1 (oi := _) (v := ?_) (by simp only [List.getElem?_toArray, List.getElem?_cons_succ, List.getElem?_cons_zero]; rfl) (by kernel_rfl) (by kernel_rfl) (by kernel_rfl) (by exact fun _ _ _ h => h) (by rfl) ?_ ?_; rotate_left; (· intro W HW; have cw := cell_at (keep_at (w := ws.drew) HS.out.d HW) 0 _ rfl; go_simp; try with_reducible rfl)
  simp only [Act.put, List.setIfInBounds_toArray, List.set_cons_zero, List.set_cons_succ]
  refine rest_take 2 (oi := _) (v := ?_) (by simp only [List.getElem?_toArray, List.getElem?_cons_succ, List.getElem?_cons_zero]; rfl) (by kernel_rfl) (by kernel_rfl) (by kernel_rfl) (by exact fun _ _ _ h => h) (by rfl) ?_ ?_; rotate_left; (· intro W HW; go_simp; try with_reducible rfl)
  simp only [Act.put, List.setIfInBounds_toArray, List.set_cons_zero, List.set_cons_succ]
  refine rest_take 3 (oi := _) (v := ?_) (by simp only [List.getElem?_toArray, List.getElem?_cons_succ, List.getElem?_cons_zero]; rfl) (by kernel_rfl) (by kernel_rfl) (by kernel_rfl) (by exact fun _ _ _ h => h) (by rfl) ?_ ?_; rotate_left; (· intro W HW; have cw := cell_at (keep_at (w := ws.drew) HS.out.e HW) 0 _ rfl; go_simp; try with_reducible rfl)
  simp only [Act.put, List.setIfInBounds_toArray, List.set_cons_zero, List.set_cons_succ]
  refine rest_take 4 (oi := _) (v := ?_) (by simp only [List.getElem?_toArray, List.getElem?_cons_succ, List.getElem?_cons_zero]; rfl) (by kernel_rfl) (by kernel_rfl) (by kernel_rfl) (by exact fun _ _ _ h => h) (by rfl) ?_ ?_; rotate_left; (· intro W HW; go_simp; try with_reducible rfl)
  simp only [Act.put, List.setIfInBounds_toArray, List.set_cons_zero, List.set_cons_succ]
  refine rest_take 5 (oi := _) (v := ?_) (by simp only [List.getElem?_toArray, List.getElem?_cons_succ, List.getElem?_cons_zero]; rfl) (by kernel_rfl) (by kernel_rfl) (by kernel_rfl) (by exact fun _ _ _ h => h) (by rfl) ?_ ?_; rotate_left; (· intro W HW; go_simp; try with_reducible rfl)
  simp only [Act.put, List.setIfInBounds_toArray, List.set_cons_zero, List.set_cons_succ]
  refine rest_take 6 (oi := _) (v := ?_) (by simp only [List.getElem?_toArray, List.getElem?_cons_succ, List.getElem?_cons_zero]; rfl) (by kernel_rfl) (by kernel_rfl) (by kernel_rfl) (by exact fun _ _ _ h => h) (by rfl) ?_ ?_; rotate_left; (· intro W HW; go_simp; try with_reducible rfl)
  simp only [Act.put, List.setIfInBounds_toArray, List.set_cons_zero, List.set_cons_succ]
  refine rest_take 7 (oi := _) (v := ?_) (by simp only [List.getElem?_toArray, List.getElem?_cons_succ, List.getElem?_cons_zero]; rfl) (by kernel_rfl) (by kernel_rfl) (by kernel_rfl) (by exact fun _ _ _ h => h) (by rfl) ?_ ?_; rotate_left; (· intro W HW; have cw := cell_at (keep_at (w := ws.drew) HS.out.d HW) 1 _ rfl; go_simp; try with_reducible rfl)
  simp only [Act.put, List.setIfInBounds_toArray, List.set_cons_zero, List.set_cons_succ]
  refine rest_take 8 (oi := _) (v := ?_) (by simp only [List.getElem?_toArray, List.getElem?_cons_succ, List.getElem?_cons_zero]; rfl) (by kernel_rfl) (by kernel_rfl) (by kernel_rfl) (by exact fun _ _ _ h => h) (by rfl) ?_ ?_; rotate_left; (· intro W HW; go_simp; try with_reducible rfl)
  simp only [Act.put, List.setIfInBounds_toArray, List.set_cons_zero, List.set_cons_succ]
  refine rest_take 9 (oi := _) (v := ?_) (by simp only [List.getElem?_toArray, List.getElem?_cons_succ, List.getElem?_cons_zero]; rfl) (by kernel_rfl) (by kernel_rfl) (by kernel_rfl) (by exact fun _ _ _ h => h) (by rfl) ?_ ?_; rotate_left; (· intro W HW; have cw := cell_at (keep_at (w := ws.drew) HS.out.e HW) 1 _ rfl; go_simp; try with_reducible rfl)
  simp only [Act.put, List.setIfInBounds_toArray, List.set_cons_zero, List.set_cons_succ]
  refine rest_take 10 (oi := _) (v := ?_) (by simp only [List.getElem?_toArray, List.getElem?_cons_succ, List.getElem?_cons_zero]; rfl) (by kernel_rfl) (by kernel_rfl) (by kernel_rfl) (by exact fun _ _ _ h => h) (by rfl) ?_ ?_; rotate_left; (· intro W HW; go_simp; try with_reducible rfl)
  simp only [Act.put, List.setIfInBounds_toArray, List.set_cons_zero, List.set_cons_succ]
  refine rest_take 11 (oi := _) (v := ?_) (by simp only [List.getElem?_toArray, List.getElem?_cons_succ, List.getElem?_cons_zero]; rfl) (by kernel_rfl) (by kernel_rfl) (by kernel_rfl) (by exact fun _ _ _ h => h) (by rfl) ?_ ?_; rotate_left; (· intro W HW; go_simp; try with_reducible rfl)
  simp only [Act.put, List.setIfInBounds_toArray, List.set_cons_zero, List.set_cons_succ]
  refine rest_take 12 (oi := _) (v := ?_) (by simp only [List.getElem?_toArray, List.getElem?_cons_succ, List.getElem?_cons_zero]; rfl) (by kernel_rfl) (by kernel_rfl) (by kernel_rfl) (by exact fun _ _ _ h => h) (by rfl) ?_ ?_; rotate_left; (· intro W HW; go_simp; try with_reducible rfl)
  simp only [Act.put, List.setIfInBounds_toArray, List.set_cons_zero, List.set_cons_succ]
  refine rest_take 13 (oi := _) (v := ?_) (by simp only [List.getElem?_toArray, List.getElem?_cons_succ, List.getElem?_cons_zero]; rfl) (by kernel_rfl) (by kernel_rfl) (by kernel_rfl) (by exact fun _ _ _ h => h) (by rfl) ?_ ?_; rotate_left; (· intro W HW; go_simp; try with_reducible rfl)
  simp only [Act.put, List.setIfInBounds_toArray, List.set_cons_zero, List.set_cons_succ]
  refine rest_take 14 (oi := _) (v := ?_) (by simp only [List.getElem?_toArray, List.getElem?_cons_succ, List.getElem?_cons_zero]; rfl) (by kernel_rfl) (by kernel_rfl) (by kernel_rfl) (by exact fun _ _ _ h => h) (by rfl) ?_ ?_; rotate_left; (· intro W HW; have cw := cell_at (keep_at (w := ws.drew) HS.out.d HW) 2 _ rfl; go_simp; try with_reducible rfl)
  simp only [Act.put, List.setIfInBounds_toArray, List.set_cons_zero, List.set_cons_succ]
  refine rest_take 15 (oi := _) (v := ?_) (by simp only [List.getElem?_toArray, List.getElem?_cons_succ, List.getElem?_cons_zero]; rfl) (by kernel_rfl) (by kernel_rfl) (by kernel_rfl) (by exact fun _ _ _ h => h) (by rfl) ?_ ?_; rotate_left; (· intro W HW; go_simp; try with_reducible rfl)
  simp only [Act.put, List.setIfInBounds_toArray, List.set_cons_zero, List.set_cons_succ]
  refine rest_take 16 (oi := _) (v := ?_) (by simp only [List.getElem?_toArray, List.getElem?_cons_succ, List.getElem?_cons_zero]; rfl) (by kernel_rfl) (by kernel_rfl) (by kernel_rfl) (by exact fun _ _ _ h => h) (by rfl) ?_ ?_; rotate_left; (· intro W HW; go_simp; try with_reducible rfl)
  simp only [Act.put, List.setIfInBounds_toArray, List.set_cons_zero, List.set_cons_succ]
  refine rest_take 17 (oi := _) (v := ?_) (by simp only [List.getElem?_toArray, List.getElem?_cons_succ, List.getElem?_cons_zero]; rfl) (by kernel_rfl) (by kernel_rfl) (by kernel_rfl) (by exact fun _ _ _ h => h) (by rfl) ?_ ?_; rotate_left; (· intro W HW; go_simp; try with_reducible rfl)
  simp only [Act.put, List.setIfInBounds_toArray, List.set_cons_zero, List.set_cons_succ]
  refine rest_take 18 (oi := _) (v := ?_) (by simp only [List.getElem?_toArray, List.getElem?_cons_succ, List.getElem?_cons_zero]; rfl) (by kernel_rfl) (by kernel_rfl) (by kernel_rfl) (by exact fun _ _ _ h => h) (by rfl) ?_ ?_; rotate_left; (· intro W HW; go_simp; try with_reducible rfl)
  simp only [Act.put, List.setIfInBounds_toArray, List.set_cons_zero, List.set_cons_succ]
  refine rest_take 19 (oi := _) (v := ?_) (by simp only [List.getElem?_toArray, List.getElem?_cons_succ, List.getElem?_cons_zero]; rfl) (by kernel_rfl) (by kernel_rfl) (by kernel_rfl) (by exact fun _ _ _ h => h) (by rfl) ?_ ?_; rotate_left; (· intro W HW; have cw := cell_at (keep_at (w := ws.drew) HS.out.d HW) 2 _ rfl; go_simp; try with_reducible rfl)
  simp only [Act.put, List.setIfInBounds_toArray, List.set_cons_zero, List.set_cons_succ]
  refine rest_take 20 (oi := _) (v := ?_) (by simp only [List.getElem?_toArray, List.getElem?_cons_succ, List.getElem?_cons_zero]; rfl) (by kernel_rfl) (by kernel_rfl) (by kernel_rfl) (by exact fun _ _ _ h => h) (by rfl) ?_ ?_; rotate_left; (· intro W HW; go_simp; try with_reducible rfl)
  simp only [Act.put, List.setIfInBounds_toArray, List.set_cons_zero, List.set_cons_succ]
  refine rest_take 21 (oi := _) (v := ?_) (by simp only [List.getElem?_toArray, List.getElem?_cons_succ, List.getElem?_cons_zero]; rfl) (by kernel_rfl) (by kernel_rfl) (by kernel_rfl) (by exact fun _ _ _ h => h) (by rfl) ?_ ?_; rotate_left; (· intro W HW; have cw := cell_at (keep_at (w := ws.drew) HS.out.b HW) 2 _ rfl; go_simp; try with_reducible rfl)
  simp only [Act.put, List.setIfInBounds_toArray, List.set_cons_zero, List.set_cons_succ]
  refine rest_call 22 (oi := _) (by simp only [List.getElem?_toArray, List.getElem?_cons_succ, List.getElem?_cons_zero]; rfl) 27 #[.int .i64 b2] _ (by kernel_rfl) (by rfl) (by go_simp) (HHB.out _) ?_
  rintro e w' ⟨rfl, hw'⟩; rw [hw']; clear hw'; refine ⟨_, rfl, Ext.refl _, ?_⟩
  simp only [Act.put, List.setIfInBounds_toArray, List.set_cons_zero, List.set_cons_succ]
  refine rest_take 23 (oi := _) (v := ?_) (by simp only [List.getElem?_toArray, List.getElem?_cons_succ, List.getElem?_cons_zero]; rfl) (by kernel_rfl) (by kernel_rfl) (by kernel_rfl) (by exact fun _ _ _ h => h) (by rfl) ?_ ?_; rotate_left; (· intro W HW; go_simp; try with_reducible rfl)
  simp only [Act.put, List.setIfInBounds_toArray, List.set_cons_zero, List.set_cons_succ]
  refine rest_take 24 (oi := _) (v := ?_) (by simp only [List.getElem?_toArray, List.getElem?_cons_succ, List.getElem?_cons_zero]; rfl) (by kernel_rfl) (by kernel_rfl) (by kernel_rfl) (by exact fun _ _ _ h => h) (by rfl) ?_ ?_; rotate_left; (· intro W HW; go_simp; try with_reducible rfl)
  simp only [Act.put, List.setIfInBounds_toArray, List.set_cons_zero, List.set_cons_succ]
  refine rest_take 25 (oi := _) (v := ?_) (by simp only [List.getElem?_toArray, List.getElem?_cons_succ, List.getElem?_cons_zero]; rfl) (by kernel_rfl) (by kernel_rfl) (by kernel_rfl) (by exact fun _ _ _ h => h) (by rfl) ?_ ?_; rotate_left; (· intro W HW; go_simp; try with_reducible rfl)
  simp only [Act.put, List.setIfInBounds_toArray, List.set_cons_zero, List.set_cons_succ]
  refine rest_take 26 (oi := _) (v := ?_) (by simp only [List.getElem?_toArray, List.getElem?_cons_succ, List.getElem?_cons_zero]; rfl) (by kernel_rfl) (by kernel_rfl) (by kernel_rfl) (by exact fun _ _ _ h => h) (by rfl) ?_ ?_; rotate_left; (· intro W HW; go_simp; try with_reducible rfl)
  simp only [Act.put, List.setIfInBounds_toArray, List.set_cons_zero, List.set_cons_succ]
  refine rest_take 27 (oi := _) (v := ?_) (by simp only [List.getElem?_toArray, List.getElem?_cons_succ, List.getElem?_cons_zero]; rfl) (by kernel_rfl) (by kernel_rfl) (by kernel_rfl) (by exact fun _ _ _ h => h) (by rfl) ?_ ?_; rotate_left; (· intro W HW; go_simp; try with_reducible rfl)
  simp only [Act.put, List.setIfInBounds_toArray, List.set_cons_zero, List.set_cons_succ]
  refine rest_take 28 (oi := _) (v := ?_) (by simp only [List.getElem?_toArray, List.getElem?_cons_succ, List.getElem?_cons_zero]; rfl) (by kernel_rfl) (by kernel_rfl) (by kernel_rfl) (by exact fun _ _ _ h => h) (by rfl) ?_ ?_; rotate_left; (· intro W HW; have cw := cell_at (keep_at (w := ws.drew) HS.out.e HW) 2 _ rfl; go_simp; try with_reducible rfl)
  simp only [Act.put, List.setIfInBounds_toArray, List.set_cons_zero, List.set_cons_succ]
  refine rest_take 29 (oi := _) (v := ?_) (by simp only [List.getElem?_toArray, List.getElem?_cons_succ, List.getElem?_cons_zero]; rfl) (by kernel_rfl) (by kernel_rfl) (by kernel_rfl) (by exact fun _ _ _ h => h) (by rfl) ?_ ?_; rotate_left; (· intro W HW; go_simp; try with_reducible rfl)
  simp only [Act.put, List.setIfInBounds_toArray, List.set_cons_zero, List.set_cons_succ]
  refine rest_take 30 (oi := _) (v := ?_) (by simp only [List.getElem?_toArray, List.getElem?_cons_succ, List.getElem?_cons_zero]; rfl) (by kernel_rfl) (by kernel_rfl) (by kernel_rfl) (by exact fun _ _ _ h => h) (by rfl) ?_ ?_; rotate_left; (· intro W HW; have cw := cell_at (keep_at (w := ws.drew) HS.out.a HW) 2 _ rfl; go_simp; try with_reducible rfl)
  simp only [Act.put, List.setIfInBounds_toArray, List.set_cons_zero, List.set_cons_succ]
  refine rest_call 31 (oi := _) (by simp only [List.getElem?_toArray, List.getElem?_cons_succ, List.getElem?_cons_zero]; rfl) 27 #[.int .i64 a2] _ (by kernel_rfl) (by rfl) (by go_simp) (HHA.out _) ?_
  rintro e w' ⟨rfl, hw'⟩; rw [hw']; clear hw'; refine ⟨_, rfl, Ext.refl _, ?_⟩
  simp only [Act.put, List.setIfInBounds_toArray, List.set_cons_zero, List.set_cons_succ]
  refine rest_take 32 (oi := _) (v := ?_) (by simp only [List.getElem?_toArray, List.getElem?_cons_succ, List.getElem?_cons_zero]; rfl) (by kernel_rfl) (by kernel_rfl) (by kernel_rfl) (by exact fun _ _ _ h => h) (by rfl) ?_ ?_; rotate_left; (· intro W HW; go_simp; try with_reducible rfl)
  simp only [Act.put, List.setIfInBounds_toArray, List.set_cons_zero, List.set_cons_succ]
  refine rest_take 33 (oi := _) (v := ?_) (by simp only [List.getElem?_toArray, List.getElem?_cons_succ, List.getElem?_cons_zero]; rfl) (by kernel_rfl) (by kernel_rfl) (by kernel_rfl) (by exact fun _ _ _ h => h) (by rfl) ?_ ?_; rotate_left; (· intro W HW; go_simp; try with_reducible rfl)
  simp only [Act.put, List.setIfInBounds_toArray, List.set_cons_zero, List.set_cons_succ]
  refine rest_take 34 (oi := _) (v := ?_) (by simp only [List.getElem?_toArray, List.getElem?_cons_succ, List.getElem?_cons_zero]; rfl) (by kernel_rfl) (by kernel_rfl) (by kernel_rfl) (by exact fun _ _ _ h => h) (by rfl) ?_ ?_; rotate_left; (· intro W HW; go_simp; try with_reducible rfl)
  simp only [Act.put, List.setIfInBounds_toArray, List.set_cons_zero, List.set_cons_succ]
  refine rest_take 35 (oi := _) (v := ?_) (by simp only [List.getElem?_toArray, List.getElem?_cons_succ, List.getElem?_cons_zero]; rfl) (by kernel_rfl) (by kernel_rfl) (by kernel_rfl) (by exact fun _ _ _ h => h) (by rfl) ?_ ?_; rotate_left; (· intro W HW; go_simp; try with_reducible rfl)
  simp only [Act.put, List.setIfInBounds_toArray, List.set_cons_zero, List.set_cons_succ]
  refine rest_take 36 (oi := _) (v := ?_) (by simp only [List.getElem?_toArray, List.getElem?_cons_succ, List.getElem?_cons_zero]; rfl) (by kernel_rfl) (by kernel_rfl) (by kernel_rfl) (by exact fun _ _ _ h => h) (by rfl) ?_ ?_; rotate_left; (· intro W HW; go_simp; try with_reducible rfl)
  simp only [Act.put, List.setIfInBounds_toArray, List.set_cons_zero, List.set_cons_succ]
  refine rest_take 37 (oi := _) (v := ?_) (by simp only [List.getElem?_toArray, List.getElem?_cons_succ, List.getElem?_cons_zero]; rfl) (by kernel_rfl) (by kernel_rfl) (by kernel_rfl) (by exact fun _ _ _ h => h) (by rfl) ?_ ?_; rotate_left; (· intro W HW; have cw := cell_at (keep_at (w := ws.drew) HS.out.d HW) 2 _ rfl; go_simp; try with_reducible rfl)
  simp only [Act.put, List.setIfInBounds_toArray, List.set_cons_zero, List.set_cons_succ]
  refine rest_take 38 (oi := _) (v := ?_) (by simp only [List.getElem?_toArray, List.getElem?_cons_succ, List.getElem?_cons_zero]; rfl) (by kernel_rfl) (by kernel_rfl) (by kernel_rfl) (by exact fun _ _ _ h => h) (by rfl) ?_ ?_; rotate_left; (· intro W HW; go_simp; try with_reducible rfl)
  simp only [Act.put, List.setIfInBounds_toArray, List.set_cons_zero, List.set_cons_succ]
  refine rest_take 39 (oi := _) (v := ?_) (by simp only [List.getElem?_toArray, List.getElem?_cons_succ, List.getElem?_cons_zero]; rfl) (by kernel_rfl) (by kernel_rfl) (by kernel_rfl) (by exact fun _ _ _ h => h) (by rfl) ?_ ?_; rotate_left; (· intro W HW; have cw := cell_at (keep_at (w := ws.drew) HS.out.d HW) 3 _ rfl; go_simp; try with_reducible rfl)
  simp only [Act.put, List.setIfInBounds_toArray, List.set_cons_zero, List.set_cons_succ]
  refine rest_take 40 (oi := _) (v := ?_) (by simp only [List.getElem?_toArray, List.getElem?_cons_succ, List.getElem?_cons_zero]; rfl) (by kernel_rfl) (by kernel_rfl) (by kernel_rfl) (by exact fun _ _ _ h => h) (by rfl) ?_ ?_; rotate_left; (· intro W HW; go_simp; try with_reducible rfl)
  simp only [Act.put, List.setIfInBounds_toArray, List.set_cons_zero, List.set_cons_succ]
  refine rest_take 41 (oi := _) (v := ?_) (by simp only [List.getElem?_toArray, List.getElem?_cons_succ, List.getElem?_cons_zero]; rfl) (by kernel_rfl) (by kernel_rfl) (by kernel_rfl) (by exact fun _ _ _ h => h) (by rfl) ?_ ?_; rotate_left; (· intro W HW; have cw := cell_at (keep_at (w := ws.drew) HS.out.d HW) 0 _ rfl; go_simp; try with_reducible rfl)
  simp only [Act.put, List.setIfInBounds_toArray, List.set_cons_zero, List.set_cons_succ]
  refine rest_call 42 (oi := _) (by simp only [List.getElem?_toArray, List.getElem?_cons_succ, List.getElem?_cons_zero]; rfl) 44 #[.int .i64 d3, .int .i64 d0] _ (by kernel_rfl) (by rfl) (by go_simp) (HMF.out _) ?_
  rintro e w6 ⟨rfl, hb⟩; refine ⟨_, rfl, hb, ?_⟩; have H6 := Lib.hid (HS.out.drew.below hb); clear hb
  simp only [Act.put, List.setIfInBounds_toArray, List.set_cons_zero, List.set_cons_succ]
  refine rest_take 43 (oi := _) (v := ?_) (by simp only [List.getElem?_toArray, List.getElem?_cons_succ, List.getElem?_cons_zero]; rfl) (by kernel_rfl) (by kernel_rfl) (by kernel_rfl) (by exact fun _ _ _ h => h) (by rfl) ?_ ?_; rotate_left; (· intro W HW; go_simp; try with_reducible rfl)
  simp only [Act.put, List.setIfInBounds_toArray, List.set_cons_zero, List.set_cons_succ]
  refine rest_take 44 (oi := _) (v := ?_) (by simp only [List.getElem?_toArray, List.getElem?_cons_succ, List.getElem?_cons_zero]; rfl) (by kernel_rfl) (by kernel_rfl) (by kernel_rfl) (by exact fun _ _ _ h => h) (by rfl) ?_ ?_; rotate_left; (· intro W HW; go_simp; try with_reducible rfl)
  simp only [Act.put, List.setIfInBounds_toArray, List.set_cons_zero, List.set_cons_succ]
  refine rest_take 45 (oi := _) (v := ?_) (by simp only [List.getElem?_toArray, List.getElem?_cons_succ, List.getElem?_cons_zero]; rfl) (by kernel_rfl) (by kernel_rfl) (by kernel_rfl) (by exact fun _ _ _ h => h) (by rfl) ?_ ?_; rotate_left; (· intro W HW; go_simp; try with_reducible rfl)
  simp only [Act.put, List.setIfInBounds_toArray, List.set_cons_zero, List.set_cons_succ]
  refine rest_take 46 (oi := _) (v := ?_) (by simp only [List.getElem?_toArray, List.getElem?_cons_succ, List.getElem?_cons_zero]; rfl) (by kernel_rfl) (by kernel_rfl) (by kernel_rfl) (by exact fun _ _ _ h => h) (by rfl) ?_ ?_; rotate_left; (· intro W HW; go_simp; try with_reducible rfl)
  simp only [Act.put, List.setIfInBounds_toArray, List.set_cons_zero, List.set_cons_succ]
  refine rest_take 47 (oi := _) (v := ?_) (by simp only [List.getElem?_toArray, List.getElem?_cons_succ, List.getElem?_cons_zero]; rfl) (by kernel_rfl) (by kernel_rfl) (by kernel_rfl) (by exact fun _ _ _ h => h) (by rfl) ?_ ?_; rotate_left; (· intro W HW; go_simp; try with_reducible rfl)
  simp only [Act.put, List.setIfInBounds_toArray, List.set_cons_zero, List.set_cons_succ]
  refine rest_take 48 (oi := _) (v := ?_) (by simp only [List.getElem?_toArray, List.getElem?_cons_succ, List.getElem?_cons_zero]; rfl) (by kernel_rfl) (by kernel_rfl) (by kernel_rfl) (by exact fun _ _ _ h => h) (by rfl) ?_ ?_; rotate_left; (· intro W HW; have cw := cell_at (keep_at (w := w6) H6.out.d HW) 4 _ rfl; go_simp; try with_reducible rfl)
  simp only [Act.put, List.setIfInBounds_toArray, List.set_cons_zero, List.set_cons_succ]
  refine rest_take 49 (oi := _) (v := ?_) (by simp only [List.getElem?_toArray, List.getElem?_cons_succ, List.getElem?_cons_zero]; rfl) (by kernel_rfl) (by kernel_rfl) (by kernel_rfl) (by exact fun _ _ _ h => h) (by rfl) ?_ ?_; rotate_left; (· intro W HW; go_simp; try with_reducible rfl)
  simp only [Act.put, List.setIfInBounds_toArray, List.set_cons_zero, List.set_cons_succ]
  refine rest_take 50 (oi := _) (v := ?_) (by simp only [List.getElem?_toArray, List.getElem?_cons_succ, List.getElem?_cons_zero]; rfl) (by kernel_rfl) (by kernel_rfl) (by kernel_rfl) (by exact fun _ _ _ h => h) (by rfl) ?_ ?_; rotate_left; (· intro W HW; have cw := cell_at (keep_at (w := w6) H6.out.b HW) 4 _ rfl; go_simp; try with_reducible rfl)
  simp only [Act.put, List.setIfInBounds_toArray, List.set_cons_zero, List.set_cons_succ]
  refine rest_call 51 (oi := _) (by simp only [List.getElem?_toArray, List.getElem?_cons_succ, List.getElem?_cons_zero]; rfl) 29 #[.int .i64 b4] _ (by kernel_rfl) (by rfl) (by go_simp) (HLO.out _) ?_
  rintro e w' ⟨rfl, hw'⟩; rw [hw']; clear hw'; refine ⟨_, rfl, Ext.refl _, ?_⟩
  simp only [Act.put, List.setIfInBounds_toArray, List.set_cons_zero, List.set_cons_succ]
  refine rest_take 52 (oi := _) (v := ?_) (by simp only [List.getElem?_toArray, List.getElem?_cons_succ, List.getElem?_cons_zero]; rfl) (by kernel_rfl) (by kernel_rfl) (by kernel_rfl) (by exact fun _ _ _ h => h) (by rfl) ?_ ?_; rotate_left; (· intro W HW; go_simp; try with_reducible rfl)
  simp only [Act.put, List.setIfInBounds_toArray, List.set_cons_zero, List.set_cons_succ]
  refine rest_take 53 (oi := _) (v := ?_) (by simp only [List.getElem?_toArray, List.getElem?_cons_succ, List.getElem?_cons_zero]; rfl) (by kernel_rfl) (by kernel_rfl) (by kernel_rfl) (by exact fun _ _ _ h => h) (by rfl) ?_ ?_; rotate_left; (· intro W HW; go_simp; try with_reducible rfl)
  simp only [Act.put, List.setIfInBounds_toArray, List.set_cons_zero, List.set_cons_succ]
  refine rest_done (by kernel_rfl) ?_
  clear v1 v2 v3 td1 td1b td1c td2 td3 td4
  obtain ⟨v4, v5, hn, hdn, hf, h30, hd0, hfit, hd3⟩ := HG.out
  have hn70 : n ≤ 1000000 := by omega
  have HN := Lib.hid hn70
  have cd3 : w6.cell? ⟨w4.heap.size, 3, none⟩ = some (.int .i64 d3) := cell_at H6.out.d 3 _ rfl
  clear hn hdn hf h30 hd0 hfit hd3 hn70
  go_wp2_with (first
    | ((with_reducible refine wpList_makeB rfl (.tmp 96) (.tmp 96) rfl .i64 .i64 n rfl rfl HN.out ?_); intro w7 hb hh; have HB7 := Lib.hid hb; have HX7 := Lib.hid hh; clear hb hh)
    | ((with_reducible refine wpList_copyX rfl (.tmp 98) (.tmp 99) rfl w6.heap.size n w6.heap.size w6 (List.replicate n 0) (.slice va l.length ca) l rfl rfl HX7.out (by simp) ((HV.out.below H6.out.bel).below HB7.out) HB7.out (Nat.le_refl _) ?_); intro w8 Y0 c0 hY hh hb; have HY8 := Lib.hid hY; have HX8 := Lib.hid hh; have HB8 := Lib.hid hb; clear hY hh hb))
  go_loopw [14, 103] (fun _ i wr => ∃ k : Nat, k ≤ n ∧ i = .int .i64 k ∧ Below w6.heap.size w6 wr ∧ ∃ Y : List UInt8, Y.length = n ∧ wr.heap[w6.heap.size]? = some (.cells (bcs Y).toArray 5 (0, 0))) (fun _ i _ => n - (intOf i).toNat)
  case atStart => exact ⟨0, by omega, rfl, HB8.out, Y0, HY8.out, HX8.out⟩
  case round =>
    obtain ⟨k, hk, rfl, hb, Y, hY, hh⟩ := hrel
    have HB := Lib.hid hb
    have HX := Lib.hid hh
    have HY := Lib.hid hY
    clear hb hh hY
    have hn6 := HN.out
    by_cases hlt : k < n
    · have vk : IntKind.i64.wrap ((k : Int) + 1) = (k : Int) + 1 := IntWalk.i64_in _ (by omega)
      have td : decide ((k : Int) < (n : Int)) = true := decide_eq_true (by omega)
      by_cases hl : l.length ≤ k
      · have tl : decide ((l.length : Int) ≤ (k : Int)) = true := decide_eq_true (by omega)
        have hks : k < ((bcs Y).toArray).size := by rw [List.size_toArray, bcs_length, HY.out]; exact hlt
        have HK := Lib.hid hks
        have q3 : (0 : Int) ≤ (k : Int) := by omega
        have q4 : (k : Int) < (n : Int) := by omega
        clear hks
        go_wp2_with ((with_reducible refine wpList_store1 rfl 5 (.tmp 112) (.const (.int .u8 192)) rfl w6.heap.size k (.int .u8 192) rfl rfl 5 _ HX.out HK.out (storeU8 w6.heap.size k _) ?_); intro w9 hg hh; have HB9 := Lib.hid (HB.out.grown hg HB.out.size (fun j hj => by injection hj with hj; omega)); have HX9 := Lib.hid hh; clear hg hh)
        go_roundw
        case rel => first | exact ⟨k + 1, by omega, by go_num, HB9.out, Y.set k 192, by rw [List.length_set]; exact HY.out, by have := HX9.out; rwa [show (Value.int .u8 192) = bc 192 from rfl, bcs_set] at this⟩ | exact ⟨_, _, _, _, _, _, ⟨k + 1, by omega, by go_num, HB9.out, Y.set k 192, by rw [List.length_set]; exact HY.out, by have := HX9.out; rwa [show (Value.int .u8 192) = bc 192 from rfl, bcs_set] at this⟩, rfl⟩ | exact ⟨_, _, _, _, _, _, _, ⟨k + 1, by omega, by go_num, HB9.out, Y.set k 192, by rw [List.length_set]; exact HY.out, by have := HX9.out; rwa [show (Value.int .u8 192) = bc 192 from rfl, bcs_set] at this⟩, rfl⟩ | exact ⟨_, _, _, _, _, _, _, _, ⟨k + 1, by omega, by go_num, HB9.out, Y.set k 192, by rw [List.length_set]; exact HY.out, by have := HX9.out; rwa [show (Value.int .u8 192) = bc 192 from rfl, bcs_set] at this⟩, rfl⟩ | exact ⟨_, _, _, _, _, _, _, _, _, ⟨k + 1, by omega, by go_num, HB9.out, Y.set k 192, by rw [List.length_set]; exact HY.out, by have := HX9.out; rwa [show (Value.int .u8 192) = bc 192 from rfl, bcs_set] at this⟩, rfl⟩ | exact ⟨_, _, _, _, _, _, _, _, _, _, ⟨k + 1, by omega, by go_num, HB9.out, Y.set k 192, by rw [List.length_set]; exact HY.out, by have := HX9.out; rwa [show (Value.int .u8 192) = bc 192 from rfl, bcs_set] at this⟩, rfl⟩ | exact ⟨_, _, _, _, _, _, _, _, _, _, _, ⟨k + 1, by omega, by go_num, HB9.out, Y.set k 192, by rw [List.length_set]; exact HY.out, by have := HX9.out; rwa [show (Value.int .u8 192) = bc 192 from rfl, bcs_set] at this⟩, rfl⟩ | exact ⟨_, _, _, _, _, _, _, _, _, _, _, _, ⟨k + 1, by omega, by go_num, HB9.out, Y.set k 192, by rw [List.length_set]; exact HY.out, by have := HX9.out; rwa [show (Value.int .u8 192) = bc 192 from rfl, bcs_set] at this⟩, rfl⟩ | exact ⟨_, _, _, _, _, _, _, _, _, _, _, _, _, ⟨k + 1, by omega, by go_num, HB9.out, Y.set k 192, by rw [List.length_set]; exact HY.out, by have := HX9.out; rwa [show (Value.int .u8 192) = bc 192 from rfl, bcs_set] at this⟩, rfl⟩
        case measure => simp [intOf] <;> omega
      · have tl : decide ((l.length : Int) ≤ (k : Int)) = false := decide_eq_false (by omega)
        go_wp2
        go_roundw
        case rel => first | exact ⟨k + 1, by omega, by go_num, HB.out, Y, HY.out, HX.out⟩ | exact ⟨_, _, _, _, _, _, ⟨k + 1, by omega, by go_num, HB.out, Y, HY.out, HX.out⟩, rfl⟩ | exact ⟨_, _, _, _, _, _, _, ⟨k + 1, by omega, by go_num, HB.out, Y, HY.out, HX.out⟩, rfl⟩ | exact ⟨_, _, _, _, _, _, _, _, ⟨k + 1, by omega, by go_num, HB.out, Y, HY.out, HX.out⟩, rfl⟩ | exact ⟨_, _, _, _, _, _, _, _, _, ⟨k + 1, by omega, by go_num, HB.out, Y, HY.out, HX.out⟩, rfl⟩ | exact ⟨_, _, _, _, _, _, _, _, _, _, ⟨k + 1, by omega, by go_num, HB.out, Y, HY.out, HX.out⟩, rfl⟩ | exact ⟨_, _, _, _, _, _, _, _, _, _, _, ⟨k + 1, by omega, by go_num, HB.out, Y, HY.out, HX.out⟩, rfl⟩ | exact ⟨_, _, _, _, _, _, _, _, _, _, _, _, ⟨k + 1, by omega, by go_num, HB.out, Y, HY.out, HX.out⟩, rfl⟩ | exact ⟨_, _, _, _, _, _, _, _, _, _, _, _, _, ⟨k + 1, by omega, by go_num, HB.out, Y, HY.out, HX.out⟩, rfl⟩
        case measure => simp [intOf] <;> omega
    · obtain rfl : k = n := by omega
      obtain ⟨w7_, hw7_⟩ : ∃ w7_, w7_ = wr := ⟨_, rfl⟩
      rw [← hw7_] at HB HX ⊢
      clear hw7_
      obtain ⟨lw, hlw⟩ : ∃ lw, (cwrap Y 1).length = lw := ⟨_, rfl⟩
      have hwl := cwrap1_len Y
      rw [hlw, HY.out] at hwl
      have HLW := Lib.hid hlw
      have HWL := Lib.hid hwl
      have hlt8 : w6.heap.size < w7_.heap.size := lt_at HX.out
      have HLT := Lib.hid hlt8
      have HRX : Hid (Rds w7_ (.slice (some ⟨w6.heap.size, 0, none⟩) k k) Y) := by
        have h := rds_new HX.out (by rw [HY.out]; exact HN.out)
        rw [HY.out] at h
        exact h
      clear hwl hlw hlt8
      go_wp2
      go_loopw [12, 15] (fun q i wr => ∃ j : Nat, j ≤ dn ∧ i = .int .i64 j ∧ Below w7_.heap.size w7_ wr ∧ ∃ L : List UInt8, Own wr w7_.heap.size q L ∧ L.length = j * lw) (fun _ i _ => dn - (intOf i).toNat)
      case atStart => exact ⟨0, by omega, rfl, bel0 _, [], Own.nil_ _ _, by simp⟩
      case round =>
        obtain ⟨j, hj, rfl, hb, Ls, ho, hLs⟩ := hrel
        obtain ⟨A3, cap3, rfl, _, _, _⟩ := ho.rds
        obtain ⟨v4, v5, hn, hdn, hf, h30, hd0, hfit, hd3⟩ := HG.out
        have HB2 := Lib.hid hb
        have HO := Lib.hid ho
        have HLS := Lib.hid hLs
        have h6r : BothW w w1.heap.size w4.heap.size w5.heap.size #[.int .i64 a0, .int .i64 a1, .int .i64 a2, .int .i64 a3, .int .i64 a4] #[.int .i64 b0, .int .i64 b1, .int .i64 b2, .int .i64 b3, .int .i64 b4] #[.int .i64 d0, .int .i64 d1, .int .i64 (dn : Int), .int .i64 d3, .int .i64 lo] #[.int .i64 d0, .int .i64 d1, .int .i64 e2, .int .i64 e3, .int .i64 e4] wr := (H6.out.below HB.out).below hb
        have cd2 : wr.cell? ⟨w4.heap.size, 2, none⟩ = some (.int .i64 (dn : Int)) := cell_at h6r.d 2 _ rfl
        have cd0 : wr.cell? ⟨w4.heap.size, 0, none⟩ = some (.int .i64 d0) := cell_at h6r.d 0 _ rfl
        have HBw := Lib.hid h6r.bel
        have hll : Ls.length ≤ 7 * 200 := by
          rw [hLs]
          exact Nat.mul_le_mul (by omega) (by have := HWL.out; omega)
        by_cases hlt2 : j < dn
        · have td : decide ((j : Int) < (dn : Int)) = true := decide_eq_true (by omega)
          have vj : IntKind.i64.wrap ((j : Int) + 1) = (j : Int) + 1 := IntWalk.i64_in _ (by omega)
          have hwr := Wrap_any _ Y 1 wr (HRX.out.below hb) (by rw [HY.out]; omega)
          have hY300 : (cwrap Y 1).length ≤ 200 := by rw [HLW.out]; have := HWL.out; omega
          have HWR := Lib.hid hwr
          have HL1 := Lib.hid hll
          have HL2 := Lib.hid hY300
          clear hb ho hLs h6r hll hwr hY300 v4 v5 hn hdn hf h30 hd0 hfit hd3
          go_wp2_with (first
            | (go_at_call 46; (with_reducible refine (HWR.out).mono ?_); rintro e wA ⟨v2, rfl, hv2, hbA⟩; have HVA := Lib.hid hv2; have HBA := Lib.hid (bel_trans HB2.out hbA); have HOA := Lib.hid (HO.out.below hbA); obtain ⟨A4, cap4, rfl, _, _, _⟩ := hv2.rds; clear hv2 hbA)
            | (at_builtin; (refine wpList_app rfl (.tmp 120) (.tmp 122) rfl w7_.heap.size (.slice A3 Ls.length cap3) (.slice A4 (cwrap Y 1).length cap4) Ls (cwrap Y 1) rfl rfl HOA.out HVA.out.rds (by have := HL1.out; have := HL2.out; omega) HBA.out.size ?_; intro v3 wB ho3 hg3 hat3; have HBB := Lib.hid (HBA.out.grown hg3 HBA.out.size (fun k hk => (HOA.out.lt k hk).1)); have HOB := Lib.hid ho3; clear ho3 hg3 hat3)))
          go_roundw
          case rel => first | exact ⟨j + 1, by omega, by go_num, HBB.out, _, HOB.out, by rw [List.length_append, HLS.out, HLW.out, Nat.add_mul, Nat.one_mul]⟩ | exact ⟨_, _, _, _, _, _, ⟨j + 1, by omega, by go_num, HBB.out, _, HOB.out, by rw [List.length_append, HLS.out, HLW.out, Nat.add_mul, Nat.one_mul]⟩, rfl⟩ | exact ⟨_, _, _, _, _, _, _, ⟨j + 1, by omega, by go_num, HBB.out, _, HOB.out, by rw [List.length_append, HLS.out, HLW.out, Nat.add_mul, Nat.one_mul]⟩, rfl⟩ | exact ⟨_, _, _, _, _, _, _, _, ⟨j + 1, by omega, by go_num, HBB.out, _, HOB.out, by rw [List.length_append, HLS.out, HLW.out, Nat.add_mul, Nat.one_mul]⟩, rfl⟩ | exact ⟨_, _, _, _, _, _, _, _, _, ⟨j + 1, by omega, by go_num, HBB.out, _, HOB.out, by rw [List.length_append, HLS.out, HLW.out, Nat.add_mul, Nat.one_mul]⟩, rfl⟩ | exact ⟨_, _, _, _, _, _, _, _, _, _, ⟨j + 1, by omega, by go_num, HBB.out, _, HOB.out, by rw [List.length_append, HLS.out, HLW.out, Nat.add_mul, Nat.one_mul]⟩, rfl⟩ | exact ⟨_, _, _, _, _, _, _, _, _, _, _, ⟨j + 1, by omega, by go_num, HBB.out, _, HOB.out, by rw [List.length_append, HLS.out, HLW.out, Nat.add_mul, Nat.one_mul]⟩, rfl⟩ | exact ⟨_, _, _, _, _, _, _, _, _, _, _, _, ⟨j + 1, by omega, by go_num, HBB.out, _, HOB.out, by rw [List.length_append, HLS.out, HLW.out, Nat.add_mul, Nat.one_mul]⟩, rfl⟩ | exact ⟨_, _, _, _, _, _, _, _, _, _, _, _, _, ⟨j + 1, by omega, by go_num, HBB.out, _, HOB.out, by rw [List.length_append, HLS.out, HLW.out, Nat.add_mul, Nat.one_mul]⟩, rfl⟩
          case measure => simp [intOf] <;> omega
        · obtain rfl : j = dn := by omega
          have td : decide ((j : Int) < (j : Int)) = false := decide_eq_false (by omega)
          have hb1 : 1 ≤ (Ls.length : Int) := by
            rw [hLs]
            have : 1 * 1 ≤ j * lw := Nat.mul_le_mul (by omega) (by have := HWL.out; omega)
            omega
          have htk : ticks (Ls.length : Int) d0 ≤ 30 := by
            refine Int.le_trans (ticks_le (n := (j : Int) * f) hb1 (by omega) ?_) h30
            rw [hLs, Int.mul_assoc]
            have hlf : (lw : Int) ≤ f * d0 := by have := HWL.out; omega
            have := Int.mul_le_mul_of_nonneg_left hlf (show (0 : Int) ≤ (j : Int) by omega)
            push_cast
            exact this
          have HT := Lib.hid (fun w => QTicks_any (Ls.length : Int) d0 w (wf64 (by omega)) (wf64 (by omega)))
          generalize ticks (Ls.length : Int) d0 = tk at htk HT
          have td30 : decide (tk ≤ 30) = true := decide_eq_true htk
          clear hb ho hLs h6r hll hb1 htk v4 v5 hn hdn hf h30 hd0 hfit hd3
          go_wp2_with (go_at_call 36; (with_reducible refine (HT.out _).mono ?_); rintro e wZ ⟨rfl, hb⟩; have HBZ := Lib.hid (bel_trans HBw.out hb); clear hb)
          go_ret
          exact ⟨rfl, HBZ.out⟩
theorem MeetBoth_law (a b : Of5) (v : Value) (l : List UInt8) (w : World) (ha : a.ok) (hb : b.ok) (hv : Rds w v l) (hC : Codes w) : Calls Tryz.prog 6 #[a.val, b.val, v] w (Holds8 w) := by
  have h1 := fun w => MDeal_any a b w ha hb
  have h2 := fun w => MDeal_any b a w hb ha
  unfold DealR at h1 h2
  cases hm : mayO a && mayO b with
  | false =>
    rw [show dealM a b = none by unfold dealM; rw [hm]; rfl] at h1
    rw [show dealM b a = none by unfold dealM; rw [Bool.and_comm, hm]; rfl] at h2
    exact MeetBoth_no _ _ _ _ _ _ _ _ _ _ v l w hv hC h1 h2
  | true =>
    rw [show dealM a b = some (dealD a b) by unfold dealM; rw [hm]; rfl] at h1
    rw [show dealM b a = some (dealD b a) by unfold dealM; rw [Bool.and_comm, hm]; rfl] at h2
    rw [Bool.and_eq_true] at hm
    obtain ⟨hma, hmb⟩ := hm
    obtain ⟨f1, f2, f3, f4, f5⟩ := dealD_bounds hma hmb
    obtain ⟨g1, g2, g3, g4, g5⟩ := dealD_bounds hmb hma
    have hwb := high_bound (mayO_parts hmb).2.2.1.1 7 (by decide) (by have h127 : b.win ≤ 127 := (mayO_parts hmb).2.2.1.2; show b.win < 128; omega)
    have hwa := high_bound (mayO_parts hma).2.2.1.1 7 (by decide) (by have h127 : a.win ≤ 127 := (mayO_parts hma).2.2.1.2; show a.win < 128; omega)
    have hzb := high_bound (mayO_parts hmb).2.2.2.1.1 4 (by decide) (by have h15 : b.size ≤ 15 := (mayO_parts hmb).2.2.2.1.2; show b.size < 16; omega)
    obtain ⟨p0, p3, -, -⟩ := baud_pos (mayO_bits hma).1 (mayO_bits hmb).1
    have hfit := frame_fits (i := high b.size) (j := hi2 a.baud b.baud 4) ⟨hzb.1, by omega⟩ ⟨p0, p3⟩
    obtain ⟨s1, s2⟩ := @deal_sym a b
    obtain ⟨dn, hdn⟩ : ∃ dn : Nat, (dealD a b).win = (dn : Int) := ⟨(dealD a b).win.toNat, by omega⟩
    have ev : ((some (dealD a b) : Option De5).getD De5.zero).val = .agg #[.int .i64 (dealD a b).baud, .int .i64 (dealD a b).silent, .int .i64 (dn : Int), .int .i64 (dealD a b).size, .int .i64 (low b.wait)] := by
      rw [← hdn]
      rfl
    rw [ev] at h1
    have ev2 : ((some (dealD b a) : Option De5).getD De5.zero).val = .agg #[.int .i64 (dealD a b).baud, .int .i64 (dealD a b).silent, .int .i64 (dealD b a).win, .int .i64 (dealD b a).size, .int .i64 (dealD b a).wait] := by
      rw [s1, s2]
      rfl
    rw [ev2] at h2
    exact MeetBoth_yes _ _ _ _ _ _ _ _ _ _ _ _ _ (dealD b a).win (dealD b a).size (dealD b a).wait _ dn (3 + (dealD a b).size).toNat v l w hv hC h1 h2 ⟨by omega, by omega⟩ (by omega) ⟨hwb.1, by omega⟩ (by have := g4.2.1; exact this) ⟨hwa.1, by omega⟩ f3 rfl (by rw [← hdn]; exact f5) f2 f1 (by omega) (by
      have e : 2 * ((dealD a b).size + 3) + 7 ≤ frameM (dealD a b).size (dealD a b).baud * (dealD a b).baud := hfit
      omega)
end Go.Proofs.YtcmjdbljdkabpaaGreatDoor
