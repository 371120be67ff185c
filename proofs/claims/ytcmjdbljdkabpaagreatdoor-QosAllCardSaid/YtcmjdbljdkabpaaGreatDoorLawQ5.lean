/- The law QosAll. -/
import Derived.Test.YtcmjdbljdkabpaaGreatDoorQ8S
import Derived.Test.YtcmjdbljdkabpaaGreatDoorM8E
import Derived.Test.YtcmjdbljdkabpaaGreatDoorM8M
import Derived.Test.YtcmjdbljdkabpaaGreatDoorBegun8
import Derived.Test.YtcmjdbljdkabpaaGreatDoorM4H
import Derived.Test.YtcmjdbljdkabpaaGreatDoorM4D

set_option linter.all false

namespace Go.Proofs.YtcmjdbljdkabpaaGreatDoor
open Go.RowKit M

theorem neq_Of5 (x : Of5) (w : World) : (binOp .neq 23 x.val x.val).run Tryz.prog w = .ok (.bool false) w := by
  have h := neq_agg (eql_Of5 x x w)
  rw [decide_eq_true rfl] at h
  exact h
theorem three_at {A S : ByteArray} (hA : A.size ≤ 100) (hS : S.size ≤ 100) {k : Nat} (hk : k < 3) : ∃ T : ByteArray, (#[.string A, .string S, .string (A ++ S)] : Array Value)[k]? = some (.string T) ∧ T.size ≤ 1000 := by
  match k, hk with
  | 0, _ => exact ⟨A, rfl, by omega⟩
  | 1, _ => exact ⟨S, rfl, by omega⟩
  | 2, _ => exact ⟨A ++ S, rfl, by rw [ByteArray.size_append]; omega⟩
set_option maxRecDepth 100000 in
set_option maxHeartbeats 16000000 in
theorem QosAll_core (a0 a1 a2 a3 a4 bits i by_ bd r1 r2 r3 r4 r5 r6 : Int) (q : Bool) (s S A : ByteArray) (w : World) (hC : Codes w) (hA : A.size ≤ 100) (hS : S.size ≤ 100)
    (hTX : ∀ w, Calls Tryz.prog 22 #[.string s, .int .i64 70] w fun e w' => e = .returned (.string S) ∧ w = w')
    (hP : ∀ w, Calls Tryz.prog 23 #[.agg #[.int .i64 a0, .int .i64 a1, .int .i64 a2, .int .i64 a3, .int .i64 a4]] w fun e w' => e = .returned (.tuple #[.string A, .bool q]) ∧ Below w.heap.size w w')
    (hRP : ∀ w, Calls Tryz.prog 24 #[.agg #[.int .i64 a0, .int .i64 a1, .int .i64 a2, .int .i64 a3, .int .i64 a4]] w fun e w' => e = .returned (.tuple #[.string A, .bool q]) ∧ Below w.heap.size w w')
    (hM : ∀ w, Calls Tryz.prog 25 #[.agg #[.int .i64 a0, .int .i64 a1, .int .i64 a2, .int .i64 a3, .int .i64 a4]] w fun e w' => e = .returned (.bool q) ∧ Below w.heap.size w w')
    (hHigh : ∀ w, Calls Tryz.prog 26 #[.int .i64 bits] w fun e w' => e = .returned (.int .i64 r1) ∧ Below w.heap.size w w') (hRHigh : ∀ w, Calls Tryz.prog 27 #[.int .i64 bits] w fun e w' => e = .returned (.int .i64 r1) ∧ w' = w)
    (hLow : ∀ w, Calls Tryz.prog 28 #[.int .i64 bits] w fun e w' => e = .returned (.int .i64 r2) ∧ Below w.heap.size w w') (hRLow : ∀ w, Calls Tryz.prog 29 #[.int .i64 bits] w fun e w' => e = .returned (.int .i64 r2) ∧ w' = w)
    (hBaud : ∀ w, Calls Tryz.prog 30 #[.int .i64 i] w fun e w' => e = .returned (.int .i64 r3) ∧ Below w.heap.size w w') (hRBaud : ∀ w, Calls Tryz.prog 31 #[.int .i64 i] w fun e w' => e = .returned (.int .i64 r3) ∧ Below w.heap.size w w')
    (hSilent : ∀ w, Calls Tryz.prog 32 #[.int .i64 i] w fun e w' => e = .returned (.int .i64 r4) ∧ Below w.heap.size w w') (hRSilent : ∀ w, Calls Tryz.prog 33 #[.int .i64 i] w fun e w' => e = .returned (.int .i64 r4) ∧ Below w.heap.size w w')
    (hSize : ∀ w, Calls Tryz.prog 34 #[.int .i64 i] w fun e w' => e = .returned (.int .i64 r5) ∧ Below w.heap.size w w') (hRSize : ∀ w, Calls Tryz.prog 35 #[.int .i64 i] w fun e w' => e = .returned (.int .i64 r5) ∧ Below w.heap.size w w')
    (hTicks : ∀ w, Calls Tryz.prog 36 #[.int .i64 by_, .int .i64 bd] w fun e w' => e = .returned (.int .i64 r6) ∧ Below w.heap.size w w') (hRTicks : ∀ w, Calls Tryz.prog 37 #[.int .i64 by_, .int .i64 bd] w fun e w' => e = .returned (.int .i64 r6) ∧ w' = w)
    (hG : ∀ T : ByteArray, T.size ≤ 1000 → ∃ (x0 x1 x2 x3 x4 : Int) (k : Bool), (∀ w, Calls Tryz.prog 38 #[.string T] w fun e w' => e = .returned (.tuple #[.agg #[.int .i64 x0, .int .i64 x1, .int .i64 x2, .int .i64 x3, .int .i64 x4], .bool k]) ∧ Below w.heap.size w w') ∧ (∀ w, Calls Tryz.prog 39 #[.string T] w fun e w' => e = .returned (.tuple #[.agg #[.int .i64 x0, .int .i64 x1, .int .i64 x2, .int .i64 x3, .int .i64 x4], .bool k]) ∧ Below w.heap.size w w')) :
    Calls Tryz.prog 3 #[.agg #[.int .i64 a0, .int .i64 a1, .int .i64 a2, .int .i64 a3, .int .i64 a4], .string s, .int .i64 bits, .int .i64 i, .int .i64 by_, .int .i64 bd] w (Holds8 w) := by
  have HC0 := Lib.hid hC
  have HP := Lib.hid hP
  have HRP := Lib.hid hRP
  have HM := Lib.hid hM
  have HHigh := Lib.hid hHigh
  have HRHigh := Lib.hid hRHigh
  have HLow := Lib.hid hLow
  have HRLow := Lib.hid hRLow
  have HBaud := Lib.hid hBaud
  have HRBaud := Lib.hid hRBaud
  have HSilent := Lib.hid hSilent
  have HRSilent := Lib.hid hRSilent
  have HSize := Lib.hid hSize
  have HRSize := Lib.hid hRSize
  have HTicks := Lib.hid hTicks
  have HRTicks := Lib.hid hRTicks
  have HTX := Lib.hid hTX
  have HG := Lib.hid hG
  have HT3 := Lib.hid (fun k => three_at hA hS (k := k))
  have hz : ¬ 9223372036854775807 < A.size + S.size := by omega
  clear hC hP hRP hM hHigh hRHigh hLow hRLow hBaud hRBaud hSilent hRSilent hSize hRSize hTicks hRTicks hTX hG hA hS
  go_enter Tryz.func3, Tryz.ntmps3
  go_wp2_with (first
    | ((with_reducible refine wpList_boxS rfl 23 _ (.tmp 0) rfl rfl (run_boxOf ⟨a0, a1, a2, a3, a4⟩) ?_); intro w1 hb hlt hh; have HB1 := Lib.hid hb; have HC1 := Lib.hid (HC0.out.below hb); have A1 := Lib.hid (hh); clear hb hlt hh)
    | (with_reducible refine wpList_loadB rfl 23 (.tmp 6) rfl (w.heap.size) rfl 23 _ A2.out _ Tryz.underlying23 rfl (by kernel_rfl) ?_)
    | (with_reducible refine wpList_loadB rfl 23 (.tmp 6) rfl (w.heap.size) rfl 23 _ A3.out _ Tryz.underlying23 rfl (by kernel_rfl) ?_)
    | (with_reducible refine wpList_loadG (by kernel_rfl) 23 (.tmp 6) rfl (w.heap.size) rfl 23 #[.int .i64 a0, .int .i64 a1, .int .i64 a2, .int .i64 a3, .int .i64 a4] A4.out _ Tryz.underlying23 rfl (by kernel_rfl) ?_)
    | (go_at_call 21; ((with_reducible refine (begun8_any _ HC1.out).mono ?_); rintro e w2 ⟨rfl, hb⟩; have HB2 := Lib.hid (bel_trans HB1.out hb); have A2 := Lib.hid (keep_at A1.out hb); have HC2 := Lib.hid (HC1.out.below hb); clear hb))
    | (go_at_call 22; ((with_reducible refine (HTX.out _).mono ?_); rintro e w' ⟨rfl, hw'⟩; rw [← hw']; clear hw'))
    | (go_at_call 23; ((with_reducible refine (HP.out _).mono ?_); rintro e w3 ⟨rfl, hb⟩; have HB3 := Lib.hid (bel_trans HB2.out hb); have A3 := Lib.hid (keep_at A2.out hb); have HC3 := Lib.hid (HC2.out.below hb); clear hb))
    | (go_at_call 24; ((with_reducible refine (HRP.out _).mono ?_); rintro e w4 ⟨rfl, hb⟩; have HB4 := Lib.hid (bel_trans HB3.out hb); have A4 := Lib.hid (keep_at A3.out hb); have HC4 := Lib.hid (HC3.out.below hb); clear hb))
    | (go_at_call 25; ((with_reducible refine (HM.out _).mono ?_); rintro e w5 ⟨rfl, hb⟩; have HB5 := Lib.hid (bel_trans HB4.out hb); have A5 := Lib.hid (keep_at A4.out hb); have HC5 := Lib.hid (HC4.out.below hb); clear hb))
    | (go_at_call 26; ((with_reducible refine (HHigh.out _).mono ?_); rintro e w6 ⟨rfl, hb⟩; have HB6 := Lib.hid (bel_trans HB5.out hb); have A6 := Lib.hid (keep_at A5.out hb); have HC6 := Lib.hid (HC5.out.below hb); clear hb))
    | (go_at_call 27; ((with_reducible refine (HRHigh.out _).mono ?_); rintro e w' ⟨rfl, hw'⟩; rw [hw']; clear hw'))
    | (go_at_call 28; ((with_reducible refine (HLow.out _).mono ?_); rintro e w7 ⟨rfl, hb⟩; have HB7 := Lib.hid (bel_trans HB6.out hb); have A7 := Lib.hid (keep_at A6.out hb); have HC7 := Lib.hid (HC6.out.below hb); clear hb))
    | (go_at_call 29; ((with_reducible refine (HRLow.out _).mono ?_); rintro e w' ⟨rfl, hw'⟩; rw [hw']; clear hw'))
    | (go_at_call 30; ((with_reducible refine (HBaud.out _).mono ?_); rintro e w8 ⟨rfl, hb⟩; have HB8 := Lib.hid (bel_trans HB7.out hb); have A8 := Lib.hid (keep_at A7.out hb); have HC8 := Lib.hid (HC7.out.below hb); clear hb))
    | (go_at_call 31; ((with_reducible refine (HRBaud.out _).mono ?_); rintro e w9 ⟨rfl, hb⟩; have HB9 := Lib.hid (bel_trans HB8.out hb); have A9 := Lib.hid (keep_at A8.out hb); have HC9 := Lib.hid (HC8.out.below hb); clear hb))
    | (go_at_call 32; ((with_reducible refine (HSilent.out _).mono ?_); rintro e w10 ⟨rfl, hb⟩; have HB10 := Lib.hid (bel_trans HB9.out hb); have A10 := Lib.hid (keep_at A9.out hb); have HC10 := Lib.hid (HC9.out.below hb); clear hb))
    | (go_at_call 33; ((with_reducible refine (HRSilent.out _).mono ?_); rintro e w11 ⟨rfl, hb⟩; have HB11 := Lib.hid (bel_trans HB10.out hb); have A11 := Lib.hid (keep_at A10.out hb); have HC11 := Lib.hid (HC10.out.below hb); clear hb))
    | (go_at_call 34; ((with_reducible refine (HSize.out _).mono ?_); rintro e w12 ⟨rfl, hb⟩; have HB12 := Lib.hid (bel_trans HB11.out hb); have A12 := Lib.hid (keep_at A11.out hb); have HC12 := Lib.hid (HC11.out.below hb); clear hb))
    | (go_at_call 35; ((with_reducible refine (HRSize.out _).mono ?_); rintro e w13 ⟨rfl, hb⟩; have HB13 := Lib.hid (bel_trans HB12.out hb); have A13 := Lib.hid (keep_at A12.out hb); have HC13 := Lib.hid (HC12.out.below hb); clear hb))
    | (go_at_call 36; ((with_reducible refine (HTicks.out _).mono ?_); rintro e w14 ⟨rfl, hb⟩; have HB14 := Lib.hid (bel_trans HB13.out hb); have A14 := Lib.hid (keep_at A13.out hb); have HC14 := Lib.hid (HC13.out.below hb); clear hb))
    | (go_at_call 37; ((with_reducible refine (HRTicks.out _).mono ?_); rintro e w' ⟨rfl, hw'⟩; rw [hw']; clear hw')))
  have hR0 : Below w.heap.size w (w14.alloc (.cells #[.string A, .string S, .string (A ++ S)] 9)) ∧ (w14.alloc (.cells #[.string A, .string S, .string (A ++ S)] 9)).heap[w14.heap.size]? = some (.cells #[.string A, .string S, .string (A ++ S)] 9 (0, 0)) := ⟨bal HB14.out _, heap_alloc_new w14 _⟩
  have HR0 := Lib.hid hR0
  clear hR0
  go_loopw [12, 19, 20, 21, 22, 23, 104] (fun q12 _ _ _ _ _ i wr => q12 = .bool false ∧ ∃ k : Nat, k ≤ 3 ∧ i = .int .i64 k ∧ Below w.heap.size w wr ∧ wr.heap[w14.heap.size]? = some (.cells #[.string A, .string S, .string (A ++ S)] 9 (0, 0))) (fun _ _ _ _ _ _ i _ => 3 - (intOf i).toNat)
  case atStart => exact ⟨rfl, 0, by omega, rfl, HR0.out⟩
  case round =>
    obtain ⟨rfl, k, hk, rfl, hb, hh⟩ := hrel
    have HBr := Lib.hid hb
    have HGr := Lib.hid hh
    clear hb
    by_cases hlt : k < 3
    · have td : decide ((k : Int) < 3) = true := decide_eq_true (by omega)
      obtain ⟨T, hT, hTs⟩ := HT3.out k hlt
      have cT := cell_at hh k _ hT
      obtain ⟨x0, x1, x2, x3, x4, kk, hg1, hg2⟩ := HG.out T hTs
      have HG1 := Lib.hid hg1
      have HG2 := Lib.hid hg2
      have HNE := Lib.hid (fun W => neq_Of5 ⟨x0, x1, x2, x3, x4⟩ W)
      clear hg1 hg2 hT hTs hh
      go_wp2_with (first
        | (with_reducible refine wpList_loadB rfl 23 (.tmp 20) rfl (w30.heap.size) rfl 23 _ X31.out _ Tryz.underlying23 rfl (by kernel_rfl) ?_)
        | (with_reducible refine wpList_loadB rfl 23 (.tmp 22) rfl (w31.heap.size) rfl 23 _ Y31.out _ Tryz.underlying23 rfl (by kernel_rfl) ?_)
        | (with_reducible refine wpList_cmpG (by kernel_rfl) rfl rfl rfl (guard_Of5 _ _ _ _ _ _) (HNE.out _) ?_)
        | (go_at_call 38; ((with_reducible refine (HG1.out _).mono ?_); rintro e w30 ⟨rfl, hb⟩; have HB30 := Lib.hid (bal ((bel_trans HBr.out hb)) (.cells #[.int .i64 x0, .int .i64 x1, .int .i64 x2, .int .i64 x3, .int .i64 x4] 23)); have G30 := Lib.hid (keep_at (keep_at HGr.out hb) (bal (bel0 w30) (.cells #[.int .i64 x0, .int .i64 x1, .int .i64 x2, .int .i64 x3, .int .i64 x4] 23))); have X30 := Lib.hid ((heap_alloc_new w30 (.cells #[.int .i64 x0, .int .i64 x1, .int .i64 x2, .int .i64 x3, .int .i64 x4] 23))); clear hb))
        | (go_at_call 39; ((with_reducible refine (HG2.out _).mono ?_); rintro e w31 ⟨rfl, hb⟩; have HB31 := Lib.hid (bal ((bel_trans HB30.out hb)) (.cells #[.int .i64 x0, .int .i64 x1, .int .i64 x2, .int .i64 x3, .int .i64 x4] 23)); have G31 := Lib.hid (keep_at (keep_at G30.out hb) (bal (bel0 w31) (.cells #[.int .i64 x0, .int .i64 x1, .int .i64 x2, .int .i64 x3, .int .i64 x4] 23))); have X31 := Lib.hid (keep_at (keep_at X30.out hb) (bal (bel0 w31) (.cells #[.int .i64 x0, .int .i64 x1, .int .i64 x2, .int .i64 x3, .int .i64 x4] 23))); have Y31 := Lib.hid ((heap_alloc_new w31 (.cells #[.int .i64 x0, .int .i64 x1, .int .i64 x2, .int .i64 x3, .int .i64 x4] 23))); clear hb)))
      go_roundw
      case rel => first | exact ⟨rfl, k + 1, by omega, by go_num, HB31.out, G31.out⟩ | exact ⟨_, _, _, _, _, _, _, _, _, _, _, _, _, _, _, _, _, _, _, _, ⟨rfl, k + 1, by omega, by go_num, HB31.out, G31.out⟩, rfl⟩ | exact ⟨_, _, _, _, _, _, _, _, _, _, _, _, _, _, _, _, _, _, _, _, _, ⟨rfl, k + 1, by omega, by go_num, HB31.out, G31.out⟩, rfl⟩ | exact ⟨_, _, _, _, _, _, _, _, _, _, _, _, _, _, _, _, _, _, _, _, _, _, ⟨rfl, k + 1, by omega, by go_num, HB31.out, G31.out⟩, rfl⟩ | exact ⟨_, _, _, _, _, _, _, _, _, _, _, _, _, _, _, _, _, _, _, _, _, _, _, ⟨rfl, k + 1, by omega, by go_num, HB31.out, G31.out⟩, rfl⟩ | exact ⟨_, _, _, _, _, _, _, _, _, _, _, _, _, _, _, _, _, _, _, _, _, _, _, _, ⟨rfl, k + 1, by omega, by go_num, HB31.out, G31.out⟩, rfl⟩ | exact ⟨_, _, _, _, _, _, _, _, _, _, _, _, _, _, _, _, _, _, _, _, _, _, _, _, _, ⟨rfl, k + 1, by omega, by go_num, HB31.out, G31.out⟩, rfl⟩ | exact ⟨_, _, _, _, _, _, _, _, _, _, _, _, _, _, _, _, _, _, _, _, _, _, _, _, _, _, ⟨rfl, k + 1, by omega, by go_num, HB31.out, G31.out⟩, rfl⟩ | exact ⟨_, _, _, _, _, _, _, _, _, _, _, _, _, _, _, _, _, _, _, _, _, _, _, _, _, _, _, ⟨rfl, k + 1, by omega, by go_num, HB31.out, G31.out⟩, rfl⟩ | exact ⟨_, _, _, _, _, _, _, _, _, _, _, _, _, _, _, _, _, _, _, _, _, _, _, _, _, _, _, _, ⟨rfl, k + 1, by omega, by go_num, HB31.out, G31.out⟩, rfl⟩ | exact ⟨_, _, _, _, _, _, _, _, _, _, _, _, _, _, _, _, _, _, _, _, _, _, _, _, _, _, _, _, _, ⟨rfl, k + 1, by omega, by go_num, HB31.out, G31.out⟩, rfl⟩ | exact ⟨_, _, _, _, _, _, _, _, _, _, _, _, _, _, _, _, _, _, _, _, _, _, _, _, _, _, _, _, _, _, ⟨rfl, k + 1, by omega, by go_num, HB31.out, G31.out⟩, rfl⟩ | exact ⟨_, _, _, _, _, _, _, _, _, _, _, _, _, _, _, _, _, _, _, _, _, _, _, _, _, _, _, _, _, _, _, ⟨rfl, k + 1, by omega, by go_num, HB31.out, G31.out⟩, rfl⟩
      case measure => simp [intOf] <;> omega
    · obtain rfl : k = 3 := by omega
      clear hh
      go_wp2
      go_ret
      exact ⟨rfl, HBr.out⟩
theorem QosAll_law (o : Of5) (s : ByteArray) (bits i by_ bd : Int) (w : World) (ho : o.ok) (hs : s.size ≤ maxLen) (hb : (Lit.int .i64 bits).wf = true) (hi : (Lit.int .i64 i).wf = true) (hby : (Lit.int .i64 by_).wf = true) (hbd : (Lit.int .i64 bd).wf = true) (hC : Codes w) :
    Calls Tryz.prog 3 #[o.val, .string s, .int .i64 bits, .int .i64 i, .int .i64 by_, .int .i64 bd] w (Holds8 w) := by
  have h1 := fun w => QPut_any o w ho
  have h2 := fun w => RPutO_any o w
  have h3 := fun w => QMay_any o w ho
  unfold PutR at h1 h2
  have e : mayO o = (putO o).isSome := by unfold putO; cases mayO o <;> rfl
  rw [e] at h3
  have hsz : (⟨((putO o).getD []).toArray⟩ : ByteArray).size ≤ 100 := by
    show (((putO o).getD []).toArray).size ≤ 100
    unfold putO
    split
    · show ((bytesO o).toArray).size ≤ 100; simp [bytesO]
    · show (([] : List UInt8).toArray).size ≤ 100; decide
  exact QosAll_core _ _ _ _ _ bits i by_ bd _ _ _ _ _ _ _ s (s.extract 0 (min s.size 70)) _ w hC hsz (by rw [ByteArray.size_extract]; omega) (fun w => Text_any s 70 w hs (by decide)) h1 h2 h3
    (fun w => QHigh_any bits w hb) (fun w => RHigh_any bits w) (fun w => QLow_any bits w hb) (fun w => RLow_any bits w) (fun w => QBaud_any i w hi) (fun w => RBaud_any i w) (fun w => QSilent_any i w hi) (fun w => RSilent_any i w) (fun w => QSize_any i w hi) (fun w => RSize_any i w)
    (fun w => QTicks_any by_ bd w hby hbd) (fun w => RTicks_any by_ bd w hby hbd) (fun T hT => by
      have g1 := fun w => QGet_any T w (by unfold maxLen; omega)
      have g2 := fun w => RGetO_any T w (by unfold maxLen; omega)
      unfold OfferR at g1 g2
      exact ⟨_, _, _, _, _, _, g1, g2⟩)
end Go.Proofs.YtcmjdbljdkabpaaGreatDoor
