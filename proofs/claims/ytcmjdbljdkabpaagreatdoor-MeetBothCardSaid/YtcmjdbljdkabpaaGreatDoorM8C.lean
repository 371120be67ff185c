/- Of layer 8: QA2, Ref8c, Ref8e, Ref8f. -/
import Derived.Test.YtcmjdbljdkabpaaGreatDoorM8B
import Derived.Test.YtcmjdbljdkabpaaGreatDoorM8A
import Derived.Test.YtcmjdbljdkabpaaGreatDoorM4F

set_option linter.all false

namespace Go.Proofs.YtcmjdbljdkabpaaGreatDoor
open Go.RowKit

set_option maxRecDepth 100000 in
theorem QHigh_any (n : Int) (w : World) (hn : (Lit.int .i64 n).wf = true) : Calls Tryz.prog 26 #[.int .i64 n] w fun e w' => e = .returned (.int .i64 (high n)) ∧ Below w.heap.size w w' := by
  clear hn
  obtain ⟨h, hh⟩ : ∃ h, h = high n := ⟨_, rfl⟩
  rw [← hh]
  have HH := Lib.hid hh
  clear hh
  go_enter Tryz.func26, Tryz.ntmps26
  go_wp2
  go_loopw [2, 3] (fun q i wr => wr = w ∧ q = .int .i64 0 ∧ ∃ k : Nat, k ≤ 16 ∧ i = .int .i64 ((k : Int) - 1) ∧ highB n k = h) (fun _ i _ => (intOf i + 1).toNat)
  case atStart => exact ⟨rfl, rfl, 16, by omega, rfl, HH.out.symm⟩
  case round =>
    obtain ⟨rfl, rfl, k, hk, rfl, hq⟩ := hrel
    rcases k with _ | k
    · have HQ : Hid (h = -1) := hq.symm
      clear hq
      rw [show (((0 : Nat) : Int) - 1) = -1 from rfl]
      go_wp2
      go_ret
      exact ⟨by rw [HQ.out]; rfl, Below.refl _ _⟩
    · have e1 : (((k + 1 : Nat) : Int) - 1) = (k : Int) := by omega
      rw [e1]
      have td : decide ((0 : Int) ≤ (k : Int)) = true := decide_eq_true (by omega)
      have hat := fun w => Qhas_any n k w (by omega)
      rcases hb : atB n k with _ | _
      · have HQ : Hid (highB n k = h) := (highB_f hb).symm.trans hq
        rw [hb] at hat
        have HAT := Lib.hid hat
        clear hq hb hat
        go_wp2_with (go_at_call 64; refine (HAT.out _).mono ?_; rintro e w' ⟨rfl, rfl⟩)
        go_roundw
        case rel => exact ⟨trivial, rfl, k, by omega, by go_num, HQ.out⟩
        case measure => simp [intOf] <;> omega
      · have HQ : Hid (h = (k : Int)) := hq.symm.trans (highB_t hb)
        rw [hb] at hat
        have HAT := Lib.hid hat
        clear hq hb hat
        go_wp2_with (go_at_call 64; refine (HAT.out _).mono ?_; rintro e w' ⟨rfl, rfl⟩)
        go_ret
        exact ⟨by rw [HQ.out]; rfl, Below.refl _ _⟩

set_option maxRecDepth 100000 in
set_option maxHeartbeats 1000000 in
theorem QLow_any (n : Int) (w : World) (hn : (Lit.int .i64 n).wf = true) : Calls Tryz.prog 28 #[.int .i64 n] w fun e w' => e = .returned (.int .i64 (low n)) ∧ Below w.heap.size w w' := by
  clear hn
  obtain ⟨h, hh⟩ : ∃ h, h = low n := ⟨_, rfl⟩
  rw [← hh]
  have HH := Lib.hid hh
  clear hh
  go_enter Tryz.func28, Tryz.ntmps28
  go_wp2
  go_loopw [2, 3, 4] (fun q i3 i wr => wr = w ∧ q = .int .i64 0 ∧ ∃ k : Nat, k ≤ 16 ∧ i = .int .i64 ((16 - k : Nat) : Int) ∧ lowB n k = h) (fun _ _ i _ => (16 - intOf i).toNat)
  case atStart => exact ⟨rfl, rfl, 16, by omega, rfl, HH.out.symm⟩
  case round =>
    obtain ⟨rfl, rfl, k, hk, rfl, hq⟩ := hrel
    rcases k with _ | k
    · have HQ : Hid (h = -1) := hq.symm
      clear hq
      go_wp2
      go_ret
      exact ⟨by rw [HQ.out]; rfl, Below.refl _ _⟩
    · obtain ⟨j, hj⟩ : ∃ j, j = 15 - k := ⟨_, rfl⟩
      have e1 : 16 - (k + 1) = j := by omega
      rw [e1]
      have hj15 : j ≤ 15 := by omega
      have HJ : Hid (((16 - k : Nat) : Int) = (j : Int) + 1) := by show ((16 - k : Nat) : Int) = (j : Int) + 1; omega
      clear e1
      have td : decide ((j : Int) < 16) = true := decide_eq_true (by omega)
      have hat := fun w => Qhas_any n j w hj15
      rcases hb : atB n j with _ | _
      · have HQ : Hid (lowB n k = h) := (lowB_f (hj ▸ hb)).symm.trans hq
        rw [hb] at hat
        have HAT := Lib.hid hat
        clear hq hb hat hj
        go_wp2_with (go_at_call 64; refine (HAT.out _).mono ?_; rintro e w' ⟨rfl, rfl⟩)
        go_roundw
        case rel => exact ⟨trivial, rfl, k, by omega, congrArg (Value.int .i64) HJ.out.symm, HQ.out⟩
        case measure => simp [intOf] <;> omega
      · have HQ : Hid (h = (j : Int)) := by show h = (j : Int); rw [hj]; exact hq.symm.trans (lowB_t (hj ▸ hb))
        rw [hb] at hat
        have HAT := Lib.hid hat
        clear hq hb hat hj
        go_wp2_with (go_at_call 64; refine (HAT.out _).mono ?_; rintro e w' ⟨rfl, rfl⟩)
        go_ret
        exact ⟨by rw [HQ.out]; rfl, Below.refl _ _⟩

theorem mayO_and (b s wi z wa : Int) : mayO ⟨b, s, wi, z, wa⟩ = (decide (1 ≤ b ∧ b ≤ 15) && (atB b 0 && (decide (1 ≤ s ∧ s ≤ 7) && (atB s 0 && (decide (1 ≤ wi ∧ wi ≤ 127) && (decide (1 ≤ z ∧ z ≤ 15) && decide (1 ≤ wa ∧ wa ≤ 7))))))) := by
  have e0 : ∀ n : Int, atB n 0 = decide (n % 2 = 1) := fun n => by
    unfold atB
    rw [Int.pow_zero, Int.ediv_one]
    rfl
  unfold mayO
  rw [e0, e0, Bool.eq_iff_iff]
  simp only [Bool.and_eq_true, decide_eq_true_eq]
  constructor
  · rintro ⟨⟨h1, h2, h3⟩, ⟨h4, h5, h6⟩, h7, h8, h9⟩
    exact ⟨⟨h1, h2⟩, h3, ⟨h4, h5⟩, h6, h7, h8, h9⟩
  · rintro ⟨⟨h1, h2⟩, h3, ⟨h4, h5⟩, h6, h7, h8, h9⟩
    exact ⟨⟨h1, h2, h3⟩, ⟨h4, h5, h6⟩, h7, h8, h9⟩
set_option maxRecDepth 100000 in
set_option maxHeartbeats 8000000 in
theorem QMay_any (o : Of5) (w : World) (ho : o.ok) : Calls Tryz.prog 25 #[o.val] w fun e w' => e = .returned (.bool (mayO o)) ∧ Below w.heap.size w w' := by
  obtain ⟨b, s, wi, z, wa⟩ := o
  clear ho
  have k1 := fun w => Qset_any b 15 w
  have k2 := fun w => Qhas_any b 0 w (by omega)
  have k3 := fun w => Qset_any s 7 w
  have k4 := fun w => Qhas_any s 0 w (by omega)
  have k5 := fun w => Qset_any wi 127 w
  have k6 := fun w => Qset_any z 15 w
  have k7 := fun w => Qset_any wa 7 w
  have hm := mayO_and b s wi z wa
  generalize decide (1 ≤ b ∧ b ≤ 15) = q1 at k1 hm
  generalize atB b 0 = q2 at k2 hm
  generalize decide (1 ≤ s ∧ s ≤ 7) = q3 at k3 hm
  generalize atB s 0 = q4 at k4 hm
  generalize decide (1 ≤ wi ∧ wi ≤ 127) = q5 at k5 hm
  generalize decide (1 ≤ z ∧ z ≤ 15) = q6 at k6 hm
  generalize decide (1 ≤ wa ∧ wa ≤ 7) = q7 at k7 hm
  generalize mayO ⟨b, s, wi, z, wa⟩ = q at hm
  have K2 : Hid (∀ w, Calls Tryz.prog 64 #[.int .i64 b, .int .i64 0] w fun e w' => e = .returned (.bool q2) ∧ w' = w) := k2
  have K4 : Hid (∀ w, Calls Tryz.prog 64 #[.int .i64 s, .int .i64 0] w fun e w' => e = .returned (.bool q4) ∧ w' = w) := k4
  have K1 := Lib.hid k1
  have K3 := Lib.hid k3
  have K5 := Lib.hid k5
  have K6 := Lib.hid k6
  have K7 := Lib.hid k7
  have HM := Lib.hid hm
  clear k1 k2 k3 k4 k5 k6 k7 hm
  rcases q1 with _ | _
  rotate_left
  rcases q2 with _ | _
  rotate_left
  rcases q3 with _ | _
  rotate_left
  rcases q4 with _ | _
  rotate_left
  rcases q5 with _ | _
  rotate_left
  rcases q6 with _ | _
  rotate_left
  rcases q7 with _ | _
  all_goals
    go_enter Tryz.func25, Tryz.ntmps25
    go_wp2_with (first
      | ((with_reducible refine wpList_boxS rfl 23 _ (.tmp 0) rfl rfl (run_boxOf ⟨b, s, wi, z, wa⟩) ?_); intro w1 hb1 hlt1 hh1; have c0 : w1.cell? ⟨w.heap.size, 0, none⟩ = some (.int .i64 b) := cell_at hh1 0 _ rfl; have c1 : w1.cell? ⟨w.heap.size, 1, none⟩ = some (.int .i64 s) := cell_at hh1 1 _ rfl; have c2 : w1.cell? ⟨w.heap.size, 2, none⟩ = some (.int .i64 wi) := cell_at hh1 2 _ rfl; have c3 : w1.cell? ⟨w.heap.size, 3, none⟩ = some (.int .i64 z) := cell_at hh1 3 _ rfl; have c4 : w1.cell? ⟨w.heap.size, 4, none⟩ = some (.int .i64 wa) := cell_at hh1 4 _ rfl; have HB := Lib.hid hb1; clear hb1 hh1)
      | (go_at_call 63; first
        | ((with_reducible refine (K1.out _).mono ?_); rintro e w' ⟨rfl, hw'⟩; rw [hw']; clear hw')
        | ((with_reducible refine (K3.out _).mono ?_); rintro e w' ⟨rfl, hw'⟩; rw [hw']; clear hw')
        | ((with_reducible refine (K5.out _).mono ?_); rintro e w' ⟨rfl, hw'⟩; rw [hw']; clear hw')
        | ((with_reducible refine (K6.out _).mono ?_); rintro e w' ⟨rfl, hw'⟩; rw [hw']; clear hw')
        | ((with_reducible refine (K7.out _).mono ?_); rintro e w' ⟨rfl, hw'⟩; rw [hw']; clear hw'))
      | (go_at_call 64; first
        | ((with_reducible refine (K2.out _).mono ?_); rintro e w' ⟨rfl, hw'⟩; rw [hw']; clear hw')
        | ((with_reducible refine (K4.out _).mono ?_); rintro e w' ⟨rfl, hw'⟩; rw [hw']; clear hw')))
    go_ret
    exact ⟨by rw [HM.out]; rfl, HB.out⟩
end Go.Proofs.YtcmjdbljdkabpaaGreatDoor

namespace Go.Proofs.YtcmjdbljdkabpaaGreatDoor
open Go.RowKit

/-- 'string(b)' in a region whose order is fixed. -/
theorem wpList_strB {w : World} {ops : Array Oper} {rest : List Oper} {o : Oper} {a : Act} {Q : Exit → Act → World → Prop} (hgd : o.guard = none) (x : Operand) (ho : o.op = .convert 46 9 x) (u : Value) (m : List UInt8) (hx : a.eval x = u) (hu : Rds w u m)
    (h : wpList Tryz.prog ops Q rest (a.put o.dst (.string ⟨m.toArray⟩)) w) : wpList Tryz.prog ops Q (o :: rest) a w := by
  refine wpList_plain hgd fun K hK => ?_
  have hr : (execOp a.eval o).run Tryz.prog w = .ok (.value (.string ⟨m.toArray⟩)) w := by
    simp only [execOp, ho, hx, Sem.run_bind, run_str hu, Result.andThen_ok, Sem.run_pure]
  unfold Oper.wp
  rw [hr, Oper.upon_value]
  exact hK _ _ h

theorem bcsO (o : Of5) {b s wi z wa : Int} (hb : 0 ≤ b ∧ b < 256) (hs : 0 ≤ s ∧ s < 256) (hwi : 0 ≤ wi ∧ wi < 256) (hz : 0 ≤ z ∧ z < 256) (hwa : 0 ≤ wa ∧ wa < 256) :
    (#[.int .u8 1, .int .u8 1, .int .u8 b, .int .u8 2, .int .u8 1, .int .u8 s, .int .u8 3, .int .u8 1, .int .u8 wi, .int .u8 4, .int .u8 1, .int .u8 z, .int .u8 5, .int .u8 1, .int .u8 wa] : Array Value) = (bcs (bytesO ⟨b, s, wi, z, wa⟩)).toArray := by
  show _ = (#[bc 1, bc 1, bc (by8 b), bc 2, bc 1, bc (by8 s), bc 3, bc 1, bc (by8 wi), bc 4, bc 1, bc (by8 z), bc 5, bc 1, bc (by8 wa)] : Array Value)
  rw [by8_bc hb, by8_bc hs, by8_bc hwi, by8_bc hz, by8_bc hwa]
  rfl

set_option maxRecDepth 100000 in
set_option maxHeartbeats 2000000 in
theorem RPutO_any (o : Of5) (w : World) : Calls Tryz.prog 24 #[o.val] w (PutR (putO o) w) := by
  have hmay := fun w => RMayO_any o w
  by_cases hm : mayO o = true
  · rw [hm] at hmay
    have HM := Lib.hid hmay
    have HP : Hid (putO o = some (bytesO o)) := by show putO o = _; unfold putO; rw [if_pos hm]
    obtain ⟨h1, h2, h3, h4, h5⟩ := mayO_parts hm
    obtain ⟨b, s, wi, z, wa⟩ := o
    simp only at h1 h2 h3 h4 h5
    have e1 : IntKind.u8.wrap b = b := IntWalk.u8_in _ (by omega)
    have e2 : IntKind.u8.wrap s = s := IntWalk.u8_in _ (by omega)
    have e3 : IntKind.u8.wrap wi = wi := IntWalk.u8_in _ (by omega)
    have e4 : IntKind.u8.wrap z = z := IntWalk.u8_in _ (by omega)
    have e5 : IntKind.u8.wrap wa = wa := IntWalk.u8_in _ (by omega)
    have HBC := Lib.hid (bcsO ⟨b, s, wi, z, wa⟩ (b := b) (s := s) (wi := wi) (z := z) (wa := wa) (by omega) (by omega) (by omega) (by omega) (by omega))
    have HL : Hid ((bytesO ⟨b, s, wi, z, wa⟩).length = 15) := rfl
    clear hmay hm h1 h2 h3 h4 h5
    go_enter Tryz.func24, Tryz.ntmps24
    go_wp2_with (first
      | ((with_reducible refine wpList_boxS rfl 23 _ (.tmp 0) rfl rfl (run_boxOf ⟨b, s, wi, z, wa⟩) ?_); intro w1 hb1 hlt1 hh1; have HB1 := Lib.hid hb1; have HH1 := Lib.hid hh1; clear hb1 hh1)
      | (with_reducible refine wpList_loadB rfl 23 (.tmp 1) rfl w.heap.size rfl 23 _ HH1.out _ Tryz.underlying23 rfl (by kernel_rfl) ?_)
      | (go_at_call 58; (with_reducible refine (HM.out _).mono ?_); rintro e w2 ⟨rfl, hb⟩; have HB2 := Lib.hid (bel_trans HB1.out hb); have hh2 := keep_at HH1.out hb; have c0 : w2.cell? ⟨w.heap.size, 0, none⟩ = some (.int .i64 b) := cell_at hh2 0 _ rfl; have c1 : w2.cell? ⟨w.heap.size, 1, none⟩ = some (.int .i64 s) := cell_at hh2 1 _ rfl; have c2 : w2.cell? ⟨w.heap.size, 2, none⟩ = some (.int .i64 wi) := cell_at hh2 2 _ rfl; have c3 : w2.cell? ⟨w.heap.size, 3, none⟩ = some (.int .i64 z) := cell_at hh2 3 _ rfl; have c4 : w2.cell? ⟨w.heap.size, 4, none⟩ = some (.int .i64 wa) := cell_at hh2 4 _ rfl; clear hb hh2)
      | ((with_reducible refine wpList_strB rfl (.tmp 22) rfl (.slice (some ⟨w2.heap.size, 0, none⟩) 15 15) (bytesO ⟨b, s, wi, z, wa⟩) rfl ?hu ?_); case hu => (rw [HBC.out]; exact (Own.built w2 (bytesO ⟨b, s, wi, z, wa⟩) 0 (by omega) (by rw [HL.out]; simp [maxLen])).rds)))
    go_ret2
    exact putR_some (s := ⟨(bytesO ⟨b, s, wi, z, wa⟩).toArray⟩) HP.out (bal HB2.out _)
  · have hm' : mayO o = false := by simpa using hm
    rw [hm'] at hmay
    have HM := Lib.hid hmay
    have HP : Hid (putO o = none) := by show putO o = _; unfold putO; rw [hm']; rfl
    obtain ⟨b, s, wi, z, wa⟩ := o
    clear hmay hm hm'
    go_enter Tryz.func24, Tryz.ntmps24
    go_wp2_with (first
      | ((with_reducible refine wpList_boxS rfl 23 _ (.tmp 0) rfl rfl (run_boxOf ⟨b, s, wi, z, wa⟩) ?_); intro w1 hb1 hlt1 hh1; have HB1 := Lib.hid hb1; have HH1 := Lib.hid hh1; clear hb1 hh1)
      | (with_reducible refine wpList_loadB rfl 23 (.tmp 1) rfl w.heap.size rfl 23 _ HH1.out _ Tryz.underlying23 rfl (by kernel_rfl) ?_)
      | (go_at_call 58; (with_reducible refine (HM.out _).mono ?_); rintro e w2 ⟨rfl, hb⟩; have HB2 := Lib.hid (bel_trans HB1.out hb); clear hb))
    go_ret2
    exact putR_none HP.out HB2.out

theorem RFrame_any (s d : Int) (w : World) (hs : 0 ≤ s ∧ s ≤ 1000) (hd : (Lit.int .i64 d).wf = true) : Calls Tryz.prog 45 #[.int .i64 s, .int .i64 d] w fun e w' => e = .returned (.int .i64 (frameM s d)) ∧ w' = w := by
  have HT := Lib.hid (fun w => RTicks_any (2 * (s + 5) + 2) d w (wf64 (by omega)) hd)
  have v1 : IntKind.i64.wrap (s + 5) = s + 5 := IntWalk.i64_in _ (by omega)
  have v2 : IntKind.i64.wrap (2 * (s + 5)) = 2 * (s + 5) := IntWalk.i64_in _ (by omega)
  have v3 : IntKind.i64.wrap (2 * (s + 5) + 2) = 2 * (s + 5) + 2 := IntWalk.i64_in _ (by omega)
  clear hs hd
  go_enter Tryz.func45, Tryz.ntmps45
  go_wp2_with (go_at_call 37; refine (HT.out _).mono ?_; rintro e w' ⟨rfl, rfl⟩)
  go_ret
  exact ⟨rfl, rfl⟩
end Go.Proofs.YtcmjdbljdkabpaaGreatDoor

namespace Go.Proofs.YtcmjdbljdkabpaaGreatDoor
open Go.RowKit

theorem bcs4 {n : Int} (h : u32 n) : (#[.int .u8 (n % 256), .int .u8 (n / 256 % 256), .int .u8 (n / 65536 % 256), .int .u8 (n / 16777216)] : Array Value) = (bcs (le4 n)).toArray := by
  unfold u32 at h
  show _ = (#[bc (by8 (n % 256)), bc (by8 (n / 256 % 256)), bc (by8 (n / 65536 % 256)), bc (by8 (n / 16777216 % 256))] : Array Value)
  rw [by8_bc (by omega), by8_bc (by omega), by8_bc (by omega), by8_bc (by omega), show n / 16777216 % 256 = n / 16777216 by omega]
set_option maxRecDepth 100000 in
theorem Rfour_any (n : Int) (w : World) (h : u32 n) : Calls Tryz.prog 82 #[.int .u32 n] w fun e w' => e = .returned (.string ⟨(le4 n).toArray⟩) ∧ Below w.heap.size w w' := by
  have HBC := Lib.hid (bcs4 h)
  have HL : Hid ((le4 n).length = 4) := rfl
  unfold u32 at h
  have m0 : n.tmod 256 = n % 256 := Int.tmod_eq_emod_of_nonneg (by omega)
  have d1 : n.tdiv 256 = n / 256 := Int.tdiv_eq_ediv_of_nonneg (by omega)
  have d2 : n.tdiv 65536 = n / 65536 := Int.tdiv_eq_ediv_of_nonneg (by omega)
  have d3 : n.tdiv 16777216 = n / 16777216 := Int.tdiv_eq_ediv_of_nonneg (by omega)
  have m1 : (n / 256).tmod 256 = n / 256 % 256 := Int.tmod_eq_emod_of_nonneg (by omega)
  have m2 : (n / 65536).tmod 256 = n / 65536 % 256 := Int.tmod_eq_emod_of_nonneg (by omega)
  have w1 : IntKind.u32.wrap (n / 256) = n / 256 := by rw [IntKind.wrap_u32']; omega
  have w2 : IntKind.u32.wrap (n / 65536) = n / 65536 := by rw [IntKind.wrap_u32']; omega
  have w3 : IntKind.u32.wrap (n / 16777216) = n / 16777216 := by rw [IntKind.wrap_u32']; omega
  have w4 : IntKind.u32.wrap (n % 256) = n % 256 := by rw [IntKind.wrap_u32']; omega
  have w5 : IntKind.u32.wrap (n / 256 % 256) = n / 256 % 256 := by rw [IntKind.wrap_u32']; omega
  have w6 : IntKind.u32.wrap (n / 65536 % 256) = n / 65536 % 256 := by rw [IntKind.wrap_u32']; omega
  have w7 : IntKind.u8.wrap (n % 256) = n % 256 := IntWalk.u8_in _ (by omega)
  have w8 : IntKind.u8.wrap (n / 256 % 256) = n / 256 % 256 := IntWalk.u8_in _ (by omega)
  have w9 : IntKind.u8.wrap (n / 65536 % 256) = n / 65536 % 256 := IntWalk.u8_in _ (by omega)
  have w10 : IntKind.u8.wrap (n / 16777216) = n / 16777216 := IntWalk.u8_in _ (by omega)
  clear h
  go_enter Tryz.func82, Tryz.ntmps82
  go_wp2_with ((with_reducible refine wpList_strB rfl (.tmp 17) rfl (.slice (some ⟨w.heap.size, 0, none⟩) 4 4) (le4 n) rfl ?hu ?_); case hu => (rw [HBC.out]; exact (Own.built w (le4 n) 0 (by omega) (by rw [HL.out]; simp [maxLen])).rds))
  go_ret
  exact ⟨rfl, bal (bel0 w) _⟩

theorem four_at {s : ByteArray} {a b c d : UInt8} {r : List UInt8} (h : s.data.toList = a :: b :: c :: d :: r) : ∃ h0 : 3 < s.size, s[0] = a ∧ s[1] = b ∧ s[2] = c ∧ s[3] = d := by
  have hl : s.data.toList.length = s.size := by rw [Array.length_toList]; rfl
  rw [h] at hl
  simp only [List.length_cons] at hl
  refine ⟨by omega, ?_, ?_, ?_, ?_⟩
  · show s.data[0]'(show 0 < s.size by omega) = a
    rw [← Array.getElem_toList]; simp [h]
  · show s.data[1]'(show 1 < s.size by omega) = b
    rw [← Array.getElem_toList]; simp [h]
  · show s.data[2]'(show 2 < s.size by omega) = c
    rw [← Array.getElem_toList]; simp [h]
  · show s.data[3]'(show 3 < s.size by omega) = d
    rw [← Array.getElem_toList]; simp [h]
set_option maxRecDepth 100000 in
set_option maxHeartbeats 1000000 in
theorem Rnum_core (s : ByteArray) (w : World) (a b c d : UInt8) (h0 : 0 < s.size) (h1 : 1 < s.size) (h2 : 2 < s.size) (h3 : 3 < s.size) (e0 : s[0] = a) (e1 : s[1] = b) (e2 : s[2] = c) (e3 : s[3] = d) : Calls Tryz.prog 88 #[.string s] w fun e w' => e = .returned (.int .u32 (num4 a b c d)) ∧ w' = w.drew := by
  have ha := a.toNat_lt
  have hb := b.toNat_lt
  have hc := c.toNat_lt
  have hd := d.toNat_lt
  have i0 : (0 : Int) < (s.size : Int) := by omega
  have i1 : (1 : Int) < (s.size : Int) := by omega
  have i2 : (2 : Int) < (s.size : Int) := by omega
  have i3 : (3 : Int) < (s.size : Int) := by omega
  have w0 : IntKind.u32.wrap (a.toNat : Int) = (a.toNat : Int) := by rw [IntKind.wrap_u32']; omega
  have w1 : IntKind.u32.wrap (b.toNat : Int) = (b.toNat : Int) := by rw [IntKind.wrap_u32']; omega
  have w2 : IntKind.u32.wrap (c.toNat : Int) = (c.toNat : Int) := by rw [IntKind.wrap_u32']; omega
  have w3 : IntKind.u32.wrap (d.toNat : Int) = (d.toNat : Int) := by rw [IntKind.wrap_u32']; omega
  have w4 : IntKind.u32.wrap ((b.toNat : Int) * 256) = (b.toNat : Int) * 256 := by rw [IntKind.wrap_u32']; omega
  have w5 : IntKind.u32.wrap ((c.toNat : Int) * 65536) = (c.toNat : Int) * 65536 := by rw [IntKind.wrap_u32']; omega
  have w6 : IntKind.u32.wrap ((d.toNat : Int) * 16777216) = (d.toNat : Int) * 16777216 := by rw [IntKind.wrap_u32']; omega
  have w7 : IntKind.u32.wrap ((a.toNat : Int) + (b.toNat : Int) * 256) = (a.toNat : Int) + (b.toNat : Int) * 256 := by rw [IntKind.wrap_u32']; omega
  have w8 : IntKind.u32.wrap ((a.toNat : Int) + (b.toNat : Int) * 256 + (c.toNat : Int) * 65536) = (a.toNat : Int) + (b.toNat : Int) * 256 + (c.toNat : Int) * 65536 := by rw [IntKind.wrap_u32']; omega
  have w9 : IntKind.u32.wrap ((a.toNat : Int) + (b.toNat : Int) * 256 + (c.toNat : Int) * 65536 + (d.toNat : Int) * 16777216) = (a.toNat : Int) + (b.toNat : Int) * 256 + (c.toNat : Int) * 65536 + (d.toNat : Int) * 16777216 := by rw [IntKind.wrap_u32']; omega
  clear ha hb hc hd
  go_enter Tryz.func88, Tryz.ntmps88
  go_wp2
  refine rest_begin (by kernel_rfl) ?_
  refine rest_take 0 (oi := _) (v := ?_) (by simp only [List.getElem?_toArray, List.getElem?_cons_zero]; rfl) (by kernel_rfl) (by kernel_rfl) (by kernel_rfl) (by exact fun _ _ _ h => h) (by rfl) ?_ ?_; rotate_left; (· intro W HW; go_simp; try with_reducible rfl)
  simp only [Act.put, List.setIfInBounds_toArray, List.set_cons_zero, List.set_cons_succ]
  refine rest_take 1 (oi := _) (v := ?_) (by simp only [List.getElem?_toArray, List.getElem?_cons_succ, List.getElem?_cons_zero]; rfl) (by kernel_rfl) (by kernel_rfl) (by kernel_rfl) (by exact fun _ _ _ h => h) (by rfl) ?_ ?_; rotate_left; (· intro W HW; go_simp; try with_reducible rfl)
  simp only [Act.put, List.setIfInBounds_toArray, List.set_cons_zero, List.set_cons_succ]
  refine rest_take 2 (oi := _) (v := ?_) (by simp only [List.getElem?_toArray, List.getElem?_cons_succ, List.getElem?_cons_zero]; rfl) (by kernel_rfl) (by kernel_rfl) (by kernel_rfl) (by exact fun _ _ _ h => h) (by rfl) ?_ ?_; rotate_left; (· intro W HW; go_simp; try with_reducible rfl)
  simp only [Act.put, List.setIfInBounds_toArray, List.set_cons_zero, List.set_cons_succ]
  refine rest_take 3 (oi := _) (v := ?_) (by simp only [List.getElem?_toArray, List.getElem?_cons_succ, List.getElem?_cons_zero]; rfl) (by kernel_rfl) (by kernel_rfl) (by kernel_rfl) (by exact fun _ _ _ h => h) (by rfl) ?_ ?_; rotate_left; (· intro W HW; go_simp; try with_reducible rfl)
  simp only [Act.put, List.setIfInBounds_toArray, List.set_cons_zero, List.set_cons_succ]
  refine rest_take 4 (oi := _) (v := ?_) (by simp only [List.getElem?_toArray, List.getElem?_cons_succ, List.getElem?_cons_zero]; rfl) (by kernel_rfl) (by kernel_rfl) (by kernel_rfl) (by exact fun _ _ _ h => h) (by rfl) ?_ ?_; rotate_left; (· intro W HW; go_simp; try with_reducible rfl)
  simp only [Act.put, List.setIfInBounds_toArray, List.set_cons_zero, List.set_cons_succ]
  refine rest_take 5 (oi := _) (v := ?_) (by simp only [List.getElem?_toArray, List.getElem?_cons_succ, List.getElem?_cons_zero]; rfl) (by kernel_rfl) (by kernel_rfl) (by kernel_rfl) (by exact fun _ _ _ h => h) (by rfl) ?_ ?_; rotate_left; (· intro W HW; go_simp; try with_reducible rfl)
  simp only [Act.put, List.setIfInBounds_toArray, List.set_cons_zero, List.set_cons_succ]
  refine rest_take 6 (oi := _) (v := ?_) (by simp only [List.getElem?_toArray, List.getElem?_cons_succ, List.getElem?_cons_zero]; rfl) (by kernel_rfl) (by kernel_rfl) (by kernel_rfl) (by exact fun _ _ _ h => h) (by rfl) ?_ ?_; rotate_left; (· intro W HW; go_simp; try with_reducible rfl)
  simp only [Act.put, List.setIfInBounds_toArray, List.set_cons_zero, List.set_cons_succ]
  refine rest_take 7 (oi := _) (v := ?_) (by simp only [List.getElem?_toArray, List.getElem?_cons_succ, List.getElem?_cons_zero]; rfl) (by kernel_rfl) (by kernel_rfl) (by kernel_rfl) (by exact fun _ _ _ h => h) (by rfl) ?_ ?_; rotate_left; (· intro W HW; go_simp; try with_reducible rfl)
  simp only [Act.put, List.setIfInBounds_toArray, List.set_cons_zero, List.set_cons_succ]
  refine rest_take 8 (oi := _) (v := ?_) (by simp only [List.getElem?_toArray, List.getElem?_cons_succ, List.getElem?_cons_zero]; rfl) (by kernel_rfl) (by kernel_rfl) (by kernel_rfl) (by exact fun _ _ _ h => h) (by rfl) ?_ ?_; rotate_left; (· intro W HW; go_simp; try with_reducible rfl)
  simp only [Act.put, List.setIfInBounds_toArray, List.set_cons_zero, List.set_cons_succ]
  refine rest_take 9 (oi := _) (v := ?_) (by simp only [List.getElem?_toArray, List.getElem?_cons_succ, List.getElem?_cons_zero]; rfl) (by kernel_rfl) (by kernel_rfl) (by kernel_rfl) (by exact fun _ _ _ h => h) (by rfl) ?_ ?_; rotate_left; (· intro W HW; go_simp; try with_reducible rfl)
  simp only [Act.put, List.setIfInBounds_toArray, List.set_cons_zero, List.set_cons_succ]
  refine rest_take 10 (oi := _) (v := ?_) (by simp only [List.getElem?_toArray, List.getElem?_cons_succ, List.getElem?_cons_zero]; rfl) (by kernel_rfl) (by kernel_rfl) (by kernel_rfl) (by exact fun _ _ _ h => h) (by rfl) ?_ ?_; rotate_left; (· intro W HW; go_simp; try with_reducible rfl)
  simp only [Act.put, List.setIfInBounds_toArray, List.set_cons_zero, List.set_cons_succ]
  refine rest_take 11 (oi := _) (v := ?_) (by simp only [List.getElem?_toArray, List.getElem?_cons_succ, List.getElem?_cons_zero]; rfl) (by kernel_rfl) (by kernel_rfl) (by kernel_rfl) (by exact fun _ _ _ h => h) (by rfl) ?_ ?_; rotate_left; (· intro W HW; go_simp; try with_reducible rfl)
  simp only [Act.put, List.setIfInBounds_toArray, List.set_cons_zero, List.set_cons_succ]
  refine rest_take 12 (oi := _) (v := ?_) (by simp only [List.getElem?_toArray, List.getElem?_cons_succ, List.getElem?_cons_zero]; rfl) (by kernel_rfl) (by kernel_rfl) (by kernel_rfl) (by exact fun _ _ _ h => h) (by rfl) ?_ ?_; rotate_left; (· intro W HW; go_simp; try with_reducible rfl)
  simp only [Act.put, List.setIfInBounds_toArray, List.set_cons_zero, List.set_cons_succ]
  refine rest_take 13 (oi := _) (v := ?_) (by simp only [List.getElem?_toArray, List.getElem?_cons_succ, List.getElem?_cons_zero]; rfl) (by kernel_rfl) (by kernel_rfl) (by kernel_rfl) (by exact fun _ _ _ h => h) (by rfl) ?_ ?_; rotate_left; (· intro W HW; go_simp; try with_reducible rfl)
  simp only [Act.put, List.setIfInBounds_toArray, List.set_cons_zero, List.set_cons_succ]
  refine rest_take 14 (oi := _) (v := ?_) (by simp only [List.getElem?_toArray, List.getElem?_cons_succ, List.getElem?_cons_zero]; rfl) (by kernel_rfl) (by kernel_rfl) (by kernel_rfl) (by exact fun _ _ _ h => h) (by rfl) ?_ ?_; rotate_left; (· intro W HW; go_simp; try with_reducible rfl)
  simp only [Act.put, List.setIfInBounds_toArray, List.set_cons_zero, List.set_cons_succ]
  refine rest_take 15 (oi := _) (v := ?_) (by simp only [List.getElem?_toArray, List.getElem?_cons_succ, List.getElem?_cons_zero]; rfl) (by kernel_rfl) (by kernel_rfl) (by kernel_rfl) (by exact fun _ _ _ h => h) (by rfl) ?_ ?_; rotate_left; (· intro W HW; go_simp; try with_reducible rfl)
  simp only [Act.put, List.setIfInBounds_toArray, List.set_cons_zero, List.set_cons_succ]
  refine rest_take 16 (oi := _) (v := ?_) (by simp only [List.getElem?_toArray, List.getElem?_cons_succ, List.getElem?_cons_zero]; rfl) (by kernel_rfl) (by kernel_rfl) (by kernel_rfl) (by exact fun _ _ _ h => h) (by rfl) ?_ ?_; rotate_left; (· intro W HW; go_simp; try with_reducible rfl)
  simp only [Act.put, List.setIfInBounds_toArray, List.set_cons_zero, List.set_cons_succ]
  refine rest_take 17 (oi := _) (v := ?_) (by simp only [List.getElem?_toArray, List.getElem?_cons_succ, List.getElem?_cons_zero]; rfl) (by kernel_rfl) (by kernel_rfl) (by kernel_rfl) (by exact fun _ _ _ h => h) (by rfl) ?_ ?_; rotate_left; (· intro W HW; go_simp; try with_reducible rfl)
  simp only [Act.put, List.setIfInBounds_toArray, List.set_cons_zero, List.set_cons_succ]
  refine rest_take 18 (oi := _) (v := ?_) (by simp only [List.getElem?_toArray, List.getElem?_cons_succ, List.getElem?_cons_zero]; rfl) (by kernel_rfl) (by kernel_rfl) (by kernel_rfl) (by exact fun _ _ _ h => h) (by rfl) ?_ ?_; rotate_left; (· intro W HW; go_simp; try with_reducible rfl)
  simp only [Act.put, List.setIfInBounds_toArray, List.set_cons_zero, List.set_cons_succ]
  refine rest_done (by kernel_rfl) ?_
  go_wp2
  go_ret
  exact ⟨rfl, rfl⟩
theorem Rnumber_any (s : ByteArray) (w : World) {a b c d : UInt8} {r : List UInt8} (h : s.data.toList = a :: b :: c :: d :: r) : Calls Tryz.prog 88 #[.string s] w fun e w' => e = .returned (.int .u32 (num4 a b c d)) ∧ w' = w.drew := by
  obtain ⟨h3, e0, e1, e2, e3⟩ := four_at h
  exact Rnum_core s w a b c d (by omega) (by omega) (by omega) h3 e0 e1 e2 e3
theorem ROwn_any (n : Int) (w : World) : Calls Tryz.prog 59 #[.int .u32 n] w fun e w' => e = .returned (.bool (ownN n)) ∧ w' = w := by
  by_cases h : n = 0
  · subst h
    go_enter Tryz.func59, Tryz.ntmps59
    go_wp2
    go_ret
    exact ⟨rfl, rfl⟩
  · have h1 : (n != 0) = true := by rw [bne_iff_ne]; exact h
    have e : ownN n = (n != 4294967295) := by unfold ownN; rw [h1]; rfl
    rw [e]
    clear e h
    generalize hq : (n != 4294967295) = q
    go_enter Tryz.func59, Tryz.ntmps59
    go_wp2
    go_ret
    exact ⟨rfl, rfl⟩
end Go.Proofs.YtcmjdbljdkabpaaGreatDoor

namespace Go.Proofs.YtcmjdbljdkabpaaGreatDoor
open Go.RowKit M

set_option maxRecDepth 100000 in
set_option maxHeartbeats 1000000 in
theorem Ramong_any (v : Value) (l : List Int) (n : Int) (w : World) (hr : RdU w v l) (hl : l.length ≤ 1000) : Calls Tryz.prog 93 #[v, .int .u32 n] w fun e w' => e = .returned (.bool (l.contains n)) ∧ w' = w := by
  have hr2 := hr
  obtain ⟨A, cap, rfl, hcap, hcm, -⟩ := hr2
  have HR := Lib.hid hr
  unfold maxLen at hcm
  clear hr
  go_enter Tryz.func93, Tryz.ntmps93
  go_wp2
  go_loopw [4, 5] (fun q i wr => wr = w ∧ q = .bool false ∧ ∃ k : Nat, k ≤ l.length ∧ i = .int .i64 k ∧ ∀ x ∈ l.take k, x ≠ n) (fun _ i _ => l.length - (intOf i).toNat)
  case atStart => exact ⟨rfl, rfl, 0, by omega, rfl, fun t ht => by simp at ht⟩
  case round =>
    obtain ⟨rfl, rfl, k, hk, rfl, hno⟩ := hrel
    have HNO := Lib.hid hno
    clear hno
    by_cases hlt : k < l.length
    · have td : decide ((k : Int) < (l.length : Int)) = true := decide_eq_true (by omega)
      obtain ⟨b, off, rfl, hbl, hc⟩ := HR.out.at_ hlt
      obtain ⟨x, hx⟩ : ∃ x, l[k] = x := ⟨_, rfl⟩
      rw [hx] at hc
      have HX := Lib.hid hx
      clear hx
      rcases he : (x == n) with _ | _
      · have HN2 : Hid (∀ y ∈ l.take (k + 1), y ≠ n) := by
          show ∀ y ∈ l.take (k + 1), y ≠ n
          rw [List.take_succ_eq_append_getElem hlt]
          intro y hy
          rcases List.mem_append.1 hy with h | h
          · exact HNO.out y h
          · rw [List.mem_singleton.1 h, HX.out]; exact beq_eq_false_iff_ne.1 he
        go_wp2
        go_roundw
        case rel => exact ⟨trivial, rfl, k + 1, by omega, by go_num, HN2.out⟩
        case measure => simp [intOf] <;> omega
      · have HIN : Hid (l.contains n = true) := by
          show l.contains n = true
          rw [List.contains_iff_mem, ← beq_iff_eq.1 he, ← HX.out]
          exact List.getElem_mem hlt
        go_wp2
        go_ret
        exact ⟨by rw [HIN.out]; rfl, rfl⟩
    · have td : decide ((k : Int) < (l.length : Int)) = false := decide_eq_false (by omega)
      have HIN : Hid (l.contains n = false) := by
        show l.contains n = false
        rw [Bool.eq_false_iff]
        intro h
        rw [List.contains_iff_mem] at h
        exact HNO.out n (by rw [List.take_of_length_le (by omega)]; exact h) rfl
      go_wp2
      go_ret
      exact ⟨by rw [HIN.out]; rfl, rfl⟩

theorem drawn_at {nots draws : List Int} {k : Nat} (hk : k < draws.length) : drawn nots (draws.drop k) k = if ownN draws[k] && !nots.contains draws[k] then some (draws[k], k + 1) else drawn nots (draws.drop (k + 1)) (k + 1) := by
  rw [List.drop_eq_getElem_cons hk]; rfl

set_option maxRecDepth 100000 in
set_option maxHeartbeats 4000000 in
theorem RFresh_any (v u : Value) (l m : List Int) (w : World) (hv : RdU w v l) (hu : RdU w u m) (hl : l.length ≤ 1000) (hm : m.length ≤ 1000) : Calls Tryz.prog 53 #[v, u] w (FreshR l m w) := by
  have hv2 := hv
  obtain ⟨A, cap, rfl, hcap, hcm, -⟩ := hv2
  have HV := Lib.hid hv
  have hu2 := hu
  obtain ⟨B, cb, rfl, -, -, -⟩ := hu2
  have HU := Lib.hid hu
  have HA := Lib.hid (fun (n : Int) (w' : World) (h : RdU w' (.slice B m.length cb) m) => Ramong_any _ m n w' h hm)
  unfold maxLen at hcm
  clear hv hu
  go_enter Tryz.func53, Tryz.ntmps53
  go_wp2
  go_loopw [4, 5, 6] (fun q q5 i wr => wr = w ∧ q = .int .u32 0 ∧ q5 = .int .i64 0 ∧ ∃ k : Nat, k ≤ l.length ∧ i = .int .i64 k ∧ drawn m l 0 = drawn m (l.drop k) k) (fun _ _ i _ => l.length - (intOf i).toNat)
  case atStart => exact ⟨rfl, rfl, rfl, 0, by omega, rfl, by rw [List.drop_zero]⟩
  case round =>
    obtain ⟨rfl, rfl, rfl, k, hk, rfl, hd⟩ := hrel
    have HD := Lib.hid hd
    clear hd
    by_cases hlt : k < l.length
    · have td : decide ((k : Int) < (l.length : Int)) = true := decide_eq_true (by omega)
      obtain ⟨b, off, rfl, hbl, hc⟩ := HV.out.at_ hlt
      have hst := drawn_at (nots := m) hlt
      obtain ⟨x, hx⟩ : ∃ x, l[k] = x := ⟨_, rfl⟩
      rw [hx] at hc hst
      have HST := Lib.hid hst
      clear hx hst
      have hown := fun w => ROwn_any x w
      rcases ho : ownN x with _ | _
      · rw [ho] at hown
        have HOWN := Lib.hid hown
        have HN : Hid (drawn m l 0 = drawn m (l.drop (k + 1)) (k + 1)) := by show drawn m l 0 = _; rw [HD.out, HST.out, ho]; rfl
        clear hown ho
        go_wp2_with (go_at_call 59; refine (HOWN.out _).mono ?_; rintro e w' ⟨rfl, rfl⟩)
        go_roundw
        case rel => exact ⟨trivial, rfl, rfl, k + 1, by omega, by go_num, HN.out⟩
        case measure => simp [intOf] <;> omega
      · rw [ho] at hown
        have HOWN := Lib.hid hown
        have hin := fun w' h => HA.out x w' h
        rcases hi : m.contains x with _ | _
        · rw [hi] at hin
          have HIN := Lib.hid hin
          have HN : Hid (drawn m l 0 = some (x, k + 1)) := by show drawn m l 0 = _; rw [HD.out, HST.out, ho, hi]; rfl
          clear hown ho hin hi
          go_wp2_with (first
            | (go_at_call 59; refine (HOWN.out _).mono ?_; rintro e w' ⟨rfl, rfl⟩)
            | (go_at_call 93; refine (HIN.out _ HU.out).mono ?_; rintro e w' ⟨rfl, rfl⟩))
          go_ret2
          refine ⟨?_, Below.refl _ _⟩
          unfold freshM
          rw [HN.out]
          simp
        · rw [hi] at hin
          have HIN := Lib.hid hin
          have HN : Hid (drawn m l 0 = drawn m (l.drop (k + 1)) (k + 1)) := by show drawn m l 0 = _; rw [HD.out, HST.out, ho, hi]; rfl
          clear hown ho hin hi
          go_wp2_with (first
            | (go_at_call 59; refine (HOWN.out _).mono ?_; rintro e w' ⟨rfl, rfl⟩)
            | (go_at_call 93; refine (HIN.out _ HU.out).mono ?_; rintro e w' ⟨rfl, rfl⟩))
          go_roundw
          case rel => exact ⟨trivial, rfl, rfl, k + 1, by omega, by go_num, HN.out⟩
          case measure => simp [intOf] <;> omega
    · have td : decide ((k : Int) < (l.length : Int)) = false := decide_eq_false (by omega)
      have HN : Hid (drawn m l 0 = none) := by show drawn m l 0 = _; rw [HD.out, List.drop_of_length_le (by omega)]; rfl
      obtain ⟨L, hL⟩ : ∃ L, L = leastN m m.length 1 := ⟨_, rfl⟩
      obtain ⟨s1, s2, s3, -⟩ := leastN_spec m m.length 1
      have s4 := leastN_not m 1
      rw [← hL] at s1 s2 s3 s4
      have HL := Lib.hid hL
      have HS3 := Lib.hid s3
      have HS4 := Lib.hid s4
      clear hL s3 s4
      go_wp2
      obtain ⟨wo, rfl⟩ : ∃ wo : World, wo = wr := ⟨_, rfl⟩
      go_loopw [7] (fun i wr => wr = wo ∧ ∃ n : Int, 1 ≤ n ∧ n ≤ L ∧ i = .int .u32 n) (fun i _ => (L - intOf i).toNat)
      case atStart => exact ⟨rfl, 1, by omega, s1, rfl⟩
      case round =>
        obtain ⟨rfl, n, hn1, hnL, rfl⟩ := hrel
        have hin := fun w' h => HA.out n w' h
        rcases hi : m.contains n with _ | _
        · rw [hi] at hin
          have HIN := Lib.hid hin
          have HE : Hid (L = n) := by
            show L = n
            rcases Int.lt_or_le n L with h | h
            · have := HS3.out n hn1 h
              rw [← List.contains_iff_mem, hi] at this
              cases this
            · omega
          clear hin hi
          go_wp2_with (go_at_call 93; refine (HIN.out _ HU.out).mono ?_; rintro e w' ⟨rfl, rfl⟩)
          go_ret2
          refine ⟨?_, Below.refl _ _⟩
          unfold freshM
          rw [HN.out, ← HL.out, HE.out]
          rfl
        · rw [hi] at hin
          have HIN := Lib.hid hin
          have hne : n + 1 ≤ L := by
            rcases Int.lt_or_le n L with h | h
            · omega
            · have e : n = L := by omega
              rw [e, List.contains_iff_mem] at hi
              exact absurd hi HS4.out
          have wn : IntKind.u32.wrap (n + 1) = n + 1 := by rw [IntKind.wrap_u32']; omega
          clear hin hi
          go_wp2_with (go_at_call 93; refine (HIN.out _ HU.out).mono ?_; rintro e w' ⟨rfl, rfl⟩)
          go_roundw
          case rel => exact ⟨trivial, n + 1, by omega, hne, rfl⟩
          case measure => simp [intOf] <;> omega

theorem run_boxX (x : XIn) (w : World) : (Instr.box 51 x.val).run Tryz.prog w = .ok (.pointer (some ⟨w.heap.size, 0, none⟩)) (w.alloc (.cells #[.int .u32 x.from_, .int .u32 x.to_, .int .i64 x.slot, .int .i64 x.slots, .bool x.anew, .string x.nick] 51)) := by
  obtain ⟨a, b, c, d, e, f⟩ := x
  kernel_rfl
theorem mayX_iff (x : XIn) : mayX x.xd = true ↔ ownN x.from_ = true ∧ (x.slots = 1 ∨ x.slots = 6 ∨ x.slots = 8) ∧ (-1 ≤ x.slot ∧ x.slot < x.slots) ∧ mayL (bl x.nick) = true := by
  unfold mayX
  show (ownN x.from_ && decide (x.slots = 1 ∨ x.slots = 6 ∨ x.slots = 8) && decide (-1 ≤ x.slot ∧ x.slot < x.slots) && mayL x.nick.data.toList) = true ↔ _
  rw [Bool.and_eq_true, Bool.and_eq_true, Bool.and_eq_true, decide_eq_true_eq, decide_eq_true_eq, and_assoc, and_assoc]
  rfl
set_option maxRecDepth 100000 in
set_option maxHeartbeats 4000000 in
theorem RMayX_any (x : XIn) (w : World) (hn : x.nick.size ≤ 1000000) : Calls Tryz.prog 81 #[x.val] w fun e w' => e = .returned (.bool (mayX x.xd)) ∧ Below w.heap.size w w' := by
  have hi := mayX_iff x
  obtain ⟨fr, tt, sl, sn, an, nk⟩ := x
  simp only at hi hn
  have hown := fun w => ROwn_any fr w
  have hmay := fun w => RefMay_any nk w hn
  generalize mayX (XIn.xd ⟨fr, tt, sl, sn, an, nk⟩) = res at *
  generalize ownN fr = ow at *
  generalize mayL (bl nk) = ml at *
  have hfin : ∀ q : Bool, (q = true ↔ (ow = true ∧ (sn = 1 ∨ sn = 6 ∨ sn = 8) ∧ (-1 ≤ sl ∧ sl < sn) ∧ ml = true)) → Ending.returned (.bool q) = .returned (.bool res) := by
    intro q h
    congr 2
    rw [Bool.eq_iff_iff, h, hi]
  have HF := Lib.hid hfin
  have HOWN := Lib.hid hown
  have HMAY := Lib.hid hmay
  clear hfin hown hmay hi
  go_enter Tryz.func81, Tryz.ntmps81
  go_wp2_with (with_reducible refine wpList_boxS rfl 51 _ (.tmp 0) rfl rfl (run_boxX ⟨fr, tt, sl, sn, an, nk⟩) ?_)
  intro w1 hb1 hlt1 hh1
  have c0 : w1.cell? ⟨w.heap.size, 0, none⟩ = some (.int .u32 fr) := cell_at hh1 0 _ rfl
  have c2 : w1.cell? ⟨w.heap.size, 2, none⟩ = some (.int .i64 sl) := cell_at hh1 2 _ rfl
  have c3 : w1.cell? ⟨w.heap.size, 3, none⟩ = some (.int .i64 sn) := cell_at hh1 3 _ rfl
  have c5 : w1.cell? ⟨w.heap.size, 5, none⟩ = some (.string nk) := cell_at hh1 5 _ rfl
  have HB := Lib.hid hb1
  clear hb1 hh1
  go_wp2_with (first
    | (go_at_call 59; (with_reducible refine (HOWN.out _).mono ?_); rintro e w' ⟨rfl, rfl⟩)
    | (go_at_call 103; (with_reducible refine (HMAY.out _).mono ?_); rintro e w' ⟨rfl, rfl⟩))
  all_goals
    go_ret
    refine ⟨HF.out _ ?_, HB.out⟩
    clear HF HB
    cases ow <;> cases ml <;> simp_all <;> omega
end Go.Proofs.YtcmjdbljdkabpaaGreatDoor
