/- The law SetupUnlike. -/
import Derived.Test.YtcmjdbljdkabpaaGreatDoorQ8S
import Derived.Test.YtcmjdbljdkabpaaGreatDoorM8J
import Derived.Test.YtcmjdbljdkabpaaGreatDoorM8C
import Derived.Test.YtcmjdbljdkabpaaGreatDoorM8M
import Derived.Test.YtcmjdbljdkabpaaGreatDoorBegun8
import Derived.Test.YtcmjdbljdkabpaaGreatDoorM4H

set_option linter.all false

namespace Go.Proofs.YtcmjdbljdkabpaaGreatDoor
open Go.RowKit M

theorem tl_beq (a b : List UInt8) : ((⟨a.toArray⟩ : ByteArray).toList == (⟨b.toArray⟩ : ByteArray).toList) = (a == b) := by rw [ByteArray.toList_eq, ByteArray.toList_eq]
theorem putS_eq {s t : St} {a b : List UInt8} (hs : s.ok) (ht : t.ok) (ha : putS s = some a) (hb : putS t = some b) : (a == b) = decide (s = t) := by
  rw [Bool.eq_iff_iff, beq_iff_eq, decide_eq_true_iff]
  constructor
  · rintro rfl
    have h1 := getS_putS (St.u hs).1 (St.u hs).2 ha
    have h2 := getS_putS (St.u ht).1 (St.u ht).2 hb
    rw [h1] at h2
    exact Option.some.inj h2
  · rintro rfl
    rw [ha] at hb
    exact Option.some.inj hb
theorem putX_eq {x y : XIn} {a b : List UInt8} (hs : x.ok) (ht : y.ok) (ha : putX x.xd = some a) (hb : putX y.xd = some b) : (a == b) = decide (x.xd = y.xd) := by
  rw [Bool.eq_iff_iff, beq_iff_eq, decide_eq_true_iff]
  constructor
  · rintro rfl
    have h1 := getX_putX (XIn.u hs).1 (XIn.u hs).2 ha
    have h2 := getX_putX (XIn.u ht).1 (XIn.u ht).2 hb
    rw [h1] at h2
    exact Option.some.inj h2
  · intro h
    rw [h] at ha
    rw [ha] at hb
    exact Option.some.inj hb
theorem SU_eqS {s t : St} {a b : List UInt8} (hs : s.ok) (ht : t.ok) (ha : putS s = some a) (hb : putS t = some b) (W : World) : (binOp .eql 64 s.val t.val).run Tryz.prog W = .ok (.bool ((⟨((some a : Option (List UInt8)).getD []).toArray⟩ : ByteArray).toList == (⟨((some b : Option (List UInt8)).getD []).toArray⟩ : ByteArray).toList)) W := by
  rw [Option.getD_some, Option.getD_some, tl_beq, putS_eq hs ht ha hb, eql_St]
theorem SU_eqX {x y : XIn} {a b : List UInt8} (hs : x.ok) (ht : y.ok) (ha : putX x.xd = some a) (hb : putX y.xd = some b) (W : World) : (binOp .eql 51 x.val y.val).run Tryz.prog W = .ok (.bool ((⟨((some a : Option (List UInt8)).getD []).toArray⟩ : ByteArray).toList == (⟨((some b : Option (List UInt8)).getD []).toArray⟩ : ByteArray).toList)) W := by
  rw [Option.getD_some, Option.getD_some, tl_beq, putX_eq hs ht ha hb, eql_xin]
set_option maxRecDepth 100000 in
set_option maxHeartbeats 8000000 in
theorem SetupUnlike_00 (s0 s1 s2 s3 s4 s5 s6 s7 s8 t0 t1 t2 t3 t4 t5 t6 t7 t8 x0 x1 x2 x3 y0 y1 y2 y3 : Int) (x4 y4 : Bool) (x5 y5 p1 p2 p3 p4 : ByteArray) (k1 : Bool) (k2 : Bool) (w : World) (hC : Codes w)
    (h1 : (∀ w, Calls Tryz.prog 54 #[.agg #[.int .u32 s0, .int .u32 s1, .int .i64 s2, .int .i64 s3, .int .i64 s4, .int .i64 s5, .int .i64 s6, .int .i64 s7, .int .i64 s8]] w fun e w' => e = .returned (.tuple #[.string p1, .bool false]) ∧ Below w.heap.size w w')) (h2 : (∀ w, Calls Tryz.prog 54 #[.agg #[.int .u32 t0, .int .u32 t1, .int .i64 t2, .int .i64 t3, .int .i64 t4, .int .i64 t5, .int .i64 t6, .int .i64 t7, .int .i64 t8]] w fun e w' => e = .returned (.tuple #[.string p2, .bool k1]) ∧ Below w.heap.size w w'))
    (h3 : (∀ w, Calls Tryz.prog 47 #[.agg #[.int .u32 x0, .int .u32 x1, .int .i64 x2, .int .i64 x3, .bool x4, .string x5]] w fun e w' => e = .returned (.tuple #[.string p3, .bool false]) ∧ Below w.heap.size w w')) (h4 : (∀ w, Calls Tryz.prog 47 #[.agg #[.int .u32 y0, .int .u32 y1, .int .i64 y2, .int .i64 y3, .bool y4, .string y5]] w fun e w' => e = .returned (.tuple #[.string p4, .bool k2]) ∧ Below w.heap.size w w')) :
    Calls Tryz.prog 20 #[.agg #[.int .u32 s0, .int .u32 s1, .int .i64 s2, .int .i64 s3, .int .i64 s4, .int .i64 s5, .int .i64 s6, .int .i64 s7, .int .i64 s8], .agg #[.int .u32 t0, .int .u32 t1, .int .i64 t2, .int .i64 t3, .int .i64 t4, .int .i64 t5, .int .i64 t6, .int .i64 t7, .int .i64 t8], .agg #[.int .u32 x0, .int .u32 x1, .int .i64 x2, .int .i64 x3, .bool x4, .string x5], .agg #[.int .u32 y0, .int .u32 y1, .int .i64 y2, .int .i64 y3, .bool y4, .string y5]] w (Holds8 w) := by
  have HC0 := Lib.hid hC
  have H1 := Lib.hid h1
  have H2 := Lib.hid h2
  have H3 := Lib.hid h3
  have H4 := Lib.hid h4
  clear hC h1 h2 h3 h4
  go_enter Tryz.func20, Tryz.ntmps20
  go_wp2_with (first
    | ((with_reducible refine wpList_boxS rfl 64 _ (.tmp 0) rfl rfl (run_boxS ⟨s0, s1, s2, s3, ⟨s4, s5, s6, s7, s8⟩⟩) ?_); intro w1 hb hlt hh; have HB1 := Lib.hid hb; have HC1 := Lib.hid (HC0.out.below hb); have A1 := Lib.hid (hh); clear hb hlt hh)
    | ((with_reducible refine wpList_boxS rfl 64 _ (.tmp 1) rfl rfl (run_boxS ⟨t0, t1, t2, t3, ⟨t4, t5, t6, t7, t8⟩⟩) ?_); intro w2 hb hlt hh; have HB2 := Lib.hid (bel_trans HB1.out hb); have A2 := Lib.hid (keep_at A1.out hb); have HC2 := Lib.hid (HC1.out.below hb); have B2 := Lib.hid (hh); clear hb hlt hh)
    | ((with_reducible refine wpList_boxS rfl 51 _ (.tmp 2) rfl rfl (run_boxX ⟨x0, x1, x2, x3, x4, x5⟩) ?_); intro w3 hb hlt hh; have HB3 := Lib.hid (bel_trans HB2.out hb); have A3 := Lib.hid (keep_at A2.out hb); have B3 := Lib.hid (keep_at B2.out hb); have HC3 := Lib.hid (HC2.out.below hb); have X3 := Lib.hid (hh); clear hb hlt hh)
    | ((with_reducible refine wpList_boxS rfl 51 _ (.tmp 3) rfl rfl (run_boxX ⟨y0, y1, y2, y3, y4, y5⟩) ?_); intro w4 hb hlt hh; have HB4 := Lib.hid (bel_trans HB3.out hb); have A4 := Lib.hid (keep_at A3.out hb); have B4 := Lib.hid (keep_at B3.out hb); have X4 := Lib.hid (keep_at X3.out hb); have HC4 := Lib.hid (HC3.out.below hb); have Y4 := Lib.hid (hh); clear hb hlt hh)
    | (with_reducible refine wpList_loadB rfl 64 (.tmp 4) rfl (w.heap.size) rfl 64 _ A5.out _ Tryz.underlying64 rfl (by kernel_rfl) ?_)
    | (with_reducible refine wpList_loadB rfl 64 (.tmp 5) rfl (w1.heap.size) rfl 64 _ B6.out _ Tryz.underlying64 rfl (by kernel_rfl) ?_)
    | (with_reducible refine wpList_loadB rfl 51 (.tmp 6) rfl (w2.heap.size) rfl 51 _ X7.out _ Tryz.underlying51 rfl (by kernel_rfl) ?_)
    | (with_reducible refine wpList_loadB rfl 51 (.tmp 7) rfl (w3.heap.size) rfl 51 _ Y8.out _ Tryz.underlying51 rfl (by kernel_rfl) ?_)
    | (go_at_call 21; ((with_reducible refine (begun8_any _ HC4.out).mono ?_); rintro e w5 ⟨rfl, hb⟩; have HB5 := Lib.hid (bel_trans HB4.out hb); have A5 := Lib.hid (keep_at A4.out hb); have B5 := Lib.hid (keep_at B4.out hb); have X5 := Lib.hid (keep_at X4.out hb); have Y5 := Lib.hid (keep_at Y4.out hb); have HC5 := Lib.hid (HC4.out.below hb); clear hb))
    | (go_at_call 54; first
      | ((with_reducible refine (H1.out _).mono ?_); rintro e w6 ⟨rfl, hb⟩; have HB6 := Lib.hid (bel_trans HB5.out hb); have A6 := Lib.hid (keep_at A5.out hb); have B6 := Lib.hid (keep_at B5.out hb); have X6 := Lib.hid (keep_at X5.out hb); have Y6 := Lib.hid (keep_at Y5.out hb); have HC6 := Lib.hid (HC5.out.below hb); clear hb)
      | ((with_reducible refine (H2.out _).mono ?_); rintro e w7 ⟨rfl, hb⟩; have HB7 := Lib.hid (bel_trans HB6.out hb); have A7 := Lib.hid (keep_at A6.out hb); have B7 := Lib.hid (keep_at B6.out hb); have X7 := Lib.hid (keep_at X6.out hb); have Y7 := Lib.hid (keep_at Y6.out hb); have HC7 := Lib.hid (HC6.out.below hb); clear hb))
    | (go_at_call 47; first
      | ((with_reducible refine (H3.out _).mono ?_); rintro e w8 ⟨rfl, hb⟩; have HB8 := Lib.hid (bel_trans HB7.out hb); have A8 := Lib.hid (keep_at A7.out hb); have B8 := Lib.hid (keep_at B7.out hb); have X8 := Lib.hid (keep_at X7.out hb); have Y8 := Lib.hid (keep_at Y7.out hb); have HC8 := Lib.hid (HC7.out.below hb); clear hb)
      | ((with_reducible refine (H4.out _).mono ?_); rintro e w9 ⟨rfl, hb⟩; have HB9 := Lib.hid (bel_trans HB8.out hb); have A9 := Lib.hid (keep_at A8.out hb); have B9 := Lib.hid (keep_at B8.out hb); have X9 := Lib.hid (keep_at X8.out hb); have Y9 := Lib.hid (keep_at Y8.out hb); have HC9 := Lib.hid (HC8.out.below hb); clear hb)))
  go_ret
  refine ⟨?_, HB9.out⟩
  simp
set_option maxRecDepth 100000 in
set_option maxHeartbeats 8000000 in
theorem SetupUnlike_01 (s0 s1 s2 s3 s4 s5 s6 s7 s8 t0 t1 t2 t3 t4 t5 t6 t7 t8 x0 x1 x2 x3 y0 y1 y2 y3 : Int) (x4 y4 : Bool) (x5 y5 p1 p2 p3 p4 : ByteArray) (k1 : Bool) (w : World) (hC : Codes w)
    (h1 : (∀ w, Calls Tryz.prog 54 #[.agg #[.int .u32 s0, .int .u32 s1, .int .i64 s2, .int .i64 s3, .int .i64 s4, .int .i64 s5, .int .i64 s6, .int .i64 s7, .int .i64 s8]] w fun e w' => e = .returned (.tuple #[.string p1, .bool false]) ∧ Below w.heap.size w w')) (h2 : (∀ w, Calls Tryz.prog 54 #[.agg #[.int .u32 t0, .int .u32 t1, .int .i64 t2, .int .i64 t3, .int .i64 t4, .int .i64 t5, .int .i64 t6, .int .i64 t7, .int .i64 t8]] w fun e w' => e = .returned (.tuple #[.string p2, .bool k1]) ∧ Below w.heap.size w w'))
    (h3 : (∀ w, Calls Tryz.prog 47 #[.agg #[.int .u32 x0, .int .u32 x1, .int .i64 x2, .int .i64 x3, .bool x4, .string x5]] w fun e w' => e = .returned (.tuple #[.string p3, .bool true]) ∧ Below w.heap.size w w')) (h4 : (∀ w, Calls Tryz.prog 47 #[.agg #[.int .u32 y0, .int .u32 y1, .int .i64 y2, .int .i64 y3, .bool y4, .string y5]] w fun e w' => e = .returned (.tuple #[.string p4, .bool false]) ∧ Below w.heap.size w w')) :
    Calls Tryz.prog 20 #[.agg #[.int .u32 s0, .int .u32 s1, .int .i64 s2, .int .i64 s3, .int .i64 s4, .int .i64 s5, .int .i64 s6, .int .i64 s7, .int .i64 s8], .agg #[.int .u32 t0, .int .u32 t1, .int .i64 t2, .int .i64 t3, .int .i64 t4, .int .i64 t5, .int .i64 t6, .int .i64 t7, .int .i64 t8], .agg #[.int .u32 x0, .int .u32 x1, .int .i64 x2, .int .i64 x3, .bool x4, .string x5], .agg #[.int .u32 y0, .int .u32 y1, .int .i64 y2, .int .i64 y3, .bool y4, .string y5]] w (Holds8 w) := by
  have HC0 := Lib.hid hC
  have H1 := Lib.hid h1
  have H2 := Lib.hid h2
  have H3 := Lib.hid h3
  have H4 := Lib.hid h4
  clear hC h1 h2 h3 h4
  go_enter Tryz.func20, Tryz.ntmps20
  go_wp2_with (first
    | ((with_reducible refine wpList_boxS rfl 64 _ (.tmp 0) rfl rfl (run_boxS ⟨s0, s1, s2, s3, ⟨s4, s5, s6, s7, s8⟩⟩) ?_); intro w1 hb hlt hh; have HB1 := Lib.hid hb; have HC1 := Lib.hid (HC0.out.below hb); have A1 := Lib.hid (hh); clear hb hlt hh)
    | ((with_reducible refine wpList_boxS rfl 64 _ (.tmp 1) rfl rfl (run_boxS ⟨t0, t1, t2, t3, ⟨t4, t5, t6, t7, t8⟩⟩) ?_); intro w2 hb hlt hh; have HB2 := Lib.hid (bel_trans HB1.out hb); have A2 := Lib.hid (keep_at A1.out hb); have HC2 := Lib.hid (HC1.out.below hb); have B2 := Lib.hid (hh); clear hb hlt hh)
    | ((with_reducible refine wpList_boxS rfl 51 _ (.tmp 2) rfl rfl (run_boxX ⟨x0, x1, x2, x3, x4, x5⟩) ?_); intro w3 hb hlt hh; have HB3 := Lib.hid (bel_trans HB2.out hb); have A3 := Lib.hid (keep_at A2.out hb); have B3 := Lib.hid (keep_at B2.out hb); have HC3 := Lib.hid (HC2.out.below hb); have X3 := Lib.hid (hh); clear hb hlt hh)
    | ((with_reducible refine wpList_boxS rfl 51 _ (.tmp 3) rfl rfl (run_boxX ⟨y0, y1, y2, y3, y4, y5⟩) ?_); intro w4 hb hlt hh; have HB4 := Lib.hid (bel_trans HB3.out hb); have A4 := Lib.hid (keep_at A3.out hb); have B4 := Lib.hid (keep_at B3.out hb); have X4 := Lib.hid (keep_at X3.out hb); have HC4 := Lib.hid (HC3.out.below hb); have Y4 := Lib.hid (hh); clear hb hlt hh)
    | (with_reducible refine wpList_loadB rfl 64 (.tmp 4) rfl (w.heap.size) rfl 64 _ A5.out _ Tryz.underlying64 rfl (by kernel_rfl) ?_)
    | (with_reducible refine wpList_loadB rfl 64 (.tmp 5) rfl (w1.heap.size) rfl 64 _ B6.out _ Tryz.underlying64 rfl (by kernel_rfl) ?_)
    | (with_reducible refine wpList_loadB rfl 51 (.tmp 6) rfl (w2.heap.size) rfl 51 _ X7.out _ Tryz.underlying51 rfl (by kernel_rfl) ?_)
    | (with_reducible refine wpList_loadB rfl 51 (.tmp 7) rfl (w3.heap.size) rfl 51 _ Y8.out _ Tryz.underlying51 rfl (by kernel_rfl) ?_)
    | (go_at_call 21; ((with_reducible refine (begun8_any _ HC4.out).mono ?_); rintro e w5 ⟨rfl, hb⟩; have HB5 := Lib.hid (bel_trans HB4.out hb); have A5 := Lib.hid (keep_at A4.out hb); have B5 := Lib.hid (keep_at B4.out hb); have X5 := Lib.hid (keep_at X4.out hb); have Y5 := Lib.hid (keep_at Y4.out hb); have HC5 := Lib.hid (HC4.out.below hb); clear hb))
    | (go_at_call 54; first
      | ((with_reducible refine (H1.out _).mono ?_); rintro e w6 ⟨rfl, hb⟩; have HB6 := Lib.hid (bel_trans HB5.out hb); have A6 := Lib.hid (keep_at A5.out hb); have B6 := Lib.hid (keep_at B5.out hb); have X6 := Lib.hid (keep_at X5.out hb); have Y6 := Lib.hid (keep_at Y5.out hb); have HC6 := Lib.hid (HC5.out.below hb); clear hb)
      | ((with_reducible refine (H2.out _).mono ?_); rintro e w7 ⟨rfl, hb⟩; have HB7 := Lib.hid (bel_trans HB6.out hb); have A7 := Lib.hid (keep_at A6.out hb); have B7 := Lib.hid (keep_at B6.out hb); have X7 := Lib.hid (keep_at X6.out hb); have Y7 := Lib.hid (keep_at Y6.out hb); have HC7 := Lib.hid (HC6.out.below hb); clear hb))
    | (go_at_call 47; first
      | ((with_reducible refine (H3.out _).mono ?_); rintro e w8 ⟨rfl, hb⟩; have HB8 := Lib.hid (bel_trans HB7.out hb); have A8 := Lib.hid (keep_at A7.out hb); have B8 := Lib.hid (keep_at B7.out hb); have X8 := Lib.hid (keep_at X7.out hb); have Y8 := Lib.hid (keep_at Y7.out hb); have HC8 := Lib.hid (HC7.out.below hb); clear hb)
      | ((with_reducible refine (H4.out _).mono ?_); rintro e w9 ⟨rfl, hb⟩; have HB9 := Lib.hid (bel_trans HB8.out hb); have A9 := Lib.hid (keep_at A8.out hb); have B9 := Lib.hid (keep_at B8.out hb); have X9 := Lib.hid (keep_at X8.out hb); have Y9 := Lib.hid (keep_at Y8.out hb); have HC9 := Lib.hid (HC8.out.below hb); clear hb)))
  go_ret
  refine ⟨?_, HB9.out⟩
  simp
set_option maxRecDepth 100000 in
set_option maxHeartbeats 8000000 in
theorem SetupUnlike_02 (s0 s1 s2 s3 s4 s5 s6 s7 s8 t0 t1 t2 t3 t4 t5 t6 t7 t8 x0 x1 x2 x3 y0 y1 y2 y3 : Int) (x4 y4 : Bool) (x5 y5 p1 p2 p3 p4 : ByteArray) (k1 : Bool) (w : World) (hC : Codes w)
    (h1 : (∀ w, Calls Tryz.prog 54 #[.agg #[.int .u32 s0, .int .u32 s1, .int .i64 s2, .int .i64 s3, .int .i64 s4, .int .i64 s5, .int .i64 s6, .int .i64 s7, .int .i64 s8]] w fun e w' => e = .returned (.tuple #[.string p1, .bool false]) ∧ Below w.heap.size w w')) (h2 : (∀ w, Calls Tryz.prog 54 #[.agg #[.int .u32 t0, .int .u32 t1, .int .i64 t2, .int .i64 t3, .int .i64 t4, .int .i64 t5, .int .i64 t6, .int .i64 t7, .int .i64 t8]] w fun e w' => e = .returned (.tuple #[.string p2, .bool k1]) ∧ Below w.heap.size w w'))
    (h3 : (∀ w, Calls Tryz.prog 47 #[.agg #[.int .u32 x0, .int .u32 x1, .int .i64 x2, .int .i64 x3, .bool x4, .string x5]] w fun e w' => e = .returned (.tuple #[.string p3, .bool true]) ∧ Below w.heap.size w w')) (h4 : (∀ w, Calls Tryz.prog 47 #[.agg #[.int .u32 y0, .int .u32 y1, .int .i64 y2, .int .i64 y3, .bool y4, .string y5]] w fun e w' => e = .returned (.tuple #[.string p4, .bool true]) ∧ Below w.heap.size w w'))
    (e2 : ∀ W : World, (binOp .eql 51 (.agg #[.int .u32 x0, .int .u32 x1, .int .i64 x2, .int .i64 x3, .bool x4, .string x5]) (.agg #[.int .u32 y0, .int .u32 y1, .int .i64 y2, .int .i64 y3, .bool y4, .string y5])).run Tryz.prog W = .ok (.bool (p3.toList == p4.toList)) W) :
    Calls Tryz.prog 20 #[.agg #[.int .u32 s0, .int .u32 s1, .int .i64 s2, .int .i64 s3, .int .i64 s4, .int .i64 s5, .int .i64 s6, .int .i64 s7, .int .i64 s8], .agg #[.int .u32 t0, .int .u32 t1, .int .i64 t2, .int .i64 t3, .int .i64 t4, .int .i64 t5, .int .i64 t6, .int .i64 t7, .int .i64 t8], .agg #[.int .u32 x0, .int .u32 x1, .int .i64 x2, .int .i64 x3, .bool x4, .string x5], .agg #[.int .u32 y0, .int .u32 y1, .int .i64 y2, .int .i64 y3, .bool y4, .string y5]] w (Holds8 w) := by
  have HC0 := Lib.hid hC
  have H1 := Lib.hid h1
  have H2 := Lib.hid h2
  have H3 := Lib.hid h3
  have H4 := Lib.hid h4
  clear hC h1 h2 h3 h4
  have E2 := Lib.hid e2
  clear e2
  go_enter Tryz.func20, Tryz.ntmps20
  go_wp2_with (first
    | ((with_reducible refine wpList_boxS rfl 64 _ (.tmp 0) rfl rfl (run_boxS ⟨s0, s1, s2, s3, ⟨s4, s5, s6, s7, s8⟩⟩) ?_); intro w1 hb hlt hh; have HB1 := Lib.hid hb; have HC1 := Lib.hid (HC0.out.below hb); have A1 := Lib.hid (hh); clear hb hlt hh)
    | ((with_reducible refine wpList_boxS rfl 64 _ (.tmp 1) rfl rfl (run_boxS ⟨t0, t1, t2, t3, ⟨t4, t5, t6, t7, t8⟩⟩) ?_); intro w2 hb hlt hh; have HB2 := Lib.hid (bel_trans HB1.out hb); have A2 := Lib.hid (keep_at A1.out hb); have HC2 := Lib.hid (HC1.out.below hb); have B2 := Lib.hid (hh); clear hb hlt hh)
    | ((with_reducible refine wpList_boxS rfl 51 _ (.tmp 2) rfl rfl (run_boxX ⟨x0, x1, x2, x3, x4, x5⟩) ?_); intro w3 hb hlt hh; have HB3 := Lib.hid (bel_trans HB2.out hb); have A3 := Lib.hid (keep_at A2.out hb); have B3 := Lib.hid (keep_at B2.out hb); have HC3 := Lib.hid (HC2.out.below hb); have X3 := Lib.hid (hh); clear hb hlt hh)
    | ((with_reducible refine wpList_boxS rfl 51 _ (.tmp 3) rfl rfl (run_boxX ⟨y0, y1, y2, y3, y4, y5⟩) ?_); intro w4 hb hlt hh; have HB4 := Lib.hid (bel_trans HB3.out hb); have A4 := Lib.hid (keep_at A3.out hb); have B4 := Lib.hid (keep_at B3.out hb); have X4 := Lib.hid (keep_at X3.out hb); have HC4 := Lib.hid (HC3.out.below hb); have Y4 := Lib.hid (hh); clear hb hlt hh)
    | (with_reducible refine wpList_loadB rfl 64 (.tmp 4) rfl (w.heap.size) rfl 64 _ A5.out _ Tryz.underlying64 rfl (by kernel_rfl) ?_)
    | (with_reducible refine wpList_loadB rfl 64 (.tmp 5) rfl (w1.heap.size) rfl 64 _ B6.out _ Tryz.underlying64 rfl (by kernel_rfl) ?_)
    | (with_reducible refine wpList_loadB rfl 51 (.tmp 6) rfl (w2.heap.size) rfl 51 _ X7.out _ Tryz.underlying51 rfl (by kernel_rfl) ?_)
    | (with_reducible refine wpList_loadB rfl 51 (.tmp 7) rfl (w3.heap.size) rfl 51 _ Y8.out _ Tryz.underlying51 rfl (by kernel_rfl) ?_)
    | (with_reducible refine wpList_loadG (by kernel_rfl) 51 (.tmp 6) rfl (w2.heap.size) rfl 51 #[.int .u32 x0, .int .u32 x1, .int .i64 x2, .int .i64 x3, .bool x4, .string x5] X9.out _ Tryz.underlying51 rfl (by kernel_rfl) ?_)
    | (with_reducible refine wpList_loadG (by kernel_rfl) 51 (.tmp 7) rfl (w3.heap.size) rfl 51 #[.int .u32 y0, .int .u32 y1, .int .i64 y2, .int .i64 y3, .bool y4, .string y5] Y9.out _ Tryz.underlying51 rfl (by kernel_rfl) ?_)
    | (with_reducible refine wpList_eq (by kernel_rfl) 51 (.tmp 67) (.tmp 68) #[.int .u32 x0, .int .u32 x1, .int .i64 x2, .int .i64 x3, .bool x4, .string x5] #[.int .u32 y0, .int .u32 y1, .int .i64 y2, .int .i64 y3, .bool y4, .string y5] _ rfl rfl rfl (fun _ _ _ _ => guard_X _ _ _ _ _ _) E2.out ?_)
    | (go_at_call 21; ((with_reducible refine (begun8_any _ HC4.out).mono ?_); rintro e w5 ⟨rfl, hb⟩; have HB5 := Lib.hid (bel_trans HB4.out hb); have A5 := Lib.hid (keep_at A4.out hb); have B5 := Lib.hid (keep_at B4.out hb); have X5 := Lib.hid (keep_at X4.out hb); have Y5 := Lib.hid (keep_at Y4.out hb); have HC5 := Lib.hid (HC4.out.below hb); clear hb))
    | (go_at_call 54; first
      | ((with_reducible refine (H1.out _).mono ?_); rintro e w6 ⟨rfl, hb⟩; have HB6 := Lib.hid (bel_trans HB5.out hb); have A6 := Lib.hid (keep_at A5.out hb); have B6 := Lib.hid (keep_at B5.out hb); have X6 := Lib.hid (keep_at X5.out hb); have Y6 := Lib.hid (keep_at Y5.out hb); have HC6 := Lib.hid (HC5.out.below hb); clear hb)
      | ((with_reducible refine (H2.out _).mono ?_); rintro e w7 ⟨rfl, hb⟩; have HB7 := Lib.hid (bel_trans HB6.out hb); have A7 := Lib.hid (keep_at A6.out hb); have B7 := Lib.hid (keep_at B6.out hb); have X7 := Lib.hid (keep_at X6.out hb); have Y7 := Lib.hid (keep_at Y6.out hb); have HC7 := Lib.hid (HC6.out.below hb); clear hb))
    | (go_at_call 47; first
      | ((with_reducible refine (H3.out _).mono ?_); rintro e w8 ⟨rfl, hb⟩; have HB8 := Lib.hid (bel_trans HB7.out hb); have A8 := Lib.hid (keep_at A7.out hb); have B8 := Lib.hid (keep_at B7.out hb); have X8 := Lib.hid (keep_at X7.out hb); have Y8 := Lib.hid (keep_at Y7.out hb); have HC8 := Lib.hid (HC7.out.below hb); clear hb)
      | ((with_reducible refine (H4.out _).mono ?_); rintro e w9 ⟨rfl, hb⟩; have HB9 := Lib.hid (bel_trans HB8.out hb); have A9 := Lib.hid (keep_at A8.out hb); have B9 := Lib.hid (keep_at B8.out hb); have X9 := Lib.hid (keep_at X8.out hb); have Y9 := Lib.hid (keep_at Y8.out hb); have HC9 := Lib.hid (HC8.out.below hb); clear hb)))
  go_ret
  refine ⟨?_, HB9.out⟩
  simp
set_option maxRecDepth 100000 in
set_option maxHeartbeats 8000000 in
theorem SetupUnlike_10 (s0 s1 s2 s3 s4 s5 s6 s7 s8 t0 t1 t2 t3 t4 t5 t6 t7 t8 x0 x1 x2 x3 y0 y1 y2 y3 : Int) (x4 y4 : Bool) (x5 y5 p1 p2 p3 p4 : ByteArray) (k2 : Bool) (w : World) (hC : Codes w)
    (h1 : (∀ w, Calls Tryz.prog 54 #[.agg #[.int .u32 s0, .int .u32 s1, .int .i64 s2, .int .i64 s3, .int .i64 s4, .int .i64 s5, .int .i64 s6, .int .i64 s7, .int .i64 s8]] w fun e w' => e = .returned (.tuple #[.string p1, .bool true]) ∧ Below w.heap.size w w')) (h2 : (∀ w, Calls Tryz.prog 54 #[.agg #[.int .u32 t0, .int .u32 t1, .int .i64 t2, .int .i64 t3, .int .i64 t4, .int .i64 t5, .int .i64 t6, .int .i64 t7, .int .i64 t8]] w fun e w' => e = .returned (.tuple #[.string p2, .bool false]) ∧ Below w.heap.size w w'))
    (h3 : (∀ w, Calls Tryz.prog 47 #[.agg #[.int .u32 x0, .int .u32 x1, .int .i64 x2, .int .i64 x3, .bool x4, .string x5]] w fun e w' => e = .returned (.tuple #[.string p3, .bool false]) ∧ Below w.heap.size w w')) (h4 : (∀ w, Calls Tryz.prog 47 #[.agg #[.int .u32 y0, .int .u32 y1, .int .i64 y2, .int .i64 y3, .bool y4, .string y5]] w fun e w' => e = .returned (.tuple #[.string p4, .bool k2]) ∧ Below w.heap.size w w')) :
    Calls Tryz.prog 20 #[.agg #[.int .u32 s0, .int .u32 s1, .int .i64 s2, .int .i64 s3, .int .i64 s4, .int .i64 s5, .int .i64 s6, .int .i64 s7, .int .i64 s8], .agg #[.int .u32 t0, .int .u32 t1, .int .i64 t2, .int .i64 t3, .int .i64 t4, .int .i64 t5, .int .i64 t6, .int .i64 t7, .int .i64 t8], .agg #[.int .u32 x0, .int .u32 x1, .int .i64 x2, .int .i64 x3, .bool x4, .string x5], .agg #[.int .u32 y0, .int .u32 y1, .int .i64 y2, .int .i64 y3, .bool y4, .string y5]] w (Holds8 w) := by
  have HC0 := Lib.hid hC
  have H1 := Lib.hid h1
  have H2 := Lib.hid h2
  have H3 := Lib.hid h3
  have H4 := Lib.hid h4
  clear hC h1 h2 h3 h4
  go_enter Tryz.func20, Tryz.ntmps20
  go_wp2_with (first
    | ((with_reducible refine wpList_boxS rfl 64 _ (.tmp 0) rfl rfl (run_boxS ⟨s0, s1, s2, s3, ⟨s4, s5, s6, s7, s8⟩⟩) ?_); intro w1 hb hlt hh; have HB1 := Lib.hid hb; have HC1 := Lib.hid (HC0.out.below hb); have A1 := Lib.hid (hh); clear hb hlt hh)
    | ((with_reducible refine wpList_boxS rfl 64 _ (.tmp 1) rfl rfl (run_boxS ⟨t0, t1, t2, t3, ⟨t4, t5, t6, t7, t8⟩⟩) ?_); intro w2 hb hlt hh; have HB2 := Lib.hid (bel_trans HB1.out hb); have A2 := Lib.hid (keep_at A1.out hb); have HC2 := Lib.hid (HC1.out.below hb); have B2 := Lib.hid (hh); clear hb hlt hh)
    | ((with_reducible refine wpList_boxS rfl 51 _ (.tmp 2) rfl rfl (run_boxX ⟨x0, x1, x2, x3, x4, x5⟩) ?_); intro w3 hb hlt hh; have HB3 := Lib.hid (bel_trans HB2.out hb); have A3 := Lib.hid (keep_at A2.out hb); have B3 := Lib.hid (keep_at B2.out hb); have HC3 := Lib.hid (HC2.out.below hb); have X3 := Lib.hid (hh); clear hb hlt hh)
    | ((with_reducible refine wpList_boxS rfl 51 _ (.tmp 3) rfl rfl (run_boxX ⟨y0, y1, y2, y3, y4, y5⟩) ?_); intro w4 hb hlt hh; have HB4 := Lib.hid (bel_trans HB3.out hb); have A4 := Lib.hid (keep_at A3.out hb); have B4 := Lib.hid (keep_at B3.out hb); have X4 := Lib.hid (keep_at X3.out hb); have HC4 := Lib.hid (HC3.out.below hb); have Y4 := Lib.hid (hh); clear hb hlt hh)
    | (with_reducible refine wpList_loadB rfl 64 (.tmp 4) rfl (w.heap.size) rfl 64 _ A5.out _ Tryz.underlying64 rfl (by kernel_rfl) ?_)
    | (with_reducible refine wpList_loadB rfl 64 (.tmp 5) rfl (w1.heap.size) rfl 64 _ B6.out _ Tryz.underlying64 rfl (by kernel_rfl) ?_)
    | (with_reducible refine wpList_loadB rfl 51 (.tmp 6) rfl (w2.heap.size) rfl 51 _ X7.out _ Tryz.underlying51 rfl (by kernel_rfl) ?_)
    | (with_reducible refine wpList_loadB rfl 51 (.tmp 7) rfl (w3.heap.size) rfl 51 _ Y8.out _ Tryz.underlying51 rfl (by kernel_rfl) ?_)
    | (go_at_call 21; ((with_reducible refine (begun8_any _ HC4.out).mono ?_); rintro e w5 ⟨rfl, hb⟩; have HB5 := Lib.hid (bel_trans HB4.out hb); have A5 := Lib.hid (keep_at A4.out hb); have B5 := Lib.hid (keep_at B4.out hb); have X5 := Lib.hid (keep_at X4.out hb); have Y5 := Lib.hid (keep_at Y4.out hb); have HC5 := Lib.hid (HC4.out.below hb); clear hb))
    | (go_at_call 54; first
      | ((with_reducible refine (H1.out _).mono ?_); rintro e w6 ⟨rfl, hb⟩; have HB6 := Lib.hid (bel_trans HB5.out hb); have A6 := Lib.hid (keep_at A5.out hb); have B6 := Lib.hid (keep_at B5.out hb); have X6 := Lib.hid (keep_at X5.out hb); have Y6 := Lib.hid (keep_at Y5.out hb); have HC6 := Lib.hid (HC5.out.below hb); clear hb)
      | ((with_reducible refine (H2.out _).mono ?_); rintro e w7 ⟨rfl, hb⟩; have HB7 := Lib.hid (bel_trans HB6.out hb); have A7 := Lib.hid (keep_at A6.out hb); have B7 := Lib.hid (keep_at B6.out hb); have X7 := Lib.hid (keep_at X6.out hb); have Y7 := Lib.hid (keep_at Y6.out hb); have HC7 := Lib.hid (HC6.out.below hb); clear hb))
    | (go_at_call 47; first
      | ((with_reducible refine (H3.out _).mono ?_); rintro e w8 ⟨rfl, hb⟩; have HB8 := Lib.hid (bel_trans HB7.out hb); have A8 := Lib.hid (keep_at A7.out hb); have B8 := Lib.hid (keep_at B7.out hb); have X8 := Lib.hid (keep_at X7.out hb); have Y8 := Lib.hid (keep_at Y7.out hb); have HC8 := Lib.hid (HC7.out.below hb); clear hb)
      | ((with_reducible refine (H4.out _).mono ?_); rintro e w9 ⟨rfl, hb⟩; have HB9 := Lib.hid (bel_trans HB8.out hb); have A9 := Lib.hid (keep_at A8.out hb); have B9 := Lib.hid (keep_at B8.out hb); have X9 := Lib.hid (keep_at X8.out hb); have Y9 := Lib.hid (keep_at Y8.out hb); have HC9 := Lib.hid (HC8.out.below hb); clear hb)))
  go_ret
  refine ⟨?_, HB9.out⟩
  simp
set_option maxRecDepth 100000 in
set_option maxHeartbeats 8000000 in
theorem SetupUnlike_11 (s0 s1 s2 s3 s4 s5 s6 s7 s8 t0 t1 t2 t3 t4 t5 t6 t7 t8 x0 x1 x2 x3 y0 y1 y2 y3 : Int) (x4 y4 : Bool) (x5 y5 p1 p2 p3 p4 : ByteArray)  (w : World) (hC : Codes w)
    (h1 : (∀ w, Calls Tryz.prog 54 #[.agg #[.int .u32 s0, .int .u32 s1, .int .i64 s2, .int .i64 s3, .int .i64 s4, .int .i64 s5, .int .i64 s6, .int .i64 s7, .int .i64 s8]] w fun e w' => e = .returned (.tuple #[.string p1, .bool true]) ∧ Below w.heap.size w w')) (h2 : (∀ w, Calls Tryz.prog 54 #[.agg #[.int .u32 t0, .int .u32 t1, .int .i64 t2, .int .i64 t3, .int .i64 t4, .int .i64 t5, .int .i64 t6, .int .i64 t7, .int .i64 t8]] w fun e w' => e = .returned (.tuple #[.string p2, .bool false]) ∧ Below w.heap.size w w'))
    (h3 : (∀ w, Calls Tryz.prog 47 #[.agg #[.int .u32 x0, .int .u32 x1, .int .i64 x2, .int .i64 x3, .bool x4, .string x5]] w fun e w' => e = .returned (.tuple #[.string p3, .bool true]) ∧ Below w.heap.size w w')) (h4 : (∀ w, Calls Tryz.prog 47 #[.agg #[.int .u32 y0, .int .u32 y1, .int .i64 y2, .int .i64 y3, .bool y4, .string y5]] w fun e w' => e = .returned (.tuple #[.string p4, .bool false]) ∧ Below w.heap.size w w')) :
    Calls Tryz.prog 20 #[.agg #[.int .u32 s0, .int .u32 s1, .int .i64 s2, .int .i64 s3, .int .i64 s4, .int .i64 s5, .int .i64 s6, .int .i64 s7, .int .i64 s8], .agg #[.int .u32 t0, .int .u32 t1, .int .i64 t2, .int .i64 t3, .int .i64 t4, .int .i64 t5, .int .i64 t6, .int .i64 t7, .int .i64 t8], .agg #[.int .u32 x0, .int .u32 x1, .int .i64 x2, .int .i64 x3, .bool x4, .string x5], .agg #[.int .u32 y0, .int .u32 y1, .int .i64 y2, .int .i64 y3, .bool y4, .string y5]] w (Holds8 w) := by
  have HC0 := Lib.hid hC
  have H1 := Lib.hid h1
  have H2 := Lib.hid h2
  have H3 := Lib.hid h3
  have H4 := Lib.hid h4
  clear hC h1 h2 h3 h4
  go_enter Tryz.func20, Tryz.ntmps20
  go_wp2_with (first
    | ((with_reducible refine wpList_boxS rfl 64 _ (.tmp 0) rfl rfl (run_boxS ⟨s0, s1, s2, s3, ⟨s4, s5, s6, s7, s8⟩⟩) ?_); intro w1 hb hlt hh; have HB1 := Lib.hid hb; have HC1 := Lib.hid (HC0.out.below hb); have A1 := Lib.hid (hh); clear hb hlt hh)
    | ((with_reducible refine wpList_boxS rfl 64 _ (.tmp 1) rfl rfl (run_boxS ⟨t0, t1, t2, t3, ⟨t4, t5, t6, t7, t8⟩⟩) ?_); intro w2 hb hlt hh; have HB2 := Lib.hid (bel_trans HB1.out hb); have A2 := Lib.hid (keep_at A1.out hb); have HC2 := Lib.hid (HC1.out.below hb); have B2 := Lib.hid (hh); clear hb hlt hh)
    | ((with_reducible refine wpList_boxS rfl 51 _ (.tmp 2) rfl rfl (run_boxX ⟨x0, x1, x2, x3, x4, x5⟩) ?_); intro w3 hb hlt hh; have HB3 := Lib.hid (bel_trans HB2.out hb); have A3 := Lib.hid (keep_at A2.out hb); have B3 := Lib.hid (keep_at B2.out hb); have HC3 := Lib.hid (HC2.out.below hb); have X3 := Lib.hid (hh); clear hb hlt hh)
    | ((with_reducible refine wpList_boxS rfl 51 _ (.tmp 3) rfl rfl (run_boxX ⟨y0, y1, y2, y3, y4, y5⟩) ?_); intro w4 hb hlt hh; have HB4 := Lib.hid (bel_trans HB3.out hb); have A4 := Lib.hid (keep_at A3.out hb); have B4 := Lib.hid (keep_at B3.out hb); have X4 := Lib.hid (keep_at X3.out hb); have HC4 := Lib.hid (HC3.out.below hb); have Y4 := Lib.hid (hh); clear hb hlt hh)
    | (with_reducible refine wpList_loadB rfl 64 (.tmp 4) rfl (w.heap.size) rfl 64 _ A5.out _ Tryz.underlying64 rfl (by kernel_rfl) ?_)
    | (with_reducible refine wpList_loadB rfl 64 (.tmp 5) rfl (w1.heap.size) rfl 64 _ B6.out _ Tryz.underlying64 rfl (by kernel_rfl) ?_)
    | (with_reducible refine wpList_loadB rfl 51 (.tmp 6) rfl (w2.heap.size) rfl 51 _ X7.out _ Tryz.underlying51 rfl (by kernel_rfl) ?_)
    | (with_reducible refine wpList_loadB rfl 51 (.tmp 7) rfl (w3.heap.size) rfl 51 _ Y8.out _ Tryz.underlying51 rfl (by kernel_rfl) ?_)
    | (go_at_call 21; ((with_reducible refine (begun8_any _ HC4.out).mono ?_); rintro e w5 ⟨rfl, hb⟩; have HB5 := Lib.hid (bel_trans HB4.out hb); have A5 := Lib.hid (keep_at A4.out hb); have B5 := Lib.hid (keep_at B4.out hb); have X5 := Lib.hid (keep_at X4.out hb); have Y5 := Lib.hid (keep_at Y4.out hb); have HC5 := Lib.hid (HC4.out.below hb); clear hb))
    | (go_at_call 54; first
      | ((with_reducible refine (H1.out _).mono ?_); rintro e w6 ⟨rfl, hb⟩; have HB6 := Lib.hid (bel_trans HB5.out hb); have A6 := Lib.hid (keep_at A5.out hb); have B6 := Lib.hid (keep_at B5.out hb); have X6 := Lib.hid (keep_at X5.out hb); have Y6 := Lib.hid (keep_at Y5.out hb); have HC6 := Lib.hid (HC5.out.below hb); clear hb)
      | ((with_reducible refine (H2.out _).mono ?_); rintro e w7 ⟨rfl, hb⟩; have HB7 := Lib.hid (bel_trans HB6.out hb); have A7 := Lib.hid (keep_at A6.out hb); have B7 := Lib.hid (keep_at B6.out hb); have X7 := Lib.hid (keep_at X6.out hb); have Y7 := Lib.hid (keep_at Y6.out hb); have HC7 := Lib.hid (HC6.out.below hb); clear hb))
    | (go_at_call 47; first
      | ((with_reducible refine (H3.out _).mono ?_); rintro e w8 ⟨rfl, hb⟩; have HB8 := Lib.hid (bel_trans HB7.out hb); have A8 := Lib.hid (keep_at A7.out hb); have B8 := Lib.hid (keep_at B7.out hb); have X8 := Lib.hid (keep_at X7.out hb); have Y8 := Lib.hid (keep_at Y7.out hb); have HC8 := Lib.hid (HC7.out.below hb); clear hb)
      | ((with_reducible refine (H4.out _).mono ?_); rintro e w9 ⟨rfl, hb⟩; have HB9 := Lib.hid (bel_trans HB8.out hb); have A9 := Lib.hid (keep_at A8.out hb); have B9 := Lib.hid (keep_at B8.out hb); have X9 := Lib.hid (keep_at X8.out hb); have Y9 := Lib.hid (keep_at Y8.out hb); have HC9 := Lib.hid (HC8.out.below hb); clear hb)))
  go_ret
  refine ⟨?_, HB9.out⟩
  simp
set_option maxRecDepth 100000 in
set_option maxHeartbeats 8000000 in
theorem SetupUnlike_12 (s0 s1 s2 s3 s4 s5 s6 s7 s8 t0 t1 t2 t3 t4 t5 t6 t7 t8 x0 x1 x2 x3 y0 y1 y2 y3 : Int) (x4 y4 : Bool) (x5 y5 p1 p2 p3 p4 : ByteArray)  (w : World) (hC : Codes w)
    (h1 : (∀ w, Calls Tryz.prog 54 #[.agg #[.int .u32 s0, .int .u32 s1, .int .i64 s2, .int .i64 s3, .int .i64 s4, .int .i64 s5, .int .i64 s6, .int .i64 s7, .int .i64 s8]] w fun e w' => e = .returned (.tuple #[.string p1, .bool true]) ∧ Below w.heap.size w w')) (h2 : (∀ w, Calls Tryz.prog 54 #[.agg #[.int .u32 t0, .int .u32 t1, .int .i64 t2, .int .i64 t3, .int .i64 t4, .int .i64 t5, .int .i64 t6, .int .i64 t7, .int .i64 t8]] w fun e w' => e = .returned (.tuple #[.string p2, .bool false]) ∧ Below w.heap.size w w'))
    (h3 : (∀ w, Calls Tryz.prog 47 #[.agg #[.int .u32 x0, .int .u32 x1, .int .i64 x2, .int .i64 x3, .bool x4, .string x5]] w fun e w' => e = .returned (.tuple #[.string p3, .bool true]) ∧ Below w.heap.size w w')) (h4 : (∀ w, Calls Tryz.prog 47 #[.agg #[.int .u32 y0, .int .u32 y1, .int .i64 y2, .int .i64 y3, .bool y4, .string y5]] w fun e w' => e = .returned (.tuple #[.string p4, .bool true]) ∧ Below w.heap.size w w'))
    (e2 : ∀ W : World, (binOp .eql 51 (.agg #[.int .u32 x0, .int .u32 x1, .int .i64 x2, .int .i64 x3, .bool x4, .string x5]) (.agg #[.int .u32 y0, .int .u32 y1, .int .i64 y2, .int .i64 y3, .bool y4, .string y5])).run Tryz.prog W = .ok (.bool (p3.toList == p4.toList)) W) :
    Calls Tryz.prog 20 #[.agg #[.int .u32 s0, .int .u32 s1, .int .i64 s2, .int .i64 s3, .int .i64 s4, .int .i64 s5, .int .i64 s6, .int .i64 s7, .int .i64 s8], .agg #[.int .u32 t0, .int .u32 t1, .int .i64 t2, .int .i64 t3, .int .i64 t4, .int .i64 t5, .int .i64 t6, .int .i64 t7, .int .i64 t8], .agg #[.int .u32 x0, .int .u32 x1, .int .i64 x2, .int .i64 x3, .bool x4, .string x5], .agg #[.int .u32 y0, .int .u32 y1, .int .i64 y2, .int .i64 y3, .bool y4, .string y5]] w (Holds8 w) := by
  have HC0 := Lib.hid hC
  have H1 := Lib.hid h1
  have H2 := Lib.hid h2
  have H3 := Lib.hid h3
  have H4 := Lib.hid h4
  clear hC h1 h2 h3 h4
  have E2 := Lib.hid e2
  clear e2
  go_enter Tryz.func20, Tryz.ntmps20
  go_wp2_with (first
    | ((with_reducible refine wpList_boxS rfl 64 _ (.tmp 0) rfl rfl (run_boxS ⟨s0, s1, s2, s3, ⟨s4, s5, s6, s7, s8⟩⟩) ?_); intro w1 hb hlt hh; have HB1 := Lib.hid hb; have HC1 := Lib.hid (HC0.out.below hb); have A1 := Lib.hid (hh); clear hb hlt hh)
    | ((with_reducible refine wpList_boxS rfl 64 _ (.tmp 1) rfl rfl (run_boxS ⟨t0, t1, t2, t3, ⟨t4, t5, t6, t7, t8⟩⟩) ?_); intro w2 hb hlt hh; have HB2 := Lib.hid (bel_trans HB1.out hb); have A2 := Lib.hid (keep_at A1.out hb); have HC2 := Lib.hid (HC1.out.below hb); have B2 := Lib.hid (hh); clear hb hlt hh)
    | ((with_reducible refine wpList_boxS rfl 51 _ (.tmp 2) rfl rfl (run_boxX ⟨x0, x1, x2, x3, x4, x5⟩) ?_); intro w3 hb hlt hh; have HB3 := Lib.hid (bel_trans HB2.out hb); have A3 := Lib.hid (keep_at A2.out hb); have B3 := Lib.hid (keep_at B2.out hb); have HC3 := Lib.hid (HC2.out.below hb); have X3 := Lib.hid (hh); clear hb hlt hh)
    | ((with_reducible refine wpList_boxS rfl 51 _ (.tmp 3) rfl rfl (run_boxX ⟨y0, y1, y2, y3, y4, y5⟩) ?_); intro w4 hb hlt hh; have HB4 := Lib.hid (bel_trans HB3.out hb); have A4 := Lib.hid (keep_at A3.out hb); have B4 := Lib.hid (keep_at B3.out hb); have X4 := Lib.hid (keep_at X3.out hb); have HC4 := Lib.hid (HC3.out.below hb); have Y4 := Lib.hid (hh); clear hb hlt hh)
    | (with_reducible refine wpList_loadB rfl 64 (.tmp 4) rfl (w.heap.size) rfl 64 _ A5.out _ Tryz.underlying64 rfl (by kernel_rfl) ?_)
    | (with_reducible refine wpList_loadB rfl 64 (.tmp 5) rfl (w1.heap.size) rfl 64 _ B6.out _ Tryz.underlying64 rfl (by kernel_rfl) ?_)
    | (with_reducible refine wpList_loadB rfl 51 (.tmp 6) rfl (w2.heap.size) rfl 51 _ X7.out _ Tryz.underlying51 rfl (by kernel_rfl) ?_)
    | (with_reducible refine wpList_loadB rfl 51 (.tmp 7) rfl (w3.heap.size) rfl 51 _ Y8.out _ Tryz.underlying51 rfl (by kernel_rfl) ?_)
    | (with_reducible refine wpList_loadG (by kernel_rfl) 51 (.tmp 6) rfl (w2.heap.size) rfl 51 #[.int .u32 x0, .int .u32 x1, .int .i64 x2, .int .i64 x3, .bool x4, .string x5] X9.out _ Tryz.underlying51 rfl (by kernel_rfl) ?_)
    | (with_reducible refine wpList_loadG (by kernel_rfl) 51 (.tmp 7) rfl (w3.heap.size) rfl 51 #[.int .u32 y0, .int .u32 y1, .int .i64 y2, .int .i64 y3, .bool y4, .string y5] Y9.out _ Tryz.underlying51 rfl (by kernel_rfl) ?_)
    | (with_reducible refine wpList_eq (by kernel_rfl) 51 (.tmp 67) (.tmp 68) #[.int .u32 x0, .int .u32 x1, .int .i64 x2, .int .i64 x3, .bool x4, .string x5] #[.int .u32 y0, .int .u32 y1, .int .i64 y2, .int .i64 y3, .bool y4, .string y5] _ rfl rfl rfl (fun _ _ _ _ => guard_X _ _ _ _ _ _) E2.out ?_)
    | (go_at_call 21; ((with_reducible refine (begun8_any _ HC4.out).mono ?_); rintro e w5 ⟨rfl, hb⟩; have HB5 := Lib.hid (bel_trans HB4.out hb); have A5 := Lib.hid (keep_at A4.out hb); have B5 := Lib.hid (keep_at B4.out hb); have X5 := Lib.hid (keep_at X4.out hb); have Y5 := Lib.hid (keep_at Y4.out hb); have HC5 := Lib.hid (HC4.out.below hb); clear hb))
    | (go_at_call 54; first
      | ((with_reducible refine (H1.out _).mono ?_); rintro e w6 ⟨rfl, hb⟩; have HB6 := Lib.hid (bel_trans HB5.out hb); have A6 := Lib.hid (keep_at A5.out hb); have B6 := Lib.hid (keep_at B5.out hb); have X6 := Lib.hid (keep_at X5.out hb); have Y6 := Lib.hid (keep_at Y5.out hb); have HC6 := Lib.hid (HC5.out.below hb); clear hb)
      | ((with_reducible refine (H2.out _).mono ?_); rintro e w7 ⟨rfl, hb⟩; have HB7 := Lib.hid (bel_trans HB6.out hb); have A7 := Lib.hid (keep_at A6.out hb); have B7 := Lib.hid (keep_at B6.out hb); have X7 := Lib.hid (keep_at X6.out hb); have Y7 := Lib.hid (keep_at Y6.out hb); have HC7 := Lib.hid (HC6.out.below hb); clear hb))
    | (go_at_call 47; first
      | ((with_reducible refine (H3.out _).mono ?_); rintro e w8 ⟨rfl, hb⟩; have HB8 := Lib.hid (bel_trans HB7.out hb); have A8 := Lib.hid (keep_at A7.out hb); have B8 := Lib.hid (keep_at B7.out hb); have X8 := Lib.hid (keep_at X7.out hb); have Y8 := Lib.hid (keep_at Y7.out hb); have HC8 := Lib.hid (HC7.out.below hb); clear hb)
      | ((with_reducible refine (H4.out _).mono ?_); rintro e w9 ⟨rfl, hb⟩; have HB9 := Lib.hid (bel_trans HB8.out hb); have A9 := Lib.hid (keep_at A8.out hb); have B9 := Lib.hid (keep_at B8.out hb); have X9 := Lib.hid (keep_at X8.out hb); have Y9 := Lib.hid (keep_at Y8.out hb); have HC9 := Lib.hid (HC8.out.below hb); clear hb)))
  go_ret
  refine ⟨?_, HB9.out⟩
  simp
set_option maxRecDepth 100000 in
set_option maxHeartbeats 8000000 in
theorem SetupUnlike_20 (s0 s1 s2 s3 s4 s5 s6 s7 s8 t0 t1 t2 t3 t4 t5 t6 t7 t8 x0 x1 x2 x3 y0 y1 y2 y3 : Int) (x4 y4 : Bool) (x5 y5 p1 p2 p3 p4 : ByteArray) (k2 : Bool) (w : World) (hC : Codes w)
    (h1 : (∀ w, Calls Tryz.prog 54 #[.agg #[.int .u32 s0, .int .u32 s1, .int .i64 s2, .int .i64 s3, .int .i64 s4, .int .i64 s5, .int .i64 s6, .int .i64 s7, .int .i64 s8]] w fun e w' => e = .returned (.tuple #[.string p1, .bool true]) ∧ Below w.heap.size w w')) (h2 : (∀ w, Calls Tryz.prog 54 #[.agg #[.int .u32 t0, .int .u32 t1, .int .i64 t2, .int .i64 t3, .int .i64 t4, .int .i64 t5, .int .i64 t6, .int .i64 t7, .int .i64 t8]] w fun e w' => e = .returned (.tuple #[.string p2, .bool true]) ∧ Below w.heap.size w w'))
    (h3 : (∀ w, Calls Tryz.prog 47 #[.agg #[.int .u32 x0, .int .u32 x1, .int .i64 x2, .int .i64 x3, .bool x4, .string x5]] w fun e w' => e = .returned (.tuple #[.string p3, .bool false]) ∧ Below w.heap.size w w')) (h4 : (∀ w, Calls Tryz.prog 47 #[.agg #[.int .u32 y0, .int .u32 y1, .int .i64 y2, .int .i64 y3, .bool y4, .string y5]] w fun e w' => e = .returned (.tuple #[.string p4, .bool k2]) ∧ Below w.heap.size w w'))
    (e1 : ∀ W : World, (binOp .eql 64 (.agg #[.int .u32 s0, .int .u32 s1, .int .i64 s2, .int .i64 s3, .int .i64 s4, .int .i64 s5, .int .i64 s6, .int .i64 s7, .int .i64 s8]) (.agg #[.int .u32 t0, .int .u32 t1, .int .i64 t2, .int .i64 t3, .int .i64 t4, .int .i64 t5, .int .i64 t6, .int .i64 t7, .int .i64 t8])).run Tryz.prog W = .ok (.bool (p1.toList == p2.toList)) W) :
    Calls Tryz.prog 20 #[.agg #[.int .u32 s0, .int .u32 s1, .int .i64 s2, .int .i64 s3, .int .i64 s4, .int .i64 s5, .int .i64 s6, .int .i64 s7, .int .i64 s8], .agg #[.int .u32 t0, .int .u32 t1, .int .i64 t2, .int .i64 t3, .int .i64 t4, .int .i64 t5, .int .i64 t6, .int .i64 t7, .int .i64 t8], .agg #[.int .u32 x0, .int .u32 x1, .int .i64 x2, .int .i64 x3, .bool x4, .string x5], .agg #[.int .u32 y0, .int .u32 y1, .int .i64 y2, .int .i64 y3, .bool y4, .string y5]] w (Holds8 w) := by
  have HC0 := Lib.hid hC
  have H1 := Lib.hid h1
  have H2 := Lib.hid h2
  have H3 := Lib.hid h3
  have H4 := Lib.hid h4
  clear hC h1 h2 h3 h4
  have E1 := Lib.hid e1
  clear e1
  go_enter Tryz.func20, Tryz.ntmps20
  go_wp2_with (first
    | ((with_reducible refine wpList_boxS rfl 64 _ (.tmp 0) rfl rfl (run_boxS ⟨s0, s1, s2, s3, ⟨s4, s5, s6, s7, s8⟩⟩) ?_); intro w1 hb hlt hh; have HB1 := Lib.hid hb; have HC1 := Lib.hid (HC0.out.below hb); have A1 := Lib.hid (hh); clear hb hlt hh)
    | ((with_reducible refine wpList_boxS rfl 64 _ (.tmp 1) rfl rfl (run_boxS ⟨t0, t1, t2, t3, ⟨t4, t5, t6, t7, t8⟩⟩) ?_); intro w2 hb hlt hh; have HB2 := Lib.hid (bel_trans HB1.out hb); have A2 := Lib.hid (keep_at A1.out hb); have HC2 := Lib.hid (HC1.out.below hb); have B2 := Lib.hid (hh); clear hb hlt hh)
    | ((with_reducible refine wpList_boxS rfl 51 _ (.tmp 2) rfl rfl (run_boxX ⟨x0, x1, x2, x3, x4, x5⟩) ?_); intro w3 hb hlt hh; have HB3 := Lib.hid (bel_trans HB2.out hb); have A3 := Lib.hid (keep_at A2.out hb); have B3 := Lib.hid (keep_at B2.out hb); have HC3 := Lib.hid (HC2.out.below hb); have X3 := Lib.hid (hh); clear hb hlt hh)
    | ((with_reducible refine wpList_boxS rfl 51 _ (.tmp 3) rfl rfl (run_boxX ⟨y0, y1, y2, y3, y4, y5⟩) ?_); intro w4 hb hlt hh; have HB4 := Lib.hid (bel_trans HB3.out hb); have A4 := Lib.hid (keep_at A3.out hb); have B4 := Lib.hid (keep_at B3.out hb); have X4 := Lib.hid (keep_at X3.out hb); have HC4 := Lib.hid (HC3.out.below hb); have Y4 := Lib.hid (hh); clear hb hlt hh)
    | (with_reducible refine wpList_loadB rfl 64 (.tmp 4) rfl (w.heap.size) rfl 64 _ A5.out _ Tryz.underlying64 rfl (by kernel_rfl) ?_)
    | (with_reducible refine wpList_loadB rfl 64 (.tmp 5) rfl (w1.heap.size) rfl 64 _ B6.out _ Tryz.underlying64 rfl (by kernel_rfl) ?_)
    | (with_reducible refine wpList_loadB rfl 51 (.tmp 6) rfl (w2.heap.size) rfl 51 _ X7.out _ Tryz.underlying51 rfl (by kernel_rfl) ?_)
    | (with_reducible refine wpList_loadB rfl 51 (.tmp 7) rfl (w3.heap.size) rfl 51 _ Y8.out _ Tryz.underlying51 rfl (by kernel_rfl) ?_)
    | (with_reducible refine wpList_loadG (by kernel_rfl) 64 (.tmp 4) rfl (w.heap.size) rfl 64 #[.int .u32 s0, .int .u32 s1, .int .i64 s2, .int .i64 s3, .int .i64 s4, .int .i64 s5, .int .i64 s6, .int .i64 s7, .int .i64 s8] A9.out _ Tryz.underlying64 rfl (by kernel_rfl) ?_)
    | (with_reducible refine wpList_loadG (by kernel_rfl) 64 (.tmp 5) rfl (w1.heap.size) rfl 64 #[.int .u32 t0, .int .u32 t1, .int .i64 t2, .int .i64 t3, .int .i64 t4, .int .i64 t5, .int .i64 t6, .int .i64 t7, .int .i64 t8] B9.out _ Tryz.underlying64 rfl (by kernel_rfl) ?_)
    | (with_reducible refine wpList_eq (by kernel_rfl) 64 (.tmp 51) (.tmp 52) #[.int .u32 s0, .int .u32 s1, .int .i64 s2, .int .i64 s3, .int .i64 s4, .int .i64 s5, .int .i64 s6, .int .i64 s7, .int .i64 s8] #[.int .u32 t0, .int .u32 t1, .int .i64 t2, .int .i64 t3, .int .i64 t4, .int .i64 t5, .int .i64 t6, .int .i64 t7, .int .i64 t8] _ rfl rfl rfl (fun _ _ _ _ => guard_S _ _ _ _ _ _) E1.out ?_)
    | (go_at_call 21; ((with_reducible refine (begun8_any _ HC4.out).mono ?_); rintro e w5 ⟨rfl, hb⟩; have HB5 := Lib.hid (bel_trans HB4.out hb); have A5 := Lib.hid (keep_at A4.out hb); have B5 := Lib.hid (keep_at B4.out hb); have X5 := Lib.hid (keep_at X4.out hb); have Y5 := Lib.hid (keep_at Y4.out hb); have HC5 := Lib.hid (HC4.out.below hb); clear hb))
    | (go_at_call 54; first
      | ((with_reducible refine (H1.out _).mono ?_); rintro e w6 ⟨rfl, hb⟩; have HB6 := Lib.hid (bel_trans HB5.out hb); have A6 := Lib.hid (keep_at A5.out hb); have B6 := Lib.hid (keep_at B5.out hb); have X6 := Lib.hid (keep_at X5.out hb); have Y6 := Lib.hid (keep_at Y5.out hb); have HC6 := Lib.hid (HC5.out.below hb); clear hb)
      | ((with_reducible refine (H2.out _).mono ?_); rintro e w7 ⟨rfl, hb⟩; have HB7 := Lib.hid (bel_trans HB6.out hb); have A7 := Lib.hid (keep_at A6.out hb); have B7 := Lib.hid (keep_at B6.out hb); have X7 := Lib.hid (keep_at X6.out hb); have Y7 := Lib.hid (keep_at Y6.out hb); have HC7 := Lib.hid (HC6.out.below hb); clear hb))
    | (go_at_call 47; first
      | ((with_reducible refine (H3.out _).mono ?_); rintro e w8 ⟨rfl, hb⟩; have HB8 := Lib.hid (bel_trans HB7.out hb); have A8 := Lib.hid (keep_at A7.out hb); have B8 := Lib.hid (keep_at B7.out hb); have X8 := Lib.hid (keep_at X7.out hb); have Y8 := Lib.hid (keep_at Y7.out hb); have HC8 := Lib.hid (HC7.out.below hb); clear hb)
      | ((with_reducible refine (H4.out _).mono ?_); rintro e w9 ⟨rfl, hb⟩; have HB9 := Lib.hid (bel_trans HB8.out hb); have A9 := Lib.hid (keep_at A8.out hb); have B9 := Lib.hid (keep_at B8.out hb); have X9 := Lib.hid (keep_at X8.out hb); have Y9 := Lib.hid (keep_at Y8.out hb); have HC9 := Lib.hid (HC8.out.below hb); clear hb)))
  go_ret
  refine ⟨?_, HB9.out⟩
  simp
set_option maxRecDepth 100000 in
set_option maxHeartbeats 8000000 in
theorem SetupUnlike_21 (s0 s1 s2 s3 s4 s5 s6 s7 s8 t0 t1 t2 t3 t4 t5 t6 t7 t8 x0 x1 x2 x3 y0 y1 y2 y3 : Int) (x4 y4 : Bool) (x5 y5 p1 p2 p3 p4 : ByteArray)  (w : World) (hC : Codes w)
    (h1 : (∀ w, Calls Tryz.prog 54 #[.agg #[.int .u32 s0, .int .u32 s1, .int .i64 s2, .int .i64 s3, .int .i64 s4, .int .i64 s5, .int .i64 s6, .int .i64 s7, .int .i64 s8]] w fun e w' => e = .returned (.tuple #[.string p1, .bool true]) ∧ Below w.heap.size w w')) (h2 : (∀ w, Calls Tryz.prog 54 #[.agg #[.int .u32 t0, .int .u32 t1, .int .i64 t2, .int .i64 t3, .int .i64 t4, .int .i64 t5, .int .i64 t6, .int .i64 t7, .int .i64 t8]] w fun e w' => e = .returned (.tuple #[.string p2, .bool true]) ∧ Below w.heap.size w w'))
    (h3 : (∀ w, Calls Tryz.prog 47 #[.agg #[.int .u32 x0, .int .u32 x1, .int .i64 x2, .int .i64 x3, .bool x4, .string x5]] w fun e w' => e = .returned (.tuple #[.string p3, .bool true]) ∧ Below w.heap.size w w')) (h4 : (∀ w, Calls Tryz.prog 47 #[.agg #[.int .u32 y0, .int .u32 y1, .int .i64 y2, .int .i64 y3, .bool y4, .string y5]] w fun e w' => e = .returned (.tuple #[.string p4, .bool false]) ∧ Below w.heap.size w w'))
    (e1 : ∀ W : World, (binOp .eql 64 (.agg #[.int .u32 s0, .int .u32 s1, .int .i64 s2, .int .i64 s3, .int .i64 s4, .int .i64 s5, .int .i64 s6, .int .i64 s7, .int .i64 s8]) (.agg #[.int .u32 t0, .int .u32 t1, .int .i64 t2, .int .i64 t3, .int .i64 t4, .int .i64 t5, .int .i64 t6, .int .i64 t7, .int .i64 t8])).run Tryz.prog W = .ok (.bool (p1.toList == p2.toList)) W) :
    Calls Tryz.prog 20 #[.agg #[.int .u32 s0, .int .u32 s1, .int .i64 s2, .int .i64 s3, .int .i64 s4, .int .i64 s5, .int .i64 s6, .int .i64 s7, .int .i64 s8], .agg #[.int .u32 t0, .int .u32 t1, .int .i64 t2, .int .i64 t3, .int .i64 t4, .int .i64 t5, .int .i64 t6, .int .i64 t7, .int .i64 t8], .agg #[.int .u32 x0, .int .u32 x1, .int .i64 x2, .int .i64 x3, .bool x4, .string x5], .agg #[.int .u32 y0, .int .u32 y1, .int .i64 y2, .int .i64 y3, .bool y4, .string y5]] w (Holds8 w) := by
  have HC0 := Lib.hid hC
  have H1 := Lib.hid h1
  have H2 := Lib.hid h2
  have H3 := Lib.hid h3
  have H4 := Lib.hid h4
  clear hC h1 h2 h3 h4
  have E1 := Lib.hid e1
  clear e1
  go_enter Tryz.func20, Tryz.ntmps20
  go_wp2_with (first
    | ((with_reducible refine wpList_boxS rfl 64 _ (.tmp 0) rfl rfl (run_boxS ⟨s0, s1, s2, s3, ⟨s4, s5, s6, s7, s8⟩⟩) ?_); intro w1 hb hlt hh; have HB1 := Lib.hid hb; have HC1 := Lib.hid (HC0.out.below hb); have A1 := Lib.hid (hh); clear hb hlt hh)
    | ((with_reducible refine wpList_boxS rfl 64 _ (.tmp 1) rfl rfl (run_boxS ⟨t0, t1, t2, t3, ⟨t4, t5, t6, t7, t8⟩⟩) ?_); intro w2 hb hlt hh; have HB2 := Lib.hid (bel_trans HB1.out hb); have A2 := Lib.hid (keep_at A1.out hb); have HC2 := Lib.hid (HC1.out.below hb); have B2 := Lib.hid (hh); clear hb hlt hh)
    | ((with_reducible refine wpList_boxS rfl 51 _ (.tmp 2) rfl rfl (run_boxX ⟨x0, x1, x2, x3, x4, x5⟩) ?_); intro w3 hb hlt hh; have HB3 := Lib.hid (bel_trans HB2.out hb); have A3 := Lib.hid (keep_at A2.out hb); have B3 := Lib.hid (keep_at B2.out hb); have HC3 := Lib.hid (HC2.out.below hb); have X3 := Lib.hid (hh); clear hb hlt hh)
    | ((with_reducible refine wpList_boxS rfl 51 _ (.tmp 3) rfl rfl (run_boxX ⟨y0, y1, y2, y3, y4, y5⟩) ?_); intro w4 hb hlt hh; have HB4 := Lib.hid (bel_trans HB3.out hb); have A4 := Lib.hid (keep_at A3.out hb); have B4 := Lib.hid (keep_at B3.out hb); have X4 := Lib.hid (keep_at X3.out hb); have HC4 := Lib.hid (HC3.out.below hb); have Y4 := Lib.hid (hh); clear hb hlt hh)
    | (with_reducible refine wpList_loadB rfl 64 (.tmp 4) rfl (w.heap.size) rfl 64 _ A5.out _ Tryz.underlying64 rfl (by kernel_rfl) ?_)
    | (with_reducible refine wpList_loadB rfl 64 (.tmp 5) rfl (w1.heap.size) rfl 64 _ B6.out _ Tryz.underlying64 rfl (by kernel_rfl) ?_)
    | (with_reducible refine wpList_loadB rfl 51 (.tmp 6) rfl (w2.heap.size) rfl 51 _ X7.out _ Tryz.underlying51 rfl (by kernel_rfl) ?_)
    | (with_reducible refine wpList_loadB rfl 51 (.tmp 7) rfl (w3.heap.size) rfl 51 _ Y8.out _ Tryz.underlying51 rfl (by kernel_rfl) ?_)
    | (with_reducible refine wpList_loadG (by kernel_rfl) 64 (.tmp 4) rfl (w.heap.size) rfl 64 #[.int .u32 s0, .int .u32 s1, .int .i64 s2, .int .i64 s3, .int .i64 s4, .int .i64 s5, .int .i64 s6, .int .i64 s7, .int .i64 s8] A9.out _ Tryz.underlying64 rfl (by kernel_rfl) ?_)
    | (with_reducible refine wpList_loadG (by kernel_rfl) 64 (.tmp 5) rfl (w1.heap.size) rfl 64 #[.int .u32 t0, .int .u32 t1, .int .i64 t2, .int .i64 t3, .int .i64 t4, .int .i64 t5, .int .i64 t6, .int .i64 t7, .int .i64 t8] B9.out _ Tryz.underlying64 rfl (by kernel_rfl) ?_)
    | (with_reducible refine wpList_eq (by kernel_rfl) 64 (.tmp 51) (.tmp 52) #[.int .u32 s0, .int .u32 s1, .int .i64 s2, .int .i64 s3, .int .i64 s4, .int .i64 s5, .int .i64 s6, .int .i64 s7, .int .i64 s8] #[.int .u32 t0, .int .u32 t1, .int .i64 t2, .int .i64 t3, .int .i64 t4, .int .i64 t5, .int .i64 t6, .int .i64 t7, .int .i64 t8] _ rfl rfl rfl (fun _ _ _ _ => guard_S _ _ _ _ _ _) E1.out ?_)
    | (go_at_call 21; ((with_reducible refine (begun8_any _ HC4.out).mono ?_); rintro e w5 ⟨rfl, hb⟩; have HB5 := Lib.hid (bel_trans HB4.out hb); have A5 := Lib.hid (keep_at A4.out hb); have B5 := Lib.hid (keep_at B4.out hb); have X5 := Lib.hid (keep_at X4.out hb); have Y5 := Lib.hid (keep_at Y4.out hb); have HC5 := Lib.hid (HC4.out.below hb); clear hb))
    | (go_at_call 54; first
      | ((with_reducible refine (H1.out _).mono ?_); rintro e w6 ⟨rfl, hb⟩; have HB6 := Lib.hid (bel_trans HB5.out hb); have A6 := Lib.hid (keep_at A5.out hb); have B6 := Lib.hid (keep_at B5.out hb); have X6 := Lib.hid (keep_at X5.out hb); have Y6 := Lib.hid (keep_at Y5.out hb); have HC6 := Lib.hid (HC5.out.below hb); clear hb)
      | ((with_reducible refine (H2.out _).mono ?_); rintro e w7 ⟨rfl, hb⟩; have HB7 := Lib.hid (bel_trans HB6.out hb); have A7 := Lib.hid (keep_at A6.out hb); have B7 := Lib.hid (keep_at B6.out hb); have X7 := Lib.hid (keep_at X6.out hb); have Y7 := Lib.hid (keep_at Y6.out hb); have HC7 := Lib.hid (HC6.out.below hb); clear hb))
    | (go_at_call 47; first
      | ((with_reducible refine (H3.out _).mono ?_); rintro e w8 ⟨rfl, hb⟩; have HB8 := Lib.hid (bel_trans HB7.out hb); have A8 := Lib.hid (keep_at A7.out hb); have B8 := Lib.hid (keep_at B7.out hb); have X8 := Lib.hid (keep_at X7.out hb); have Y8 := Lib.hid (keep_at Y7.out hb); have HC8 := Lib.hid (HC7.out.below hb); clear hb)
      | ((with_reducible refine (H4.out _).mono ?_); rintro e w9 ⟨rfl, hb⟩; have HB9 := Lib.hid (bel_trans HB8.out hb); have A9 := Lib.hid (keep_at A8.out hb); have B9 := Lib.hid (keep_at B8.out hb); have X9 := Lib.hid (keep_at X8.out hb); have Y9 := Lib.hid (keep_at Y8.out hb); have HC9 := Lib.hid (HC8.out.below hb); clear hb)))
  go_ret
  refine ⟨?_, HB9.out⟩
  simp
set_option maxRecDepth 100000 in
set_option maxHeartbeats 8000000 in
theorem SetupUnlike_22 (s0 s1 s2 s3 s4 s5 s6 s7 s8 t0 t1 t2 t3 t4 t5 t6 t7 t8 x0 x1 x2 x3 y0 y1 y2 y3 : Int) (x4 y4 : Bool) (x5 y5 p1 p2 p3 p4 : ByteArray)  (w : World) (hC : Codes w)
    (h1 : (∀ w, Calls Tryz.prog 54 #[.agg #[.int .u32 s0, .int .u32 s1, .int .i64 s2, .int .i64 s3, .int .i64 s4, .int .i64 s5, .int .i64 s6, .int .i64 s7, .int .i64 s8]] w fun e w' => e = .returned (.tuple #[.string p1, .bool true]) ∧ Below w.heap.size w w')) (h2 : (∀ w, Calls Tryz.prog 54 #[.agg #[.int .u32 t0, .int .u32 t1, .int .i64 t2, .int .i64 t3, .int .i64 t4, .int .i64 t5, .int .i64 t6, .int .i64 t7, .int .i64 t8]] w fun e w' => e = .returned (.tuple #[.string p2, .bool true]) ∧ Below w.heap.size w w'))
    (h3 : (∀ w, Calls Tryz.prog 47 #[.agg #[.int .u32 x0, .int .u32 x1, .int .i64 x2, .int .i64 x3, .bool x4, .string x5]] w fun e w' => e = .returned (.tuple #[.string p3, .bool true]) ∧ Below w.heap.size w w')) (h4 : (∀ w, Calls Tryz.prog 47 #[.agg #[.int .u32 y0, .int .u32 y1, .int .i64 y2, .int .i64 y3, .bool y4, .string y5]] w fun e w' => e = .returned (.tuple #[.string p4, .bool true]) ∧ Below w.heap.size w w'))
    (e1 : ∀ W : World, (binOp .eql 64 (.agg #[.int .u32 s0, .int .u32 s1, .int .i64 s2, .int .i64 s3, .int .i64 s4, .int .i64 s5, .int .i64 s6, .int .i64 s7, .int .i64 s8]) (.agg #[.int .u32 t0, .int .u32 t1, .int .i64 t2, .int .i64 t3, .int .i64 t4, .int .i64 t5, .int .i64 t6, .int .i64 t7, .int .i64 t8])).run Tryz.prog W = .ok (.bool (p1.toList == p2.toList)) W)
    (e2 : ∀ W : World, (binOp .eql 51 (.agg #[.int .u32 x0, .int .u32 x1, .int .i64 x2, .int .i64 x3, .bool x4, .string x5]) (.agg #[.int .u32 y0, .int .u32 y1, .int .i64 y2, .int .i64 y3, .bool y4, .string y5])).run Tryz.prog W = .ok (.bool (p3.toList == p4.toList)) W) :
    Calls Tryz.prog 20 #[.agg #[.int .u32 s0, .int .u32 s1, .int .i64 s2, .int .i64 s3, .int .i64 s4, .int .i64 s5, .int .i64 s6, .int .i64 s7, .int .i64 s8], .agg #[.int .u32 t0, .int .u32 t1, .int .i64 t2, .int .i64 t3, .int .i64 t4, .int .i64 t5, .int .i64 t6, .int .i64 t7, .int .i64 t8], .agg #[.int .u32 x0, .int .u32 x1, .int .i64 x2, .int .i64 x3, .bool x4, .string x5], .agg #[.int .u32 y0, .int .u32 y1, .int .i64 y2, .int .i64 y3, .bool y4, .string y5]] w (Holds8 w) := by
  have HC0 := Lib.hid hC
  have H1 := Lib.hid h1
  have H2 := Lib.hid h2
  have H3 := Lib.hid h3
  have H4 := Lib.hid h4
  clear hC h1 h2 h3 h4
  have E1 := Lib.hid e1
  clear e1
  have E2 := Lib.hid e2
  clear e2
  go_enter Tryz.func20, Tryz.ntmps20
  go_wp2_with (first
    | ((with_reducible refine wpList_boxS rfl 64 _ (.tmp 0) rfl rfl (run_boxS ⟨s0, s1, s2, s3, ⟨s4, s5, s6, s7, s8⟩⟩) ?_); intro w1 hb hlt hh; have HB1 := Lib.hid hb; have HC1 := Lib.hid (HC0.out.below hb); have A1 := Lib.hid (hh); clear hb hlt hh)
    | ((with_reducible refine wpList_boxS rfl 64 _ (.tmp 1) rfl rfl (run_boxS ⟨t0, t1, t2, t3, ⟨t4, t5, t6, t7, t8⟩⟩) ?_); intro w2 hb hlt hh; have HB2 := Lib.hid (bel_trans HB1.out hb); have A2 := Lib.hid (keep_at A1.out hb); have HC2 := Lib.hid (HC1.out.below hb); have B2 := Lib.hid (hh); clear hb hlt hh)
    | ((with_reducible refine wpList_boxS rfl 51 _ (.tmp 2) rfl rfl (run_boxX ⟨x0, x1, x2, x3, x4, x5⟩) ?_); intro w3 hb hlt hh; have HB3 := Lib.hid (bel_trans HB2.out hb); have A3 := Lib.hid (keep_at A2.out hb); have B3 := Lib.hid (keep_at B2.out hb); have HC3 := Lib.hid (HC2.out.below hb); have X3 := Lib.hid (hh); clear hb hlt hh)
    | ((with_reducible refine wpList_boxS rfl 51 _ (.tmp 3) rfl rfl (run_boxX ⟨y0, y1, y2, y3, y4, y5⟩) ?_); intro w4 hb hlt hh; have HB4 := Lib.hid (bel_trans HB3.out hb); have A4 := Lib.hid (keep_at A3.out hb); have B4 := Lib.hid (keep_at B3.out hb); have X4 := Lib.hid (keep_at X3.out hb); have HC4 := Lib.hid (HC3.out.below hb); have Y4 := Lib.hid (hh); clear hb hlt hh)
    | (with_reducible refine wpList_loadB rfl 64 (.tmp 4) rfl (w.heap.size) rfl 64 _ A5.out _ Tryz.underlying64 rfl (by kernel_rfl) ?_)
    | (with_reducible refine wpList_loadB rfl 64 (.tmp 5) rfl (w1.heap.size) rfl 64 _ B6.out _ Tryz.underlying64 rfl (by kernel_rfl) ?_)
    | (with_reducible refine wpList_loadB rfl 51 (.tmp 6) rfl (w2.heap.size) rfl 51 _ X7.out _ Tryz.underlying51 rfl (by kernel_rfl) ?_)
    | (with_reducible refine wpList_loadB rfl 51 (.tmp 7) rfl (w3.heap.size) rfl 51 _ Y8.out _ Tryz.underlying51 rfl (by kernel_rfl) ?_)
    | (with_reducible refine wpList_loadG (by kernel_rfl) 64 (.tmp 4) rfl (w.heap.size) rfl 64 #[.int .u32 s0, .int .u32 s1, .int .i64 s2, .int .i64 s3, .int .i64 s4, .int .i64 s5, .int .i64 s6, .int .i64 s7, .int .i64 s8] A9.out _ Tryz.underlying64 rfl (by kernel_rfl) ?_)
    | (with_reducible refine wpList_loadG (by kernel_rfl) 64 (.tmp 5) rfl (w1.heap.size) rfl 64 #[.int .u32 t0, .int .u32 t1, .int .i64 t2, .int .i64 t3, .int .i64 t4, .int .i64 t5, .int .i64 t6, .int .i64 t7, .int .i64 t8] B9.out _ Tryz.underlying64 rfl (by kernel_rfl) ?_)
    | (with_reducible refine wpList_eq (by kernel_rfl) 64 (.tmp 51) (.tmp 52) #[.int .u32 s0, .int .u32 s1, .int .i64 s2, .int .i64 s3, .int .i64 s4, .int .i64 s5, .int .i64 s6, .int .i64 s7, .int .i64 s8] #[.int .u32 t0, .int .u32 t1, .int .i64 t2, .int .i64 t3, .int .i64 t4, .int .i64 t5, .int .i64 t6, .int .i64 t7, .int .i64 t8] _ rfl rfl rfl (fun _ _ _ _ => guard_S _ _ _ _ _ _) E1.out ?_)
    | (with_reducible refine wpList_loadG (by kernel_rfl) 51 (.tmp 6) rfl (w2.heap.size) rfl 51 #[.int .u32 x0, .int .u32 x1, .int .i64 x2, .int .i64 x3, .bool x4, .string x5] X9.out _ Tryz.underlying51 rfl (by kernel_rfl) ?_)
    | (with_reducible refine wpList_loadG (by kernel_rfl) 51 (.tmp 7) rfl (w3.heap.size) rfl 51 #[.int .u32 y0, .int .u32 y1, .int .i64 y2, .int .i64 y3, .bool y4, .string y5] Y9.out _ Tryz.underlying51 rfl (by kernel_rfl) ?_)
    | (with_reducible refine wpList_eq (by kernel_rfl) 51 (.tmp 67) (.tmp 68) #[.int .u32 x0, .int .u32 x1, .int .i64 x2, .int .i64 x3, .bool x4, .string x5] #[.int .u32 y0, .int .u32 y1, .int .i64 y2, .int .i64 y3, .bool y4, .string y5] _ rfl rfl rfl (fun _ _ _ _ => guard_X _ _ _ _ _ _) E2.out ?_)
    | (go_at_call 21; ((with_reducible refine (begun8_any _ HC4.out).mono ?_); rintro e w5 ⟨rfl, hb⟩; have HB5 := Lib.hid (bel_trans HB4.out hb); have A5 := Lib.hid (keep_at A4.out hb); have B5 := Lib.hid (keep_at B4.out hb); have X5 := Lib.hid (keep_at X4.out hb); have Y5 := Lib.hid (keep_at Y4.out hb); have HC5 := Lib.hid (HC4.out.below hb); clear hb))
    | (go_at_call 54; first
      | ((with_reducible refine (H1.out _).mono ?_); rintro e w6 ⟨rfl, hb⟩; have HB6 := Lib.hid (bel_trans HB5.out hb); have A6 := Lib.hid (keep_at A5.out hb); have B6 := Lib.hid (keep_at B5.out hb); have X6 := Lib.hid (keep_at X5.out hb); have Y6 := Lib.hid (keep_at Y5.out hb); have HC6 := Lib.hid (HC5.out.below hb); clear hb)
      | ((with_reducible refine (H2.out _).mono ?_); rintro e w7 ⟨rfl, hb⟩; have HB7 := Lib.hid (bel_trans HB6.out hb); have A7 := Lib.hid (keep_at A6.out hb); have B7 := Lib.hid (keep_at B6.out hb); have X7 := Lib.hid (keep_at X6.out hb); have Y7 := Lib.hid (keep_at Y6.out hb); have HC7 := Lib.hid (HC6.out.below hb); clear hb))
    | (go_at_call 47; first
      | ((with_reducible refine (H3.out _).mono ?_); rintro e w8 ⟨rfl, hb⟩; have HB8 := Lib.hid (bel_trans HB7.out hb); have A8 := Lib.hid (keep_at A7.out hb); have B8 := Lib.hid (keep_at B7.out hb); have X8 := Lib.hid (keep_at X7.out hb); have Y8 := Lib.hid (keep_at Y7.out hb); have HC8 := Lib.hid (HC7.out.below hb); clear hb)
      | ((with_reducible refine (H4.out _).mono ?_); rintro e w9 ⟨rfl, hb⟩; have HB9 := Lib.hid (bel_trans HB8.out hb); have A9 := Lib.hid (keep_at A8.out hb); have B9 := Lib.hid (keep_at B8.out hb); have X9 := Lib.hid (keep_at X8.out hb); have Y9 := Lib.hid (keep_at Y8.out hb); have HC9 := Lib.hid (HC8.out.below hb); clear hb)))
  go_ret
  refine ⟨?_, HB9.out⟩
  simp
theorem SetupUnlike_law (s t : St) (x y : XIn) (w : World) (hs : s.ok) (ht : t.ok) (hx : x.ok) (hy : y.ok) (hC : Codes w) : Calls Tryz.prog 20 #[s.val, t.val, x.val, y.val] w (Holds8 w) := by
  have h1 := fun w => SPut_any s w hs
  have h2 := fun w => SPut_any t w ht
  have h3 := fun w => XPut_any x w hx
  have h4 := fun w => XPut_any y w hy
  unfold PutR at h1 h2 h3 h4
  cases e1 : putS s with
  | none =>
    rw [e1] at h1
    cases e3 : putX x.xd with
    | none =>
      rw [e3] at h3
      exact SetupUnlike_00 s.from_ s.to_ s.seat s.count s.o.baud s.o.silent s.o.win s.o.size s.o.wait t.from_ t.to_ t.seat t.count t.o.baud t.o.silent t.o.win t.o.size t.o.wait x.from_ x.to_ x.slot x.slots y.from_ y.to_ y.slot y.slots x.anew y.anew x.nick y.nick _ _ _ _ _ _ w hC h1 h2 h3 h4
    | some p3 =>
      rw [e3] at h3
      cases e4 : putX y.xd with
      | none =>
        rw [e4] at h4
        exact SetupUnlike_01 s.from_ s.to_ s.seat s.count s.o.baud s.o.silent s.o.win s.o.size s.o.wait t.from_ t.to_ t.seat t.count t.o.baud t.o.silent t.o.win t.o.size t.o.wait x.from_ x.to_ x.slot x.slots y.from_ y.to_ y.slot y.slots x.anew y.anew x.nick y.nick _ _ _ _ _ w hC h1 h2 h3 h4
      | some p4 =>
        rw [e4] at h4
        exact SetupUnlike_02 s.from_ s.to_ s.seat s.count s.o.baud s.o.silent s.o.win s.o.size s.o.wait t.from_ t.to_ t.seat t.count t.o.baud t.o.silent t.o.win t.o.size t.o.wait x.from_ x.to_ x.slot x.slots y.from_ y.to_ y.slot y.slots x.anew y.anew x.nick y.nick _ _ _ _ _ w hC h1 h2 h3 h4 (SU_eqX hx hy e3 e4)
  | some p1 =>
    rw [e1] at h1
    cases e2 : putS t with
    | none =>
      rw [e2] at h2
      cases e3 : putX x.xd with
      | none =>
        rw [e3] at h3
        exact SetupUnlike_10 s.from_ s.to_ s.seat s.count s.o.baud s.o.silent s.o.win s.o.size s.o.wait t.from_ t.to_ t.seat t.count t.o.baud t.o.silent t.o.win t.o.size t.o.wait x.from_ x.to_ x.slot x.slots y.from_ y.to_ y.slot y.slots x.anew y.anew x.nick y.nick _ _ _ _ _ w hC h1 h2 h3 h4
      | some p3 =>
        rw [e3] at h3
        cases e4 : putX y.xd with
        | none =>
          rw [e4] at h4
          exact SetupUnlike_11 s.from_ s.to_ s.seat s.count s.o.baud s.o.silent s.o.win s.o.size s.o.wait t.from_ t.to_ t.seat t.count t.o.baud t.o.silent t.o.win t.o.size t.o.wait x.from_ x.to_ x.slot x.slots y.from_ y.to_ y.slot y.slots x.anew y.anew x.nick y.nick _ _ _ _ w hC h1 h2 h3 h4
        | some p4 =>
          rw [e4] at h4
          exact SetupUnlike_12 s.from_ s.to_ s.seat s.count s.o.baud s.o.silent s.o.win s.o.size s.o.wait t.from_ t.to_ t.seat t.count t.o.baud t.o.silent t.o.win t.o.size t.o.wait x.from_ x.to_ x.slot x.slots y.from_ y.to_ y.slot y.slots x.anew y.anew x.nick y.nick _ _ _ _ w hC h1 h2 h3 h4 (SU_eqX hx hy e3 e4)
    | some p2 =>
      rw [e2] at h2
      cases e3 : putX x.xd with
      | none =>
        rw [e3] at h3
        exact SetupUnlike_20 s.from_ s.to_ s.seat s.count s.o.baud s.o.silent s.o.win s.o.size s.o.wait t.from_ t.to_ t.seat t.count t.o.baud t.o.silent t.o.win t.o.size t.o.wait x.from_ x.to_ x.slot x.slots y.from_ y.to_ y.slot y.slots x.anew y.anew x.nick y.nick _ _ _ _ _ w hC h1 h2 h3 h4 (SU_eqS hs ht e1 e2)
      | some p3 =>
        rw [e3] at h3
        cases e4 : putX y.xd with
        | none =>
          rw [e4] at h4
          exact SetupUnlike_21 s.from_ s.to_ s.seat s.count s.o.baud s.o.silent s.o.win s.o.size s.o.wait t.from_ t.to_ t.seat t.count t.o.baud t.o.silent t.o.win t.o.size t.o.wait x.from_ x.to_ x.slot x.slots y.from_ y.to_ y.slot y.slots x.anew y.anew x.nick y.nick _ _ _ _ w hC h1 h2 h3 h4 (SU_eqS hs ht e1 e2)
        | some p4 =>
          rw [e4] at h4
          exact SetupUnlike_22 s.from_ s.to_ s.seat s.count s.o.baud s.o.silent s.o.win s.o.size s.o.wait t.from_ t.to_ t.seat t.count t.o.baud t.o.silent t.o.win t.o.size t.o.wait x.from_ x.to_ x.slot x.slots y.from_ y.to_ y.slot y.slots x.anew y.anew x.nick y.nick _ _ _ _ w hC h1 h2 h3 h4 (SU_eqS hs ht e1 e2) (SU_eqX hx hy e3 e4)
end Go.Proofs.YtcmjdbljdkabpaaGreatDoor
