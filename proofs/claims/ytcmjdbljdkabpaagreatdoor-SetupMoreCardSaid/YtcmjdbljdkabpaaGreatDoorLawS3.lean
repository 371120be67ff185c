/- The law SetupAll. -/
import Derived.Test.YtcmjdbljdkabpaaGreatDoorQ8S
import Derived.Test.YtcmjdbljdkabpaaGreatDoorM8K
import Derived.Test.YtcmjdbljdkabpaaGreatDoorM8M
import Derived.Test.YtcmjdbljdkabpaaGreatDoorBegun8
import Derived.Test.YtcmjdbljdkabpaaGreatDoorM4H
import Derived.Test.YtcmjdbljdkabpaaGreatDoorM4D

set_option linter.all false

namespace Go.Proofs.YtcmjdbljdkabpaaGreatDoor
open Go.RowKit M

theorem eql_same_S (x : St) (w : World) : (binOp .eql 64 x.val x.val).run Tryz.prog w = .ok (.bool true) w := by
  have h := eql_St x x w
  rw [decide_eq_true rfl] at h
  exact h
theorem neq_same_S (x : St) (w : World) : (binOp .neq 64 x.val x.val).run Tryz.prog w = .ok (.bool false) w := neq_agg (eql_same_S x w)
theorem five_str {A B C D E : ByteArray} (hA : A.size ≤ 400) (hB : B.size ≤ 400) (hC : C.size ≤ 400) (hD : D.size ≤ 400) (hE : E.size ≤ 400) {k : Nat} (hk : k < 5) : ∃ T : ByteArray, (#[.string A, .string B, .string C, .string D, .string E] : Array Value)[k]? = some (.string T) ∧ T.size ≤ 1000 := by
  match k, hk with
  | 0, _ => exact ⟨A, rfl, by omega⟩
  | 1, _ => exact ⟨B, rfl, by omega⟩
  | 2, _ => exact ⟨C, rfl, by omega⟩
  | 3, _ => exact ⟨D, rfl, by omega⟩
  | 4, _ => exact ⟨E, rfl, by omega⟩
theorem putS_len {s : St} {l : List UInt8} (h : putS s = some l) : l.length = 25 := by
  unfold putS at h
  split at h
  · injection h with h
    rw [← h]
    rfl
  · cases h
set_option maxRecDepth 100000 in
set_option maxHeartbeats 16000000 in
theorem SetupAll_0 (s0 s1 s2 s3 s4 s5 s6 s7 s8 : Int) (t S A : ByteArray) (at_ : Int) (c : UInt8) (w : World) (hC : Codes w) (hA : A.size ≤ 200) (hS : S.size ≤ 200)
    (hA0 : A.size = 0)
    (hTX : ∀ w, Calls Tryz.prog 22 #[.string t, .int .i64 70] w fun e w' => e = .returned (.string S) ∧ w = w')
    (hP : ∀ w, Calls Tryz.prog 54 #[.agg #[.int .u32 s0, .int .u32 s1, .int .i64 s2, .int .i64 s3, .int .i64 s4, .int .i64 s5, .int .i64 s6, .int .i64 s7, .int .i64 s8]] w fun e w' => e = .returned (.tuple #[.string A, .bool false]) ∧ Below w.heap.size w w')
    (hRP : ∀ w, Calls Tryz.prog 55 #[.agg #[.int .u32 s0, .int .u32 s1, .int .i64 s2, .int .i64 s3, .int .i64 s4, .int .i64 s5, .int .i64 s6, .int .i64 s7, .int .i64 s8]] w fun e w' => e = .returned (.tuple #[.string A, .bool false]) ∧ Below w.heap.size w w')
    (hGA : ∀ w, Calls Tryz.prog 56 #[.string A] w fun e w' => e = .returned (.tuple #[.agg #[.int .u32 0, .int .u32 0, .int .i64 0, .int .i64 0, .int .i64 0, .int .i64 0, .int .i64 0, .int .i64 0, .int .i64 0], .bool false]) ∧ Below w.heap.size w w')
    (hG : ∀ T : ByteArray, T.size ≤ 1000 → ∃ (y0 y1 y2 y3 y4 y5 y6 y7 y8 : Int) (k : Bool), (∀ w, Calls Tryz.prog 56 #[.string T] w fun e w' => e = .returned (.tuple #[.agg #[.int .u32 y0, .int .u32 y1, .int .i64 y2, .int .i64 y3, .int .i64 y4, .int .i64 y5, .int .i64 y6, .int .i64 y7, .int .i64 y8], .bool k]) ∧ Below w.heap.size w w') ∧ (∀ w, Calls Tryz.prog 57 #[.string T] w fun e w' => e = .returned (.tuple #[.agg #[.int .u32 y0, .int .u32 y1, .int .i64 y2, .int .i64 y3, .int .i64 y4, .int .i64 y5, .int .i64 y6, .int .i64 y7, .int .i64 y8], .bool k]) ∧ Below w.heap.size w w')) :
    Calls Tryz.prog 8 #[.agg #[.int .u32 s0, .int .u32 s1, .int .i64 s2, .int .i64 s3, .int .i64 s4, .int .i64 s5, .int .i64 s6, .int .i64 s7, .int .i64 s8], .string t, .int .i64 at_, .int .u8 (c.toNat : Int)] w (Holds8 w) := by
  have HC0 := Lib.hid hC
  have HTX := Lib.hid hTX
  have HP := Lib.hid hP
  have HRP := Lib.hid hRP
  have HGA := Lib.hid hGA
  have HG := Lib.hid hG
  have HSE := Lib.hid (fun W => eql_same_S ⟨s0, s1, s2, s3, ⟨s4, s5, s6, s7, s8⟩⟩ W)
  have hz : ¬ 9223372036854775807 < A.size + S.size := by omega
  have mA5 : ((A.size : Int) == 0) = true := by rw [hA0]; rfl
  have mA4 : ¬ (0 : Int) < (A.size : Int) := by omega
  have mA6 : ¬ 0 < A.size := by omega
  obtain ⟨ka, hka⟩ : ∃ k : Nat, min A.size 12 = k := ⟨_, rfl⟩
  have mA : min (A.size : Int) 12 = (ka : Int) := by omega
  have mA2 : (0 : Int) ≤ (ka : Int) := by omega
  have mA3 : (ka : Int) ≤ (A.size : Int) := by omega
  have hE : (A.extract 0 ka).size ≤ 400 := by rw [ByteArray.size_extract]; omega
  have hF : (A ++ S).size ≤ 400 := by rw [ByteArray.size_append]; omega
  have hD : (A : ByteArray).size ≤ 200 := hA
  have HT5 := Lib.hid (fun kq => five_str (A := A) (B := S) (C := A) (D := A ++ S) (E := A.extract 0 ka) (by omega) (by omega) (Nat.le_trans hD (by decide)) hF hE (k := kq))
  clear hC hTX hP hRP hGA hG hka hE hF hD hA hS
  try clear hA0
  go_enter Tryz.func8, Tryz.ntmps8
  go_wp2_with (first
    | ((with_reducible refine wpList_boxS rfl 64 _ (.tmp 0) rfl rfl (run_boxS ⟨s0, s1, s2, s3, ⟨s4, s5, s6, s7, s8⟩⟩) ?_); intro w1 hb hlt hh; have HB1 := Lib.hid hb; have HC1 := Lib.hid (HC0.out.below hb); have X1 := Lib.hid (hh); clear hb hlt hh)
    | (with_reducible refine wpList_loadB rfl 64 (.tmp 4) rfl (w.heap.size) rfl 64 _ X2.out _ Tryz.underlying64 rfl (by kernel_rfl) ?_)
    | (with_reducible refine wpList_loadB rfl 64 (.tmp 4) rfl (w.heap.size) rfl 64 _ X3.out _ Tryz.underlying64 rfl (by kernel_rfl) ?_)
    | (go_at_call 21; ((with_reducible refine (begun8_any _ HC1.out).mono ?_); rintro e w2 ⟨rfl, hb⟩; have HB2 := Lib.hid (bel_trans HB1.out hb); have X2 := Lib.hid (keep_at X1.out hb); have HC2 := Lib.hid (HC1.out.below hb); clear hb))
    | (go_at_call 22; ((with_reducible refine (HTX.out _).mono ?_); rintro e w' ⟨rfl, hw'⟩; rw [← hw']; clear hw'))
    | (go_at_call 54; ((with_reducible refine (HP.out _).mono ?_); rintro e w3 ⟨rfl, hb⟩; have HB3 := Lib.hid (bel_trans HB2.out hb); have X3 := Lib.hid (keep_at X2.out hb); have HC3 := Lib.hid (HC2.out.below hb); clear hb))
    | (go_at_call 55; ((with_reducible refine (HRP.out _).mono ?_); rintro e w4 ⟨rfl, hb⟩; have HB4 := Lib.hid (bel_trans HB3.out hb); have X4 := Lib.hid (keep_at X3.out hb); have HC4 := Lib.hid (HC3.out.below hb); have HL4 := Lib.hid (lt_at X4.out); clear hb)))
  have hR0 : Below w.heap.size w (w4.alloc (.cells #[.string A, .string S, .string A, .string (A ++ S), .string (A.extract 0 ka)] 9)) ∧ (w4.alloc (.cells #[.string A, .string S, .string A, .string (A ++ S), .string (A.extract 0 ka)] 9)).heap[w4.heap.size]? = some (.cells #[.string A, .string S, .string A, .string (A ++ S), .string (A.extract 0 ka)] 9 (0, 0)) ∧ (w4.alloc (.cells #[.string A, .string S, .string A, .string (A ++ S), .string (A.extract 0 ka)] 9)).heap[w.heap.size]? = some (.cells #[.int .u32 s0, .int .u32 s1, .int .i64 s2, .int .i64 s3, .int .i64 s4, .int .i64 s5, .int .i64 s6, .int .i64 s7, .int .i64 s8] 64 (0, 0)) := ⟨bal HB4.out _, heap_alloc_new w4 _, keep_at X4.out (bal (bel0 w4) _)⟩
  have HR0 := Lib.hid hR0
  clear hR0
  go_loopw [8, 17, 18, 19, 20, 21, 79] (fun q8 _ _ _ _ _ i wr => q8 = .bool false ∧ ∃ kq : Nat, kq ≤ 5 ∧ i = .int .i64 kq ∧ Below w.heap.size w wr ∧ wr.heap[w4.heap.size]? = some (.cells #[.string A, .string S, .string A, .string (A ++ S), .string (A.extract 0 ka)] 9 (0, 0)) ∧ wr.heap[w.heap.size]? = some (.cells #[.int .u32 s0, .int .u32 s1, .int .i64 s2, .int .i64 s3, .int .i64 s4, .int .i64 s5, .int .i64 s6, .int .i64 s7, .int .i64 s8] 64 (0, 0))) (fun _ _ _ _ _ _ i _ => 5 - (intOf i).toNat)
  case atStart => exact ⟨rfl, 0, by omega, rfl, HR0.out⟩
  case round =>
    obtain ⟨rfl, kr, hkr, rfl, hb, hh, hx⟩ := hrel
    have HBr := Lib.hid hb
    have HGr := Lib.hid hh
    have HXr := Lib.hid hx
    clear hb hx
    by_cases hlt : kr < 5
    · have td : decide ((kr : Int) < 5) = true := decide_eq_true (by omega)
      obtain ⟨T, hT, hTs⟩ := HT5.out kr hlt
      have cT := cell_at hh kr _ hT
      obtain ⟨y0, y1, y2, y3, y4, y5, y6, y7, y8, kk, hg1, hg2⟩ := HG.out T hTs
      have HG1 := Lib.hid hg1
      have HG2 := Lib.hid hg2
      have HNE := Lib.hid (fun W => neq_same_S ⟨y0, y1, y2, y3, ⟨y4, y5, y6, y7, y8⟩⟩ W)
      clear hg1 hg2 hT hTs hh
      go_wp2_with (first
        | (with_reducible refine wpList_loadB rfl 64 (.tmp 18) rfl (w30.heap.size) rfl 64 _ P31.out _ Tryz.underlying64 rfl (by kernel_rfl) ?_)
        | (with_reducible refine wpList_loadB rfl 64 (.tmp 20) rfl (w31.heap.size) rfl 64 _ Q31.out _ Tryz.underlying64 rfl (by kernel_rfl) ?_)
        | (with_reducible refine wpList_ne (by kernel_rfl) 64 (.tmp 93) (.tmp 94) #[.int .u32 y0, .int .u32 y1, .int .i64 y2, .int .i64 y3, .int .i64 y4, .int .i64 y5, .int .i64 y6, .int .i64 y7, .int .i64 y8] #[.int .u32 y0, .int .u32 y1, .int .i64 y2, .int .i64 y3, .int .i64 y4, .int .i64 y5, .int .i64 y6, .int .i64 y7, .int .i64 y8] false rfl rfl rfl (fun _ _ _ _ => guard_S _ _ _ _ _ _) HNE.out ?_)
        | (go_at_call 56; ((with_reducible refine (HG1.out _).mono ?_); rintro e w30 ⟨rfl, hb⟩; have HB30 := Lib.hid (bal ((bel_trans HBr.out hb)) (.cells #[.int .u32 y0, .int .u32 y1, .int .i64 y2, .int .i64 y3, .int .i64 y4, .int .i64 y5, .int .i64 y6, .int .i64 y7, .int .i64 y8] 64)); have G30 := Lib.hid (keep_at (keep_at HGr.out hb) (bal (bel0 w30) (.cells #[.int .u32 y0, .int .u32 y1, .int .i64 y2, .int .i64 y3, .int .i64 y4, .int .i64 y5, .int .i64 y6, .int .i64 y7, .int .i64 y8] 64))); have X30 := Lib.hid (keep_at (keep_at HXr.out hb) (bal (bel0 w30) (.cells #[.int .u32 y0, .int .u32 y1, .int .i64 y2, .int .i64 y3, .int .i64 y4, .int .i64 y5, .int .i64 y6, .int .i64 y7, .int .i64 y8] 64))); have P30 := Lib.hid ((heap_alloc_new w30 (.cells #[.int .u32 y0, .int .u32 y1, .int .i64 y2, .int .i64 y3, .int .i64 y4, .int .i64 y5, .int .i64 y6, .int .i64 y7, .int .i64 y8] 64))); clear hb))
        | (go_at_call 57; ((with_reducible refine (HG2.out _).mono ?_); rintro e w31 ⟨rfl, hb⟩; have HB31 := Lib.hid (bal ((bel_trans HB30.out hb)) (.cells #[.int .u32 y0, .int .u32 y1, .int .i64 y2, .int .i64 y3, .int .i64 y4, .int .i64 y5, .int .i64 y6, .int .i64 y7, .int .i64 y8] 64)); have G31 := Lib.hid (keep_at (keep_at G30.out hb) (bal (bel0 w31) (.cells #[.int .u32 y0, .int .u32 y1, .int .i64 y2, .int .i64 y3, .int .i64 y4, .int .i64 y5, .int .i64 y6, .int .i64 y7, .int .i64 y8] 64))); have X31 := Lib.hid (keep_at (keep_at X30.out hb) (bal (bel0 w31) (.cells #[.int .u32 y0, .int .u32 y1, .int .i64 y2, .int .i64 y3, .int .i64 y4, .int .i64 y5, .int .i64 y6, .int .i64 y7, .int .i64 y8] 64))); have P31 := Lib.hid (keep_at (keep_at P30.out hb) (bal (bel0 w31) (.cells #[.int .u32 y0, .int .u32 y1, .int .i64 y2, .int .i64 y3, .int .i64 y4, .int .i64 y5, .int .i64 y6, .int .i64 y7, .int .i64 y8] 64))); have Q31 := Lib.hid ((heap_alloc_new w31 (.cells #[.int .u32 y0, .int .u32 y1, .int .i64 y2, .int .i64 y3, .int .i64 y4, .int .i64 y5, .int .i64 y6, .int .i64 y7, .int .i64 y8] 64))); clear hb)))
      go_roundw
      case rel => first | exact ⟨rfl, kr + 1, by omega, by go_num, HB31.out, G31.out, X31.out⟩ | exact ⟨_, _, _, _, _, _, _, _, _, _, _, _, _, _, _, _, _, _, _, _, ⟨rfl, kr + 1, by omega, by go_num, HB31.out, G31.out, X31.out⟩, rfl⟩ | exact ⟨_, _, _, _, _, _, _, _, _, _, _, _, _, _, _, _, _, _, _, _, _, ⟨rfl, kr + 1, by omega, by go_num, HB31.out, G31.out, X31.out⟩, rfl⟩ | exact ⟨_, _, _, _, _, _, _, _, _, _, _, _, _, _, _, _, _, _, _, _, _, _, ⟨rfl, kr + 1, by omega, by go_num, HB31.out, G31.out, X31.out⟩, rfl⟩ | exact ⟨_, _, _, _, _, _, _, _, _, _, _, _, _, _, _, _, _, _, _, _, _, _, _, ⟨rfl, kr + 1, by omega, by go_num, HB31.out, G31.out, X31.out⟩, rfl⟩ | exact ⟨_, _, _, _, _, _, _, _, _, _, _, _, _, _, _, _, _, _, _, _, _, _, _, _, ⟨rfl, kr + 1, by omega, by go_num, HB31.out, G31.out, X31.out⟩, rfl⟩ | exact ⟨_, _, _, _, _, _, _, _, _, _, _, _, _, _, _, _, _, _, _, _, _, _, _, _, _, ⟨rfl, kr + 1, by omega, by go_num, HB31.out, G31.out, X31.out⟩, rfl⟩ | exact ⟨_, _, _, _, _, _, _, _, _, _, _, _, _, _, _, _, _, _, _, _, _, _, _, _, _, _, ⟨rfl, kr + 1, by omega, by go_num, HB31.out, G31.out, X31.out⟩, rfl⟩ | exact ⟨_, _, _, _, _, _, _, _, _, _, _, _, _, _, _, _, _, _, _, _, _, _, _, _, _, _, _, ⟨rfl, kr + 1, by omega, by go_num, HB31.out, G31.out, X31.out⟩, rfl⟩ | exact ⟨_, _, _, _, _, _, _, _, _, _, _, _, _, _, _, _, _, _, _, _, _, _, _, _, _, _, _, _, ⟨rfl, kr + 1, by omega, by go_num, HB31.out, G31.out, X31.out⟩, rfl⟩ | exact ⟨_, _, _, _, _, _, _, _, _, _, _, _, _, _, _, _, _, _, _, _, _, _, _, _, _, _, _, _, _, ⟨rfl, kr + 1, by omega, by go_num, HB31.out, G31.out, X31.out⟩, rfl⟩ | exact ⟨_, _, _, _, _, _, _, _, _, _, _, _, _, _, _, _, _, _, _, _, _, _, _, _, _, _, _, _, _, _, ⟨rfl, kr + 1, by omega, by go_num, HB31.out, G31.out, X31.out⟩, rfl⟩ | exact ⟨_, _, _, _, _, _, _, _, _, _, _, _, _, _, _, _, _, _, _, _, _, _, _, _, _, _, _, _, _, _, _, ⟨rfl, kr + 1, by omega, by go_num, HB31.out, G31.out, X31.out⟩, rfl⟩ | exact ⟨_, _, _, _, _, _, _, _, _, _, _, _, _, _, _, _, _, _, _, _, _, _, _, _, _, _, _, _, _, _, _, _, ⟨rfl, kr + 1, by omega, by go_num, HB31.out, G31.out, X31.out⟩, rfl⟩ | exact ⟨_, _, _, _, _, _, _, _, _, _, _, _, _, _, _, _, _, _, _, _, _, _, _, _, _, _, _, _, _, _, _, _, _, ⟨rfl, kr + 1, by omega, by go_num, HB31.out, G31.out, X31.out⟩, rfl⟩ | exact ⟨_, _, _, _, _, _, _, _, _, _, _, _, _, _, _, _, _, _, _, _, _, _, _, _, _, _, _, _, _, _, _, _, _, _, ⟨rfl, kr + 1, by omega, by go_num, HB31.out, G31.out, X31.out⟩, rfl⟩ | exact ⟨_, _, _, _, _, _, _, _, _, _, _, _, _, _, _, _, _, _, _, _, _, _, _, _, _, _, _, _, _, _, _, _, _, _, _, ⟨rfl, kr + 1, by omega, by go_num, HB31.out, G31.out, X31.out⟩, rfl⟩
      case measure => simp [intOf] <;> omega
    · obtain rfl : kr = 5 := by omega
      clear hh
      go_wp2_with (first
        | (go_at_call 56; ((with_reducible refine (HGA.out _).mono ?_); rintro e w40 ⟨rfl, hb⟩; have HB40 := Lib.hid (bal ((bel_trans HBr.out hb)) (.cells #[.int .u32 0, .int .u32 0, .int .i64 0, .int .i64 0, .int .i64 0, .int .i64 0, .int .i64 0, .int .i64 0, .int .i64 0] 64)); have X40 := Lib.hid (keep_at (keep_at HXr.out hb) (bal (bel0 w40) (.cells #[.int .u32 0, .int .u32 0, .int .i64 0, .int .i64 0, .int .i64 0, .int .i64 0, .int .i64 0, .int .i64 0, .int .i64 0] 64))); have Y40 := Lib.hid ((heap_alloc_new w40 (.cells #[.int .u32 0, .int .u32 0, .int .i64 0, .int .i64 0, .int .i64 0, .int .i64 0, .int .i64 0, .int .i64 0, .int .i64 0] 64))); clear hb)))
      go_ret
      exact ⟨rfl, HB40.out⟩
set_option maxRecDepth 100000 in
set_option maxHeartbeats 16000000 in
theorem SetupAll_1 (s0 s1 s2 s3 s4 s5 s6 s7 s8 : Int) (t S A : ByteArray) (at_ : Int) (c : UInt8) (w : World) (hC : Codes w) (hA : A.size ≤ 200) (hS : S.size ≤ 200)
    (hA0 : 0 < A.size) (hat : at_ < 0)
    (hTX : ∀ w, Calls Tryz.prog 22 #[.string t, .int .i64 70] w fun e w' => e = .returned (.string S) ∧ w = w')
    (hP : ∀ w, Calls Tryz.prog 54 #[.agg #[.int .u32 s0, .int .u32 s1, .int .i64 s2, .int .i64 s3, .int .i64 s4, .int .i64 s5, .int .i64 s6, .int .i64 s7, .int .i64 s8]] w fun e w' => e = .returned (.tuple #[.string A, .bool true]) ∧ Below w.heap.size w w')
    (hRP : ∀ w, Calls Tryz.prog 55 #[.agg #[.int .u32 s0, .int .u32 s1, .int .i64 s2, .int .i64 s3, .int .i64 s4, .int .i64 s5, .int .i64 s6, .int .i64 s7, .int .i64 s8]] w fun e w' => e = .returned (.tuple #[.string A, .bool true]) ∧ Below w.heap.size w w')
    (hGA : ∀ w, Calls Tryz.prog 56 #[.string A] w fun e w' => e = .returned (.tuple #[.agg #[.int .u32 s0, .int .u32 s1, .int .i64 s2, .int .i64 s3, .int .i64 s4, .int .i64 s5, .int .i64 s6, .int .i64 s7, .int .i64 s8], .bool true]) ∧ Below w.heap.size w w')
    (hG : ∀ T : ByteArray, T.size ≤ 1000 → ∃ (y0 y1 y2 y3 y4 y5 y6 y7 y8 : Int) (k : Bool), (∀ w, Calls Tryz.prog 56 #[.string T] w fun e w' => e = .returned (.tuple #[.agg #[.int .u32 y0, .int .u32 y1, .int .i64 y2, .int .i64 y3, .int .i64 y4, .int .i64 y5, .int .i64 y6, .int .i64 y7, .int .i64 y8], .bool k]) ∧ Below w.heap.size w w') ∧ (∀ w, Calls Tryz.prog 57 #[.string T] w fun e w' => e = .returned (.tuple #[.agg #[.int .u32 y0, .int .u32 y1, .int .i64 y2, .int .i64 y3, .int .i64 y4, .int .i64 y5, .int .i64 y6, .int .i64 y7, .int .i64 y8], .bool k]) ∧ Below w.heap.size w w')) :
    Calls Tryz.prog 8 #[.agg #[.int .u32 s0, .int .u32 s1, .int .i64 s2, .int .i64 s3, .int .i64 s4, .int .i64 s5, .int .i64 s6, .int .i64 s7, .int .i64 s8], .string t, .int .i64 at_, .int .u8 (c.toNat : Int)] w (Holds8 w) := by
  have HC0 := Lib.hid hC
  have HTX := Lib.hid hTX
  have HP := Lib.hid hP
  have HRP := Lib.hid hRP
  have HGA := Lib.hid hGA
  have HG := Lib.hid hG
  have HSE := Lib.hid (fun W => eql_same_S ⟨s0, s1, s2, s3, ⟨s4, s5, s6, s7, s8⟩⟩ W)
  have hz : ¬ 9223372036854775807 < A.size + S.size := by omega
  have mA4 : (0 : Int) < (A.size : Int) := by omega
  have mA5 : ¬ 0 ≤ at_ := by omega
  obtain ⟨ka, hka⟩ : ∃ k : Nat, min A.size 12 = k := ⟨_, rfl⟩
  have mA : min (A.size : Int) 12 = (ka : Int) := by omega
  have mA2 : (0 : Int) ≤ (ka : Int) := by omega
  have mA3 : (ka : Int) ≤ (A.size : Int) := by omega
  have hE : (A.extract 0 ka).size ≤ 400 := by rw [ByteArray.size_extract]; omega
  have hF : (A ++ S).size ≤ 400 := by rw [ByteArray.size_append]; omega
  have hD : (A : ByteArray).size ≤ 200 := hA
  have HT5 := Lib.hid (fun kq => five_str (A := A) (B := S) (C := A) (D := A ++ S) (E := A.extract 0 ka) (by omega) (by omega) (Nat.le_trans hD (by decide)) hF hE (k := kq))
  clear hC hTX hP hRP hGA hG hka hE hF hD hA hS
  try clear hA0
  go_enter Tryz.func8, Tryz.ntmps8
  go_wp2_with (first
    | ((with_reducible refine wpList_boxS rfl 64 _ (.tmp 0) rfl rfl (run_boxS ⟨s0, s1, s2, s3, ⟨s4, s5, s6, s7, s8⟩⟩) ?_); intro w1 hb hlt hh; have HB1 := Lib.hid hb; have HC1 := Lib.hid (HC0.out.below hb); have X1 := Lib.hid (hh); clear hb hlt hh)
    | (with_reducible refine wpList_loadB rfl 64 (.tmp 4) rfl (w.heap.size) rfl 64 _ X2.out _ Tryz.underlying64 rfl (by kernel_rfl) ?_)
    | (with_reducible refine wpList_loadB rfl 64 (.tmp 4) rfl (w.heap.size) rfl 64 _ X3.out _ Tryz.underlying64 rfl (by kernel_rfl) ?_)
    | (go_at_call 21; ((with_reducible refine (begun8_any _ HC1.out).mono ?_); rintro e w2 ⟨rfl, hb⟩; have HB2 := Lib.hid (bel_trans HB1.out hb); have X2 := Lib.hid (keep_at X1.out hb); have HC2 := Lib.hid (HC1.out.below hb); clear hb))
    | (go_at_call 22; ((with_reducible refine (HTX.out _).mono ?_); rintro e w' ⟨rfl, hw'⟩; rw [← hw']; clear hw'))
    | (go_at_call 54; ((with_reducible refine (HP.out _).mono ?_); rintro e w3 ⟨rfl, hb⟩; have HB3 := Lib.hid (bel_trans HB2.out hb); have X3 := Lib.hid (keep_at X2.out hb); have HC3 := Lib.hid (HC2.out.below hb); clear hb))
    | (go_at_call 55; ((with_reducible refine (HRP.out _).mono ?_); rintro e w4 ⟨rfl, hb⟩; have HB4 := Lib.hid (bel_trans HB3.out hb); have X4 := Lib.hid (keep_at X3.out hb); have HC4 := Lib.hid (HC3.out.below hb); have HL4 := Lib.hid (lt_at X4.out); clear hb)))
  have hR0 : Below w.heap.size w (w4.alloc (.cells #[.string A, .string S, .string A, .string (A ++ S), .string (A.extract 0 ka)] 9)) ∧ (w4.alloc (.cells #[.string A, .string S, .string A, .string (A ++ S), .string (A.extract 0 ka)] 9)).heap[w4.heap.size]? = some (.cells #[.string A, .string S, .string A, .string (A ++ S), .string (A.extract 0 ka)] 9 (0, 0)) ∧ (w4.alloc (.cells #[.string A, .string S, .string A, .string (A ++ S), .string (A.extract 0 ka)] 9)).heap[w.heap.size]? = some (.cells #[.int .u32 s0, .int .u32 s1, .int .i64 s2, .int .i64 s3, .int .i64 s4, .int .i64 s5, .int .i64 s6, .int .i64 s7, .int .i64 s8] 64 (0, 0)) := ⟨bal HB4.out _, heap_alloc_new w4 _, keep_at X4.out (bal (bel0 w4) _)⟩
  have HR0 := Lib.hid hR0
  clear hR0
  go_loopw [8, 17, 18, 19, 20, 21, 79] (fun q8 _ _ _ _ _ i wr => q8 = .bool false ∧ ∃ kq : Nat, kq ≤ 5 ∧ i = .int .i64 kq ∧ Below w.heap.size w wr ∧ wr.heap[w4.heap.size]? = some (.cells #[.string A, .string S, .string A, .string (A ++ S), .string (A.extract 0 ka)] 9 (0, 0)) ∧ wr.heap[w.heap.size]? = some (.cells #[.int .u32 s0, .int .u32 s1, .int .i64 s2, .int .i64 s3, .int .i64 s4, .int .i64 s5, .int .i64 s6, .int .i64 s7, .int .i64 s8] 64 (0, 0))) (fun _ _ _ _ _ _ i _ => 5 - (intOf i).toNat)
  case atStart => exact ⟨rfl, 0, by omega, rfl, HR0.out⟩
  case round =>
    obtain ⟨rfl, kr, hkr, rfl, hb, hh, hx⟩ := hrel
    have HBr := Lib.hid hb
    have HGr := Lib.hid hh
    have HXr := Lib.hid hx
    clear hb hx
    by_cases hlt : kr < 5
    · have td : decide ((kr : Int) < 5) = true := decide_eq_true (by omega)
      obtain ⟨T, hT, hTs⟩ := HT5.out kr hlt
      have cT := cell_at hh kr _ hT
      obtain ⟨y0, y1, y2, y3, y4, y5, y6, y7, y8, kk, hg1, hg2⟩ := HG.out T hTs
      have HG1 := Lib.hid hg1
      have HG2 := Lib.hid hg2
      have HNE := Lib.hid (fun W => neq_same_S ⟨y0, y1, y2, y3, ⟨y4, y5, y6, y7, y8⟩⟩ W)
      clear hg1 hg2 hT hTs hh
      go_wp2_with (first
        | (with_reducible refine wpList_loadB rfl 64 (.tmp 18) rfl (w30.heap.size) rfl 64 _ P31.out _ Tryz.underlying64 rfl (by kernel_rfl) ?_)
        | (with_reducible refine wpList_loadB rfl 64 (.tmp 20) rfl (w31.heap.size) rfl 64 _ Q31.out _ Tryz.underlying64 rfl (by kernel_rfl) ?_)
        | (with_reducible refine wpList_ne (by kernel_rfl) 64 (.tmp 93) (.tmp 94) #[.int .u32 y0, .int .u32 y1, .int .i64 y2, .int .i64 y3, .int .i64 y4, .int .i64 y5, .int .i64 y6, .int .i64 y7, .int .i64 y8] #[.int .u32 y0, .int .u32 y1, .int .i64 y2, .int .i64 y3, .int .i64 y4, .int .i64 y5, .int .i64 y6, .int .i64 y7, .int .i64 y8] false rfl rfl rfl (fun _ _ _ _ => guard_S _ _ _ _ _ _) HNE.out ?_)
        | (go_at_call 56; ((with_reducible refine (HG1.out _).mono ?_); rintro e w30 ⟨rfl, hb⟩; have HB30 := Lib.hid (bal ((bel_trans HBr.out hb)) (.cells #[.int .u32 y0, .int .u32 y1, .int .i64 y2, .int .i64 y3, .int .i64 y4, .int .i64 y5, .int .i64 y6, .int .i64 y7, .int .i64 y8] 64)); have G30 := Lib.hid (keep_at (keep_at HGr.out hb) (bal (bel0 w30) (.cells #[.int .u32 y0, .int .u32 y1, .int .i64 y2, .int .i64 y3, .int .i64 y4, .int .i64 y5, .int .i64 y6, .int .i64 y7, .int .i64 y8] 64))); have X30 := Lib.hid (keep_at (keep_at HXr.out hb) (bal (bel0 w30) (.cells #[.int .u32 y0, .int .u32 y1, .int .i64 y2, .int .i64 y3, .int .i64 y4, .int .i64 y5, .int .i64 y6, .int .i64 y7, .int .i64 y8] 64))); have P30 := Lib.hid ((heap_alloc_new w30 (.cells #[.int .u32 y0, .int .u32 y1, .int .i64 y2, .int .i64 y3, .int .i64 y4, .int .i64 y5, .int .i64 y6, .int .i64 y7, .int .i64 y8] 64))); clear hb))
        | (go_at_call 57; ((with_reducible refine (HG2.out _).mono ?_); rintro e w31 ⟨rfl, hb⟩; have HB31 := Lib.hid (bal ((bel_trans HB30.out hb)) (.cells #[.int .u32 y0, .int .u32 y1, .int .i64 y2, .int .i64 y3, .int .i64 y4, .int .i64 y5, .int .i64 y6, .int .i64 y7, .int .i64 y8] 64)); have G31 := Lib.hid (keep_at (keep_at G30.out hb) (bal (bel0 w31) (.cells #[.int .u32 y0, .int .u32 y1, .int .i64 y2, .int .i64 y3, .int .i64 y4, .int .i64 y5, .int .i64 y6, .int .i64 y7, .int .i64 y8] 64))); have X31 := Lib.hid (keep_at (keep_at X30.out hb) (bal (bel0 w31) (.cells #[.int .u32 y0, .int .u32 y1, .int .i64 y2, .int .i64 y3, .int .i64 y4, .int .i64 y5, .int .i64 y6, .int .i64 y7, .int .i64 y8] 64))); have P31 := Lib.hid (keep_at (keep_at P30.out hb) (bal (bel0 w31) (.cells #[.int .u32 y0, .int .u32 y1, .int .i64 y2, .int .i64 y3, .int .i64 y4, .int .i64 y5, .int .i64 y6, .int .i64 y7, .int .i64 y8] 64))); have Q31 := Lib.hid ((heap_alloc_new w31 (.cells #[.int .u32 y0, .int .u32 y1, .int .i64 y2, .int .i64 y3, .int .i64 y4, .int .i64 y5, .int .i64 y6, .int .i64 y7, .int .i64 y8] 64))); clear hb)))
      go_roundw
      case rel => first | exact ⟨rfl, kr + 1, by omega, by go_num, HB31.out, G31.out, X31.out⟩ | exact ⟨_, _, _, _, _, _, _, _, _, _, _, _, _, _, _, _, _, _, _, _, ⟨rfl, kr + 1, by omega, by go_num, HB31.out, G31.out, X31.out⟩, rfl⟩ | exact ⟨_, _, _, _, _, _, _, _, _, _, _, _, _, _, _, _, _, _, _, _, _, ⟨rfl, kr + 1, by omega, by go_num, HB31.out, G31.out, X31.out⟩, rfl⟩ | exact ⟨_, _, _, _, _, _, _, _, _, _, _, _, _, _, _, _, _, _, _, _, _, _, ⟨rfl, kr + 1, by omega, by go_num, HB31.out, G31.out, X31.out⟩, rfl⟩ | exact ⟨_, _, _, _, _, _, _, _, _, _, _, _, _, _, _, _, _, _, _, _, _, _, _, ⟨rfl, kr + 1, by omega, by go_num, HB31.out, G31.out, X31.out⟩, rfl⟩ | exact ⟨_, _, _, _, _, _, _, _, _, _, _, _, _, _, _, _, _, _, _, _, _, _, _, _, ⟨rfl, kr + 1, by omega, by go_num, HB31.out, G31.out, X31.out⟩, rfl⟩ | exact ⟨_, _, _, _, _, _, _, _, _, _, _, _, _, _, _, _, _, _, _, _, _, _, _, _, _, ⟨rfl, kr + 1, by omega, by go_num, HB31.out, G31.out, X31.out⟩, rfl⟩ | exact ⟨_, _, _, _, _, _, _, _, _, _, _, _, _, _, _, _, _, _, _, _, _, _, _, _, _, _, ⟨rfl, kr + 1, by omega, by go_num, HB31.out, G31.out, X31.out⟩, rfl⟩ | exact ⟨_, _, _, _, _, _, _, _, _, _, _, _, _, _, _, _, _, _, _, _, _, _, _, _, _, _, _, ⟨rfl, kr + 1, by omega, by go_num, HB31.out, G31.out, X31.out⟩, rfl⟩ | exact ⟨_, _, _, _, _, _, _, _, _, _, _, _, _, _, _, _, _, _, _, _, _, _, _, _, _, _, _, _, ⟨rfl, kr + 1, by omega, by go_num, HB31.out, G31.out, X31.out⟩, rfl⟩ | exact ⟨_, _, _, _, _, _, _, _, _, _, _, _, _, _, _, _, _, _, _, _, _, _, _, _, _, _, _, _, _, ⟨rfl, kr + 1, by omega, by go_num, HB31.out, G31.out, X31.out⟩, rfl⟩ | exact ⟨_, _, _, _, _, _, _, _, _, _, _, _, _, _, _, _, _, _, _, _, _, _, _, _, _, _, _, _, _, _, ⟨rfl, kr + 1, by omega, by go_num, HB31.out, G31.out, X31.out⟩, rfl⟩ | exact ⟨_, _, _, _, _, _, _, _, _, _, _, _, _, _, _, _, _, _, _, _, _, _, _, _, _, _, _, _, _, _, _, ⟨rfl, kr + 1, by omega, by go_num, HB31.out, G31.out, X31.out⟩, rfl⟩ | exact ⟨_, _, _, _, _, _, _, _, _, _, _, _, _, _, _, _, _, _, _, _, _, _, _, _, _, _, _, _, _, _, _, _, ⟨rfl, kr + 1, by omega, by go_num, HB31.out, G31.out, X31.out⟩, rfl⟩ | exact ⟨_, _, _, _, _, _, _, _, _, _, _, _, _, _, _, _, _, _, _, _, _, _, _, _, _, _, _, _, _, _, _, _, _, ⟨rfl, kr + 1, by omega, by go_num, HB31.out, G31.out, X31.out⟩, rfl⟩ | exact ⟨_, _, _, _, _, _, _, _, _, _, _, _, _, _, _, _, _, _, _, _, _, _, _, _, _, _, _, _, _, _, _, _, _, _, ⟨rfl, kr + 1, by omega, by go_num, HB31.out, G31.out, X31.out⟩, rfl⟩ | exact ⟨_, _, _, _, _, _, _, _, _, _, _, _, _, _, _, _, _, _, _, _, _, _, _, _, _, _, _, _, _, _, _, _, _, _, _, ⟨rfl, kr + 1, by omega, by go_num, HB31.out, G31.out, X31.out⟩, rfl⟩
      case measure => simp [intOf] <;> omega
    · obtain rfl : kr = 5 := by omega
      clear hh
      go_wp2_with (first
        | (with_reducible refine wpList_loadG (by kernel_rfl) 64 (.tmp 22) rfl (w40.heap.size) rfl 64 #[.int .u32 s0, .int .u32 s1, .int .i64 s2, .int .i64 s3, .int .i64 s4, .int .i64 s5, .int .i64 s6, .int .i64 s7, .int .i64 s8] Y40.out _ Tryz.underlying64 rfl (by kernel_rfl) ?_)
        | (with_reducible refine wpList_loadG (by kernel_rfl) 64 (.tmp 4) rfl (w.heap.size) rfl 64 #[.int .u32 s0, .int .u32 s1, .int .i64 s2, .int .i64 s3, .int .i64 s4, .int .i64 s5, .int .i64 s6, .int .i64 s7, .int .i64 s8] X40.out _ Tryz.underlying64 rfl (by kernel_rfl) ?_)
        | (with_reducible refine wpList_eq (by kernel_rfl) 64 (.tmp 114) (.tmp 115) #[.int .u32 s0, .int .u32 s1, .int .i64 s2, .int .i64 s3, .int .i64 s4, .int .i64 s5, .int .i64 s6, .int .i64 s7, .int .i64 s8] #[.int .u32 s0, .int .u32 s1, .int .i64 s2, .int .i64 s3, .int .i64 s4, .int .i64 s5, .int .i64 s6, .int .i64 s7, .int .i64 s8] true rfl rfl rfl (fun _ _ _ _ => guard_S _ _ _ _ _ _) HSE.out ?_)
        | (go_at_call 56; ((with_reducible refine (HGA.out _).mono ?_); rintro e w40 ⟨rfl, hb⟩; have HB40 := Lib.hid (bal ((bel_trans HBr.out hb)) (.cells #[.int .u32 s0, .int .u32 s1, .int .i64 s2, .int .i64 s3, .int .i64 s4, .int .i64 s5, .int .i64 s6, .int .i64 s7, .int .i64 s8] 64)); have X40 := Lib.hid (keep_at (keep_at HXr.out hb) (bal (bel0 w40) (.cells #[.int .u32 s0, .int .u32 s1, .int .i64 s2, .int .i64 s3, .int .i64 s4, .int .i64 s5, .int .i64 s6, .int .i64 s7, .int .i64 s8] 64))); have Y40 := Lib.hid ((heap_alloc_new w40 (.cells #[.int .u32 s0, .int .u32 s1, .int .i64 s2, .int .i64 s3, .int .i64 s4, .int .i64 s5, .int .i64 s6, .int .i64 s7, .int .i64 s8] 64))); clear hb)))
      go_ret
      exact ⟨rfl, HB40.out⟩
set_option maxRecDepth 100000 in
set_option maxHeartbeats 16000000 in
theorem SetupAll_2 (s0 s1 s2 s3 s4 s5 s6 s7 s8 : Int) (t S A : ByteArray) (at_ : Int) (c : UInt8) (w : World) (hC : Codes w) (hA : A.size ≤ 200) (hS : S.size ≤ 200)
    (hA0 : 0 < A.size) (hat : 0 ≤ at_) (k : Nat) (hk : k < A.data.toList.length) (hm : at_.tmod (A.size : Int) = (k : Int))
    (hTX : ∀ w, Calls Tryz.prog 22 #[.string t, .int .i64 70] w fun e w' => e = .returned (.string S) ∧ w = w')
    (hP : ∀ w, Calls Tryz.prog 54 #[.agg #[.int .u32 s0, .int .u32 s1, .int .i64 s2, .int .i64 s3, .int .i64 s4, .int .i64 s5, .int .i64 s6, .int .i64 s7, .int .i64 s8]] w fun e w' => e = .returned (.tuple #[.string A, .bool true]) ∧ Below w.heap.size w w')
    (hRP : ∀ w, Calls Tryz.prog 55 #[.agg #[.int .u32 s0, .int .u32 s1, .int .i64 s2, .int .i64 s3, .int .i64 s4, .int .i64 s5, .int .i64 s6, .int .i64 s7, .int .i64 s8]] w fun e w' => e = .returned (.tuple #[.string A, .bool true]) ∧ Below w.heap.size w w')
    (hGA : ∀ w, Calls Tryz.prog 56 #[.string A] w fun e w' => e = .returned (.tuple #[.agg #[.int .u32 s0, .int .u32 s1, .int .i64 s2, .int .i64 s3, .int .i64 s4, .int .i64 s5, .int .i64 s6, .int .i64 s7, .int .i64 s8], .bool true]) ∧ Below w.heap.size w w')
    (hG : ∀ T : ByteArray, T.size ≤ 1000 → ∃ (y0 y1 y2 y3 y4 y5 y6 y7 y8 : Int) (k : Bool), (∀ w, Calls Tryz.prog 56 #[.string T] w fun e w' => e = .returned (.tuple #[.agg #[.int .u32 y0, .int .u32 y1, .int .i64 y2, .int .i64 y3, .int .i64 y4, .int .i64 y5, .int .i64 y6, .int .i64 y7, .int .i64 y8], .bool k]) ∧ Below w.heap.size w w') ∧ (∀ w, Calls Tryz.prog 57 #[.string T] w fun e w' => e = .returned (.tuple #[.agg #[.int .u32 y0, .int .u32 y1, .int .i64 y2, .int .i64 y3, .int .i64 y4, .int .i64 y5, .int .i64 y6, .int .i64 y7, .int .i64 y8], .bool k]) ∧ Below w.heap.size w w')) :
    Calls Tryz.prog 8 #[.agg #[.int .u32 s0, .int .u32 s1, .int .i64 s2, .int .i64 s3, .int .i64 s4, .int .i64 s5, .int .i64 s6, .int .i64 s7, .int .i64 s8], .string t, .int .i64 at_, .int .u8 (c.toNat : Int)] w (Holds8 w) := by
  have HC0 := Lib.hid hC
  have HTX := Lib.hid hTX
  have HP := Lib.hid hP
  have HRP := Lib.hid hRP
  have HGA := Lib.hid hGA
  have HG := Lib.hid hG
  have HSE := Lib.hid (fun W => eql_same_S ⟨s0, s1, s2, s3, ⟨s4, s5, s6, s7, s8⟩⟩ W)
  have hz : ¬ 9223372036854775807 < A.size + S.size := by omega
  have mA4 : (0 : Int) < (A.size : Int) := by omega
  have hpl : A.data.toList.length = A.size := by rw [Array.length_toList]; rfl
  have HK := Lib.hid hk
  have HAZ : Hid (A.size ≤ maxLen) := by show _ ≤ _; unfold maxLen; omega
  have HN : Hid (A.size = (A.data.toList.set k c).length) := by show A.size = _; rw [List.length_set]; exact hpl.symm
  have q0 : ¬ (A.size : Int) = 0 := by omega
  have q1 : ¬ A.size = 0 := by omega
  have q2_ : k < A.size := by omega
  have q3 : (0 : Int) ≤ (k : Int) := by omega
  have q4 : (k : Int) < (A.size : Int) := by omega
  have v4 : IntKind.i64.wrap (k : Int) = (k : Int) := IntWalk.i64_in _ (by omega)
  obtain ⟨ka, hka⟩ : ∃ k : Nat, min A.size 12 = k := ⟨_, rfl⟩
  have mA : min (A.size : Int) 12 = (ka : Int) := by omega
  have mA2 : (0 : Int) ≤ (ka : Int) := by omega
  have mA3 : (ka : Int) ≤ (A.size : Int) := by omega
  have hE : (A.extract 0 ka).size ≤ 400 := by rw [ByteArray.size_extract]; omega
  have hF : (A ++ S).size ≤ 400 := by rw [ByteArray.size_append]; omega
  have hD : (⟨(A.data.toList.set k c).toArray⟩ : ByteArray).size ≤ 200 := (by show ((A.data.toList.set k c).toArray).size ≤ 200; rw [List.size_toArray, List.length_set]; rw [Array.length_toList]; exact hA)
  have HT5 := Lib.hid (fun kq => five_str (A := A) (B := S) (C := ⟨(A.data.toList.set k c).toArray⟩) (D := A ++ S) (E := A.extract 0 ka) (by omega) (by omega) (Nat.le_trans hD (by decide)) hF hE (k := kq))
  clear hC hTX hP hRP hGA hG hka hE hF hD hA hS
  try clear hA0
  go_enter Tryz.func8, Tryz.ntmps8
  go_wp2_with (first
    | ((with_reducible refine wpList_boxS rfl 64 _ (.tmp 0) rfl rfl (run_boxS ⟨s0, s1, s2, s3, ⟨s4, s5, s6, s7, s8⟩⟩) ?_); intro w1 hb hlt hh; have HB1 := Lib.hid hb; have HC1 := Lib.hid (HC0.out.below hb); have X1 := Lib.hid (hh); clear hb hlt hh)
    | (with_reducible refine wpList_loadB rfl 64 (.tmp 4) rfl (w.heap.size) rfl 64 _ X2.out _ Tryz.underlying64 rfl (by kernel_rfl) ?_)
    | (with_reducible refine wpList_loadB rfl 64 (.tmp 4) rfl (w.heap.size) rfl 64 _ X3.out _ Tryz.underlying64 rfl (by kernel_rfl) ?_)
    | ((with_reducible refine wpList_ofStr rfl (.tmp 55) rfl (A) rfl HAZ.out ?_); intro w5 cap5 hb hs; have HB5 := Lib.hid (bel_trans HB4.out hb); have X5 := Lib.hid (keep_at X4.out hb); have HC5 := Lib.hid (HC4.out.below hb); have BS5 := Lib.hid hs; clear hb hs)
    | ((with_reducible refine wpList_setB rfl (.tmp 63) (.tmp 62) rfl (w4.heap.size) k cap5 c (A.data.toList) rfl rfl BS5.out HK.out ?_); intro w6 hg hs; have HB6 := Lib.hid (bel_grown HB5.out hg (HB4.out.size)); have X6 := Lib.hid (keep_grown X5.out hg (Nat.ne_of_lt HL4.out)); have BS6 := Lib.hid hs; clear hg hs)
    | (with_reducible refine wpList_strB rfl (.tmp 64) rfl (.slice (some ⟨w4.heap.size, 0, none⟩) A.size cap5) (A.data.toList.set k c) rfl (BS6.out.rds HN.out) ?_)
    | (go_at_call 21; ((with_reducible refine (begun8_any _ HC1.out).mono ?_); rintro e w2 ⟨rfl, hb⟩; have HB2 := Lib.hid (bel_trans HB1.out hb); have X2 := Lib.hid (keep_at X1.out hb); have HC2 := Lib.hid (HC1.out.below hb); clear hb))
    | (go_at_call 22; ((with_reducible refine (HTX.out _).mono ?_); rintro e w' ⟨rfl, hw'⟩; rw [← hw']; clear hw'))
    | (go_at_call 54; ((with_reducible refine (HP.out _).mono ?_); rintro e w3 ⟨rfl, hb⟩; have HB3 := Lib.hid (bel_trans HB2.out hb); have X3 := Lib.hid (keep_at X2.out hb); have HC3 := Lib.hid (HC2.out.below hb); clear hb))
    | (go_at_call 55; ((with_reducible refine (HRP.out _).mono ?_); rintro e w4 ⟨rfl, hb⟩; have HB4 := Lib.hid (bel_trans HB3.out hb); have X4 := Lib.hid (keep_at X3.out hb); have HC4 := Lib.hid (HC3.out.below hb); have HL4 := Lib.hid (lt_at X4.out); clear hb)))
  have hR0 : Below w.heap.size w (w6.alloc (.cells #[.string A, .string S, .string ⟨(A.data.toList.set k c).toArray⟩, .string (A ++ S), .string (A.extract 0 ka)] 9)) ∧ (w6.alloc (.cells #[.string A, .string S, .string ⟨(A.data.toList.set k c).toArray⟩, .string (A ++ S), .string (A.extract 0 ka)] 9)).heap[w6.heap.size]? = some (.cells #[.string A, .string S, .string ⟨(A.data.toList.set k c).toArray⟩, .string (A ++ S), .string (A.extract 0 ka)] 9 (0, 0)) ∧ (w6.alloc (.cells #[.string A, .string S, .string ⟨(A.data.toList.set k c).toArray⟩, .string (A ++ S), .string (A.extract 0 ka)] 9)).heap[w.heap.size]? = some (.cells #[.int .u32 s0, .int .u32 s1, .int .i64 s2, .int .i64 s3, .int .i64 s4, .int .i64 s5, .int .i64 s6, .int .i64 s7, .int .i64 s8] 64 (0, 0)) := ⟨bal HB6.out _, heap_alloc_new w6 _, keep_at X6.out (bal (bel0 w6) _)⟩
  have HR0 := Lib.hid hR0
  clear hR0
  go_loopw [8, 17, 18, 19, 20, 21, 79] (fun q8 _ _ _ _ _ i wr => q8 = .bool false ∧ ∃ kq : Nat, kq ≤ 5 ∧ i = .int .i64 kq ∧ Below w.heap.size w wr ∧ wr.heap[w6.heap.size]? = some (.cells #[.string A, .string S, .string ⟨(A.data.toList.set k c).toArray⟩, .string (A ++ S), .string (A.extract 0 ka)] 9 (0, 0)) ∧ wr.heap[w.heap.size]? = some (.cells #[.int .u32 s0, .int .u32 s1, .int .i64 s2, .int .i64 s3, .int .i64 s4, .int .i64 s5, .int .i64 s6, .int .i64 s7, .int .i64 s8] 64 (0, 0))) (fun _ _ _ _ _ _ i _ => 5 - (intOf i).toNat)
  case atStart => exact ⟨rfl, 0, by omega, rfl, HR0.out⟩
  case round =>
    obtain ⟨rfl, kr, hkr, rfl, hb, hh, hx⟩ := hrel
    have HBr := Lib.hid hb
    have HGr := Lib.hid hh
    have HXr := Lib.hid hx
    clear hb hx
    by_cases hlt : kr < 5
    · have td : decide ((kr : Int) < 5) = true := decide_eq_true (by omega)
      obtain ⟨T, hT, hTs⟩ := HT5.out kr hlt
      have cT := cell_at hh kr _ hT
      obtain ⟨y0, y1, y2, y3, y4, y5, y6, y7, y8, kk, hg1, hg2⟩ := HG.out T hTs
      have HG1 := Lib.hid hg1
      have HG2 := Lib.hid hg2
      have HNE := Lib.hid (fun W => neq_same_S ⟨y0, y1, y2, y3, ⟨y4, y5, y6, y7, y8⟩⟩ W)
      clear hg1 hg2 hT hTs hh
      go_wp2_with (first
        | (with_reducible refine wpList_loadB rfl 64 (.tmp 18) rfl (w30.heap.size) rfl 64 _ P31.out _ Tryz.underlying64 rfl (by kernel_rfl) ?_)
        | (with_reducible refine wpList_loadB rfl 64 (.tmp 20) rfl (w31.heap.size) rfl 64 _ Q31.out _ Tryz.underlying64 rfl (by kernel_rfl) ?_)
        | (with_reducible refine wpList_ne (by kernel_rfl) 64 (.tmp 93) (.tmp 94) #[.int .u32 y0, .int .u32 y1, .int .i64 y2, .int .i64 y3, .int .i64 y4, .int .i64 y5, .int .i64 y6, .int .i64 y7, .int .i64 y8] #[.int .u32 y0, .int .u32 y1, .int .i64 y2, .int .i64 y3, .int .i64 y4, .int .i64 y5, .int .i64 y6, .int .i64 y7, .int .i64 y8] false rfl rfl rfl (fun _ _ _ _ => guard_S _ _ _ _ _ _) HNE.out ?_)
        | (go_at_call 56; ((with_reducible refine (HG1.out _).mono ?_); rintro e w30 ⟨rfl, hb⟩; have HB30 := Lib.hid (bal ((bel_trans HBr.out hb)) (.cells #[.int .u32 y0, .int .u32 y1, .int .i64 y2, .int .i64 y3, .int .i64 y4, .int .i64 y5, .int .i64 y6, .int .i64 y7, .int .i64 y8] 64)); have G30 := Lib.hid (keep_at (keep_at HGr.out hb) (bal (bel0 w30) (.cells #[.int .u32 y0, .int .u32 y1, .int .i64 y2, .int .i64 y3, .int .i64 y4, .int .i64 y5, .int .i64 y6, .int .i64 y7, .int .i64 y8] 64))); have X30 := Lib.hid (keep_at (keep_at HXr.out hb) (bal (bel0 w30) (.cells #[.int .u32 y0, .int .u32 y1, .int .i64 y2, .int .i64 y3, .int .i64 y4, .int .i64 y5, .int .i64 y6, .int .i64 y7, .int .i64 y8] 64))); have P30 := Lib.hid ((heap_alloc_new w30 (.cells #[.int .u32 y0, .int .u32 y1, .int .i64 y2, .int .i64 y3, .int .i64 y4, .int .i64 y5, .int .i64 y6, .int .i64 y7, .int .i64 y8] 64))); clear hb))
        | (go_at_call 57; ((with_reducible refine (HG2.out _).mono ?_); rintro e w31 ⟨rfl, hb⟩; have HB31 := Lib.hid (bal ((bel_trans HB30.out hb)) (.cells #[.int .u32 y0, .int .u32 y1, .int .i64 y2, .int .i64 y3, .int .i64 y4, .int .i64 y5, .int .i64 y6, .int .i64 y7, .int .i64 y8] 64)); have G31 := Lib.hid (keep_at (keep_at G30.out hb) (bal (bel0 w31) (.cells #[.int .u32 y0, .int .u32 y1, .int .i64 y2, .int .i64 y3, .int .i64 y4, .int .i64 y5, .int .i64 y6, .int .i64 y7, .int .i64 y8] 64))); have X31 := Lib.hid (keep_at (keep_at X30.out hb) (bal (bel0 w31) (.cells #[.int .u32 y0, .int .u32 y1, .int .i64 y2, .int .i64 y3, .int .i64 y4, .int .i64 y5, .int .i64 y6, .int .i64 y7, .int .i64 y8] 64))); have P31 := Lib.hid (keep_at (keep_at P30.out hb) (bal (bel0 w31) (.cells #[.int .u32 y0, .int .u32 y1, .int .i64 y2, .int .i64 y3, .int .i64 y4, .int .i64 y5, .int .i64 y6, .int .i64 y7, .int .i64 y8] 64))); have Q31 := Lib.hid ((heap_alloc_new w31 (.cells #[.int .u32 y0, .int .u32 y1, .int .i64 y2, .int .i64 y3, .int .i64 y4, .int .i64 y5, .int .i64 y6, .int .i64 y7, .int .i64 y8] 64))); clear hb)))
      go_roundw
      case rel => first | exact ⟨rfl, kr + 1, by omega, by go_num, HB31.out, G31.out, X31.out⟩ | exact ⟨_, _, _, _, _, _, _, _, _, _, _, _, _, _, _, _, _, _, _, _, ⟨rfl, kr + 1, by omega, by go_num, HB31.out, G31.out, X31.out⟩, rfl⟩ | exact ⟨_, _, _, _, _, _, _, _, _, _, _, _, _, _, _, _, _, _, _, _, _, ⟨rfl, kr + 1, by omega, by go_num, HB31.out, G31.out, X31.out⟩, rfl⟩ | exact ⟨_, _, _, _, _, _, _, _, _, _, _, _, _, _, _, _, _, _, _, _, _, _, ⟨rfl, kr + 1, by omega, by go_num, HB31.out, G31.out, X31.out⟩, rfl⟩ | exact ⟨_, _, _, _, _, _, _, _, _, _, _, _, _, _, _, _, _, _, _, _, _, _, _, ⟨rfl, kr + 1, by omega, by go_num, HB31.out, G31.out, X31.out⟩, rfl⟩ | exact ⟨_, _, _, _, _, _, _, _, _, _, _, _, _, _, _, _, _, _, _, _, _, _, _, _, ⟨rfl, kr + 1, by omega, by go_num, HB31.out, G31.out, X31.out⟩, rfl⟩ | exact ⟨_, _, _, _, _, _, _, _, _, _, _, _, _, _, _, _, _, _, _, _, _, _, _, _, _, ⟨rfl, kr + 1, by omega, by go_num, HB31.out, G31.out, X31.out⟩, rfl⟩ | exact ⟨_, _, _, _, _, _, _, _, _, _, _, _, _, _, _, _, _, _, _, _, _, _, _, _, _, _, ⟨rfl, kr + 1, by omega, by go_num, HB31.out, G31.out, X31.out⟩, rfl⟩ | exact ⟨_, _, _, _, _, _, _, _, _, _, _, _, _, _, _, _, _, _, _, _, _, _, _, _, _, _, _, ⟨rfl, kr + 1, by omega, by go_num, HB31.out, G31.out, X31.out⟩, rfl⟩ | exact ⟨_, _, _, _, _, _, _, _, _, _, _, _, _, _, _, _, _, _, _, _, _, _, _, _, _, _, _, _, ⟨rfl, kr + 1, by omega, by go_num, HB31.out, G31.out, X31.out⟩, rfl⟩ | exact ⟨_, _, _, _, _, _, _, _, _, _, _, _, _, _, _, _, _, _, _, _, _, _, _, _, _, _, _, _, _, ⟨rfl, kr + 1, by omega, by go_num, HB31.out, G31.out, X31.out⟩, rfl⟩ | exact ⟨_, _, _, _, _, _, _, _, _, _, _, _, _, _, _, _, _, _, _, _, _, _, _, _, _, _, _, _, _, _, ⟨rfl, kr + 1, by omega, by go_num, HB31.out, G31.out, X31.out⟩, rfl⟩ | exact ⟨_, _, _, _, _, _, _, _, _, _, _, _, _, _, _, _, _, _, _, _, _, _, _, _, _, _, _, _, _, _, _, ⟨rfl, kr + 1, by omega, by go_num, HB31.out, G31.out, X31.out⟩, rfl⟩ | exact ⟨_, _, _, _, _, _, _, _, _, _, _, _, _, _, _, _, _, _, _, _, _, _, _, _, _, _, _, _, _, _, _, _, ⟨rfl, kr + 1, by omega, by go_num, HB31.out, G31.out, X31.out⟩, rfl⟩ | exact ⟨_, _, _, _, _, _, _, _, _, _, _, _, _, _, _, _, _, _, _, _, _, _, _, _, _, _, _, _, _, _, _, _, _, ⟨rfl, kr + 1, by omega, by go_num, HB31.out, G31.out, X31.out⟩, rfl⟩ | exact ⟨_, _, _, _, _, _, _, _, _, _, _, _, _, _, _, _, _, _, _, _, _, _, _, _, _, _, _, _, _, _, _, _, _, _, ⟨rfl, kr + 1, by omega, by go_num, HB31.out, G31.out, X31.out⟩, rfl⟩ | exact ⟨_, _, _, _, _, _, _, _, _, _, _, _, _, _, _, _, _, _, _, _, _, _, _, _, _, _, _, _, _, _, _, _, _, _, _, ⟨rfl, kr + 1, by omega, by go_num, HB31.out, G31.out, X31.out⟩, rfl⟩
      case measure => simp [intOf] <;> omega
    · obtain rfl : kr = 5 := by omega
      clear hh
      go_wp2_with (first
        | (with_reducible refine wpList_loadG (by kernel_rfl) 64 (.tmp 22) rfl (w40.heap.size) rfl 64 #[.int .u32 s0, .int .u32 s1, .int .i64 s2, .int .i64 s3, .int .i64 s4, .int .i64 s5, .int .i64 s6, .int .i64 s7, .int .i64 s8] Y40.out _ Tryz.underlying64 rfl (by kernel_rfl) ?_)
        | (with_reducible refine wpList_loadG (by kernel_rfl) 64 (.tmp 4) rfl (w.heap.size) rfl 64 #[.int .u32 s0, .int .u32 s1, .int .i64 s2, .int .i64 s3, .int .i64 s4, .int .i64 s5, .int .i64 s6, .int .i64 s7, .int .i64 s8] X40.out _ Tryz.underlying64 rfl (by kernel_rfl) ?_)
        | (with_reducible refine wpList_eq (by kernel_rfl) 64 (.tmp 114) (.tmp 115) #[.int .u32 s0, .int .u32 s1, .int .i64 s2, .int .i64 s3, .int .i64 s4, .int .i64 s5, .int .i64 s6, .int .i64 s7, .int .i64 s8] #[.int .u32 s0, .int .u32 s1, .int .i64 s2, .int .i64 s3, .int .i64 s4, .int .i64 s5, .int .i64 s6, .int .i64 s7, .int .i64 s8] true rfl rfl rfl (fun _ _ _ _ => guard_S _ _ _ _ _ _) HSE.out ?_)
        | (go_at_call 56; ((with_reducible refine (HGA.out _).mono ?_); rintro e w40 ⟨rfl, hb⟩; have HB40 := Lib.hid (bal ((bel_trans HBr.out hb)) (.cells #[.int .u32 s0, .int .u32 s1, .int .i64 s2, .int .i64 s3, .int .i64 s4, .int .i64 s5, .int .i64 s6, .int .i64 s7, .int .i64 s8] 64)); have X40 := Lib.hid (keep_at (keep_at HXr.out hb) (bal (bel0 w40) (.cells #[.int .u32 s0, .int .u32 s1, .int .i64 s2, .int .i64 s3, .int .i64 s4, .int .i64 s5, .int .i64 s6, .int .i64 s7, .int .i64 s8] 64))); have Y40 := Lib.hid ((heap_alloc_new w40 (.cells #[.int .u32 s0, .int .u32 s1, .int .i64 s2, .int .i64 s3, .int .i64 s4, .int .i64 s5, .int .i64 s6, .int .i64 s7, .int .i64 s8] 64))); clear hb)))
      go_ret
      exact ⟨rfl, HB40.out⟩
theorem SetupAll_law (s : St) (t : ByteArray) (at_ b : Int) (w : World) (hs : s.ok) (ht : t.size ≤ maxLen) (hat : (Lit.int .i64 at_).wf = true) (hb : (Lit.int .u8 b).wf = true) (hC : Codes w) : Calls Tryz.prog 8 #[s.val, .string t, .int .i64 at_, .int .u8 b] w (Holds8 w) := by
  obtain ⟨c, rfl⟩ : ∃ c : UInt8, b = (c.toNat : Int) := by
    have := bounds_u8 hb
    exact ⟨UInt8.ofNat b.toNat, by rw [UInt8.toNat_ofNat']; omega⟩
  have hu := St.u hs
  have htx := fun w => Text_any t 70 w ht (by decide)
  obtain ⟨S, hS⟩ : ∃ S, S = t.extract 0 (min t.size 70) := ⟨_, rfl⟩
  have hSs : S.size ≤ 70 := by rw [hS, ByteArray.size_extract]; omega
  rw [← hS] at htx
  have hp1 := fun w => SPut_any s w hs
  have hp2 := fun w => RPutS_any s w hu.1 hu.2
  unfold PutR at hp1 hp2
  have hG : ∀ T : ByteArray, T.size ≤ 1000 → ∃ (y0 y1 y2 y3 y4 y5 y6 y7 y8 : Int) (k : Bool), (∀ w, Calls Tryz.prog 56 #[.string T] w fun e w' => e = .returned (.tuple #[.agg #[.int .u32 y0, .int .u32 y1, .int .i64 y2, .int .i64 y3, .int .i64 y4, .int .i64 y5, .int .i64 y6, .int .i64 y7, .int .i64 y8], .bool k]) ∧ Below w.heap.size w w') ∧ (∀ w, Calls Tryz.prog 57 #[.string T] w fun e w' => e = .returned (.tuple #[.agg #[.int .u32 y0, .int .u32 y1, .int .i64 y2, .int .i64 y3, .int .i64 y4, .int .i64 y5, .int .i64 y6, .int .i64 y7, .int .i64 y8], .bool k]) ∧ Below w.heap.size w w') := fun T hT => by
    have g1 := fun w => SGet_any T w (by omega)
    have g2 := fun w => RGetS_any T w (by omega)
    unfold SetupR at g1 g2
    exact ⟨_, _, _, _, _, _, _, _, _, _, g1, g2⟩
  cases e1 : putS s with
  | none =>
    rw [e1] at hp1 hp2
    have hga := fun w => SGet_any ⟨#[]⟩ w (by decide)
    unfold SetupR at hga
    rw [show getS (⟨#[]⟩ : ByteArray).data.toList = none from rfl] at hga
    exact SetupAll_0 _ _ _ _ _ _ _ _ _ t S _ at_ c w hC (by decide) (by omega) rfl htx hp1 hp2 hga hG
  | some l =>
    rw [e1] at hp1 hp2
    have hl := putS_len e1
    have hga := fun w => SGet_any ⟨l.toArray⟩ w (by show (l.toArray).size ≤ 1000000; rw [List.size_toArray]; omega)
    unfold SetupR at hga
    rw [show getS (⟨l.toArray⟩ : ByteArray).data.toList = some s from getS_putS hu.1 hu.2 e1] at hga
    obtain ⟨A, hA⟩ : ∃ A : ByteArray, A = ⟨l.toArray⟩ := ⟨_, rfl⟩
    have hAs : A.size = 25 := by rw [hA]; show (l.toArray).size = _; rw [List.size_toArray]; exact hl
    have hAl : A.data.toList.length = 25 := by rw [Array.length_toList]; exact hAs
    simp only [Option.getD_some, Option.isSome_some] at hp1 hp2 hga
    rw [← hA] at hp1 hp2 hga
    by_cases h0 : at_ < 0
    · exact SetupAll_1 _ _ _ _ _ _ _ _ _ t S A at_ c w hC (by omega) (by omega) (by omega) h0 htx hp1 hp2 hga hG
    · obtain ⟨k, hk, hk25⟩ : ∃ k : Nat, at_.tmod (A.size : Int) = (k : Int) ∧ k < 25 := by
        refine ⟨(at_ % 25).toNat, ?_, by omega⟩
        rw [hAs, Int.tmod_eq_emod_of_nonneg (by omega)]
        omega
      exact SetupAll_2 _ _ _ _ _ _ _ _ _ t S A at_ c w hC (by omega) (by omega) (by omega) (by omega) k (by omega) hk htx hp1 hp2 hga hG
end Go.Proofs.YtcmjdbljdkabpaaGreatDoor
