/- The law SetupNone. -/
import Derived.Test.YtcmjdbljdkabpaaGreatDoorQ8S
import Derived.Test.YtcmjdbljdkabpaaGreatDoorM8E
import Derived.Test.YtcmjdbljdkabpaaGreatDoorBegun8

set_option linter.all false

namespace Go.Proofs.YtcmjdbljdkabpaaGreatDoor
open Go.RowKit M

set_option maxRecDepth 100000 in
set_option maxHeartbeats 8000000 in
theorem SetupNone_law (w : World) (hC : Codes w) : Calls Tryz.prog 9 #[] w (Holds8 w) := by
  have HC0 := Lib.hid hC
  have HG : Hid (∀ w, Calls Tryz.prog 38 #[.string ⟨#[]⟩] w fun e w' => e = .returned (.tuple #[.agg #[.int .i64 0, .int .i64 0, .int .i64 0, .int .i64 0, .int .i64 0], .bool false]) ∧ Below w.heap.size w w') := by
    show ∀ w, _
    intro w
    have h := QGet_any ⟨#[]⟩ w (by decide)
    unfold OfferR at h
    rw [show getO (⟨#[]⟩ : ByteArray).data.toList = none by decide +kernel] at h
    exact h
  have HD : Hid (∀ w, Calls Tryz.prog 42 #[.agg #[.int .i64 0, .int .i64 0, .int .i64 0, .int .i64 0, .int .i64 0], .agg #[.int .i64 0, .int .i64 0, .int .i64 0, .int .i64 0, .int .i64 0]] w fun e w' => e = .returned (.tuple #[.agg #[.int .i64 0, .int .i64 0, .int .i64 0, .int .i64 0, .int .i64 0], .bool false]) ∧ Below w.heap.size w w') := by
    show ∀ w, _
    intro w
    have h := MDeal_any Of5.zero Of5.zero w ⟨by decide, by decide, by decide, by decide, by decide⟩ ⟨by decide, by decide, by decide, by decide, by decide⟩
    unfold DealR at h
    rw [show dealM Of5.zero Of5.zero = none by decide +kernel] at h
    exact h
  have HX : Hid (∀ w, Calls Tryz.prog 50 #[.string ⟨#[]⟩] w fun e w' => e = .returned (.tuple #[.agg #[.int .u32 0, .int .u32 0, .int .i64 0, .int .i64 0, .bool false, .string ⟨#[]⟩], .bool false]) ∧ Below w.heap.size w w') := by
    show ∀ w, _
    intro w
    have h := XGet_any ⟨#[]⟩ w (by decide)
    unfold XidR at h
    rw [show getX (⟨#[]⟩ : ByteArray).data.toList = none from rfl] at h
    exact h
  have HS : Hid (∀ w, Calls Tryz.prog 56 #[.string ⟨#[]⟩] w fun e w' => e = .returned (.tuple #[.agg #[.int .u32 0, .int .u32 0, .int .i64 0, .int .i64 0, .int .i64 0, .int .i64 0, .int .i64 0, .int .i64 0, .int .i64 0], .bool false]) ∧ Below w.heap.size w w') := by
    show ∀ w, _
    intro w
    have h := SGet_any ⟨#[]⟩ w (by decide)
    unfold SetupR at h
    rw [show getS (⟨#[]⟩ : ByteArray).data.toList = none from rfl] at h
    exact h
  have HF : Hid (∀ w, Calls Tryz.prog 52 #[.slice none 0 0, .slice none 0 0] w fun e w' => e = .returned (.tuple #[.int .u32 1, .int .i64 0]) ∧ Below w.heap.size w w') := by
    show ∀ w, _
    exact fun w => XFresh_any _ _ [] [] w (RdU.nil_ w) (RdU.nil_ w) (by decide) (by decide)
  have HH : Hid (∀ w, Calls Tryz.prog 26 #[.int .i64 0] w fun e w' => e = .returned (.int .i64 (-1)) ∧ Below w.heap.size w w') := by
    show ∀ w, _
    intro w
    have h := QHigh_any 0 w (by decide)
    rw [show high 0 = -1 by decide +kernel] at h
    exact h
  have HL : Hid (∀ w, Calls Tryz.prog 28 #[.int .i64 0] w fun e w' => e = .returned (.int .i64 (-1)) ∧ Below w.heap.size w w') := by
    show ∀ w, _
    intro w
    have h := QLow_any 0 w (by decide)
    rw [show low 0 = -1 by decide +kernel] at h
    exact h
  have HT : Hid (∀ w, Calls Tryz.prog 36 #[.int .i64 0, .int .i64 5] w fun e w' => e = .returned (.int .i64 0) ∧ Below w.heap.size w w') := by
    show ∀ w, _
    exact fun w => QTicks_any 0 5 w (by decide) (by decide)
  have HB_ : Hid (∀ w, Calls Tryz.prog 30 #[.int .i64 4] w fun e w' => e = .returned (.int .i64 0) ∧ Below w.heap.size w w') := by
    show ∀ w, _
    exact fun w => QBaud_any 4 w (by decide)
  have HM : Hid (∀ w, Calls Tryz.prog 25 #[.agg #[.int .i64 0, .int .i64 0, .int .i64 0, .int .i64 0, .int .i64 0]] w fun e w' => e = .returned (.bool false) ∧ Below w.heap.size w w') := by
    show ∀ w, _
    exact fun w => QMay_any Of5.zero w ⟨by decide, by decide, by decide, by decide, by decide⟩
  clear hC
  go_enter Tryz.func9, Tryz.ntmps9
  go_wp2_with (first
    | (go_at_call 38; ((with_reducible refine (HG.out _).mono ?_); rintro e w1 ⟨rfl, hb⟩; have HB1 := Lib.hid (bal (hb) (.cells #[.int .i64 0, .int .i64 0, .int .i64 0, .int .i64 0, .int .i64 0] 23)); have HC1 := Lib.hid ((HC0.out.below hb).below (bal (bel0 w1) (.cells #[.int .i64 0, .int .i64 0, .int .i64 0, .int .i64 0, .int .i64 0] 23))); have A1 := Lib.hid ((heap_alloc_new w1 (.cells #[.int .i64 0, .int .i64 0, .int .i64 0, .int .i64 0, .int .i64 0] 23))); clear hb))
    | (go_at_call 42; ((with_reducible refine (HD.out _).mono ?_); rintro e w2 ⟨rfl, hb⟩; have HB2 := Lib.hid (bal ((bel_trans HB1.out hb)) (.cells #[.int .i64 0, .int .i64 0, .int .i64 0, .int .i64 0, .int .i64 0] 42)); have A2 := Lib.hid (keep_at (keep_at A1.out hb) (bal (bel0 w2) (.cells #[.int .i64 0, .int .i64 0, .int .i64 0, .int .i64 0, .int .i64 0] 42))); have HC2 := Lib.hid ((HC1.out.below hb).below (bal (bel0 w2) (.cells #[.int .i64 0, .int .i64 0, .int .i64 0, .int .i64 0, .int .i64 0] 42))); have B2 := Lib.hid ((heap_alloc_new w2 (.cells #[.int .i64 0, .int .i64 0, .int .i64 0, .int .i64 0, .int .i64 0] 42))); clear hb))
    | (go_at_call 50; ((with_reducible refine (HX.out _).mono ?_); rintro e w3 ⟨rfl, hb⟩; have HB3 := Lib.hid (bal ((bel_trans HB2.out hb)) (.cells #[.int .u32 0, .int .u32 0, .int .i64 0, .int .i64 0, .bool false, .string ⟨#[]⟩] 51)); have A3 := Lib.hid (keep_at (keep_at A2.out hb) (bal (bel0 w3) (.cells #[.int .u32 0, .int .u32 0, .int .i64 0, .int .i64 0, .bool false, .string ⟨#[]⟩] 51))); have B3 := Lib.hid (keep_at (keep_at B2.out hb) (bal (bel0 w3) (.cells #[.int .u32 0, .int .u32 0, .int .i64 0, .int .i64 0, .bool false, .string ⟨#[]⟩] 51))); have HC3 := Lib.hid ((HC2.out.below hb).below (bal (bel0 w3) (.cells #[.int .u32 0, .int .u32 0, .int .i64 0, .int .i64 0, .bool false, .string ⟨#[]⟩] 51))); have C3 := Lib.hid ((heap_alloc_new w3 (.cells #[.int .u32 0, .int .u32 0, .int .i64 0, .int .i64 0, .bool false, .string ⟨#[]⟩] 51))); clear hb))
    | (go_at_call 56; ((with_reducible refine (HS.out _).mono ?_); rintro e w4 ⟨rfl, hb⟩; have HB4 := Lib.hid (bal ((bel_trans HB3.out hb)) (.cells #[.int .u32 0, .int .u32 0, .int .i64 0, .int .i64 0, .int .i64 0, .int .i64 0, .int .i64 0, .int .i64 0, .int .i64 0] 64)); have A4 := Lib.hid (keep_at (keep_at A3.out hb) (bal (bel0 w4) (.cells #[.int .u32 0, .int .u32 0, .int .i64 0, .int .i64 0, .int .i64 0, .int .i64 0, .int .i64 0, .int .i64 0, .int .i64 0] 64))); have B4 := Lib.hid (keep_at (keep_at B3.out hb) (bal (bel0 w4) (.cells #[.int .u32 0, .int .u32 0, .int .i64 0, .int .i64 0, .int .i64 0, .int .i64 0, .int .i64 0, .int .i64 0, .int .i64 0] 64))); have C4 := Lib.hid (keep_at (keep_at C3.out hb) (bal (bel0 w4) (.cells #[.int .u32 0, .int .u32 0, .int .i64 0, .int .i64 0, .int .i64 0, .int .i64 0, .int .i64 0, .int .i64 0, .int .i64 0] 64))); have HC4 := Lib.hid ((HC3.out.below hb).below (bal (bel0 w4) (.cells #[.int .u32 0, .int .u32 0, .int .i64 0, .int .i64 0, .int .i64 0, .int .i64 0, .int .i64 0, .int .i64 0, .int .i64 0] 64))); have D4 := Lib.hid ((heap_alloc_new w4 (.cells #[.int .u32 0, .int .u32 0, .int .i64 0, .int .i64 0, .int .i64 0, .int .i64 0, .int .i64 0, .int .i64 0, .int .i64 0] 64))); clear hb))
    | (go_at_call 52; ((with_reducible refine (HF.out _).mono ?_); rintro e w5 ⟨rfl, hb⟩; have HB5 := Lib.hid (bel_trans HB4.out hb); have A5 := Lib.hid (keep_at A4.out hb); have B5 := Lib.hid (keep_at B4.out hb); have C5 := Lib.hid (keep_at C4.out hb); have D5 := Lib.hid (keep_at D4.out hb); have HC5 := Lib.hid (HC4.out.below hb); clear hb))
    | (go_at_call 21; ((with_reducible refine (begun8_any _ HC5.out).mono ?_); rintro e w6 ⟨rfl, hb⟩; have HB6 := Lib.hid (bel_trans HB5.out hb); have A6 := Lib.hid (keep_at A5.out hb); have B6 := Lib.hid (keep_at B5.out hb); have C6 := Lib.hid (keep_at C5.out hb); have D6 := Lib.hid (keep_at D5.out hb); have HC6 := Lib.hid (HC5.out.below hb); clear hb))
    | (go_at_call 26; ((with_reducible refine (HH.out _).mono ?_); rintro e w7 ⟨rfl, hb⟩; have HB7 := Lib.hid (bel_trans HB6.out hb); have A7 := Lib.hid (keep_at A6.out hb); have B7 := Lib.hid (keep_at B6.out hb); have C7 := Lib.hid (keep_at C6.out hb); have D7 := Lib.hid (keep_at D6.out hb); have HC7 := Lib.hid (HC6.out.below hb); clear hb))
    | (go_at_call 28; ((with_reducible refine (HL.out _).mono ?_); rintro e w8 ⟨rfl, hb⟩; have HB8 := Lib.hid (bel_trans HB7.out hb); have A8 := Lib.hid (keep_at A7.out hb); have B8 := Lib.hid (keep_at B7.out hb); have C8 := Lib.hid (keep_at C7.out hb); have D8 := Lib.hid (keep_at D7.out hb); have HC8 := Lib.hid (HC7.out.below hb); clear hb))
    | (go_at_call 36; ((with_reducible refine (HT.out _).mono ?_); rintro e w9 ⟨rfl, hb⟩; have HB9 := Lib.hid (bel_trans HB8.out hb); have A9 := Lib.hid (keep_at A8.out hb); have B9 := Lib.hid (keep_at B8.out hb); have C9 := Lib.hid (keep_at C8.out hb); have D9 := Lib.hid (keep_at D8.out hb); have HC9 := Lib.hid (HC8.out.below hb); clear hb))
    | (go_at_call 30; ((with_reducible refine (HB_.out _).mono ?_); rintro e w10 ⟨rfl, hb⟩; have HB10 := Lib.hid (bel_trans HB9.out hb); have A10 := Lib.hid (keep_at A9.out hb); have B10 := Lib.hid (keep_at B9.out hb); have C10 := Lib.hid (keep_at C9.out hb); have D10 := Lib.hid (keep_at D9.out hb); have HC10 := Lib.hid (HC9.out.below hb); clear hb))
    | (go_at_call 25; ((with_reducible refine (HM.out _).mono ?_); rintro e w11 ⟨rfl, hb⟩; have HB11 := Lib.hid (bel_trans HB10.out hb); have A11 := Lib.hid (keep_at A10.out hb); have B11 := Lib.hid (keep_at B10.out hb); have C11 := Lib.hid (keep_at C10.out hb); have D11 := Lib.hid (keep_at D10.out hb); have HC11 := Lib.hid (HC10.out.below hb); clear hb)))
  go_ret
  exact ⟨rfl, HB11.out⟩
end Go.Proofs.YtcmjdbljdkabpaaGreatDoor
