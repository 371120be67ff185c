/- The law NickAll. -/
import Derived.Test.YtaofomkalnagcaaDoorBegun4
import Derived.Test.YtaofomkalnagcaaDoorM4F

set_option linter.all false

namespace Go.Proofs.YtaofomkalnagcaaDoor
open Go.RowKit M

theorem text_size (s : ByteArray) (n : Nat) : (s.extract 0 (min s.size n)).size ≤ n := by rw [ByteArray.size_extract]; omega

set_option maxRecDepth 100000 in
set_option maxHeartbeats 2000000 in
theorem NickAll_law (s : ByteArray) (most r : Int) (w : World) (hs : s.size ≤ maxLen) (hm : (Lit.int .i64 most).wf = true) (hr : (Lit.int .i32 r).wf = true) (hC : Codes w) : Calls Tryd.prog 3 #[.string s, .int .i64 most, .int .i32 r] w (Holds4 w) := by
  have HC := Lib.hid hC
  clear hC
  have hbr := bounds_i32 hr
  have hsz := text_size s 40
  obtain ⟨t, ht⟩ : ∃ t, t = s.extract 0 (min s.size 40) := ⟨_, rfl⟩
  have htx := fun w => Text_any s 40 w hs (by omega)
  rw [← ht] at hsz htx
  have HTX := Lib.hid htx
  clear htx ht
  go_enter Tryd.func3, Tryd.ntmps3
  go_wp2_with (first
    | (go_at_call 20; refine (begun4_any _ HC.out).mono ?_; rintro e w1 ⟨rfl, hb1⟩; have HB1 := Lib.hid hb1; have hz1 := hb1.size; clear hb1)
    | (go_at_call 21; refine (HTX.out _).mono ?_; rintro e w' ⟨rfl, rfl⟩)
    | (go_at_call 22; refine (May_any t _).mono ?_; rintro e w2 ⟨rfl, hb⟩; have HB2 := Lib.hid (HB1.out.trans (hb.mono hz1)); have hz2 := HB2.out.size; clear hb)
    | (go_at_call 23; refine (RefMay_any t _ (by omega)).mono ?_; rintro e w' ⟨rfl, rfl⟩)
    | (go_at_call 24; refine (Len_any t _ (by omega)).mono ?_; rintro e w3 ⟨rfl, hb⟩; have HB3 := Lib.hid (HB2.out.trans (hb.mono hz2)); have hz3 := HB3.out.size; clear hb)
    | (go_at_call 25; refine (RefLen_any t _ (by omega)).mono ?_; rintro e w' ⟨rfl, rfl⟩)
    | (go_at_call 26; refine (Cut_any t most _ (by omega) hm).mono ?_; rintro e w4 ⟨rfl, hb⟩; have HB4 := Lib.hid (HB3.out.trans (hb.mono hz3)); have hz4 := HB4.out.size; clear hb)
    | (go_at_call 27; refine (RefCut_any t most _ (by omega) hm).mono ?_; rintro e w' ⟨rfl, rfl⟩)
    | (go_at_call 28; refine (Plain_any t _ (by omega)).mono ?_; rintro e w5 ⟨rfl, hb⟩; have HB5 := Lib.hid (HB4.out.trans (hb.mono hz4)); clear hb)
    | (go_at_call 29; refine (RefPlain_any t _ (by omega)).mono ?_; rintro e w' ⟨rfl, rfl⟩)
    | (go_at_call 30; refine (Kind_any r _).mono ?_; rintro e w' ⟨rfl, rfl⟩)
    | (go_at_call 31; refine (RefKind_any r _).mono ?_; rintro e w' ⟨rfl, rfl⟩))
  go_ret
  exact ⟨rfl, HB5.out⟩
end Go.Proofs.YtaofomkalnagcaaDoor
