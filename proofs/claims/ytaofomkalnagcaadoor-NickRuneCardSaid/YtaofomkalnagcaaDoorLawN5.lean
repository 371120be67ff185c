/- The law NickRune. -/
import Derived.Test.YtaofomkalnagcaaDoorLawN3
import Derived.Laws.Runes

set_option linter.all false

namespace Go.Proofs.YtaofomkalnagcaaDoor
open Go.RowKit M

/-- The number that is encoded. -/
def codeP (r : Int) : Nat := if Utf8.valid r = true then r.toNat else 65533
theorem codeP_lt (r : Int) : codeP r ≤ 1114111 ∧ (codeP r < 55296 ∨ 57344 ≤ codeP r) := by
  unfold codeP Utf8.valid
  split
  · rename_i h
    simp only [Bool.or_eq_true, Bool.and_eq_true, decide_eq_true_iff] at h
    omega
  · omega
theorem enc_bytes (r : Int) : bl (Utf8.encode r) = (if codeP r < 128 then [UInt8.ofNat (codeP r)]
    else if codeP r < 2048 then [UInt8.ofNat (192 + codeP r / 64), UInt8.ofNat (128 + codeP r % 64)]
    else if codeP r < 65536 then [UInt8.ofNat (224 + codeP r / 4096), UInt8.ofNat (128 + codeP r / 64 % 64), UInt8.ofNat (128 + codeP r % 64)]
    else [UInt8.ofNat (240 + codeP r / 262144), UInt8.ofNat (128 + codeP r / 4096 % 64), UInt8.ofNat (128 + codeP r / 64 % 64), UInt8.ofNat (128 + codeP r % 64)]) := by
  have h : Utf8.encode r = (if codeP r < 128 then (⟨#[UInt8.ofNat (codeP r)]⟩ : ByteArray)
    else if codeP r < 2048 then ⟨#[UInt8.ofNat (192 + codeP r / 64), UInt8.ofNat (128 + codeP r % 64)]⟩
    else if codeP r < 65536 then ⟨#[UInt8.ofNat (224 + codeP r / 4096), UInt8.ofNat (128 + codeP r / 64 % 64), UInt8.ofNat (128 + codeP r % 64)]⟩
    else ⟨#[UInt8.ofNat (240 + codeP r / 262144), UInt8.ofNat (128 + codeP r / 4096 % 64), UInt8.ofNat (128 + codeP r / 64 % 64), UInt8.ofNat (128 + codeP r % 64)]⟩) := rfl
  rw [h]
  split
  · rfl
  · split
    · rfl
    · split <;> rfl
theorem ofNat_lt {n : Nat} (h : n < 256) : (UInt8.ofNat n).toNat = n := by rw [UInt8.toNat_ofNat']; omega
set_option maxRecDepth 100000 in
theorem enc_dec (r : Int) : bl (Utf8.encode r) ≠ [] ∧ (bl (Utf8.encode r)).length ≤ 4 ∧ dec (bl (Utf8.encode r)) = (codeP r, (bl (Utf8.encode r)).length) ∧ (codeP r < 128 → bl (Utf8.encode r) = [UInt8.ofNat (codeP r)]) := by
  obtain ⟨h1, h2⟩ := codeP_lt r
  rw [enc_bytes]
  generalize codeP r = c at *
  by_cases c1 : c < 128
  · rw [if_pos c1]
    refine ⟨by simp, by simp, ?_, fun _ => rfl⟩
    have h0 : at_ [UInt8.ofNat c] 0 = c := by unfold at_; exact ofNat_lt (by omega)
    rw [dec1 (by rw [h0]; exact c1), h0]
    rfl
  · rw [if_neg c1]
    by_cases c2 : c < 2048
    · rw [if_pos c2]
      refine ⟨by simp, by simp, ?_, fun h => absurd h c1⟩
      have h0 : at_ [UInt8.ofNat (192 + c / 64), UInt8.ofNat (128 + c % 64)] 0 = 192 + c / 64 := by unfold at_; exact ofNat_lt (by omega)
      have h1 : at_ [UInt8.ofNat (192 + c / 64), UInt8.ofNat (128 + c % 64)] 1 = 128 + c % 64 := by unfold at_; exact ofNat_lt (by omega)
      have k1 : cont [UInt8.ofNat (192 + c / 64), UInt8.ofNat (128 + c % 64)] 1 = true := by unfold cont; rw [h1]; simp; omega
      rw [dec2 (by rw [h0]; omega) k1, h0, h1]
      exact Prod.ext (by simp only; omega) rfl
    · rw [if_neg c2]
      by_cases c3 : c < 65536
      · rw [if_pos c3]
        refine ⟨by simp, by simp, ?_, fun h => absurd h c1⟩
        have h0 : at_ [UInt8.ofNat (224 + c / 4096), UInt8.ofNat (128 + c / 64 % 64), UInt8.ofNat (128 + c % 64)] 0 = 224 + c / 4096 := by unfold at_; exact ofNat_lt (by omega)
        have h1 : at_ [UInt8.ofNat (224 + c / 4096), UInt8.ofNat (128 + c / 64 % 64), UInt8.ofNat (128 + c % 64)] 1 = 128 + c / 64 % 64 := by unfold at_; exact ofNat_lt (by omega)
        have h2' : at_ [UInt8.ofNat (224 + c / 4096), UInt8.ofNat (128 + c / 64 % 64), UInt8.ofNat (128 + c % 64)] 2 = 128 + c % 64 := by unfold at_; exact ofNat_lt (by omega)
        have k1 : cont [UInt8.ofNat (224 + c / 4096), UInt8.ofNat (128 + c / 64 % 64), UInt8.ofNat (128 + c % 64)] 1 = true := by unfold cont; rw [h1]; simp; omega
        have k2 : cont [UInt8.ofNat (224 + c / 4096), UInt8.ofNat (128 + c / 64 % 64), UInt8.ofNat (128 + c % 64)] 2 = true := by unfold cont; rw [h2']; simp; omega
        rw [dec3 (by rw [h0]; omega) k1 k2, h0, h1, h2', if_neg (by omega)]
        exact Prod.ext (by simp only; omega) rfl
      · rw [if_neg c3]
        refine ⟨by simp, by simp, ?_, fun h => absurd h c1⟩
        have h0 : at_ [UInt8.ofNat (240 + c / 262144), UInt8.ofNat (128 + c / 4096 % 64), UInt8.ofNat (128 + c / 64 % 64), UInt8.ofNat (128 + c % 64)] 0 = 240 + c / 262144 := by unfold at_; exact ofNat_lt (by omega)
        have h1 : at_ [UInt8.ofNat (240 + c / 262144), UInt8.ofNat (128 + c / 4096 % 64), UInt8.ofNat (128 + c / 64 % 64), UInt8.ofNat (128 + c % 64)] 1 = 128 + c / 4096 % 64 := by unfold at_; exact ofNat_lt (by omega)
        have h2' : at_ [UInt8.ofNat (240 + c / 262144), UInt8.ofNat (128 + c / 4096 % 64), UInt8.ofNat (128 + c / 64 % 64), UInt8.ofNat (128 + c % 64)] 2 = 128 + c / 64 % 64 := by unfold at_; exact ofNat_lt (by omega)
        have h3 : at_ [UInt8.ofNat (240 + c / 262144), UInt8.ofNat (128 + c / 4096 % 64), UInt8.ofNat (128 + c / 64 % 64), UInt8.ofNat (128 + c % 64)] 3 = 128 + c % 64 := by unfold at_; exact ofNat_lt (by omega)
        have k1 : cont [UInt8.ofNat (240 + c / 262144), UInt8.ofNat (128 + c / 4096 % 64), UInt8.ofNat (128 + c / 64 % 64), UInt8.ofNat (128 + c % 64)] 1 = true := by unfold cont; rw [h1]; simp; omega
        have k2 : cont [UInt8.ofNat (240 + c / 262144), UInt8.ofNat (128 + c / 4096 % 64), UInt8.ofNat (128 + c / 64 % 64), UInt8.ofNat (128 + c % 64)] 2 = true := by unfold cont; rw [h2']; simp; omega
        have k3 : cont [UInt8.ofNat (240 + c / 262144), UInt8.ofNat (128 + c / 4096 % 64), UInt8.ofNat (128 + c / 64 % 64), UInt8.ofNat (128 + c % 64)] 3 = true := by unfold cont; rw [h3]; simp; omega
        rw [dec4 (by rw [h0]; omega) k1 k2 k3, h0, h1, h2', h3, if_neg (by omega)]
        exact Prod.ext (by simp only; omega) rfl
theorem kind_code (r : Int) : kind (codeP r : Nat) = kind r := by
  unfold codeP
  split
  · rename_i h
    unfold Utf8.valid at h
    simp only [Bool.or_eq_true, Bool.and_eq_true, decide_eq_true_iff] at h
    rw [show ((r.toNat : Nat) : Int) = r by omega]
  · rename_i h
    unfold Utf8.valid at h
    simp only [Bool.or_eq_true, Bool.and_eq_true, decide_eq_true_iff] at h
    rw [kind0 (by omega), kind0 (by omega)]
theorem rs_enc (r : Int) : rs (bl (Utf8.encode r)) = [(codeP r, (bl (Utf8.encode r)).length)] := by
  obtain ⟨h1, _, h3, _⟩ := enc_dec r
  rw [rs_cons h1, h3]
  simp [rs_nil]

set_option maxRecDepth 100000 in
set_option maxHeartbeats 4000000 in
theorem NickRune_law (r : Int) (w : World) (hr : (Lit.int .i32 r).wf = true) (hC : Codes w) : Calls Tryd.prog 12 #[.int .i32 r] w (Holds4 w) := by
  have HC := Lib.hid hC
  clear hC
  have hbr := bounds_i32 hr
  obtain ⟨e1, e2, e3, e4⟩ := enc_dec r
  obtain ⟨t, ht⟩ : ∃ t, t = Utf8.encode r := ⟨_, rfl⟩
  have hcv : ∀ w, (convert 21 9 (.int .i32 r)).run Tryd.prog w = .ok (.string t) w := fun w => by
    rw [ht]
    exact run_convert_int_string w 21 9 .i32 r (by rw [Tryd.underlying21]; rfl) Tryd.underlying9
  have hrs := rs_enc r
  have hkc := kind_code r
  rw [← ht] at e1 e2 e3 e4 hrs
  rw [bl_length] at e2
  have hl := fun w => Len_any t w (by omega)
  rw [hrs] at hl
  have hm := fun w => May_any t w
  have hmv : mayL (bl t) = (kind r != 0) := by
    unfold mayL okRunes
    rw [hrs, bl_length, decide_eq_true (by omega)]
    simp only [List.all_cons, List.all_nil, Bool.and_true, Bool.true_and]
    rw [hkc]
  rw [hmv] at hm
  have hp := fun w => Plain_any t w (by omega)
  have hpv : plainL (bl t) = plainOf (codeP r, (bl t).length) := by
    unfold plainL
    rw [hrs]
    simp
  rw [hpv] at hp
  have HL := Lib.hid hl
  have HM := Lib.hid hm
  clear hl hm hmv hpv hrs
  by_cases hk : 1 ≤ kind r ∧ kind r ≤ 3
  · have hpo : (⟨(plainOf (codeP r, (bl t).length)).toArray⟩ : ByteArray) = t := by
      have hk' : 1 ≤ kind (codeP r : Nat) ∧ kind (codeP r : Nat) ≤ 3 := by rw [hkc]; exact hk
      have h128 := kind_ascii hk'
      unfold plainOf
      rw [if_pos hk', ← e4 h128, ← bl_mk]
    rw [hpo] at hp
    have HP := Lib.hid hp
    obtain ⟨h1, h2⟩ := hk
    have u1 : (0 : Int) < ((kind r : Nat) : Int) := by omega
    have u2 : (1 : Int) ≤ ((kind r : Nat) : Int) := by omega
    have u3 : ((kind r : Nat) : Int) ≤ 3 := by omega
    have u4 : (kind r != 0) = true := by rw [bne_iff_ne]; omega
    rw [u4] at HM
    have HK1 := Lib.hid (fun w => Kind_any r w)
    have HK2 := Lib.hid (fun w => RefKind_any r w)
    generalize kind r = q at *
    clear hp hpo hkc e1 e2 e3 e4 ht u4 h1 h2
    go_enter Tryd.func12, Tryd.ntmps12
    go_wp2_with (first
      | (go_at_call 20; refine (begun4_any _ HC.out).mono ?_; rintro e w1 ⟨rfl, hb1⟩; have HB1 := Lib.hid hb1; have hz1 := hb1.size; clear hb1)
      | (go_at_call 30; refine (HK1.out _).mono ?_; rintro e w' ⟨rfl, rfl⟩)
      | (go_at_call 31; refine (HK2.out _).mono ?_; rintro e w' ⟨rfl, rfl⟩)
      | (go_at_call 24; refine (HL.out _).mono ?_; rintro e w2 ⟨rfl, hb⟩; have HB2 := Lib.hid (HB1.out.trans (hb.mono hz1)); have hz2 := HB2.out.size; clear hb)
      | (go_at_call 22; refine (HM.out _).mono ?_; rintro e w3 ⟨rfl, hb⟩; have HB3 := Lib.hid (HB2.out.trans (hb.mono hz2)); have hz3 := HB3.out.size; clear hb)
      | (go_at_call 28; refine (HP.out _).mono ?_; rintro e w4 ⟨rfl, hb⟩; have HB4 := Lib.hid (HB3.out.trans (hb.mono hz3)); clear hb))
    go_ret
    exact ⟨rfl, HB4.out⟩
  · have hk' : ¬ (1 ≤ kind (codeP r : Nat) ∧ kind (codeP r : Nat) ≤ 3) := by rw [hkc]; exact hk
    have hpo : plainOf (codeP r, (bl t).length) = [63] := by unfold plainOf; rw [if_neg hk']
    rw [hpo] at hp
    have HP := Lib.hid hp
    have hne : t.toList ≠ [63] := by
      intro e
      rw [ByteArray.toList_eq] at e
      have e' : bl t = [63] := e
      rw [e'] at e3
      have h63 : dec [63] = (63, 1) := by decide
      rw [h63] at e3
      injection e3 with e5 e6
      apply hk'
      rw [← e5]
      decide
    have v1 : (t.toList == [63]) = false := by rw [beq_eq_false_iff_ne]; exact hne
    have v2 : ([63] == t.toList) = false := by rw [beq_eq_false_iff_ne]; exact fun h => hne h.symm
    have HK1 := Lib.hid (fun w => Kind_any r w)
    have HK2 := Lib.hid (fun w => RefKind_any r w)
    rcases (show kind r = 0 ∨ 3 < kind r by omega) with h0 | h0
    · have u4 : (kind r != 0) = false := by rw [h0]; rfl
      rw [u4] at HM
      rw [h0] at HK1 HK2
      clear hp hpo hkc e1 e2 e3 e4 ht u4 hk hk' hne h0
      go_enter Tryd.func12, Tryd.ntmps12
      go_wp2_with (first
        | (go_at_call 20; refine (begun4_any _ HC.out).mono ?_; rintro e w1 ⟨rfl, hb1⟩; have HB1 := Lib.hid hb1; have hz1 := hb1.size; clear hb1)
        | (go_at_call 30; refine (HK1.out _).mono ?_; rintro e w' ⟨rfl, rfl⟩)
        | (go_at_call 31; refine (HK2.out _).mono ?_; rintro e w' ⟨rfl, rfl⟩)
        | (go_at_call 24; refine (HL.out _).mono ?_; rintro e w2 ⟨rfl, hb⟩; have HB2 := Lib.hid (HB1.out.trans (hb.mono hz1)); have hz2 := HB2.out.size; clear hb)
        | (go_at_call 22; refine (HM.out _).mono ?_; rintro e w3 ⟨rfl, hb⟩; have HB3 := Lib.hid (HB2.out.trans (hb.mono hz2)); have hz3 := HB3.out.size; clear hb)
        | (go_at_call 28; refine (HP.out _).mono ?_; rintro e w4 ⟨rfl, hb⟩; have HB4 := Lib.hid (HB3.out.trans (hb.mono hz3)); clear hb))
      go_ret
      exact ⟨rfl, HB4.out⟩
    · have u1 : (0 : Int) < ((kind r : Nat) : Int) := by omega
      have u2 : (1 : Int) ≤ ((kind r : Nat) : Int) := by omega
      have u3 : (3 : Int) < ((kind r : Nat) : Int) := by omega
      have u5 : decide (((kind r : Nat) : Int) ≤ 3) = false := by simp; omega
      have u4 : (kind r != 0) = true := by rw [bne_iff_ne]; omega
      rw [u4] at HM
      generalize kind r = q at *
      clear hp hpo hkc e1 e2 e3 e4 ht u4 hk hk' hne h0
      go_enter Tryd.func12, Tryd.ntmps12
      go_wp2_with (first
        | (go_at_call 20; refine (begun4_any _ HC.out).mono ?_; rintro e w1 ⟨rfl, hb1⟩; have HB1 := Lib.hid hb1; have hz1 := hb1.size; clear hb1)
        | (go_at_call 30; refine (HK1.out _).mono ?_; rintro e w' ⟨rfl, rfl⟩)
        | (go_at_call 31; refine (HK2.out _).mono ?_; rintro e w' ⟨rfl, rfl⟩)
        | (go_at_call 24; refine (HL.out _).mono ?_; rintro e w2 ⟨rfl, hb⟩; have HB2 := Lib.hid (HB1.out.trans (hb.mono hz1)); have hz2 := HB2.out.size; clear hb)
        | (go_at_call 22; refine (HM.out _).mono ?_; rintro e w3 ⟨rfl, hb⟩; have HB3 := Lib.hid (HB2.out.trans (hb.mono hz2)); have hz3 := HB3.out.size; clear hb)
        | (go_at_call 28; refine (HP.out _).mono ?_; rintro e w4 ⟨rfl, hb⟩; have HB4 := Lib.hid (HB3.out.trans (hb.mono hz3)); clear hb))
      go_ret
      exact ⟨rfl, HB4.out⟩
end Go.Proofs.YtaofomkalnagcaaDoor
