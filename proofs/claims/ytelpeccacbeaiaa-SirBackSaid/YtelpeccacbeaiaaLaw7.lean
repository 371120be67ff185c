/- The law CrcTurn. -/
import Derived.Test.YtelpeccacbeaiaaLaw6
namespace Go.Proofs.Ytelpeccacbeaiaa
open Go.RowKit M

set_option maxRecDepth 100000 in
set_option maxHeartbeats 2000000 in
theorem CrcTurn_law (va : Value) (at0 bits0 : Int) (la : List UInt8) (w : World) (ha : Rds w va la) (hat : (Lit.int .i64 at0).wf = true) (hbt : (Lit.int .u16 bits0).wf = true) : Calls Try.prog 4 #[va, .int .i64 at0, .int .u16 bits0] w (Holds w) := by
  have hba := bounds_i64 hat
  have hbb := bounds_u16 hbt
  obtain ⟨bt, rfl⟩ : ∃ bt : Nat, bits0 = bt := ⟨bits0.toNat, by omega⟩
  have hbt' : bt < 65536 := by omega
  have HA := Lib.hid ha
  have h1 : (la.take 100).length ≤ 100 := short_len _ _
  obtain ⟨b, heb⟩ : ∃ b, b = la.take 100 := ⟨_, rfl⟩
  rw [← heb] at h1
  have HEB := Lib.hid heb
  obtain ⟨p, hp⟩ : ∃ p, p = cput b := ⟨_, rfl⟩
  have HP := Lib.hid hp
  have hpl : p.length = b.length + 2 := by rw [hp, cput_length]
  have hp2 : 2 ≤ p.length := by omega
  have hp3 : p.length ≤ 102 := by omega
  have hf : cfine p = true := by rw [hp]; exact cfine_cput b
  clear ha hat hbt heb hp hpl
  by_cases hskip : at0 < 0 ∨ bt = 0
  · by_cases h0 : at0 < 0
    · have t1 : decide (at0 < 0) = true := by simpa using h0
      clear hskip
      go_enter Try.func4, Try.ntmps4
      go_wp2_with (first
        | (go_at_call 18; refine (begun_any _).mono ?_; rintro e w1 ⟨rfl, hb1⟩; have HB1 := Lib.hid hb1; have hz1 := hb1.size; clear hb1)
        | (go_at_call 19; refine (Short_to va la b 100 _ (HA.out.below HB1.out) (by omega) (by omega) HEB.out).mono ?_; rintro e w2 ⟨v2, rfl, ho2, hb2⟩; have HB2 := Lib.hid (HB1.out.trans (hb2.mono hz1)); have hz2 := HB2.out.size; have HO2 := Lib.hid ho2; clear ho2 hb2)
        | (go_at_call 24; refine (makes_to (Put_any _ b _ HO2.out.rds (by omega)) HP.out.symm).mono ?_; rintro e w3 ⟨v3, rfl, ho3, hb3⟩; have HB3 := Lib.hid (HB2.out.trans (hb3.mono hz2)); have HO3 := Lib.hid ho3; clear ho3 hb3)
        | (go_at_call 26; refine (Fine_any _ p _ HO3.out.rds).mono ?_; rintro e w' ⟨rfl, rfl⟩))
      go_ret
      exact ⟨rfl, HB3.out⟩
    · have hbz : bt = 0 := by omega
      have t1 : decide (at0 < 0) = false := by simpa using h0
      subst hbz
      clear hskip
      go_enter Try.func4, Try.ntmps4
      go_wp2_with (first
        | (go_at_call 18; refine (begun_any _).mono ?_; rintro e w1 ⟨rfl, hb1⟩; have HB1 := Lib.hid hb1; have hz1 := hb1.size; clear hb1)
        | (go_at_call 19; refine (Short_to va la b 100 _ (HA.out.below HB1.out) (by omega) (by omega) HEB.out).mono ?_; rintro e w2 ⟨v2, rfl, ho2, hb2⟩; have HB2 := Lib.hid (HB1.out.trans (hb2.mono hz1)); have hz2 := HB2.out.size; have HO2 := Lib.hid ho2; clear ho2 hb2)
        | (go_at_call 24; refine (makes_to (Put_any _ b _ HO2.out.rds (by omega)) HP.out.symm).mono ?_; rintro e w3 ⟨v3, rfl, ho3, hb3⟩; have HB3 := Lib.hid (HB2.out.trans (hb3.mono hz2)); have HO3 := Lib.hid ho3; clear ho3 hb3)
        | (go_at_call 26; refine (Fine_any _ p _ HO3.out.rds).mono ?_; rintro e w' ⟨rfl, rfl⟩))
      go_ret
      exact ⟨rfl, HB3.out⟩
  · have hbn : bt ≠ 0 := by omega
    have h0 : 0 ≤ at0 := by omega
    have t1 : decide (at0 < 0) = false := by simpa using h0
    have t2 : ((bt : Int) == 0) = false := by rw [beq_eq_false_iff_ne]; omega
    obtain ⟨k, hk⟩ : ∃ k : Nat, at0 % ((p.length : Int) * 8 - 15) = (k : Int) := ⟨(at0 % ((p.length : Int) * 8 - 15)).toNat, by have := Int.emod_nonneg at0 (show (p.length : Int) * 8 - 15 ≠ 0 by omega); omega⟩
    have hkb : k + 16 ≤ 8 * p.length := by have := Int.emod_lt_of_pos at0 (show (0 : Int) < (p.length : Int) * 8 - 15 by omega); omega
    have hnf : cfine (flips p k bt 16) = false := by
      have := flips_not_fine b k bt (by rw [← HP.out]; exact hkb) hbn hbt'
      rwa [← HP.out] at this
    have HNF := Lib.hid hnf
    have hnz : ((p.length : Int) * 8 - 15 == 0) = false := by rw [beq_eq_false_iff_ne]; omega
    clear hskip hnf
    go_enter Try.func4, Try.ntmps4
    go_wp2_with (first
      | (go_at_call 18; refine (begun_any _).mono ?_; rintro e w1 ⟨rfl, hb1⟩; have HB1 := Lib.hid hb1; have hz1 := hb1.size; clear hb1)
      | (go_at_call 19; refine (Short_to va la b 100 _ (HA.out.below HB1.out) (by omega) (by omega) HEB.out).mono ?_; rintro e w2 ⟨v2, rfl, ho2, hb2⟩; have HB2 := Lib.hid (HB1.out.trans (hb2.mono hz1)); have hz2 := HB2.out.size; have HO2 := Lib.hid ho2; clear ho2 hb2)
      | (go_at_call 24; refine (makes_to (Put_any _ b _ HO2.out.rds (by omega)) HP.out.symm).mono ?_; rintro e w3 ⟨v3, rfl, ho3, hb3⟩; have HB3 := Lib.hid (HB2.out.trans (hb3.mono hz2)); have hz3 := HB3.out.size; obtain ⟨A3, n3, rfl, _, _, _⟩ := ho3.rds; have HO3 := Lib.hid ho3; clear ho3 hb3)
      | (at_builtin; (refine wpList_app rfl (.const (.slice none 0 0)) (.tmp 32) rfl w3.heap.size (.slice none 0 0) _ [] p rfl rfl (Own.nil_ _ _) HO3.out.rds (by simp; omega) (Nat.le_refl _) ?_; intro v4 w4 hown4 hg4 hat4; rw [List.nil_append] at hown4; have hb4 := below_of_grown hg4; have HB4 := Lib.hid hb4; have hz4 := hb4.size; obtain ⟨gq, nq, rfl, hnq, hmq, hgq, hgq', hcq⟩ := hown4.shape (by omega); have HO4 := Lib.hid hown4; unfold maxLen at hmq; clear hown4 hg4 hat4 hb4 hcq)))
    go_loopw [11] (fun t wr => ∃ n : Nat, n ≤ 16 ∧ t = .int .i64 n ∧ Own wr w3.heap.size (.slice (some ⟨gq, 0, none⟩) p.length nq) (flips p k bt n) ∧ Below w3.heap.size w3 wr) (fun t _ => 16 - (intOf t).toNat)
    case atStart => exact ⟨0, by omega, rfl, HO4.out, HB4.out⟩
    case round =>
      obtain ⟨n, hn, rfl, hown, hbw⟩ := hrel
      have HOW := Lib.hid hown
      have HBW := Lib.hid hbw
      clear hown hbw
      by_cases hlt : n < 16
      · have hfl := flips_length p k bt n
        have hsr : ((bt : Int) / 2 ^ n) = ((bt / 2 ^ n : Nat) : Int) := by rw [Int.natCast_ediv, Int.natCast_pow]; rfl
        have hsl : bt / 2 ^ n < 65536 := Nat.lt_of_le_of_lt (Nat.div_le_self _ _) hbt'
        have hand := u16_and_one (bt / 2 ^ n) hsl
        by_cases hbit : bt / 2 ^ n % 2 = 1
        · have e1 : (bits .and .u16 ((bt / 2 ^ n : Nat) : Int) 1 == 1) = true := by rw [hand, hbit]; rfl
          have e2 : (bits .and .u16 ((bt : Int) / 2 ^ n) 1 == 1) = true := by rw [hsr]; exact e1
          have hnext : flips p k bt (n + 1) = (flips p k bt n).set ((k + n) / 8) ((flips p k bt n).getD ((k + n) / 8) 0 ^^^ UInt8.ofNat (2 ^ ((k + n) % 8))) := by
            simp only [flips, if_pos hbit]; rfl
          have HN := Lib.hid hnext
          obtain ⟨gg, off, he, hcell⟩ := HOW.out.rds.cell (k := (k + n) / 8) (by omega)
          injection he with he
          injection he with he1 he2 _
          subst he1 he2
          rw [Nat.zero_add] at hcell
          have hfr := HOW.out.free ((k + n) / 8)
          have hset := HOW.out.set_ ((k + n) / 8) (by omega) ((flips p k bt n).getD ((k + n) / 8) 0 ^^^ UInt8.ofNat (2 ^ ((k + n) % 8)))
          have hsx := turn_bit ((flips p k bt n).getD ((k + n) / 8) 0) ((k + n) % 8) (by omega)
          rw [← HN.out] at hset
          unfold bc at hcell hset
          have HSET := Lib.hid hset
          have hpl := ((flips p k bt n).getD ((k + n) / 8) 0).toNat_lt
          generalize (flips p k bt n).getD ((k + n) / 8) 0 ^^^ UInt8.ofNat (2 ^ ((k + n) % 8)) = y at *
          generalize (flips p k bt n).getD ((k + n) / 8) 0 = x at *
          have q0 : IntKind.i64.wrap ((k : Int) + (n : Int)) = (k : Int) + (n : Int) := IntWalk.i64_in _ (by omega)
          have q1 : (0 : Int) ≤ ((k : Int) + (n : Int)) / 8 := by omega
          have q2 : ((k : Int) + (n : Int)) / 8 < (p.length : Int) := by omega
          have q3 : (0 : Int) ≤ ((k : Int) + (n : Int)) % 8 := by omega
          clear hset hnext hsr hand hbit hfl hsl
          go_wp2
          go_region
          all_goals
            go_wp2
            go_roundw
            case rel => exact ⟨n + 1, by omega, by go_num, HSET.out, (HBW.out.setCell (p := ⟨gq, (k + n) / 8, none⟩) hgq _).drew⟩
            case measure => simp [intOf]; omega
        · have e1 : (bits .and .u16 ((bt / 2 ^ n : Nat) : Int) 1 == 1) = false := by rw [hand, show bt / 2 ^ n % 2 = 0 by omega]; rfl
          have e2 : (bits .and .u16 ((bt : Int) / 2 ^ n) 1 == 1) = false := by rw [hsr]; exact e1
          have hnext : flips p k bt (n + 1) = flips p k bt n := by simp only [flips, if_neg hbit]
          have HN := Lib.hid hnext
          clear hnext hsr hand hbit hfl hsl
          go_wp2
          go_roundw
          case rel => exact ⟨n + 1, by omega, by go_num, by rw [HN.out]; exact HOW.out, HBW.out⟩
          case measure => simp [intOf]; omega
      · obtain rfl : n = 16 := by omega
        have hnf := HNF.out
        go_wp2_with (go_at_call 26; refine (Fine_any _ (flips p k bt 16) _ HOW.out.rds).mono ?_; rintro e w' ⟨rfl, rfl⟩)
        go_ret
        exact ⟨rfl, HB3.out.trans (HBW.out.mono hz3)⟩
end Go.Proofs.Ytelpeccacbeaiaa
