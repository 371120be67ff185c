/- The law NickLaws. -/
import Derived.Test.YtaofomkalnagcaaDoorLawN1
import Derived.Test.YtaofomkalnagcaaDoorRs2

set_option linter.all false

namespace Go.Proofs.YtaofomkalnagcaaDoor
open Go.RowKit M

theorem wf_small (n : Nat) (h : n ≤ 1000000) : (Lit.int .i64 (n : Int)).wf = true := by
  simp [Lit.wf, IntKind.min, IntKind.max, IntKind.signed, IntKind.bits]
  omega
theorem may_of {l m : List UInt8} (h : mayL l = true) (hm : m.length ≤ l.length) (hk : okRunes l = true → okRunes m = true) : mayL m = true := by
  unfold mayL at h ⊢
  simp only [Bool.and_eq_true, decide_eq_true_iff] at h ⊢
  exact ⟨by omega, hk h.2⟩
theorem ext_ext (t : ByteArray) (k j : Nat) (h : j ≤ k) : (t.extract 0 k).extract 0 j = t.extract 0 j := by
  rw [bl_mk ((t.extract 0 k).extract 0 j), bl_mk (t.extract 0 j), bl_to, bl_to, bl_to, List.take_take, Nat.min_eq_left h]

set_option maxRecDepth 100000 in
set_option maxHeartbeats 4000000 in
theorem NickLaws_law (s : ByteArray) (n0 m0 : Int) (w : World) (hs : s.size ≤ maxLen) (hn : (Lit.int .i64 n0).wf = true) (hm : (Lit.int .i64 m0).wf = true) (hC : Codes w) : Calls Tryd.prog 4 #[.string s, .int .i64 n0, .int .i64 m0] w (Holds4 w) := by
  have HC := Lib.hid hC
  clear hC
  have hbn := bounds_i64 hn
  have hbm := bounds_i64 hm
  have hsz := text_size s 30
  obtain ⟨t, ht⟩ : ∃ t, t = s.extract 0 (min s.size 30) := ⟨_, rfl⟩
  have htx := fun w => Text_any s 30 w hs (by omega)
  rw [← ht] at hsz htx
  have HTX := Lib.hid htx
  clear htx ht hn hm
  have a1 : -24 ≤ n0.tmod 25 := by have := Int.lt_tmod_of_pos n0 (show (0 : Int) < 25 by decide); omega
  have a2 : n0.tmod 25 ≤ 24 := by have := Int.tmod_lt_of_pos n0 (show (0 : Int) < 25 by decide); omega
  have a3 : -24 ≤ m0.tmod 25 := by have := Int.lt_tmod_of_pos m0 (show (0 : Int) < 25 by decide); omega
  have a4 : m0.tmod 25 ≤ 24 := by have := Int.tmod_lt_of_pos m0 (show (0 : Int) < 25 by decide); omega
  obtain ⟨N, hN⟩ : ∃ N : Nat, n0.tmod 25 % 25 = (N : Int) := ⟨(n0.tmod 25 % 25).toNat, by omega⟩
  obtain ⟨K, hK⟩ : ∃ K : Nat, m0.tmod 25 % 25 = (K : Int) := ⟨(m0.tmod 25 % 25).toNat, by omega⟩
  have hN2 : (n0.tmod 25 + 25) % 25 = (N : Int) := by omega
  have hK2 : (m0.tmod 25 + 25) % 25 = (K : Int) := by omega
  have bN : N ≤ 24 := by omega
  have bK : K ≤ 24 := by omega
  -- the cut
  have hcl := cut_le _ (bl t) N (Nat.le_refl _)
  rw [bl_length] at hcl
  obtain ⟨c, hc⟩ : ∃ c, c = t.extract 0 (cutL (bl t) N) := ⟨_, rfl⟩
  have hcs : c.size = cutL (bl t) N := by rw [hc, ByteArray.size_extract]; omega
  have hcN : (c.size : Int) ≤ (N : Int) := by omega
  have hct : (c.size : Int) ≤ (t.size : Int) := by omega
  have hpre : t.extract 0 c.size = c := by rw [hcs, hc]
  have hblc : bl c = (bl t).take (cutL (bl t) N) := by rw [hc, bl_to]
  obtain ⟨z, hz⟩ : ∃ z, z = t.extract 0 (cutL (bl t) (min (N : Int) (K : Int))) := ⟨_, rfl⟩
  have hc1 := fun w => Cut_any t N w (by omega) (wf_small N (by omega))
  have hc2 := fun w => Cut_any c K w (by omega) (wf_small K (by omega))
  have hc3 := fun w => Cut_any t (min (N : Int) (K : Int)) w (by omega) (by rw [show min (N : Int) (K : Int) = ((min N K : Nat) : Int) by omega]; exact wf_small _ (by omega))
  have hzc : c.extract 0 (cutL (bl c) K) = z := by
    rw [hblc, cut_take _ (bl t) N K (Nat.le_refl _), hz, hc]
    exact ext_ext t _ _ (by
      have e := cut_take _ (bl t) N K (Nat.le_refl _)
      have := (cut_le _ ((bl t).take (cutL (bl t) N)) K (Nat.le_refl _)).1
      rw [e, List.length_take] at this
      omega)
  rw [← hc] at hc1
  rw [hzc] at hc2
  rw [← hz] at hc3
  have HC1 := Lib.hid hc1
  have HC2 := Lib.hid hc2
  have HC3 := Lib.hid hc3
  -- the plain one
  obtain ⟨p, hp⟩ : ∃ p : ByteArray, p = ⟨(plainL (bl t)).toArray⟩ := ⟨_, rfl⟩
  have hblp : bl p = plainL (bl t) := by rw [hp]; simp [bl]
  have hpl : p.size = (rs (bl t)).length := by rw [← bl_length, hblp, plain_len]
  have hrl := rs_len_le _ (bl t) (Nat.le_refl _)
  rw [bl_length] at hrl
  have hp1 := fun w => Plain_any t w (by omega)
  have hp2 := fun w => Plain_any p w (by omega)
  have hl1 := fun w => Len_any t w (by omega)
  rw [← hp] at hp1
  rw [hblp, plain_plain, ← hp] at hp2
  rw [← hpl] at hl1
  have HP1 := Lib.hid hp1
  have HP2 := Lib.hid hp2
  have HL1 := Lib.hid hl1
  have hmp := fun w => May_any p w
  have hmpv : mayL (bl p) = decide (p.size ≤ 20) := by
    unfold mayL
    rw [bl_length, hblp, plain_ok, Bool.and_true]
  rw [hmpv] at hmp
  have HMP := Lib.hid hmp
  have hmt := fun w => May_any t w
  have hmc := fun w => May_any c w
  have himp : mayL (bl t) = true → mayL (bl c) = true := fun h => may_of h (by rw [bl_length, bl_length]; omega) (by rw [hblc]; exact ok_cut _ (bl t) N (Nat.le_refl _))
  have hps : p.size ≤ 30 := by omega
  clear hc1 hc2 hc3 hzc hz hc hcs hblc hcl hp1 hp2 hl1 hmp hmpv hblp hp hpl hrl
  obtain ⟨x, y, hx, hy, hxy⟩ : ∃ x y, mayL (bl t) = x ∧ mayL (bl c) = y ∧ (x = true → y = true) := ⟨_, _, rfl, rfl, himp⟩
  rw [hx] at hmt
  rw [hy] at hmc
  clear hx hy himp
  have HMT := Lib.hid hmt
  have HMC := Lib.hid hmc
  clear hmt hmc
  have hxy2 : (x = true ∧ y = true) ∨ x = false := by
    cases x
    · exact .inr rfl
    · exact .inl ⟨rfl, hxy rfl⟩
  clear hxy
  rcases hxy2 with ⟨rfl, rfl⟩ | rfl
  all_goals
      rcases h3 : decide (p.size ≤ 20) with _ | _
      all_goals
        have h3' : decide ((p.size : Int) ≤ 20) = decide (p.size ≤ 20) := by rw [Bool.eq_iff_iff, decide_eq_true_iff, decide_eq_true_iff]; omega
        rw [h3] at h3' HMP
        clear h3
        go_enter Tryd.func4, Tryd.ntmps4
        go_wp2_with (first
          | (go_at_call 20; refine (begun4_any _ HC.out).mono ?_; rintro e w1 ⟨rfl, hb1⟩; have HB1 := Lib.hid hb1; have hz1 := hb1.size; clear hb1)
          | (go_at_call 21; refine (HTX.out _).mono ?_; rintro e w' ⟨rfl, rfl⟩)
          | (go_at_call_of 26 (Value.string c); refine (HC2.out _).mono ?_; rintro e w4 ⟨rfl, hb⟩; have HB4 := Lib.hid (HB3.out.trans (hb.mono hz3)); have hz4 := HB4.out.size; clear hb)
          | (go_at_call_of 26 (Value.int IntKind.i64 (min (N : Int) (K : Int))); refine (HC3.out _).mono ?_; rintro e w5 ⟨rfl, hb⟩; have HB5 := Lib.hid (HB4.out.trans (hb.mono hz4)); have hz5 := HB5.out.size; clear hb)
          | (go_at_call 26; refine (HC1.out _).mono ?_; rintro e w2 ⟨rfl, hb⟩; have HB2 := Lib.hid (HB1.out.trans (hb.mono hz1)); have hz2 := HB2.out.size; clear hb)
          | (go_at_call_of 28 (Value.string p); refine (HP2.out _).mono ?_; rintro e w6 ⟨rfl, hb⟩; have HB6 := Lib.hid (HB5.out.trans (hb.mono hz5)); have hz6 := HB6.out.size; clear hb)
          | (go_at_call 28; refine (HP1.out _).mono ?_; rintro e w3 ⟨rfl, hb⟩; have HB3 := Lib.hid (HB2.out.trans (hb.mono hz2)); have hz3 := HB3.out.size; clear hb)
          | (go_at_call 24; refine (HL1.out _).mono ?_; rintro e w7 ⟨rfl, hb⟩; have HB7 := Lib.hid (HB6.out.trans (hb.mono hz6)); have hz7 := HB7.out.size; clear hb)
          | (go_at_call_of 22 (Value.string t); refine (HMT.out _).mono ?_; rintro e w8 ⟨rfl, hb⟩; have HB8 := Lib.hid (HB7.out.trans (hb.mono hz7)); have hz8 := HB8.out.size; have HBX := HB8; have hzx := hz8; clear hb)
          | (go_at_call_of 22 (Value.string c); refine (HMC.out _).mono ?_; rintro e w9 ⟨rfl, hb⟩; clear HBX hzx; have HBX := Lib.hid (HB8.out.trans (hb.mono hz8)); have hzx := HBX.out.size; clear hb)
          | (go_at_call_of 22 (Value.string p); refine (HMP.out _).mono ?_; rintro e wA ⟨rfl, hb⟩; have HBA := Lib.hid (HBX.out.trans (hb.mono hzx)); clear hb))
        go_ret
        exact ⟨rfl, HBA.out⟩
end Go.Proofs.YtaofomkalnagcaaDoor
