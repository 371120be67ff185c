/- The law NickJoin. -/
import Derived.Test.YtaofomkalnagcaaDoorLawN2

set_option linter.all false

namespace Go.Proofs.YtaofomkalnagcaaDoor
open Go.RowKit M

theorem may_ok {l : List UInt8} (h : mayL l = true) : okRunes l = true := by
  unfold mayL at h
  simp only [Bool.and_eq_true] at h
  exact h.2
theorem plain_join {a b : List UInt8} (h : okRunes a = true) : plainL (a ++ b) = plainL a ++ plainL b := by
  unfold plainL
  rw [rs_join _ a b (Nat.le_refl _) h, List.flatMap_append]
theorem ok_join {a b : List UInt8} (h : okRunes a = true) : okRunes (a ++ b) = okRunes b := by
  have h2 := h
  unfold okRunes at h ⊢
  rw [rs_join _ a b (Nat.le_refl _) h2, List.all_append, h, Bool.true_and]

set_option maxRecDepth 100000 in
set_option maxHeartbeats 4000000 in
theorem NickJoin_law (sa sb : ByteArray) (w : World) (ha : sa.size ≤ maxLen) (hb : sb.size ≤ maxLen) (hC : Codes w) : Calls Tryd.prog 11 #[.string sa, .string sb] w (Holds4 w) := by
  have HC := Lib.hid hC
  clear hC
  have hsa := text_size sa 20
  have hsb := text_size sb 20
  obtain ⟨a, hea⟩ : ∃ t, t = sa.extract 0 (min sa.size 20) := ⟨_, rfl⟩
  obtain ⟨b, heb⟩ : ∃ t, t = sb.extract 0 (min sb.size 20) := ⟨_, rfl⟩
  have hta := fun w => Text_any sa 20 w ha (by omega)
  have htb := fun w => Text_any sb 20 w hb (by omega)
  rw [← hea] at hsa hta
  rw [← heb] at hsb htb
  have HTA := Lib.hid hta
  have HTB := Lib.hid htb
  have hma := fun w => May_any a w
  have hmb := fun w => May_any b w
  clear hta htb hea heb ha hb
  rcases h1 : mayL (bl a) with _ | _
  · rw [h1] at hma
    have HMA := Lib.hid hma
    clear hma hmb h1
    go_enter Tryd.func11, Tryd.ntmps11
    go_wp2_with (first
      | (go_at_call 20; refine (begun4_any _ HC.out).mono ?_; rintro e w1 ⟨rfl, hb1⟩; have HB1 := Lib.hid hb1; have hz1 := hb1.size; clear hb1)
      | (go_at_call_of 21 (Value.string sa); refine (HTA.out _).mono ?_; rintro e w' ⟨rfl, rfl⟩)
      | (go_at_call_of 21 (Value.string sb); refine (HTB.out _).mono ?_; rintro e w' ⟨rfl, rfl⟩)
      | (go_at_call_of 22 (Value.string a); refine (HMA.out _).mono ?_; rintro e w2 ⟨rfl, hb⟩; have HB2 := Lib.hid (HB1.out.trans (hb.mono hz1)); clear hb))
    go_ret
    exact ⟨rfl, HB2.out⟩
  · rcases h2 : mayL (bl b) with _ | _
    · rw [h1] at hma
      rw [h2] at hmb
      have HMA := Lib.hid hma
      have HMB := Lib.hid hmb
      clear hma hmb h1 h2
      go_enter Tryd.func11, Tryd.ntmps11
      go_wp2_with (first
        | (go_at_call 20; refine (begun4_any _ HC.out).mono ?_; rintro e w1 ⟨rfl, hb1⟩; have HB1 := Lib.hid hb1; have hz1 := hb1.size; clear hb1)
        | (go_at_call_of 21 (Value.string sa); refine (HTA.out _).mono ?_; rintro e w' ⟨rfl, rfl⟩)
        | (go_at_call_of 21 (Value.string sb); refine (HTB.out _).mono ?_; rintro e w' ⟨rfl, rfl⟩)
        | (go_at_call_of 22 (Value.string a); refine (HMA.out _).mono ?_; rintro e w2 ⟨rfl, hb⟩; have HB2 := Lib.hid (HB1.out.trans (hb.mono hz1)); have hz2 := HB2.out.size; clear hb)
        | (go_at_call_of 22 (Value.string b); refine (HMB.out _).mono ?_; rintro e w3 ⟨rfl, hb⟩; have HB3 := Lib.hid (HB2.out.trans (hb.mono hz2)); clear hb))
      go_ret
      exact ⟨rfl, HB3.out⟩
    · rw [h1] at hma
      rw [h2] at hmb
      have HMA := Lib.hid hma
      have HMB := Lib.hid hmb
      have hoa := may_ok h1
      have hob := may_ok h2
      have hla := rs_len_le _ (bl a) (Nat.le_refl _)
      have hlb := rs_len_le _ (bl b) (Nat.le_refl _)
      rw [bl_length] at hla hlb
      obtain ⟨la, hla0⟩ : ∃ n, n = (rs (bl a)).length := ⟨_, rfl⟩
      obtain ⟨lb, hlb0⟩ : ∃ n, n = (rs (bl b)).length := ⟨_, rfl⟩
      have hsab : (a ++ b).size = a.size + b.size := by simp
      have hblab := bl_append a b
      have hmab := fun w => May_any (a ++ b) w
      have hmv : mayL (bl (a ++ b)) = decide (a.size + b.size ≤ 20) := by
        unfold mayL
        rw [bl_length, hsab, hblab, ok_join hoa, hob, Bool.and_true]
      rw [hmv] at hmab
      have hl1 := fun w => Len_any (a ++ b) w (by omega)
      have hl2 := fun w => Len_any a w (by omega)
      have hl3 := fun w => Len_any b w (by omega)
      rw [hblab, rs_join _ _ _ (Nat.le_refl _) hoa, List.length_append, ← hla0, ← hlb0] at hl1
      rw [← hla0] at hl2 hla
      rw [← hlb0] at hl3 hlb
      obtain ⟨pa, hpa⟩ : ∃ p : ByteArray, p = ⟨(plainL (bl a)).toArray⟩ := ⟨_, rfl⟩
      obtain ⟨pb, hpb⟩ : ∃ p : ByteArray, p = ⟨(plainL (bl b)).toArray⟩ := ⟨_, rfl⟩
      have hp1 := fun w => Plain_any (a ++ b) w (by omega)
      have hp2 := fun w => Plain_any a w (by omega)
      have hp3 := fun w => Plain_any b w (by omega)
      have hpp : (⟨(plainL (bl (a ++ b))).toArray⟩ : ByteArray) = pa ++ pb := by
        rw [bl_mk (pa ++ pb), hblab, plain_join hoa, bl_append, hpa, hpb]
        simp [bl]
      rw [hpp] at hp1
      rw [← hpa] at hp2
      rw [← hpb] at hp3
      have hpas : pa.size ≤ 20 := by
        have : pa.size = la := by rw [← bl_length, hpa]; simp [bl, plain_len, hla0]
        omega
      have hpbs : pb.size ≤ 20 := by
        have : pb.size = lb := by rw [← bl_length, hpb]; simp [bl, plain_len, hlb0]
        omega
      have HMAB := Lib.hid hmab
      have HL1 := Lib.hid hl1
      have HL2 := Lib.hid hl2
      have HL3 := Lib.hid hl3
      have HP1 := Lib.hid hp1
      have HP2 := Lib.hid hp2
      have HP3 := Lib.hid hp3
      clear hma hmb h1 h2 hoa hob hmab hmv hl1 hl2 hl3 hp1 hp2 hp3 hpp hpa hpb hla0 hlb0 hblab hsab
      rcases h3 : decide (a.size + b.size ≤ 20) with _ | _
      all_goals
        have h3' : decide ((a.size : Int) + (b.size : Int) ≤ 20) = decide (a.size + b.size ≤ 20) := by rw [Bool.eq_iff_iff, decide_eq_true_iff, decide_eq_true_iff]; omega
        rw [h3] at h3' HMAB
        clear h3
        go_enter Tryd.func11, Tryd.ntmps11
        go_wp2_with (first
          | (go_at_call 20; refine (begun4_any _ HC.out).mono ?_; rintro e w1 ⟨rfl, hb1⟩; have HB1 := Lib.hid hb1; have hz1 := hb1.size; clear hb1)
          | (go_at_call_of 21 (Value.string sa); refine (HTA.out _).mono ?_; rintro e w' ⟨rfl, rfl⟩)
          | (go_at_call_of 21 (Value.string sb); refine (HTB.out _).mono ?_; rintro e w' ⟨rfl, rfl⟩)
          | (go_at_call_of 22 (Value.string a); refine (HMA.out _).mono ?_; rintro e w2 ⟨rfl, hb⟩; have HB2 := Lib.hid (HB1.out.trans (hb.mono hz1)); have hz2 := HB2.out.size; clear hb)
          | (go_at_call_of 22 (Value.string b); refine (HMB.out _).mono ?_; rintro e w3 ⟨rfl, hb⟩; have HB3 := Lib.hid (HB2.out.trans (hb.mono hz2)); have hz3 := HB3.out.size; clear hb)
          | (go_at_call_of 22 (Value.string (a ++ b)); refine (HMAB.out _).mono ?_; rintro e w4 ⟨rfl, hb⟩; have HB4 := Lib.hid (HB3.out.trans (hb.mono hz3)); have hz4 := HB4.out.size; clear hb)
          | (go_at_call_of 24 (Value.string (a ++ b)); refine (HL1.out _).mono ?_; rintro e w5 ⟨rfl, hb⟩; have HB5 := Lib.hid (HB4.out.trans (hb.mono hz4)); have hz5 := HB5.out.size; clear hb)
          | (go_at_call_of 24 (Value.string a); refine (HL2.out _).mono ?_; rintro e w6 ⟨rfl, hb⟩; have HB6 := Lib.hid (HB5.out.trans (hb.mono hz5)); have hz6 := HB6.out.size; clear hb)
          | (go_at_call_of 24 (Value.string b); refine (HL3.out _).mono ?_; rintro e w7 ⟨rfl, hb⟩; have HB7 := Lib.hid (HB6.out.trans (hb.mono hz6)); have hz7 := HB7.out.size; clear hb)
          | (go_at_call_of 28 (Value.string (a ++ b)); refine (HP1.out _).mono ?_; rintro e w8 ⟨rfl, hb⟩; have HB8 := Lib.hid (HB7.out.trans (hb.mono hz7)); have hz8 := HB8.out.size; clear hb)
          | (go_at_call_of 28 (Value.string a); refine (HP2.out _).mono ?_; rintro e w9 ⟨rfl, hb⟩; have HB9 := Lib.hid (HB8.out.trans (hb.mono hz8)); have hz9 := HB9.out.size; clear hb)
          | (go_at_call_of 28 (Value.string b); refine (HP3.out _).mono ?_; rintro e wA ⟨rfl, hb⟩; have HBA := Lib.hid (HB9.out.trans (hb.mono hz9)); clear hb))
        go_ret
        exact ⟨rfl, HBA.out⟩
end Go.Proofs.YtaofomkalnagcaaDoor
