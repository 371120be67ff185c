/- The law NickBroken. -/
import Derived.Test.YtaofomkalnagcaaDoorLawN3

set_option linter.all false

namespace Go.Proofs.YtaofomkalnagcaaDoor.M
theorem ret_bool4 {a b : Bool} {P : Prop} {e : Ending} (h : e = .returned (.bool a) ∧ P) (hab : a = b) : e = .returned (.bool b) ∧ P := by rw [← hab]; exact h
theorem not_ok_broken {b : List UInt8} (h0 : b ≠ []) (h : dec b = (65533, 1)) : okRunes b = false := by
  rw [ok_cons h0, h]
  have : (kind ((65533 : Nat) : Int) != 0) = false := by decide
  rw [this, Bool.false_and]
/-- A name, and a broken rune: cut ahead of it. -/
theorem cut_broken : ∀ (n : Nat) (a b : List UInt8) (m : Int), a.length ≤ n → okRunes a = true → dec b = (65533, 1) → (a.length : Int) ≤ m → cutL (a ++ b) m = a.length
  | 0, a, b, m, h, _, hb, _ => by
    have : a = [] := List.eq_nil_of_length_eq_zero (by omega)
    subst this
    rw [List.nil_append, cutL_stop (.inr (.inl hb))]
    rfl
  | n + 1, a, b, m, h, hok, hb, hm => by
    by_cases h0 : a = []
    · subst h0
      rw [List.nil_append, cutL_stop (.inr (.inl hb))]
      rfl
    · obtain ⟨h1, h2, h3⟩ := ok_not_broken h0 hok
      have hw := dec_width h0
      have e : a ++ b = a.take (dec a).2 ++ (a.drop (dec a).2 ++ b) := by rw [← List.append_assoc, List.take_append_drop]
      have hd : dec (a ++ b) = dec a := by rw [e]; exact dec_own_bytes h0 h1 _
      have hne : a ++ b ≠ [] := by intro e; exact h0 (List.append_eq_nil_iff.1 e).1
      rw [cutL_go (by rw [hd]; rintro (e | e | e); exact hne e; exact h1 e; omega), hd, List.drop_append_of_le_length hw.2, cut_broken n _ b _ (by simp; omega) h3 hb (by simp; omega)]
      simp only [List.length_drop]
      omega
/-- k stands within a rune that begins at p. -/
def Within (l : List UInt8) (k p : Nat) : Prop := p < k ∧ k < p + (dec (l.drop p)).2 ∧ p < l.length ∧ okRunes (l.take p) = true ∧ okRunes (l.drop p) = true
theorem within_end {l : List UInt8} {k p : Nat} (h : Within l k p) : k < l.length ∧ okRunes (l.take k) = false ∧ ∀ m : Int, (p : Int) ≤ m → cutL (l.take k) m = p := by
  obtain ⟨h1, h2, h3, h4, h5⟩ := h
  have hne : l.drop p ≠ [] := by
    intro e
    have := congrArg List.length e
    rw [List.length_drop, List.length_nil] at this
    omega
  have hw := dec_width hne
  rw [List.length_drop] at hw
  obtain ⟨hb, _, _⟩ := ok_not_broken hne h5
  have hd := dec_cut hne hb (j := k - p) (by omega) (by omega)
  have e : l.take k = l.take p ++ (l.drop p).take (k - p) := by
    have := List.take_add (l := l) (i := p) (j := k - p)
    rwa [show p + (k - p) = k by omega] at this
  have hne2 : (l.drop p).take (k - p) ≠ [] := by
    intro e
    have := congrArg List.length e
    rw [List.length_take, List.length_drop, List.length_nil] at this
    omega
  have hl : (l.take p).length = p := by rw [List.length_take]; omega
  refine ⟨by omega, ?_, fun m hm => ?_⟩
  · rw [e]
    have hj : okRunes (l.take p ++ (l.drop p).take (k - p)) = okRunes ((l.drop p).take (k - p)) := by
      unfold okRunes
      rw [rs_join _ _ _ (Nat.le_refl _) h4, List.all_append]
      have : (rs (l.take p)).all (fun d => kind d.1 != 0) = true := h4
      rw [this, Bool.true_and]
    rw [hj]
    exact not_ok_broken hne2 hd
  · rw [e, cut_broken _ _ _ m (Nat.le_refl _) h4 hd (by rw [hl]; exact hm), hl]
theorem ok_more {l : List UInt8} {p : Nat} (h0 : p < l.length) (h1 : okRunes (l.take p) = true) (h2 : okRunes (l.drop p) = true) : okRunes (l.take (p + (dec (l.drop p)).2)) = true ∧ okRunes (l.drop (p + (dec (l.drop p)).2)) = true := by
  have hne : l.drop p ≠ [] := by
    intro e
    have := congrArg List.length e
    rw [List.length_drop, List.length_nil] at this
    omega
  have hw := dec_width hne
  obtain ⟨hb, hk, h3⟩ := ok_not_broken hne h2
  rw [List.drop_drop] at h3
  refine ⟨?_, h3⟩
  rw [List.take_add]
  have hd : dec ((l.drop p).take (dec (l.drop p)).2) = dec (l.drop p) := by
    have := dec_own_bytes hne hb []
    rwa [List.append_nil] at this
  have hne2 : (l.drop p).take (dec (l.drop p)).2 ≠ [] := by
    intro e
    have := congrArg List.length e
    rw [List.length_take, List.length_nil] at this
    omega
  have hj : okRunes (l.take p ++ (l.drop p).take (dec (l.drop p)).2) = okRunes ((l.drop p).take (dec (l.drop p)).2) := by
    unfold okRunes
    rw [rs_join _ _ _ (Nat.le_refl _) h1, List.all_append]
    have : (rs (l.take p)).all (fun d => kind d.1 != 0) = true := h1
    rw [this, Bool.true_and]
  have hdn : ((l.drop p).take (dec (l.drop p)).2).drop (dec (l.drop p)).2 = [] := List.drop_eq_nil_of_le (by rw [List.length_take]; omega)
  rw [hj, ok_cons hne2, hd, hdn]
  have : okRunes ([] : List UInt8) = true := rfl
  rw [this]
  simpa using hk
end Go.Proofs.YtaofomkalnagcaaDoor.M
namespace Go.Proofs.YtaofomkalnagcaaDoor
open Go.RowKit M

set_option maxRecDepth 100000 in
set_option maxHeartbeats 4000000 in
theorem NickBroken_law (s0 : ByteArray) (at0 : Int) (w : World) (hs : s0.size ≤ maxLen) (hat : (Lit.int .i64 at0).wf = true) (hC : Codes w) : Calls Tryd.prog 13 #[.string s0, .int .i64 at0] w (Holds4 w) := by
  have HC := Lib.hid hC
  clear hC
  have hbx := bounds_i64 hat
  have hsz := text_size s0 20
  obtain ⟨s, hes⟩ : ∃ t, t = s0.extract 0 (min s0.size 20) := ⟨_, rfl⟩
  have htx := fun w => Text_any s0 20 w hs (by omega)
  rw [← hes] at hsz htx
  have HTX := Lib.hid htx
  have hms := fun w => May_any s w
  clear htx hes hs hat
  rcases h1 : mayL (bl s) with _ | _
  · rw [h1] at hms
    have HMS := Lib.hid hms
    clear hms h1
    go_enter Tryd.func13, Tryd.ntmps13
    go_wp2_with (first
      | (go_at_call 20; refine (begun4_any _ HC.out).mono ?_; rintro e w1 ⟨rfl, hb1⟩; have HB1 := Lib.hid hb1; have hz1 := hb1.size; clear hb1)
      | (go_at_call 21; refine (HTX.out _).mono ?_; rintro e w' ⟨rfl, rfl⟩)
      | (go_at_call 22; refine (HMS.out _).mono ?_; rintro e w2 ⟨rfl, hb⟩; have HB2 := Lib.hid (HB1.out.trans (hb.mono hz1)); clear hb))
    go_ret
    exact ⟨rfl, HB2.out⟩
  · rw [h1] at hms
    have HMS := Lib.hid hms
    have hok := may_ok h1
    have HOK := Lib.hid hok
    clear hms h1 hok
    by_cases hneg : at0 < 0
    · go_enter Tryd.func13, Tryd.ntmps13
      go_wp2_with (first
        | (go_at_call 20; refine (begun4_any _ HC.out).mono ?_; rintro e w1 ⟨rfl, hb1⟩; have HB1 := Lib.hid hb1; have hz1 := hb1.size; clear hb1)
        | (go_at_call 21; refine (HTX.out _).mono ?_; rintro e w' ⟨rfl, rfl⟩)
        | (go_at_call 22; refine (HMS.out _).mono ?_; rintro e w2 ⟨rfl, hb⟩; have HB2 := Lib.hid (HB1.out.trans (hb.mono hz1)); clear hb))
      go_ret
      exact ⟨rfl, HB2.out⟩
    · have h0 : 0 ≤ at0 := by omega
      obtain ⟨k, hk⟩ : ∃ k : Nat, at0 % ((s.size : Int) + 1) = (k : Int) := ⟨(at0 % ((s.size : Int) + 1)).toNat, by have := Int.emod_nonneg at0 (show (s.size : Int) + 1 ≠ 0 by omega); omega⟩
      have hks : k ≤ s.size := by have := Int.emod_lt_of_pos at0 (show (0 : Int) < (s.size : Int) + 1 by omega); omega
      have hnz : ((s.size : Int) + 1 == 0) = false := by rw [beq_eq_false_iff_ne]; omega
      have hkt : at0.tmod ((s.size : Int) + 1) = (k : Int) := by rw [Int.tmod_eq_emod_of_nonneg h0]; exact hk
      obtain ⟨t, ht⟩ : ∃ t, t = s.extract 0 k := ⟨_, rfl⟩
      have hts : t.size = k := by rw [ht, ByteArray.size_extract]; omega
      have hblt : bl t = (bl s).take k := by rw [ht, bl_to]
      have hte : s.extract 0 k = t := ht.symm
      have hmt : okRunes ((bl s).take k) = true → ∀ w, Calls Tryd.prog 22 #[.string t] w fun e w' => e = .returned (.bool true) ∧ Below w.heap.size w w' := by
        intro h w
        refine (May_any t w).mono fun _ _ hh => ret_bool4 hh ?_
        unfold mayL
        rw [bl_length, hblt, h, decide_eq_true (by omega)]
        rfl
      have HMT := Lib.hid hmt
      have HTS := Lib.hid hts
      have HBLT := Lib.hid hblt
      clear hmt hts hblt ht hneg
      go_enter Tryd.func13, Tryd.ntmps13
      go_wp2_with (first
        | (go_at_call 20; refine (begun4_any _ HC.out).mono ?_; rintro e w1 ⟨rfl, hb1⟩; have HB1 := Lib.hid hb1; have hz1 := hb1.size; clear hb1)
        | (go_at_call 21; refine (HTX.out _).mono ?_; rintro e w' ⟨rfl, rfl⟩)
        | (go_at_call 22; refine (HMS.out _).mono ?_; rintro e w2 ⟨rfl, hb⟩; have HB2 := Lib.hid (HB1.out.trans (hb.mono hz1)); have hz2 := HB2.out.size; clear hb))
      go_loopw [8] (fun b wr => ∃ pos : Nat, pos ≤ s.size ∧ (∃ x, b = .bool x) ∧ (pos ≤ k ∧ okRunes ((bl s).take pos) = true ∧ okRunes ((bl s).drop pos) = true ∨ k < pos ∧ ∃ p, Within (bl s) k p) ∧ wr.heap[w2.heap.size]? = some (.stringIter s pos) ∧ Below w2.heap.size w2 wr) (fun _ wr => s.size - wr.iterPos w2.heap.size)
      case atStart => exact ⟨0, by omega, ⟨_, rfl⟩, .inl ⟨by omega, rfl, HOK.out⟩, World.iter_heap w2 s 0, (Below.refl _ w2).alloc (Nat.le_refl _) _⟩
      case round =>
        obtain ⟨pos, hp0, ⟨x, rfl⟩, hinv, hit, hbw⟩ := hrel
        have HIT := Lib.hid hit
        have HBW := Lib.hid hbw
        have HINV := Lib.hid hinv
        have hzw := hbw.size
        clear hit hbw hinv
        by_cases hp : pos < s.size
        · have hnx : ∀ ty, (Instr.next (.pointer (some ⟨w2.heap.size, 0, none⟩)) true ty).run Tryd.prog wr = _ := fun ty => Lib.run_next_any_at wr w2.heap.size s pos ty HIT.out hp
          have hw := step_width hp
          have hd : Utf8.decode s pos = dec ((bl s).drop pos) := decode_drop s pos
          have hit2 := Lib.iterAt_heap wr w2.heap.size s pos (pos + (Utf8.decode s pos).2) HIT.out
          have hbw2 := Lib.below_iterAt HBW.out (k := w2.heap.size) (Nat.le_refl _) s (pos + (Utf8.decode s pos).2)
          rw [hd] at hnx hit2 hbw2
          have HIT2 := Lib.hid hit2
          have HBW2 := Lib.hid hbw2
          clear hit2 hbw2 hd
          have hnext : pos ≠ k → (pos + (dec ((bl s).drop pos)).2 ≤ k ∧ okRunes ((bl s).take (pos + (dec ((bl s).drop pos)).2)) = true ∧ okRunes ((bl s).drop (pos + (dec ((bl s).drop pos)).2)) = true ∨ k < pos + (dec ((bl s).drop pos)).2 ∧ ∃ p, Within (bl s) k p) := by
            intro hne
            rcases HINV.out with ⟨a1, a2, a3⟩ | ⟨a1, a2⟩
            · by_cases hle : pos + (dec ((bl s).drop pos)).2 ≤ k
              · exact .inl ⟨hle, ok_more (by rw [bl_length]; exact hp) a2 a3⟩
              · exact .inr ⟨by omega, pos, by omega, by omega, by rw [bl_length]; exact hp, a2, a3⟩
            · exact .inr ⟨by omega, a2⟩
          have hnow : pos = k → okRunes ((bl s).take k) = true := by
            rintro rfl
            rcases HINV.out with ⟨a1, a2, a3⟩ | ⟨a1, a2⟩
            · exact a2
            · omega
          have HNEXT := Lib.hid hnext
          have HNOW := Lib.hid hnow
          clear hnext hnow
          generalize dec ((bl s).drop pos) = d at *
          by_cases hpk : pos = k
          · have t1 : ((pos : Int) == (k : Int)) = true := by rw [beq_iff_eq]; omega
            have t1' : (pos == k) = true := by rw [beq_iff_eq]; exact hpk
            have hm := HMT.out (HNOW.out hpk)
            have HM := Lib.hid hm
            clear hm hpk
            go_wp2_with (go_at_call 22; refine (HM.out _).mono ?_; rintro e w3 ⟨rfl, hb⟩; have HB3 := Lib.hid hb; clear hb)
            go_ret
            exact ⟨rfl, HB2.out.trans ((HBW2.out.trans (HB3.out.mono (by rw [Lib.iterAt_size]; exact hzw))).mono hz2)⟩
          · have t1 : ((pos : Int) == (k : Int)) = false := by rw [beq_eq_false_iff_ne]; omega
            have t1' : (pos == k) = false := by rw [beq_eq_false_iff_ne]; exact hpk
            have hinv2 := HNEXT.out hpk
            have HI2 := Lib.hid hinv2
            clear hinv2 hpk
            cases x
            · go_wp2
              go_roundw
              case rel => exact ⟨pos + d.2, hw.2, ⟨_, rfl⟩, HI2.out, HIT2.out, HBW2.out⟩
              case measure =>
                simp only [World.iterPos, HIT2.out, HIT.out]
                omega
            · go_wp2
              all_goals
                go_roundw
                case rel => exact ⟨pos + d.2, hw.2, ⟨_, rfl⟩, HI2.out, HIT2.out, HBW2.out⟩
                case measure =>
                  simp only [World.iterPos, HIT2.out, HIT.out]
                  omega
        · have hnx : ∀ ty, (Instr.next (.pointer (some ⟨w2.heap.size, 0, none⟩)) true ty).run Tryd.prog wr = _ := fun ty => Lib.run_next_end_at wr w2.heap.size s pos ty HIT.out hp
          rcases HINV.out with ⟨a1, a2, a3⟩ | ⟨a1, p, hwi⟩
          · have hkk : k = s.size := by omega
            have t1 : ((k : Int) == (s.size : Int)) = true := by rw [beq_iff_eq]; omega
            have t1' : (k == s.size) = true := by rw [beq_iff_eq]; exact hkk
            have hm := HMT.out (by rw [hkk, ← bl_length, List.take_length]; exact HOK.out)
            have HM := Lib.hid hm
            clear hm a1 a2 a3 hkk
            go_wp2_with (go_at_call 22; refine (HM.out _).mono ?_; rintro e w3 ⟨rfl, hb⟩; have HB3 := Lib.hid hb; clear hb)
            go_ret
            exact ⟨rfl, HB2.out.trans ((HBW.out.trans (HB3.out.mono hzw)).mono hz2)⟩
          · obtain ⟨b1, b2, b3⟩ := within_end hwi
            have hpk := hwi.1
            have hokp := hwi.2.2.2.1
            rw [bl_length] at b1
            have t1 : ((k : Int) == (s.size : Int)) = false := by rw [beq_eq_false_iff_ne]; omega
            have t1' : (k == s.size) = false := by rw [beq_eq_false_iff_ne]; omega
            obtain ⟨c, hc⟩ : ∃ c, c = s.extract 0 p := ⟨_, rfl⟩
            have hcs : c.size = p := by rw [hc, ByteArray.size_extract]; omega
            have hblc : bl c = (bl s).take p := by rw [hc, bl_to]
            have hcut := fun w => Cut_any t 20 w (by rw [HTS.out]; omega) (by decide)
            have hte2 : t.extract 0 (cutL (bl t) 20) = c := by
              rw [HBLT.out, b3 20 (by omega), hc, ← hte]
              exact ext_ext s k p (by omega)
            rw [hte2] at hcut
            have hmt2 := fun w => May_any t w
            have hmtv : mayL (bl t) = false := by
              unfold mayL
              rw [HBLT.out, b2, Bool.and_false]
            rw [hmtv] at hmt2
            have hmc := fun w => May_any c w
            have hmcv : mayL (bl c) = true := by
              unfold mayL
              rw [bl_length, hcs, hblc, hokp, decide_eq_true (by omega)]
              rfl
            rw [hmcv] at hmc
            have hsc : s.extract 0 c.size = c := by rw [hcs, hc]
            have hct : (c.size : Int) < (t.size : Int) := by rw [hcs, HTS.out]; omega
            have hcss : (c.size : Int) ≤ (s.size : Int) := by omega
            have HCUT := Lib.hid hcut
            have HMT2 := Lib.hid hmt2
            have HMC := Lib.hid hmc
            clear hcut hte2 hmt2 hmtv hmc hmcv hblc hc b1 b2 b3 hwi hokp hcs
            go_wp2_with (first
              | (go_at_call 26; refine (HCUT.out _).mono ?_; rintro e w3 ⟨rfl, hb⟩; have HB3 := Lib.hid (HBW.out.trans (hb.mono hzw)); have hz3 := HB3.out.size; clear hb)
              | (go_at_call_of 22 (Value.string t); refine (HMT2.out _).mono ?_; rintro e w4 ⟨rfl, hb⟩; have HB4 := Lib.hid (HB3.out.trans (hb.mono hz3)); have hz4 := HB4.out.size; clear hb)
              | (go_at_call_of 22 (Value.string c); refine (HMC.out _).mono ?_; rintro e w5 ⟨rfl, hb⟩; have HB5 := Lib.hid (HB4.out.trans (hb.mono hz4)); clear hb))
            go_ret
            exact ⟨rfl, HB2.out.trans (HB5.out.mono hz2)⟩
end Go.Proofs.YtaofomkalnagcaaDoor
