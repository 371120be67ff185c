/- The walks of package sir. -/
import Derived.Test.YtameiegmeicnoaaCrc3
namespace Go.Proofs.Ytameiegmeicnoaa
open Go.RowKit M

/-- What a byte that is escaped, or not, is in the tests of the text. -/
theorem sp_tests (x : UInt8) : (x = 192 ∨ x = 193 ∨ x = 125) ∨ special x = false ∧ ((x.toNat : Int) == 192) = false ∧ ((x.toNat : Int) == 193) = false ∧ ((x.toNat : Int) == 125) = false := by
  by_cases h1 : x = 192
  · exact .inl (.inl h1)
  · by_cases h2 : x = 193
    · exact .inl (.inr (.inl h2))
    · by_cases h3 : x = 125
      · exact .inl (.inr (.inr h3))
      · refine .inr ⟨by simp [special, h1, h2, h3], ?_, ?_, ?_⟩
        · have := toNat_beq x 192; rw [decide_eq_false h1] at this; exact this
        · have := toNat_beq x 193; rw [decide_eq_false h2] at this; exact this
        · have := toNat_beq x 125; rw [decide_eq_false h3] at this; exact this

theorem cesc_snoc_sp (l : List UInt8) (x : UInt8) (h : special x = true) : cesc (l ++ [x]) = cesc l ++ [125, x ^^^ 32] := by rw [cesc_append]; simp [cesc, h]
theorem cesc_snoc (l : List UInt8) (x : UInt8) (h : special x = false) : cesc (l ++ [x]) = cesc l ++ [x] := by rw [cesc_append]; simp [cesc, h]
theorem take_snoc (l : List UInt8) (k : Nat) (h : k < l.length) : l.take (k + 1) = l.take k ++ [l.getD k 0] := by
  rw [List.take_succ_eq_append_getElem h, getD_eq_getElem l k h]

theorem Rds.cell {w : World} {A : Option Addr} {n cap k : Nat} {m : List UInt8} (h : Rds w (.slice A n cap) m) (hk : k < m.length) : ∃ b off, A = some ⟨b, off, none⟩ ∧ w.cell? ⟨b, off + k, none⟩ = some (bc (m.getD k 0)) := by
  obtain ⟨A', cap', he, _, _, hr⟩ := h
  injection he with e1 e2 e3
  subst e1
  obtain ⟨b, off, rfl, hc⟩ := hr (by omega)
  exact ⟨b, off, rfl, hc k hk⟩
/-- What addEscaped leaves. -/
def Escs (w : World) (base : Nat) (v : Value) (l : List UInt8) (e : Ending) (w' : World) : Prop := ∃ v', e = .returned v' ∧ Onto w base v w' v' l

set_option maxHeartbeats 1000000 in
theorem addEscaped_any (v u : Value) (l m : List UInt8) (base : Nat) (w : World) (hv : Own w base v l) (hu : Rds w u m) (hne : Apart u m v.ownBlock) (hb : base ≤ w.heap.size) (hl : l.length ≤ 1000000) (hm : m.length ≤ 1000000) :
    Calls Try.prog 41 #[v, u] w (Escs w base v (l ++ cesc m)) := by
  have HU := Lib.hid hu
  have HN := Lib.hid hne
  obtain ⟨A, cap, rfl, _, _, hr⟩ := hu
  have HR := Lib.hid hr
  clear hne hr
  have h0 : Onto w base v w v (l ++ cesc (m.take 0)) := Onto.start (by simpa [cesc] using hv)
  have H0 := Lib.hid h0
  clear h0 hv
  go_enter Try.func41, Try.ntmps41
  go_wp2
  go_loopw [0, 9] (fun t i wr => ∃ k : Nat, k ≤ m.length ∧ i = .int .i64 k ∧ Onto w base v wr t (l ++ cesc (m.take k))) (fun _ i _ => m.length - (intOf i).toNat)
  case atStart => exact ⟨0, by omega, rfl, H0.out⟩
  case round =>
    obtain ⟨k, hk, rfl, hon⟩ := hrel
    have hz := hon.2.1.size
    have hlen : (l ++ cesc (m.take k)).length ≤ 4000000 := by
      have := cesc_length (m.take k)
      rw [List.length_take] at this
      rw [List.length_append]
      omega
    have HO := Lib.hid hon
    have hR := HU.out.grown hon.2.1 HN.out
    clear hon
    by_cases hlt : k < m.length
    · obtain ⟨b, off, rfl, hcell⟩ := hR.cell hlt
      clear hR
      have hxl := (m.getD k 0).toNat_lt
      generalize hx : m.getD k 0 = x at *
      have HX := Lib.hid hx
      clear hx
      rcases sp_tests x with (rfl | rfl | rfl) | ⟨hs, t1, t2, t3⟩
      · have hx' : special 192 = true := by decide
        have hfin : l ++ cesc (m.take (k + 1)) = l ++ cesc (m.take k) ++ [125, 224] := by rw [take_snoc m k hlt, HX.out, cesc_snoc_sp _ _ hx', List.append_assoc]; rfl
        have HF := Lib.hid hfin
        clear hfin hx'
        replace hcell : wr.cell? ⟨b, off + k, none⟩ = some (.int .u8 192) := hcell
        go_wp2_with (at_builtin; refine wpList_app rfl (.tmp 22) (.tmp 25) rfl base u0 (.slice (some ⟨wr.heap.size, 0, none⟩) 2 2) (l ++ cesc (m.take k)) [125, 224] rfl rfl (HO.out.1.alloc _) (Own.rds (Own.built wr [125, 224] 0 (by omega) (by simp [maxLen]))) (by simp only [List.length_cons, List.length_nil]; omega) (by simp; omega) ?_; intro v2 w2 hown2 hg2 hat2)
        go_roundw
        case rel => exact ⟨k + 1, by omega, by go_num, by rw [HF.out]; exact HO.out.app ((Below.refl _ _).alloc (Nat.le_refl _) _) hown2 hg2 hat2⟩
        case measure => simp [intOf]; omega
      · have hx' : special 193 = true := by decide
        have hfin : l ++ cesc (m.take (k + 1)) = l ++ cesc (m.take k) ++ [125, 225] := by rw [take_snoc m k hlt, HX.out, cesc_snoc_sp _ _ hx', List.append_assoc]; rfl
        have HF := Lib.hid hfin
        clear hfin hx'
        replace hcell : wr.cell? ⟨b, off + k, none⟩ = some (.int .u8 193) := hcell
        go_wp2_with (at_builtin; refine wpList_app rfl (.tmp 22) (.tmp 25) rfl base u0 (.slice (some ⟨wr.heap.size, 0, none⟩) 2 2) (l ++ cesc (m.take k)) [125, 225] rfl rfl (HO.out.1.alloc _) (Own.rds (Own.built wr [125, 225] 0 (by omega) (by simp [maxLen]))) (by simp only [List.length_cons, List.length_nil]; omega) (by simp; omega) ?_; intro v2 w2 hown2 hg2 hat2)
        go_roundw
        case rel => exact ⟨k + 1, by omega, by go_num, by rw [HF.out]; exact HO.out.app ((Below.refl _ _).alloc (Nat.le_refl _) _) hown2 hg2 hat2⟩
        case measure => simp [intOf]; omega
      · have hx' : special 125 = true := by decide
        have hfin : l ++ cesc (m.take (k + 1)) = l ++ cesc (m.take k) ++ [125, 93] := by rw [take_snoc m k hlt, HX.out, cesc_snoc_sp _ _ hx', List.append_assoc]; rfl
        have HF := Lib.hid hfin
        clear hfin hx'
        replace hcell : wr.cell? ⟨b, off + k, none⟩ = some (.int .u8 125) := hcell
        go_wp2_with (at_builtin; refine wpList_app rfl (.tmp 22) (.tmp 25) rfl base u0 (.slice (some ⟨wr.heap.size, 0, none⟩) 2 2) (l ++ cesc (m.take k)) [125, 93] rfl rfl (HO.out.1.alloc _) (Own.rds (Own.built wr [125, 93] 0 (by omega) (by simp [maxLen]))) (by simp only [List.length_cons, List.length_nil]; omega) (by simp; omega) ?_; intro v2 w2 hown2 hg2 hat2)
        go_roundw
        case rel => exact ⟨k + 1, by omega, by go_num, by rw [HF.out]; exact HO.out.app ((Below.refl _ _).alloc (Nat.le_refl _) _) hown2 hg2 hat2⟩
        case measure => simp [intOf]; omega
      · have hfin : l ++ cesc (m.take (k + 1)) = l ++ cesc (m.take k) ++ [x] := by rw [take_snoc m k hlt, HX.out, cesc_snoc _ _ hs, List.append_assoc]
        have HF := Lib.hid hfin
        clear hfin hs
        unfold bc at hcell
        go_wp2_with (at_builtin; refine wpList_app rfl (.tmp 14) (.tmp 16) rfl base u0 (.slice (some ⟨wr.heap.size, 0, none⟩) 1 1) (l ++ cesc (m.take k)) [x] rfl rfl (HO.out.1.alloc _) (Own.rds (Own.built wr [x] 0 (by omega) (by simp [maxLen]))) (by simp only [List.length_cons, List.length_nil]; omega) (by simp; omega) ?_; intro v2 w2 hown2 hg2 hat2)
        go_roundw
        case rel => exact ⟨k + 1, by omega, by go_num, by rw [HF.out]; exact HO.out.app ((Below.refl _ _).alloc (Nat.le_refl _) _) hown2 hg2 hat2⟩
        case measure => simp [intOf]; omega
    · obtain rfl : k = m.length := by omega
      clear hR
      go_wp2
      go_ret
      exact ⟨u0, rfl, by have := HO.out; rwa [List.take_length] at this⟩

theorem onto_makes {w w' : World} {v' : Value} {l : List UInt8} (h : Onto w w.heap.size (.slice none 0 0) w' v' l) : Own w' w.heap.size v' l ∧ Below w.heap.size w w' :=
  ⟨h.1, (h.below (.inl rfl)).2 _ (Nat.le_refl _) (Nat.le_refl _)⟩

set_option maxHeartbeats 400000 in
theorem Escape_any (v : Value) (l : List UInt8) (w : World) (hv : Rds w v l) (hl : l.length ≤ 1000000) : Calls Try.prog 30 #[v] w (Makes w (cesc l)) := by
  have HV := Lib.hid hv
  clear hv
  go_enter Try.func30, Try.ntmps30
  go_wp2_with (go_at_call 41; refine (addEscaped_any (.slice none 0 0) v [] l w.heap.size w (Own.nil_ w _) HV.out (.inl rfl) (Nat.le_refl _) (by simp) hl).mono ?_; rintro e w1 ⟨v1, rfl, hon⟩)
  go_ret
  exact ⟨v1, rfl, (onto_makes hon).1, (onto_makes hon).2⟩

set_option maxHeartbeats 400000 in
theorem Abort_any (v : Value) (l : List UInt8) (w : World) (hv : Rds w v l) (hl : l.length ≤ 1000000) : Calls Try.prog 32 #[v] w (Makes w (cabort l)) := by
  have HV := Lib.hid hv
  have hlt : Apart v l (some w.heap.size) := hv.apart_new (Nat.le_refl _)
  have HA := Lib.hid hlt
  have hcl := cesc_length l
  clear hlt
  clear hv
  go_enter Try.func32, Try.ntmps32
  go_wp2_with (first
    | (go_at_call 41; (refine (addEscaped_any (.slice (some ⟨w.heap.size, 0, none⟩) 1 1) v [192] l w.heap.size _ (Own.built w [192] _ (Nat.le_refl _) (by simp [maxLen])) (HV.out.alloc _) HA.out (by simp) (by simp) hl).mono ?_; rintro e w1 ⟨v1, rfl, hon⟩; have hb1 := (hon.below (.inr ⟨by simp, by simp [Value.ownBlock]⟩)).2 w.heap.size (Nat.le_refl _) (by simp); have hz1 : w.heap.size < w1.heap.size := Nat.lt_of_lt_of_le (by simp) hb1.size))
    | (at_builtin; (refine wpList_app rfl (.tmp 7) (.tmp 8) rfl w.heap.size v1 (.slice (some ⟨w1.heap.size, 0, none⟩) 2 2) ([192] ++ cesc l) [125, 193] rfl rfl (hon.1.alloc _) (Own.rds (Own.built w1 [125, 193] 0 (by omega) (by simp [maxLen]))) (by simp; omega) (by simp; omega) ?_; intro v2 w2 hown2 hg2 hat2)))
  go_ret
  refine ⟨v2, rfl, hown2, ?_⟩
  exact (((Below.refl _ _).alloc (Nat.le_refl _) _).trans (hb1.alloc (by omega) _)).grown hg2 (by simp; omega) (fun k hk => (hon.1.lt k hk).1)

set_option maxHeartbeats 400000 in
theorem Wrap_any (v : Value) (l : List UInt8) (extra : Int) (w : World) (hv : Rds w v l) (hl : l.length ≤ 300000) : Calls Try.prog 28 #[v, .int .i64 extra] w (Makes w (cwrap l extra)) := by
  have HV := Lib.hid hv
  have hpl : (cput l).length ≤ l.length + 2 := by simp [cput]
  have hcl : (cesc (cput l)).length ≤ 2 * l.length + 4 := by have := cesc_length (cput l); omega
  clear hv
  rcases (show extra ≤ 0 ∨ (0 < extra ∧ extra ≤ 10) ∨ 10 < extra by omega) with h | h | h
  · go_enter Try.func28, Try.ntmps28
    go_wp2
    all_goals
      go_loopw [5, 9] (fun t i wr => ∃ k : Nat, k ≤ 0 ∧ i = .int .i64 k ∧ Onto w w.heap.size (.slice none 0 0) wr t (List.replicate k 255)) (fun _ i _ => 0 - (intOf i).toNat)
      case atStart => exact ⟨0, by omega, rfl, Onto.start (Own.nil_ w _)⟩
      case round =>
        obtain ⟨k, hk, rfl, hon⟩ := hrel
        have hz := hon.2.1.size
        have hlen : (List.replicate k (255 : UInt8)).length ≤ 10 := by rw [List.length_replicate]; omega
        have HO := Lib.hid hon
        clear hon
        by_cases hlt : k < 0
        · exact absurd hlt (by omega)
        · obtain rfl : k = 0 := by omega
          have hex : cwrap l extra = List.replicate 0 255 ++ [192] ++ cesc (cput l) ++ [193] := by
            unfold cwrap
            rw [show extras extra = 0 by unfold extras; omega, List.append_assoc (List.replicate _ _) [192]]
            rfl
          have HE := Lib.hid hex
          clear hex
          generalize List.replicate 0 (255 : UInt8) = r at *
          go_wp2_with (first
            | (at_builtin; refine wpList_app rfl (.tmp 15) (.tmp 16) rfl w.heap.size u5 (.slice (some ⟨wr.heap.size, 0, none⟩) 1 1) r [192] rfl rfl (HO.out.1.alloc _) (Own.rds (Own.built wr [192] 0 (by omega) (by simp [maxLen]))) (by simp only [List.length_cons, List.length_nil]; omega) (by simp; omega) ?_; intro v2 w2 hown2 hg2 hat2; have hon2 := HO.out.app ((Below.refl _ _).alloc (Nat.le_refl _) _) hown2 hg2 hat2; have HO2 := Lib.hid hon2; have hz2 := hon2.2.1.size; clear hon2 hown2 hg2 hat2)
            | (go_at_call 24; refine (Put_any v l w2 (HV.out.below (onto_makes HO2.out).2) (by omega)).mono ?_; rintro e w3 ⟨v3, rfl, hown3, hb3⟩; have HW3 := Lib.hid hown3; have HB3 := Lib.hid hb3; have hz3 := hb3.size; clear hown3 hb3)
            | (go_at_call 41; refine (addEscaped_any v2 v3 (r ++ [192]) (cput l) w.heap.size w3 (HO2.out.1.below HB3.out) HW3.out.rds (HO2.out.1.apart HW3.out (Nat.le_refl _)) (by omega) (by simp; omega) (by omega)).mono ?_; rintro e w4 ⟨v4, rfl, hon4⟩; have HO4 := Lib.hid (HO2.out.trans HB3.out hon4); have hz4 := HO4.out.2.1.size; clear hon4)
            | (at_builtin; refine wpList_app rfl (.tmp 22) (.tmp 23) rfl w.heap.size v4 (.slice (some ⟨w4.heap.size, 0, none⟩) 1 1) (r ++ [192] ++ cesc (cput l)) [193] rfl rfl (HO4.out.1.alloc _) (Own.rds (Own.built w4 [193] 0 (by omega) (by simp [maxLen]))) (by simp; omega) (by simp; omega) ?_; intro v5 w5 hown5 hg5 hat5))
          go_ret
          have hon5 := HO4.out.app ((Below.refl _ _).alloc (Nat.le_refl _) _) hown5 hg5 hat5
          exact ⟨v5, rfl, by rw [HE.out]; exact (onto_makes hon5).1, (onto_makes hon5).2⟩
  · obtain ⟨h1, h2⟩ := h
    obtain ⟨n, rfl⟩ : ∃ n : Nat, extra = n := ⟨extra.toNat, by omega⟩
    go_enter Try.func28, Try.ntmps28
    go_wp2
    all_goals
      go_loopw [5, 9] (fun t i wr => ∃ k : Nat, k ≤ n ∧ i = .int .i64 k ∧ Onto w w.heap.size (.slice none 0 0) wr t (List.replicate k 255)) (fun _ i _ => n - (intOf i).toNat)
      case atStart => exact ⟨0, by omega, rfl, Onto.start (Own.nil_ w _)⟩
      case round =>
        obtain ⟨k, hk, rfl, hon⟩ := hrel
        have hz := hon.2.1.size
        have hlen : (List.replicate k (255 : UInt8)).length ≤ 10 := by rw [List.length_replicate]; omega
        have HO := Lib.hid hon
        clear hon
        by_cases hlt : k < n
        · have HL := Lib.hid hlen
          clear hlen
          go_wp2_with (at_builtin; refine wpList_app rfl (.tmp 11) (.tmp 12) rfl w.heap.size u5 (.slice (some ⟨wr.heap.size, 0, none⟩) 1 1) (List.replicate k 255) [255] rfl rfl (HO.out.1.alloc _) (Own.rds (Own.built wr [255] 0 (by omega) (by simp [maxLen]))) (by have := HL.out; simp only [List.length_cons, List.length_nil]; omega) (by simp; omega) ?_; intro v2 w2 hown2 hg2 hat2)
          go_roundw
          case rel => exact ⟨k + 1, by omega, by go_num, by rw [List.replicate_succ']; exact HO.out.app ((Below.refl _ _).alloc (Nat.le_refl _) _) hown2 hg2 hat2⟩
          case measure => simp [intOf]; omega
        · obtain rfl : k = n := by omega
          have hex : cwrap l (k : Int) = List.replicate k 255 ++ [192] ++ cesc (cput l) ++ [193] := by
            unfold cwrap
            rw [show extras (k : Int) = k by unfold extras; omega, List.append_assoc (List.replicate _ _) [192]]
            rfl
          have HE := Lib.hid hex
          clear hex
          generalize List.replicate k (255 : UInt8) = r at *
          go_wp2_with (first
            | (at_builtin; refine wpList_app rfl (.tmp 15) (.tmp 16) rfl w.heap.size u5 (.slice (some ⟨wr.heap.size, 0, none⟩) 1 1) r [192] rfl rfl (HO.out.1.alloc _) (Own.rds (Own.built wr [192] 0 (by omega) (by simp [maxLen]))) (by simp only [List.length_cons, List.length_nil]; omega) (by simp; omega) ?_; intro v2 w2 hown2 hg2 hat2; have hon2 := HO.out.app ((Below.refl _ _).alloc (Nat.le_refl _) _) hown2 hg2 hat2; have HO2 := Lib.hid hon2; have hz2 := hon2.2.1.size; clear hon2 hown2 hg2 hat2)
            | (go_at_call 24; refine (Put_any v l w2 (HV.out.below (onto_makes HO2.out).2) (by omega)).mono ?_; rintro e w3 ⟨v3, rfl, hown3, hb3⟩; have HW3 := Lib.hid hown3; have HB3 := Lib.hid hb3; have hz3 := hb3.size; clear hown3 hb3)
            | (go_at_call 41; refine (addEscaped_any v2 v3 (r ++ [192]) (cput l) w.heap.size w3 (HO2.out.1.below HB3.out) HW3.out.rds (HO2.out.1.apart HW3.out (Nat.le_refl _)) (by omega) (by simp; omega) (by omega)).mono ?_; rintro e w4 ⟨v4, rfl, hon4⟩; have HO4 := Lib.hid (HO2.out.trans HB3.out hon4); have hz4 := HO4.out.2.1.size; clear hon4)
            | (at_builtin; refine wpList_app rfl (.tmp 22) (.tmp 23) rfl w.heap.size v4 (.slice (some ⟨w4.heap.size, 0, none⟩) 1 1) (r ++ [192] ++ cesc (cput l)) [193] rfl rfl (HO4.out.1.alloc _) (Own.rds (Own.built w4 [193] 0 (by omega) (by simp [maxLen]))) (by simp; omega) (by simp; omega) ?_; intro v5 w5 hown5 hg5 hat5))
          go_ret
          have hon5 := HO4.out.app ((Below.refl _ _).alloc (Nat.le_refl _) _) hown5 hg5 hat5
          exact ⟨v5, rfl, by rw [HE.out]; exact (onto_makes hon5).1, (onto_makes hon5).2⟩
  · go_enter Try.func28, Try.ntmps28
    go_wp2
    all_goals
      go_loopw [5, 9] (fun t i wr => ∃ k : Nat, k ≤ 10 ∧ i = .int .i64 k ∧ Onto w w.heap.size (.slice none 0 0) wr t (List.replicate k 255)) (fun _ i _ => 10 - (intOf i).toNat)
      case atStart => exact ⟨0, by omega, rfl, Onto.start (Own.nil_ w _)⟩
      case round =>
        obtain ⟨k, hk, rfl, hon⟩ := hrel
        have hz := hon.2.1.size
        have hlen : (List.replicate k (255 : UInt8)).length ≤ 10 := by rw [List.length_replicate]; omega
        have HO := Lib.hid hon
        clear hon
        by_cases hlt : k < 10
        · have HL := Lib.hid hlen
          clear hlen
          go_wp2_with (at_builtin; refine wpList_app rfl (.tmp 11) (.tmp 12) rfl w.heap.size u5 (.slice (some ⟨wr.heap.size, 0, none⟩) 1 1) (List.replicate k 255) [255] rfl rfl (HO.out.1.alloc _) (Own.rds (Own.built wr [255] 0 (by omega) (by simp [maxLen]))) (by have := HL.out; simp only [List.length_cons, List.length_nil]; omega) (by simp; omega) ?_; intro v2 w2 hown2 hg2 hat2)
          go_roundw
          case rel => exact ⟨k + 1, by omega, by go_num, by rw [List.replicate_succ']; exact HO.out.app ((Below.refl _ _).alloc (Nat.le_refl _) _) hown2 hg2 hat2⟩
          case measure => simp [intOf]; omega
        · obtain rfl : k = 10 := by omega
          have hex : cwrap l extra = List.replicate 10 255 ++ [192] ++ cesc (cput l) ++ [193] := by
            unfold cwrap
            rw [show extras extra = 10 by unfold extras; omega, List.append_assoc (List.replicate _ _) [192]]
            rfl
          have HE := Lib.hid hex
          clear hex
          generalize List.replicate 10 (255 : UInt8) = r at *
          go_wp2_with (first
            | (at_builtin; refine wpList_app rfl (.tmp 15) (.tmp 16) rfl w.heap.size u5 (.slice (some ⟨wr.heap.size, 0, none⟩) 1 1) r [192] rfl rfl (HO.out.1.alloc _) (Own.rds (Own.built wr [192] 0 (by omega) (by simp [maxLen]))) (by simp only [List.length_cons, List.length_nil]; omega) (by simp; omega) ?_; intro v2 w2 hown2 hg2 hat2; have hon2 := HO.out.app ((Below.refl _ _).alloc (Nat.le_refl _) _) hown2 hg2 hat2; have HO2 := Lib.hid hon2; have hz2 := hon2.2.1.size; clear hon2 hown2 hg2 hat2)
            | (go_at_call 24; refine (Put_any v l w2 (HV.out.below (onto_makes HO2.out).2) (by omega)).mono ?_; rintro e w3 ⟨v3, rfl, hown3, hb3⟩; have HW3 := Lib.hid hown3; have HB3 := Lib.hid hb3; have hz3 := hb3.size; clear hown3 hb3)
            | (go_at_call 41; refine (addEscaped_any v2 v3 (r ++ [192]) (cput l) w.heap.size w3 (HO2.out.1.below HB3.out) HW3.out.rds (HO2.out.1.apart HW3.out (Nat.le_refl _)) (by omega) (by simp; omega) (by omega)).mono ?_; rintro e w4 ⟨v4, rfl, hon4⟩; have HO4 := Lib.hid (HO2.out.trans HB3.out hon4); have hz4 := HO4.out.2.1.size; clear hon4)
            | (at_builtin; refine wpList_app rfl (.tmp 22) (.tmp 23) rfl w.heap.size v4 (.slice (some ⟨w4.heap.size, 0, none⟩) 1 1) (r ++ [192] ++ cesc (cput l)) [193] rfl rfl (HO4.out.1.alloc _) (Own.rds (Own.built w4 [193] 0 (by omega) (by simp [maxLen]))) (by simp; omega) (by simp; omega) ?_; intro v5 w5 hown5 hg5 hat5))
          go_ret
          have hon5 := HO4.out.app ((Below.refl _ _).alloc (Nat.le_refl _) _) hown5 hg5 hat5
          exact ⟨v5, rfl, by rw [HE.out]; exact (onto_makes hon5).1, (onto_makes hon5).2⟩
end Go.Proofs.Ytameiegmeicnoaa
