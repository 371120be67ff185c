/- The walks of the reference's Escape, Wrap, Abort. -/
import Derived.Test.YtelpeccacbeaiaaLaw8
namespace Go.Proofs.Ytelpeccacbeaiaa
open Go.RowKit M

set_option maxHeartbeats 1000000 in
theorem RefEscape_any (u : Value) (m : List UInt8) (w : World) (hu : Rds w u m) (hm : m.length ≤ 1000000) :
    Calls Try.prog 31 #[u] w (Makes w (cesc m)) := by
  have HU := Lib.hid hu
  obtain ⟨A, cap, rfl, _, _, hr⟩ := hu
  clear hr
  have h0 : Onto w w.heap.size (.slice none 0 0) w (.slice none 0 0) (cesc (m.take 0)) := Onto.start (Own.nil_ w _)
  have H0 := Lib.hid h0
  clear h0
  go_enter Try.func31, Try.ntmps31
  go_wp2
  go_loopw [3, 4] (fun t i wr => ∃ k : Nat, k ≤ m.length ∧ i = .int .i64 k ∧ Onto w w.heap.size (.slice none 0 0) wr t (cesc (m.take k))) (fun _ i _ => m.length - (intOf i).toNat)
  case atStart => exact ⟨0, by omega, rfl, H0.out⟩
  case round =>
    obtain ⟨k, hk, rfl, hon⟩ := hrel
    have hz := hon.2.1.size
    have hlen : (cesc (m.take k)).length ≤ 4000000 := by
      have := cesc_length (m.take k)
      rw [List.length_take] at this
      omega
    have HO := Lib.hid hon
    have hR := HU.out.below (onto_makes hon).2
    clear hon
    by_cases hlt : k < m.length
    · obtain ⟨b, off, rfl, hcell⟩ := hR.cell hlt
      clear hR
      have hxl := (m.getD k 0).toNat_lt
      generalize hx : m.getD k 0 = x at *
      have HX := Lib.hid hx
      clear hx
      rcases sp_tests x with (rfl | rfl | rfl) | ⟨hs, t1, t2, t3⟩
      · have hx' : special 192 = true := by decide
        have hfin : cesc (m.take (k + 1)) = cesc (m.take k) ++ [125, 224] := by rw [take_snoc m k hlt, HX.out, cesc_snoc_sp _ _ hx']; rfl
        have HF := Lib.hid hfin
        clear hfin hx'
        replace hcell : wr.cell? ⟨b, off + k, none⟩ = some (.int .u8 192) := hcell
        go_wp2_with (at_builtin; refine wpList_app rfl (.tmp 30) (.tmp 36) rfl w.heap.size u3 (.slice (some ⟨wr.heap.size, 0, none⟩) 2 2) (cesc (m.take k)) [125, 224] rfl rfl (HO.out.1.alloc _) (Own.rds (Own.built wr [125, 224] 0 (by omega) (by simp [maxLen]))) (by simp only [List.length_cons, List.length_nil]; omega) (by simp; omega) ?_; intro v2 w2 hown2 hg2 hat2)
        go_roundw
        case rel => exact ⟨k + 1, by omega, by go_num, by rw [HF.out]; exact HO.out.app ((Below.refl _ _).alloc (Nat.le_refl _) _) hown2 hg2 hat2⟩
        case measure => simp [intOf]; omega
      · have hx' : special 193 = true := by decide
        have hfin : cesc (m.take (k + 1)) = cesc (m.take k) ++ [125, 225] := by rw [take_snoc m k hlt, HX.out, cesc_snoc_sp _ _ hx']; rfl
        have HF := Lib.hid hfin
        clear hfin hx'
        replace hcell : wr.cell? ⟨b, off + k, none⟩ = some (.int .u8 193) := hcell
        go_wp2_with (at_builtin; refine wpList_app rfl (.tmp 30) (.tmp 36) rfl w.heap.size u3 (.slice (some ⟨wr.heap.size, 0, none⟩) 2 2) (cesc (m.take k)) [125, 225] rfl rfl (HO.out.1.alloc _) (Own.rds (Own.built wr [125, 225] 0 (by omega) (by simp [maxLen]))) (by simp only [List.length_cons, List.length_nil]; omega) (by simp; omega) ?_; intro v2 w2 hown2 hg2 hat2)
        go_roundw
        case rel => exact ⟨k + 1, by omega, by go_num, by rw [HF.out]; exact HO.out.app ((Below.refl _ _).alloc (Nat.le_refl _) _) hown2 hg2 hat2⟩
        case measure => simp [intOf]; omega
      · have hx' : special 125 = true := by decide
        have hfin : cesc (m.take (k + 1)) = cesc (m.take k) ++ [125, 93] := by rw [take_snoc m k hlt, HX.out, cesc_snoc_sp _ _ hx']; rfl
        have HF := Lib.hid hfin
        clear hfin hx'
        replace hcell : wr.cell? ⟨b, off + k, none⟩ = some (.int .u8 125) := hcell
        go_wp2_with (at_builtin; refine wpList_app rfl (.tmp 30) (.tmp 36) rfl w.heap.size u3 (.slice (some ⟨wr.heap.size, 0, none⟩) 2 2) (cesc (m.take k)) [125, 93] rfl rfl (HO.out.1.alloc _) (Own.rds (Own.built wr [125, 93] 0 (by omega) (by simp [maxLen]))) (by simp only [List.length_cons, List.length_nil]; omega) (by simp; omega) ?_; intro v2 w2 hown2 hg2 hat2)
        go_roundw
        case rel => exact ⟨k + 1, by omega, by go_num, by rw [HF.out]; exact HO.out.app ((Below.refl _ _).alloc (Nat.le_refl _) _) hown2 hg2 hat2⟩
        case measure => simp [intOf]; omega
      · have hfin : cesc (m.take (k + 1)) = cesc (m.take k) ++ [x] := by rw [take_snoc m k hlt, HX.out, cesc_snoc _ _ hs]
        have HF := Lib.hid hfin
        clear hfin hs
        unfold bc at hcell
        go_wp2_with (at_builtin; refine wpList_app rfl (.tmp 38) (.tmp 43) rfl w.heap.size u3 (.slice (some ⟨wr.heap.size, 0, none⟩) 1 1) (cesc (m.take k)) [x] rfl rfl (HO.out.1.alloc _) (Own.rds (Own.built wr [x] 0 (by omega) (by simp [maxLen]))) (by simp only [List.length_cons, List.length_nil]; omega) (by simp; omega) ?_; intro v2 w2 hown2 hg2 hat2)
        go_roundw
        case rel => exact ⟨k + 1, by omega, by go_num, by rw [HF.out]; exact HO.out.app ((Below.refl _ _).alloc (Nat.le_refl _) _) hown2 hg2 hat2⟩
        case measure => simp [intOf]; omega
    · obtain rfl : k = m.length := by omega
      clear hR
      go_wp2
      go_ret
      exact ⟨u3, rfl, by have := (onto_makes HO.out).1; rwa [List.take_length] at this, (onto_makes HO.out).2⟩

set_option maxHeartbeats 400000 in
theorem RefAbort_any (v : Value) (l : List UInt8) (w : World) (hv : Rds w v l) (hl : l.length ≤ 1000000) : Calls Try.prog 33 #[v] w (Makes w (cabort l)) := by
  have HV := Lib.hid hv
  have hcl := cesc_length l
  clear hv
  go_enter Try.func33, Try.ntmps33
  go_wp2_with (first
    | (go_at_call 31; (refine (RefEscape_any v l _ (HV.out.alloc _) hl).mono ?_; rintro e w1 ⟨v1, rfl, hown1, hb1⟩; have hz1 : w.heap.size < w1.heap.size := Nat.lt_of_lt_of_le (by simp) hb1.size; have HO1 := Lib.hid hown1; have HB1 := Lib.hid hb1; clear hown1 hb1))
    | (at_builtin; (refine wpList_app rfl (.tmp 3) (.tmp 5) rfl w.heap.size (.slice (some ⟨w.heap.size, 0, none⟩) 1 1) v1 [192] (cesc l) rfl rfl ((Own.built w [192] _ (Nat.le_refl _) (by simp [maxLen])).below HB1.out) HO1.out.rds (by simp; omega) (by omega) ?_; intro v2 w2 hown2 hg2 hat2; have hb2 := (((Below.refl w.heap.size w).alloc (Nat.le_refl _) _).trans (HB1.out.mono (by simp))).grown hg2 (by omega) (by simp [Value.ownBlock]); have HB2 := Lib.hid hb2; have hz2 := hb2.size; have HO2 := Lib.hid hown2; clear hown2 hg2 hat2 hb2))
    | (at_builtin; (refine wpList_app rfl (.tmp 6) (.tmp 7) rfl w.heap.size v2 (.slice (some ⟨w2.heap.size, 0, none⟩) 2 2) ([192] ++ cesc l) [125, 193] rfl rfl (HO2.out.alloc _) (Own.rds (Own.built w2 [125, 193] 0 (by omega) (by simp [maxLen]))) (by simp; omega) (by simp; omega) ?_; intro v3 w3 hown3 hg3 hat3)))
  go_ret
  exact ⟨v3, rfl, hown3, (HB2.out.alloc hz2 _).grown hg3 (by simp; omega) (fun k hk => (HO2.out.lt k hk).1)⟩

set_option maxHeartbeats 2000000 in
theorem RefWrap_any (v : Value) (l : List UInt8) (extra : Int) (w : World) (hv : Rds w v l) (hl : l.length ≤ 300000) : Calls Try.prog 29 #[v, .int .i64 extra] w (Makes w (cwrap l extra)) := by
  have HV := Lib.hid hv
  have hpl : (cput l).length ≤ l.length + 2 := by simp [cput]
  have hcl : (cesc (cput l)).length ≤ 2 * l.length + 4 := by have := cesc_length (cput l); omega
  clear hv
  rcases (show extra ≤ 0 ∨ (0 < extra ∧ extra ≤ 10) ∨ 10 < extra by omega) with h | h | h
  · have hmx : max extra 0 = 0 := by omega
    go_enter Try.func29, Try.ntmps29
    go_wp2
    go_loopw [5, 6] (fun t i wr => ∃ k : Nat, k ≤ 0 ∧ i = .int .i64 k ∧ Onto w w.heap.size (.slice none 0 0) wr t (List.replicate k 255)) (fun _ i _ => 0 - (intOf i).toNat)
    case atStart => exact ⟨0, by omega, rfl, Onto.start (Own.nil_ w _)⟩
    case round =>
      obtain ⟨k, hk, rfl, hon⟩ := hrel
      have hz := hon.2.1.size
      have hlen : (List.replicate k (255 : UInt8)).length ≤ 10 := by rw [List.length_replicate]; omega
      have HO := Lib.hid hon
      clear hon
      by_cases hlt : k < 0
      · exact absurd hlt (by omega)
      · obtain rfl : k = 0 := by omega
        have hex : cwrap l extra = List.replicate 0 255 ++ [192] ++ cesc (cput l) ++ [193] := by
          unfold cwrap
          rw [show extras extra = 0 by unfold extras; omega, List.append_assoc (List.replicate _ _) [192]]
          rfl
        have HE := Lib.hid hex
        clear hex
        generalize List.replicate 0 (255 : UInt8) = r at *
        go_wp2_with (first
          | (at_builtin; refine wpList_app rfl (.tmp 17) (.tmp 18) rfl w.heap.size u5 (.slice (some ⟨wr.heap.size, 0, none⟩) 1 1) r [192] rfl rfl (HO.out.1.alloc _) (Own.rds (Own.built wr [192] 0 (by omega) (by simp [maxLen]))) (by simp only [List.length_cons, List.length_nil]; omega) (by simp; omega) ?_; intro v2 w2 hown2 hg2 hat2; have hon2 := HO.out.app ((Below.refl _ _).alloc (Nat.le_refl _) _) hown2 hg2 hat2; have HO2 := Lib.hid hon2; have hz2 := hon2.2.1.size; clear hon2 hown2 hg2 hat2)
          | (go_at_call 25; refine (RefPut_any v l w2 (HV.out.below (onto_makes HO2.out).2) (by omega)).mono ?_; rintro e w3 ⟨v3, rfl, hown3, hb3⟩; have HW3 := Lib.hid hown3; have HB3 := Lib.hid hb3; have hz3 := hb3.size; clear hown3 hb3)
          | (go_at_call 31; refine (RefEscape_any v3 (cput l) w3 HW3.out.rds (by omega)).mono ?_; rintro e w4 ⟨v4, rfl, hown4, hb4⟩; have HW4 := Lib.hid hown4; have HB4 := Lib.hid (HB3.out.trans (hb4.mono hz3)); have hz4 := HB4.out.size; clear hown4 hb4)
          | (at_builtin; refine wpList_app rfl (.tmp 19) (.tmp 22) rfl w.heap.size v2 v4 (r ++ [192]) (cesc (cput l)) rfl rfl (HO2.out.1.below HB4.out) HW4.out.rds (by simp; omega) (by omega) ?_; intro v5 w5 hown5 hg5 hat5; have HO5 := Lib.hid (HO2.out.app HB4.out hown5 hg5 hat5); have hz5 := HO5.out.2.1.size; clear hown5 hg5 hat5)
          | (at_builtin; refine wpList_app rfl (.tmp 23) (.tmp 24) rfl w.heap.size v5 (.slice (some ⟨w5.heap.size, 0, none⟩) 1 1) (r ++ [192] ++ cesc (cput l)) [193] rfl rfl (HO5.out.1.alloc _) (Own.rds (Own.built w5 [193] 0 (by omega) (by simp [maxLen]))) (by simp; omega) (by simp; omega) ?_; intro v6 w6 hown6 hg6 hat6))
        all_goals
          go_ret
          have hon6 := HO5.out.app ((Below.refl _ _).alloc (Nat.le_refl _) _) hown6 hg6 hat6
          exact ⟨v6, rfl, by rw [HE.out]; exact (onto_makes hon6).1, (onto_makes hon6).2⟩
  · obtain ⟨h1, h2⟩ := h
    obtain ⟨n, rfl⟩ : ∃ n : Nat, extra = n := ⟨extra.toNat, by omega⟩
    go_enter Try.func29, Try.ntmps29
    go_wp2
    go_loopw [5, 6] (fun t i wr => ∃ k : Nat, k ≤ n ∧ i = .int .i64 k ∧ Onto w w.heap.size (.slice none 0 0) wr t (List.replicate k 255)) (fun _ i _ => n - (intOf i).toNat)
    case atStart => exact ⟨0, by omega, rfl, Onto.start (Own.nil_ w _)⟩
    case round =>
      obtain ⟨k, hk, rfl, hon⟩ := hrel
      have hz := hon.2.1.size
      have hlen : (List.replicate k (255 : UInt8)).length ≤ 10 := by rw [List.length_replicate]; omega
      have HO := Lib.hid hon
      clear hon
      by_cases hlt : k < n
      · have HL := Lib.hid hlen
        clear hlen
        go_wp2_with (at_builtin; refine wpList_app rfl (.tmp 14) (.tmp 15) rfl w.heap.size u5 (.slice (some ⟨wr.heap.size, 0, none⟩) 1 1) (List.replicate k 255) [255] rfl rfl (HO.out.1.alloc _) (Own.rds (Own.built wr [255] 0 (by omega) (by simp [maxLen]))) (by have := HL.out; simp only [List.length_cons, List.length_nil]; omega) (by simp; omega) ?_; intro v2 w2 hown2 hg2 hat2)
        all_goals
          go_roundw
          case rel => exact ⟨k + 1, by omega, by go_num, by rw [List.replicate_succ']; exact HO.out.app ((Below.refl _ _).alloc (Nat.le_refl _) _) hown2 hg2 hat2⟩
          case measure => simp [intOf]; omega
      · obtain rfl : k = n := by omega
        have hex : cwrap l (k : Int) = List.replicate k 255 ++ [192] ++ cesc (cput l) ++ [193] := by
          unfold cwrap
          rw [show extras (k : Int) = k by unfold extras; omega, List.append_assoc (List.replicate _ _) [192]]
          rfl
        have HE := Lib.hid hex
        clear hex
        generalize List.replicate k (255 : UInt8) = r at *
        go_wp2_with (first
          | (at_builtin; refine wpList_app rfl (.tmp 17) (.tmp 18) rfl w.heap.size u5 (.slice (some ⟨wr.heap.size, 0, none⟩) 1 1) r [192] rfl rfl (HO.out.1.alloc _) (Own.rds (Own.built wr [192] 0 (by omega) (by simp [maxLen]))) (by simp only [List.length_cons, List.length_nil]; omega) (by simp; omega) ?_; intro v2 w2 hown2 hg2 hat2; have hon2 := HO.out.app ((Below.refl _ _).alloc (Nat.le_refl _) _) hown2 hg2 hat2; have HO2 := Lib.hid hon2; have hz2 := hon2.2.1.size; clear hon2 hown2 hg2 hat2)
          | (go_at_call 25; refine (RefPut_any v l w2 (HV.out.below (onto_makes HO2.out).2) (by omega)).mono ?_; rintro e w3 ⟨v3, rfl, hown3, hb3⟩; have HW3 := Lib.hid hown3; have HB3 := Lib.hid hb3; have hz3 := hb3.size; clear hown3 hb3)
          | (go_at_call 31; refine (RefEscape_any v3 (cput l) w3 HW3.out.rds (by omega)).mono ?_; rintro e w4 ⟨v4, rfl, hown4, hb4⟩; have HW4 := Lib.hid hown4; have HB4 := Lib.hid (HB3.out.trans (hb4.mono hz3)); have hz4 := HB4.out.size; clear hown4 hb4)
          | (at_builtin; refine wpList_app rfl (.tmp 19) (.tmp 22) rfl w.heap.size v2 v4 (r ++ [192]) (cesc (cput l)) rfl rfl (HO2.out.1.below HB4.out) HW4.out.rds (by simp; omega) (by omega) ?_; intro v5 w5 hown5 hg5 hat5; have HO5 := Lib.hid (HO2.out.app HB4.out hown5 hg5 hat5); have hz5 := HO5.out.2.1.size; clear hown5 hg5 hat5)
          | (at_builtin; refine wpList_app rfl (.tmp 23) (.tmp 24) rfl w.heap.size v5 (.slice (some ⟨w5.heap.size, 0, none⟩) 1 1) (r ++ [192] ++ cesc (cput l)) [193] rfl rfl (HO5.out.1.alloc _) (Own.rds (Own.built w5 [193] 0 (by omega) (by simp [maxLen]))) (by simp; omega) (by simp; omega) ?_; intro v6 w6 hown6 hg6 hat6))
        all_goals
          go_ret
          have hon6 := HO5.out.app ((Below.refl _ _).alloc (Nat.le_refl _) _) hown6 hg6 hat6
          exact ⟨v6, rfl, by rw [HE.out]; exact (onto_makes hon6).1, (onto_makes hon6).2⟩
  · go_enter Try.func29, Try.ntmps29
    go_wp2
    go_loopw [5, 6] (fun t i wr => ∃ k : Nat, k ≤ 10 ∧ i = .int .i64 k ∧ Onto w w.heap.size (.slice none 0 0) wr t (List.replicate k 255)) (fun _ i _ => 10 - (intOf i).toNat)
    case atStart => exact ⟨0, by omega, rfl, Onto.start (Own.nil_ w _)⟩
    case round =>
      obtain ⟨k, hk, rfl, hon⟩ := hrel
      have hz := hon.2.1.size
      have hlen : (List.replicate k (255 : UInt8)).length ≤ 10 := by rw [List.length_replicate]; omega
      have HO := Lib.hid hon
      clear hon
      by_cases hlt : k < 10
      · have HL := Lib.hid hlen
        clear hlen
        go_wp2_with (at_builtin; refine wpList_app rfl (.tmp 14) (.tmp 15) rfl w.heap.size u5 (.slice (some ⟨wr.heap.size, 0, none⟩) 1 1) (List.replicate k 255) [255] rfl rfl (HO.out.1.alloc _) (Own.rds (Own.built wr [255] 0 (by omega) (by simp [maxLen]))) (by have := HL.out; simp only [List.length_cons, List.length_nil]; omega) (by simp; omega) ?_; intro v2 w2 hown2 hg2 hat2)
        all_goals
          go_roundw
          case rel => exact ⟨k + 1, by omega, by go_num, by rw [List.replicate_succ']; exact HO.out.app ((Below.refl _ _).alloc (Nat.le_refl _) _) hown2 hg2 hat2⟩
          case measure => simp [intOf]; omega
      · obtain rfl : k = 10 := by omega
        have hex : cwrap l extra = List.replicate 10 255 ++ [192] ++ cesc (cput l) ++ [193] := by
          unfold cwrap
          rw [show extras extra = 10 by unfold extras; omega, List.append_assoc (List.replicate _ _) [192]]
          rfl
        have HE := Lib.hid hex
        clear hex
        generalize List.replicate 10 (255 : UInt8) = r at *
        go_wp2_with (first
          | (at_builtin; refine wpList_app rfl (.tmp 17) (.tmp 18) rfl w.heap.size u5 (.slice (some ⟨wr.heap.size, 0, none⟩) 1 1) r [192] rfl rfl (HO.out.1.alloc _) (Own.rds (Own.built wr [192] 0 (by omega) (by simp [maxLen]))) (by simp only [List.length_cons, List.length_nil]; omega) (by simp; omega) ?_; intro v2 w2 hown2 hg2 hat2; have hon2 := HO.out.app ((Below.refl _ _).alloc (Nat.le_refl _) _) hown2 hg2 hat2; have HO2 := Lib.hid hon2; have hz2 := hon2.2.1.size; clear hon2 hown2 hg2 hat2)
          | (go_at_call 25; refine (RefPut_any v l w2 (HV.out.below (onto_makes HO2.out).2) (by omega)).mono ?_; rintro e w3 ⟨v3, rfl, hown3, hb3⟩; have HW3 := Lib.hid hown3; have HB3 := Lib.hid hb3; have hz3 := hb3.size; clear hown3 hb3)
          | (go_at_call 31; refine (RefEscape_any v3 (cput l) w3 HW3.out.rds (by omega)).mono ?_; rintro e w4 ⟨v4, rfl, hown4, hb4⟩; have HW4 := Lib.hid hown4; have HB4 := Lib.hid (HB3.out.trans (hb4.mono hz3)); have hz4 := HB4.out.size; clear hown4 hb4)
          | (at_builtin; refine wpList_app rfl (.tmp 19) (.tmp 22) rfl w.heap.size v2 v4 (r ++ [192]) (cesc (cput l)) rfl rfl (HO2.out.1.below HB4.out) HW4.out.rds (by simp; omega) (by omega) ?_; intro v5 w5 hown5 hg5 hat5; have HO5 := Lib.hid (HO2.out.app HB4.out hown5 hg5 hat5); have hz5 := HO5.out.2.1.size; clear hown5 hg5 hat5)
          | (at_builtin; refine wpList_app rfl (.tmp 23) (.tmp 24) rfl w.heap.size v5 (.slice (some ⟨w5.heap.size, 0, none⟩) 1 1) (r ++ [192] ++ cesc (cput l)) [193] rfl rfl (HO5.out.1.alloc _) (Own.rds (Own.built w5 [193] 0 (by omega) (by simp [maxLen]))) (by simp; omega) (by simp; omega) ?_; intro v6 w6 hown6 hg6 hat6))
        all_goals
          go_ret
          have hon6 := HO5.out.app ((Below.refl _ _).alloc (Nat.le_refl _) _) hown6 hg6 hat6
          exact ⟨v6, rfl, by rw [HE.out]; exact (onto_makes hon6).1, (onto_makes hon6).2⟩
end Go.Proofs.Ytelpeccacbeaiaa
