/- The law SirEscape. -/
import Derived.Test.YtameiegmeicnoaaLaw3
namespace Go.Proofs.Ytameiegmeicnoaa
open Go.RowKit M

set_option maxRecDepth 100000 in
set_option maxHeartbeats 2000000 in
theorem SirEscape_law (va vb : Value) (la lb : List UInt8) (w : World) (ha : Rds w va la) (hb : Rds w vb lb) : Calls Try.prog 14 #[va, vb] w (Holds w) := by
  have HA := Lib.hid ha
  have HB := Lib.hid hb
  have h1 : (la.take 60).length ≤ 60 := short_len _ _
  have h2 : (lb.take 60).length ≤ 60 := short_len _ _
  obtain ⟨a, hea⟩ : ∃ a, a = la.take 60 := ⟨_, rfl⟩
  obtain ⟨b, heb⟩ : ∃ b, b = lb.take 60 := ⟨_, rfl⟩
  rw [← hea] at h1
  rw [← heb] at h2
  have HEA := Lib.hid hea
  have HEB := Lib.hid heb
  have hca := cesc_length a
  have hcb := cesc_length b
  have hcl := cesc_length (a ++ b)
  rw [List.length_append] at hcl
  obtain ⟨s, hs⟩ : ∃ s, s = cesc (a ++ b) := ⟨_, rfl⟩
  have HSE := Lib.hid hs
  have hsl : s.length ≤ 240 := by rw [hs]; omega
  clear ha hb hea heb hs hcl
  go_enter Try.func14, Try.ntmps14
  go_wp2_with (go_at_call 18; refine (begun_any _).mono ?_; rintro e w1 ⟨rfl, hb1⟩; have HB1 := Lib.hid hb1; have hz1 := hb1.size; clear hb1)
  go_wp2_with (go_at_call_of 19 va; refine (Short_to va la a 60 _ (HA.out.below HB1.out) (by omega) (by omega) HEA.out).mono ?_; rintro e w2 ⟨v2, rfl, ho2, hb2⟩; have HB2 := Lib.hid (HB1.out.trans (hb2.mono hz1)); have hz2 := HB2.out.size; obtain ⟨A2, n2, rfl, _, _, _⟩ := ho2.rds; have HO2 := Lib.hid ho2; clear ho2 hb2)
  go_wp2_with (first
    | (go_at_call_of 19 vb; refine (Short_to vb lb b 60 _ (HB.out.below HB2.out) (by omega) (by omega) HEB.out).mono ?_; rintro e w3 ⟨v3, rfl, ho3, hb3⟩; have HB3 := Lib.hid (HB2.out.trans (hb3.mono hz2)); have hz3 := HB3.out.size; obtain ⟨A3, n3, rfl, _, _, _⟩ := ho3.rds; have HO3 := Lib.hid ho3; have HO23 := Lib.hid (HO2.out.below hb3); clear ho3 hb3)
    | (at_builtin; (refine wpList_app rfl (.const (.slice none 0 0)) (.tmp 15) rfl w3.heap.size (.slice none 0 0) _ [] a rfl rfl (Own.nil_ w3 _) HO23.out.rds (by simp only [List.length_nil]; omega) (Nat.le_refl _) ?_; intro v4 w4 hown4 hg4 hat4; have hb4 := below_of_grown hg4; have HB4 := Lib.hid hb4; have hz4 := hb4.size; have HO4 := Lib.hid hown4; clear hown4 hg4 hat4 hb4))
    | (at_builtin; (refine wpList_app rfl (.tmp 16) (.tmp 17) rfl w3.heap.size v4 _ a b rfl rfl HO4.out (HO3.out.below HB4.out).rds (by omega) hz4 ?_; intro v5 w5 hown5 hg5 hat5; have HB5 := Lib.hid (HB4.out.grown hg5 hz4 (fun k hk => (HO4.out.lt k hk).1)); have hz5 := HB5.out.size; have HO5 := Lib.hid hown5; clear hown5 hg5 hat5))
    | (go_at_call 30; (refine (makes_to (Escape_any _ (a ++ b) _ HO5.out.rds (by simp; omega)) HSE.out.symm).mono ?_; rintro e w6 ⟨v6, rfl, ho6, hb6⟩; have HB6 := Lib.hid (HB3.out.trans ((HB5.out.trans (hb6.mono hz5)).mono hz3)); have hb36 := HB5.out.trans (hb6.mono hz5); obtain ⟨A6, n6, rfl, _, _, _⟩ := ho6.rds; have HO6 := Lib.hid ho6; have HO36 := Lib.hid (HO3.out.below hb36); have HO26 := Lib.hid (HO23.out.below hb36); clear ho6 hb6 hb36)))
  go_loop [22] (fun i => ∃ k : Nat, k ≤ s.length ∧ i = .int .i64 k) (fun i => s.length - (intOf i).toNat)
  case atStart => exact ⟨0, by omega, rfl⟩
  case round =>
    obtain ⟨k, hk, rfl⟩ := hrel
    by_cases hlt : k < s.length
    · obtain ⟨g, off, rfl, hcell⟩ := HO6.out.rds.cell hlt
      have hx := cesc_clean (a ++ b) (s.getD k 0) (by rw [← HSE.out]; simp [hlt])
      have hlast : k + 1 = s.length → s.getD k 0 ≠ 125 := by intro e; have := cesc_last (a ++ b) k (by rw [← HSE.out]; exact e); rwa [← HSE.out] at this
      unfold bc at hcell
      have hxl := (s.getD k 0).toNat_lt
      generalize s.getD k 0 = x at *
      have t1 := toNat_beq x 192
      rw [decide_eq_false hx.1] at t1
      replace t1 : ((x.toNat : Int) == 192) = false := t1
      have t2 := toNat_beq x 193
      rw [decide_eq_false hx.2] at t2
      replace t2 : ((x.toNat : Int) == 193) = false := t2
      by_cases h5 : x = 125
      · have t3 := toNat_beq x 125
        rw [decide_eq_true h5] at t3
        replace t3 : ((x.toNat : Int) == 125) = true := t3
        have hne : k + 1 ≠ s.length := fun e => hlast e h5
        have t4 : ((k : Int) + 1 == (s.length : Int)) = false := by rw [beq_eq_false_iff_ne]; omega
        clear hlast h5 hx hne
        go_wp2
        go_round
        case rel => exact ⟨k + 1, by omega, by go_num⟩
        case measure => simp [intOf]; omega
      · have t3 := toNat_beq x 125
        rw [decide_eq_false h5] at t3
        replace t3 : ((x.toNat : Int) == 125) = false := t3
        clear hlast h5 hx
        go_wp2
        go_round
        case rel => exact ⟨k + 1, by omega, by go_num⟩
        case measure => simp [intOf]; omega
    · obtain rfl : k = s.length := by omega
      go_wp2
      have hrefl : Below w6.heap.size w6 w6.drew := (Below.refl _ _).drew
      refine rest_begin (by kernel_rfl) ?_
      refine rest_take 0 (oi := _) (v := ?_) (by simp only [List.getElem?_toArray, List.getElem?_cons_zero]; rfl) (by kernel_rfl) (by kernel_rfl) (by kernel_rfl) (by exact fun _ _ _ h => h) (by rfl) ?_ ?_; rotate_left; (· intro W HW; go_simp; try with_reducible rfl)
      simp only [Act.put, List.setIfInBounds_toArray, List.set_cons_zero, List.set_cons_succ]
      refine rest_conv 1 (oi := _) (by simp only [List.getElem?_toArray, List.getElem?_cons_succ, List.getElem?_cons_zero]; rfl) (.tmp 52) _ _ (by kernel_rfl) (by kernel_rfl) (by kernel_rfl) (by exact fun _ _ _ h => h) (by rfl) rfl rfl (HO6.out.rds.below hrefl) ?_
      simp only [Act.put, List.setIfInBounds_toArray, List.set_cons_zero, List.set_cons_succ]
      refine rest_take 2 (oi := _) (v := ?_) (by simp only [List.getElem?_toArray, List.getElem?_cons_succ, List.getElem?_cons_zero]; rfl) (by kernel_rfl) (by kernel_rfl) (by kernel_rfl) (by exact fun _ _ _ h => h) (by rfl) ?_ ?_; rotate_left; (· intro W HW; go_simp; try with_reducible rfl)
      simp only [Act.put, List.setIfInBounds_toArray, List.set_cons_zero, List.set_cons_succ]
      refine rest_take 4 (oi := _) (v := ?_) (by simp only [List.getElem?_toArray, List.getElem?_cons_succ, List.getElem?_cons_zero]; rfl) (by kernel_rfl) (by kernel_rfl) (by kernel_rfl) (by exact fun _ _ _ h => h) (by rfl) ?_ ?_; rotate_left; (· intro W HW; go_simp; try with_reducible rfl)
      simp only [Act.put, List.setIfInBounds_toArray, List.set_cons_zero, List.set_cons_succ]
      refine rests_of ?_
      refine rests_call 3 (oi := _) (by simp only [List.getElem?_toArray, List.getElem?_cons_succ, List.getElem?_cons_zero]; rfl) 30 #[.slice A2 a.length n2] _ (by kernel_rfl) (by rfl) (by go_simp) (Escape_any _ a _ (HO26.out.rds.below hrefl) (by omega)) ?_
      rintro e w7 ⟨v7, rfl, ho7, hb7⟩; refine ⟨v7, rfl, hb7, ?_⟩
      simp only [Act.put, List.setIfInBounds_toArray, List.set_cons_zero, List.set_cons_succ]
      refine rests_call 5 (oi := _) (by simp only [List.getElem?_toArray, List.getElem?_cons_succ, List.getElem?_cons_zero]; rfl) 30 #[.slice A3 b.length n3] _ (by kernel_rfl) (by rfl) (by go_simp) (Escape_any _ b _ ((HO36.out.rds.below hrefl).below hb7) (by omega)) ?_
      rintro e w8 ⟨v8, rfl, ho8, hb8⟩; refine ⟨v8, rfl, Ext.trans hb7 hb8, ?_⟩
      simp only [Act.put, List.setIfInBounds_toArray, List.set_cons_zero, List.set_cons_succ]
      refine rests_app 6 (oi := _) (by simp only [List.getElem?_toArray, List.getElem?_cons_succ, List.getElem?_cons_zero]; rfl) (.tmp 55) (.tmp 57) (by kernel_rfl) (by rfl) rfl w6.drew.heap.size v7 v8 (cesc a) (cesc b) rfl rfl (ho7.below hb8) ho8.rds (by omega) (by have := hb7.size; have := hb8.size; omega) ?_
      intro v9 w9 ho9 hg9 hat9
      have hb9 : Ext w6.drew w9 := Below.grown (Ext.trans hb7 hb8) hg9 (by have := hb7.size; have := hb8.size; omega) (fun k hk => (ho7.lt k hk).1)
      refine ⟨hb9, ?_⟩
      simp only [Act.put, List.setIfInBounds_toArray, List.set_cons_zero, List.set_cons_succ]
      refine rests_conv 7 (oi := _) (by simp only [List.getElem?_toArray, List.getElem?_cons_succ, List.getElem?_cons_zero]; rfl) (.tmp 58) _ (cesc a ++ cesc b) (by kernel_rfl) (by rfl) hb9 rfl rfl ho9.rds ?_
      simp only [Act.put, List.setIfInBounds_toArray, List.set_cons_zero, List.set_cons_succ]
      have hss : s = cesc a ++ cesc b := by rw [HSE.out, cesc_append]
      have hbq : (s == cesc a ++ cesc b) = true := by rw [beq_iff_eq]; exact hss
      clear hss
      refine rests_take 8 (oi := _) (v := ?_) (by simp only [List.getElem?_toArray, List.getElem?_cons_succ, List.getElem?_cons_zero]; rfl) (by kernel_rfl) (by kernel_rfl) (by kernel_rfl) (by exact fun _ _ _ h => h) (hb9) (by rfl) ?_ ?_; rotate_left; (· intro W HW; go_simp; try with_reducible rfl)
      simp only [Act.put, List.setIfInBounds_toArray, List.set_cons_zero, List.set_cons_succ]
      refine rests_take 9 (oi := _) (v := ?_) (by simp only [List.getElem?_toArray, List.getElem?_cons_succ, List.getElem?_cons_zero]; rfl) (by kernel_rfl) (by kernel_rfl) (by kernel_rfl) (by exact fun _ _ _ h => h) (hb9) (by rfl) ?_ ?_; rotate_left; (· intro W HW; go_simp; try with_reducible rfl)
      simp only [Act.put, List.setIfInBounds_toArray, List.set_cons_zero, List.set_cons_succ]
      refine rests_done (by kernel_rfl) ?_
      go_wp2
      go_ret
      exact ⟨rfl, HB6.out.trans ((hrefl.trans hb9).mono HB6.out.size)⟩
end Go.Proofs.Ytameiegmeicnoaa
