/- The law RxCut. -/
import Derived.Test.YtameiegmeicnoaaLaw4
import Derived.Test.YtameiegmeicnoaaFrm
namespace Go.Proofs.Ytameiegmeicnoaa
open Go.RowKit M

theorem makesL_to {w : World} {l m : List (List UInt8)} {f : FuncId} {args : Array Value} (h : Calls Try.prog f args w (MakesL w l)) (e : l = m) : Calls Try.prog f args w (MakesL w m) := by rw [← e]; exact h
theorem cwrap_pos (l : List UInt8) (e : Int) : 4 ≤ (cwrap l e).length := by
  rw [cwrap_length]
  have := (cesc_length (cput l)).1
  rw [cput_length] at this
  omega
theorem cwrap_most (l : List UInt8) (e : Int) : (cwrap l e).length ≤ 2 * l.length + 16 := by
  rw [cwrap_length]
  have := (cesc_length (cput l)).2
  rw [cput_length] at this
  have : extras e ≤ 10 := by unfold extras; omega
  omega

set_option maxRecDepth 100000 in
set_option maxHeartbeats 2000000 in
theorem RxCut_law (va vb : Value) (at0 : Int) (la lb : List UInt8) (w : World) (ha : Rds w va la) (hb : Rds w vb lb) (hat : (Lit.int .i64 at0).wf = true) : Calls Try.prog 16 #[va, vb, .int .i64 at0] w (Holds w) := by
  have hbx := bounds_i64 hat
  have HA := Lib.hid ha
  have HB := Lib.hid hb
  have h1 : (la.take 40).length ≤ 40 := short_len _ _
  have h2 : (lb.take 40).length ≤ 40 := short_len _ _
  obtain ⟨a, hea⟩ : ∃ a, a = la.take 40 := ⟨_, rfl⟩
  obtain ⟨b, heb⟩ : ∃ b, b = lb.take 40 := ⟨_, rfl⟩
  rw [← hea] at h1
  rw [← heb] at h2
  have HEA := Lib.hid hea
  have HEB := Lib.hid heb
  have hwa1 := cwrap_pos a 1
  have hwa2 := cwrap_most a 1
  have hwb2 := cwrap_most b 0
  clear ha hb hea heb hat
  by_cases hskip : b.length = 0 ∨ at0 < 0
  · by_cases hb0 : b.length = 0
    · have t0 : ((b.length : Int) == 0) = true := by rw [beq_iff_eq]; omega
      have t0' : (b.length == 0) = true := by rw [beq_iff_eq]; omega
      have HB0 := Lib.hid hb0
      clear hskip hb0
      go_enter Try.func16, Try.ntmps16
      go_wp2_with (first
        | (go_at_call 18; refine (begun_any _).mono ?_; rintro e w1 ⟨rfl, hb1⟩; have HB1 := Lib.hid hb1; have hz1 := hb1.size; clear hb1)
        | (go_at_call_of 19 va; refine (Short_to va la a 40 _ (HA.out.below HB1.out) (by omega) (by omega) HEA.out).mono ?_; rintro e w2 ⟨v2, rfl, ho2, hb2⟩; have HB2 := Lib.hid (HB1.out.trans (hb2.mono hz1)); have hz2 := HB2.out.size; obtain ⟨A2, n2, rfl, _, _, _⟩ := ho2.rds; have HO2 := Lib.hid ho2; clear ho2 hb2)
        | (go_at_call_of 19 vb; refine (Short_to vb lb b 40 _ (HB.out.below HB2.out) (by omega) (by omega) HEB.out).mono ?_; rintro e w3 ⟨v3, rfl, ho3, hb3⟩; have HB3 := Lib.hid (HB2.out.trans (hb3.mono hz2)); have hz3 := HB3.out.size; obtain ⟨A3, n3, rfl, _, _, _⟩ := ho3.rds; have HO23 := Lib.hid (HO2.out.below hb3); clear ho3 hb3)
        | (go_at_call 28; refine (Wrap_any _ a 1 _ HO23.out.rds (by omega)).mono ?_; rintro e w4 ⟨v4, rfl, ho4, hb4⟩; have HB4 := Lib.hid (HB3.out.trans (hb4.mono hz3)); clear ho4 hb4))
      go_ret
      exact ⟨rfl, HB4.out⟩
    · have hlt0 : at0 < 0 := by omega
      have t0 : ((b.length : Int) == 0) = false := by rw [beq_eq_false_iff_ne]; omega
      have t0' : (b.length == 0) = false := by rw [beq_eq_false_iff_ne]; omega
      have t1 : decide (at0 < 0) = true := by simpa using hlt0
      clear hskip hb0
      go_enter Try.func16, Try.ntmps16
      go_wp2_with (first
        | (go_at_call 18; refine (begun_any _).mono ?_; rintro e w1 ⟨rfl, hb1⟩; have HB1 := Lib.hid hb1; have hz1 := hb1.size; clear hb1)
        | (go_at_call_of 19 va; refine (Short_to va la a 40 _ (HA.out.below HB1.out) (by omega) (by omega) HEA.out).mono ?_; rintro e w2 ⟨v2, rfl, ho2, hb2⟩; have HB2 := Lib.hid (HB1.out.trans (hb2.mono hz1)); have hz2 := HB2.out.size; obtain ⟨A2, n2, rfl, _, _, _⟩ := ho2.rds; have HO2 := Lib.hid ho2; clear ho2 hb2)
        | (go_at_call_of 19 vb; refine (Short_to vb lb b 40 _ (HB.out.below HB2.out) (by omega) (by omega) HEB.out).mono ?_; rintro e w3 ⟨v3, rfl, ho3, hb3⟩; have HB3 := Lib.hid (HB2.out.trans (hb3.mono hz2)); have hz3 := HB3.out.size; obtain ⟨A3, n3, rfl, _, _, _⟩ := ho3.rds; have HO23 := Lib.hid (HO2.out.below hb3); clear ho3 hb3)
        | (go_at_call 28; refine (Wrap_any _ a 1 _ HO23.out.rds (by omega)).mono ?_; rintro e w4 ⟨v4, rfl, ho4, hb4⟩; have HB4 := Lib.hid (HB3.out.trans (hb4.mono hz3)); clear ho4 hb4))
      go_ret
      exact ⟨rfl, HB4.out⟩
  · have hb0 : 0 < b.length := by omega
    have h0 : 0 ≤ at0 := by omega
    have t0 : ((b.length : Int) == 0) = false := by rw [beq_eq_false_iff_ne]; omega
    have t0' : (b.length == 0) = false := by rw [beq_eq_false_iff_ne]; omega
    have t1 : decide (at0 < 0) = false := by simpa using h0
    have hlast : ∀ k, k < (cwrap a 1).length → (rall (R.new 60) ((cwrap a 1).take k ++ cwrap b 0)).1 = [b] := by
      intro k hk
      have hm : (R.new 60).most = 60 := by decide
      rw [rall_append, rall_cut (R.new 60) a 1 k (by rw [hm]; omega) hk, rall_wrap _ b 0 (by rw [rall_most, hm]; omega) hb0]
      rfl
    have HL := Lib.hid hlast
    obtain ⟨s, hs⟩ : ∃ s, s = cwrap a 1 := ⟨_, rfl⟩
    have HS := Lib.hid hs
    rw [← hs] at hwa1 hwa2
    clear hskip hlast hs
    obtain ⟨k, hk⟩ : ∃ k : Nat, at0 % (s.length : Int) = (k : Int) := ⟨(at0 % (s.length : Int)).toNat, by have := Int.emod_nonneg at0 (show (s.length : Int) ≠ 0 by omega); omega⟩
    have hks : k < s.length := by have := Int.emod_lt_of_pos at0 (show (0 : Int) < s.length by omega); omega
    have hnz : ((s.length : Int) == 0) = false := by rw [beq_eq_false_iff_ne]; omega
    have hl2 : (rall (R.new 60) (s.take k ++ cwrap b 0)).1 = [b] := by rw [HS.out]; exact HL.out k (by rw [← HS.out]; exact hks)
    have HL2 := Lib.hid hl2
    clear hl2
    go_enter Try.func16, Try.ntmps16
    go_wp2_with (first
      | (go_at_call 18; refine (begun_any _).mono ?_; rintro e w1 ⟨rfl, hb1⟩; have HB1 := Lib.hid hb1; have hz1 := hb1.size; clear hb1)
      | (go_at_call_of 19 va; refine (Short_to va la a 40 _ (HA.out.below HB1.out) (by omega) (by omega) HEA.out).mono ?_; rintro e w2 ⟨v2, rfl, ho2, hb2⟩; have HB2 := Lib.hid (HB1.out.trans (hb2.mono hz1)); have hz2 := HB2.out.size; obtain ⟨A2, n2, rfl, _, _, _⟩ := ho2.rds; have HO2 := Lib.hid ho2; clear ho2 hb2)
      | (go_at_call_of 19 vb; refine (Short_to vb lb b 40 _ (HB.out.below HB2.out) (by omega) (by omega) HEB.out).mono ?_; rintro e w3 ⟨v3, rfl, ho3, hb3⟩; have HB3 := Lib.hid (HB2.out.trans (hb3.mono hz2)); have hz3 := HB3.out.size; obtain ⟨A3, n3, rfl, _, _, _⟩ := ho3.rds; have HO3 := Lib.hid ho3; have HO23 := Lib.hid (HO2.out.below hb3); clear ho3 hb3)
      | (go_at_call_of 28 (Value.int IntKind.i64 1); (refine (makes_to (Wrap_any _ a 1 _ HO23.out.rds (by omega)) HS.out.symm).mono ?_; rintro e w4 ⟨v4, rfl, ho4, hb4⟩; have HB4 := Lib.hid (HB3.out.trans (hb4.mono hz3)); have hz4 := HB4.out.size; obtain ⟨A4, n4, rfl, hn4, hm4, hr4⟩ := ho4.rds; have HT4 := Lib.hid (ho4.rds.take k (by omega)); have HO34 := Lib.hid (HO3.out.below hb4); unfold maxLen at hm4; clear ho4 hb4 hr4))
      | (at_builtin; (refine wpList_app rfl (.const (.slice none 0 0)) (.tmp 33) rfl w4.heap.size (.slice none 0 0) (.slice A4 k n4) [] (s.take k) rfl rfl (Own.nil_ w4 _) HT4.out (by simp; omega) (Nat.le_refl _) ?_; intro v5 w5 hown5 hg5 hat5; have hb5 := below_of_grown hg5; have HB5 := Lib.hid (HB4.out.trans (hb5.mono hz4)); have hz5 := HB5.out.size; have hz45 := hb5.size; have HB45 := Lib.hid hb5; have HO5 := Lib.hid hown5; have HO35 := Lib.hid (HO34.out.below hb5); clear hown5 hg5 hat5 hb5))
      | (go_at_call_of 28 (Value.int IntKind.i64 0); (refine (Wrap_any _ b 0 _ HO35.out.rds (by omega)).mono ?_; rintro e w6 ⟨v6, rfl, ho6, hb6⟩; have HB6 := Lib.hid (HB5.out.trans (hb6.mono hz5)); have hz6 := HB6.out.size; have HO6 := Lib.hid ho6; have HO56 := Lib.hid (HO5.out.below hb6); have hz56 := hb6.size; have HB46 := Lib.hid (HB45.out.trans (hb6.mono hz45)); clear ho6 hb6))
      | (at_builtin; (refine wpList_app rfl (.tmp 34) (.tmp 36) rfl w4.heap.size v5 v6 (s.take k) (cwrap b 0) rfl rfl HO56.out HO6.out.rds (by simp; omega) (by omega) ?_; intro v7 w7 hown7 hg7 hat7; have hb47 := HB46.out.grown hg7 (by omega) (fun j hj => (HO56.out.lt j hj).1); have HB7 := Lib.hid (HB4.out.trans (hb47.mono hz4)); have hz7 := HB7.out.size; have HO7 := Lib.hid hown7; have HO37 := Lib.hid (HO34.out.below hb47); clear hown7 hg7 hat7 hb47))
      | (go_at_call 34; (refine (makesL_to (All_any 60 _ (s.take k ++ cwrap b 0) _ HO7.out.rds (by simp; omega)) (HL2.out)).mono ?_; rintro e w9 ⟨v9, rfl, ho9, hb9⟩; have HB9 := Lib.hid (HB7.out.trans (hb9.mono hz7)); have HO39 := Lib.hid (HO37.out.below hb9); obtain ⟨g9, n9, u9, rfl, hn9, hm9, hc9, hu9⟩ := ho9.at_ (i := 0) (by simp); have hg9 := World.block_lt_of_cell? w9 _ hc9; have HU9 := Lib.hid (show Rds w9 u9 b from hu9.rds); have HC9 := Lib.hid hc9; unfold maxLen at hm9; clear ho9 hb9 hu9 hc9)))
    have hc9d : w9.drew.cell? ⟨g9, 0, none⟩ = some u9 := HC9.out
    have HC9D := Lib.hid hc9d
    clear hc9d
    refine rest_begin (by kernel_rfl) ?_
    refine rest_take 0 (oi := _) (v := ?_) (by simp only [List.getElem?_toArray, List.getElem?_cons_zero]; rfl) (by kernel_rfl) (by kernel_rfl) (by kernel_rfl) (by exact fun _ _ _ h => h) (by rfl) ?_ ?_; rotate_left; (· intro W HW; go_simp; try with_reducible rfl)
    simp only [Act.put, List.setIfInBounds_toArray, List.set_cons_zero, List.set_cons_succ]
    refine rest_take 1 (oi := _) (v := ?_) (by simp only [List.getElem?_toArray, List.getElem?_cons_succ, List.getElem?_cons_zero]; rfl) (by kernel_rfl) (by kernel_rfl) (by kernel_rfl) (by exact fun _ _ _ h => h) (by rfl) ?_ ?_; rotate_left; (· intro W HW; go_simp; try with_reducible rfl)
    simp only [Act.put, List.setIfInBounds_toArray, List.set_cons_zero, List.set_cons_succ]
    refine rest_take 2 (oi := _) (v := ?_) (by simp only [List.getElem?_toArray, List.getElem?_cons_succ, List.getElem?_cons_zero]; rfl) (by kernel_rfl) (by kernel_rfl) (by kernel_rfl) (by exact fun _ _ _ h => h) (by rfl) ?_ ?_; rotate_left; (· intro W HW; go_simp; try with_reducible rfl)
    simp only [Act.put, List.setIfInBounds_toArray, List.set_cons_zero, List.set_cons_succ]
    refine rest_take 3 (oi := _) (v := ?_) (by simp only [List.getElem?_toArray, List.getElem?_cons_succ, List.getElem?_cons_zero]; rfl) (by kernel_rfl) (by kernel_rfl) (by kernel_rfl) (by exact fun _ _ _ h => h) (by rfl) ?_ ?_; rotate_left; (· intro W HW; go_simp; try with_reducible rfl)
    simp only [Act.put, List.setIfInBounds_toArray, List.set_cons_zero, List.set_cons_succ]
    refine rest_take 4 (oi := _) (v := ?_) (by simp only [List.getElem?_toArray, List.getElem?_cons_succ, List.getElem?_cons_zero]; rfl) (by kernel_rfl) (by kernel_rfl) (by kernel_rfl) (by exact fun _ _ _ h => h) (by rfl) ?_ ?_; rotate_left; (· intro W HW; go_simp; try with_reducible rfl)
    simp only [Act.put, List.setIfInBounds_toArray, List.set_cons_zero, List.set_cons_succ]
    refine rest_take 5 (oi := _) (v := ?_) (by simp only [List.getElem?_toArray, List.getElem?_cons_succ, List.getElem?_cons_zero]; rfl) (by kernel_rfl) (by kernel_rfl) (by kernel_rfl) (by exact fun _ _ _ h => h) (by rfl) ?_ ?_; rotate_left; (· intro W HW; go_simp; try with_reducible rfl)
    simp only [Act.put, List.setIfInBounds_toArray, List.set_cons_zero, List.set_cons_succ]
    refine rest_take 6 (oi := _) (v := ?_) (by simp only [List.getElem?_toArray, List.getElem?_cons_succ, List.getElem?_cons_zero]; rfl) (by kernel_rfl) (by kernel_rfl) (by kernel_rfl) (by exact fun _ _ _ h => h) (by rfl) ?_ ?_; rotate_left; (· intro W HW; have hcW := (HW.cell (p := ⟨g9, 0, none⟩) hg9).trans HC9D.out; go_simp; try with_reducible rfl)
    simp only [Act.put, List.setIfInBounds_toArray, List.set_cons_zero, List.set_cons_succ]
    refine rest_conv 7 (oi := _) (by simp only [List.getElem?_toArray, List.getElem?_cons_succ, List.getElem?_cons_zero]; rfl) (.tmp 45) _ _ (by kernel_rfl) (by kernel_rfl) (by kernel_rfl) (by exact fun _ _ _ h => h) (by rfl) rfl rfl (HU9.out.below (Ext.drew w9)) ?_
    simp only [Act.put, List.setIfInBounds_toArray, List.set_cons_zero, List.set_cons_succ]
    refine rest_take 8 (oi := _) (v := ?_) (by simp only [List.getElem?_toArray, List.getElem?_cons_succ, List.getElem?_cons_zero]; rfl) (by kernel_rfl) (by kernel_rfl) (by kernel_rfl) (by exact fun _ _ _ h => h) (by rfl) ?_ ?_; rotate_left; (· intro W HW; go_simp; try with_reducible rfl)
    simp only [Act.put, List.setIfInBounds_toArray, List.set_cons_zero, List.set_cons_succ]
    refine rest_conv 9 (oi := _) (by simp only [List.getElem?_toArray, List.getElem?_cons_succ, List.getElem?_cons_zero]; rfl) (.tmp 47) _ _ (by kernel_rfl) (by kernel_rfl) (by kernel_rfl) (by exact fun _ _ _ h => h) (by rfl) rfl rfl (HO39.out.rds.below (Ext.drew w9)) ?_
    simp only [Act.put, List.setIfInBounds_toArray, List.set_cons_zero, List.set_cons_succ]
    refine rest_take 10 (oi := _) (v := ?_) (by simp only [List.getElem?_toArray, List.getElem?_cons_succ, List.getElem?_cons_zero]; rfl) (by kernel_rfl) (by kernel_rfl) (by kernel_rfl) (by exact fun _ _ _ h => h) (by rfl) ?_ ?_; rotate_left; (· intro W HW; go_simp; try with_reducible rfl)
    simp only [Act.put, List.setIfInBounds_toArray, List.set_cons_zero, List.set_cons_succ]
    refine rest_take 11 (oi := _) (v := ?_) (by simp only [List.getElem?_toArray, List.getElem?_cons_succ, List.getElem?_cons_zero]; rfl) (by kernel_rfl) (by kernel_rfl) (by kernel_rfl) (by exact fun _ _ _ h => h) (by rfl) ?_ ?_; rotate_left; (· intro W HW; go_simp; try with_reducible rfl)
    simp only [Act.put, List.setIfInBounds_toArray, List.set_cons_zero, List.set_cons_succ]
    refine rest_take 12 (oi := _) (v := ?_) (by simp only [List.getElem?_toArray, List.getElem?_cons_succ, List.getElem?_cons_zero]; rfl) (by kernel_rfl) (by kernel_rfl) (by kernel_rfl) (by exact fun _ _ _ h => h) (by rfl) ?_ ?_; rotate_left; (· intro W HW; go_simp; try with_reducible rfl)
    simp only [Act.put, List.setIfInBounds_toArray, List.set_cons_zero, List.set_cons_succ]
    refine rest_done (by kernel_rfl) ?_

    go_wp2
    go_ret
    exact ⟨rfl, HB9.out.trans ((Ext.drew w9).mono HB9.out.size)⟩
end Go.Proofs.Ytameiegmeicnoaa
