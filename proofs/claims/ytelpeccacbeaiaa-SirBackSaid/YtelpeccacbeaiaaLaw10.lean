/- The law SirBack. -/
import Derived.Test.YtelpeccacbeaiaaLaw9
import Derived.Test.YtelpeccacbeaiaaFrm2
namespace Go.Proofs.Ytelpeccacbeaiaa
open Go.RowKit M

set_option maxRecDepth 100000 in
set_option maxHeartbeats 4000000 in
theorem SirBack_law (va vb vc : Value) (extra : Int) (la lb lc : List UInt8) (w : World) (ha : Rds w va la) (hb : Rds w vb lb) (hc : Rds w vc lc) (_ : (Lit.int .i64 extra).wf = true) : Calls Try.prog 7 #[va, vb, vc, .int .i64 extra] w (Holds w) := by
  have HA := Lib.hid ha
  have HB := Lib.hid hb
  have HC := Lib.hid hc
  have h1 : (la.take 90).length ≤ 90 := short_len _ _
  have h2 : (lb.take 30).length ≤ 30 := short_len _ _
  have h3 : (lc.take 30).length ≤ 30 := short_len _ _
  obtain ⟨b, heb⟩ : ∃ b, b = la.take 90 := ⟨_, rfl⟩
  obtain ⟨a, hea⟩ : ∃ a, a = lb.take 30 := ⟨_, rfl⟩
  obtain ⟨c, hec⟩ : ∃ c, c = lc.take 30 := ⟨_, rfl⟩
  rw [← heb] at h1
  rw [← hea] at h2
  rw [← hec] at h3
  have HEB := Lib.hid heb
  have HEA := Lib.hid hea
  have HEC := Lib.hid hec
  obtain ⟨s, hs⟩ : ∃ s, s = cwrap b extra := ⟨_, rfl⟩
  have HS := Lib.hid hs
  have hsl : s.length ≤ 2 * b.length + 16 := by rw [hs]; exact cwrap_most b extra
  have hcn : cnt s = 2 := by rw [hs]; exact cnt_wrap b extra
  have HCN := Lib.hid hcn
  obtain ⟨LL, hLL⟩ : ∃ LL, LL = (rall (R.new 100) (a ++ s ++ c)).1 := ⟨_, rfl⟩
  have HLL := Lib.hid hLL
  have hback : LL.any (· == b) = decide (0 < b.length) := by rw [hLL, hs]; exact back a b c extra (by omega)
  have HBK := Lib.hid hback
  have hll : LL.length ≤ 1000 := by
    have := rall_len (a ++ s ++ c) (R.new 100)
    rw [← hLL] at this
    simp only [List.length_append] at this
    omega
  have hm100 : (R.new 100).most = 100 := by decide
  have habt : (rall (R.new 100) (cabort b)).1 = [] := rall_abort _ b (by rw [hm100]; omega)
  have HAB := Lib.hid habt
  clear ha hb hc heb hea hec hs hcn hLL hback habt hm100
  go_enter Try.func7, Try.ntmps7
  go_wp2_with (first
    | (go_at_call 18; refine (begun_any _).mono ?_; rintro e w1 ⟨rfl, hb1⟩; have HB1 := Lib.hid hb1; have hz1 := hb1.size; clear hb1)
    | (go_at_call_of 19 va; refine (Short_to va la b 90 _ (HA.out.below HB1.out) (by omega) (by omega) HEB.out).mono ?_; rintro e w2 ⟨v2, rfl, ho2, hb2⟩; have HB2 := Lib.hid (HB1.out.trans (hb2.mono hz1)); have hz2 := HB2.out.size; obtain ⟨A2, n2, rfl, _, _, _⟩ := ho2.rds; have HO2 := Lib.hid ho2; clear ho2 hb2)
    | (go_at_call_of 19 vb; refine (Short_to vb lb a 30 _ (HB.out.below HB2.out) (by omega) (by omega) HEA.out).mono ?_; rintro e w3 ⟨v3, rfl, ho3, hb3⟩; have HB3 := Lib.hid (HB2.out.trans (hb3.mono hz2)); have hz3 := HB3.out.size; obtain ⟨A3, n3, rfl, _, _, _⟩ := ho3.rds; have HO3 := Lib.hid ho3; have HO23 := Lib.hid (HO2.out.below hb3); clear ho3 hb3)
    | (go_at_call_of 19 vc; refine (Short_to vc lc c 30 _ (HC.out.below HB3.out) (by omega) (by omega) HEC.out).mono ?_; rintro e w4 ⟨v4, rfl, ho4, hb4⟩; have HB4 := Lib.hid (HB3.out.trans (hb4.mono hz3)); have hz4 := HB4.out.size; obtain ⟨A4, n4, rfl, _, _, _⟩ := ho4.rds; have HO4 := Lib.hid ho4; have HO24 := Lib.hid (HO23.out.below hb4); have HO34 := Lib.hid (HO3.out.below hb4); clear ho4 hb4)
    | (go_at_call 28; refine (makes_to (Wrap_any _ b extra _ HO24.out.rds (by omega)) HS.out.symm).mono ?_; rintro e w5 ⟨v5, rfl, ho5, hb5⟩; have HB5 := Lib.hid (HB4.out.trans (hb5.mono hz4)); have hz5 := HB5.out.size; obtain ⟨A5, n5, rfl, _, _, _⟩ := ho5.rds; have HO5 := Lib.hid ho5; have HO25 := Lib.hid (HO24.out.below hb5); have HO35 := Lib.hid (HO34.out.below hb5); have HO45 := Lib.hid (HO4.out.below hb5); clear ho5 hb5)
    | (at_builtin; (refine wpList_app rfl (.const (.slice none 0 0)) (.tmp 28) rfl w5.heap.size (.slice none 0 0) (.slice A3 a.length n3) [] a rfl rfl (Own.nil_ _ _) HO35.out.rds (by simp; omega) (Nat.le_refl _) ?_; intro v6 w6 hown6 hg6 hat6; rw [List.nil_append] at hown6; have hb6 := below_of_grown hg6; have HB56 := Lib.hid hb6; have hz56 := hb6.size; have HO6 := Lib.hid hown6; clear hown6 hg6 hat6 hb6))
    | (at_builtin; (refine wpList_app rfl (.tmp 29) (.tmp 30) rfl w5.heap.size v6 (.slice A5 s.length n5) a s rfl rfl HO6.out (HO5.out.rds.below HB56.out) (by omega) hz56 ?_; intro v7 w7 hown7 hg7 hat7; have hb7 := HB56.out.grown hg7 hz56 (fun j hj => (HO6.out.lt j hj).1); have HB57 := Lib.hid hb7; have hz57 := hb7.size; have HO7 := Lib.hid hown7; clear hown7 hg7 hat7 hb7))
    | (at_builtin; (refine wpList_app rfl (.tmp 31) (.tmp 32) rfl w5.heap.size v7 (.slice A4 c.length n4) (a ++ s) c rfl rfl HO7.out (HO45.out.rds.below HB57.out) (by simp; omega) hz57 ?_; intro v8 w8 hown8 hg8 hat8; have hb8 := HB57.out.grown hg8 hz57 (fun j hj => (HO7.out.lt j hj).1); have HB58 := Lib.hid hb8; have hz58 := hb8.size; have HO8 := Lib.hid hown8; clear hown8 hg8 hat8 hb8))
    | (go_at_call 34; refine (makesL_to (All_any 100 _ (a ++ s ++ c) _ HO8.out.rds (by simp; omega)) HLL.out.symm).mono ?_; rintro e w9 ⟨v9, rfl, ho9, hb9⟩; have hb59 := HB58.out.trans (hb9.mono hz58); have HB9 := Lib.hid (HB5.out.trans (hb59.mono hz5)); have hz9 := HB9.out.size; have HO29 := Lib.hid (HO25.out.below hb59); have HO59 := Lib.hid (HO5.out.below hb59); obtain ⟨A9, n9, rfl, hn9, hm9⟩ := ho9.shape; have HO9 := Lib.hid ho9; unfold maxLen at hm9; clear ho9 hb9 hb59))
  go_loopw [12, 37] (fun t i wr => ∃ k : Nat, k ≤ LL.length ∧ i = .int .i64 k ∧ t = .bool ((LL.take k).any (· == b)) ∧ Below w9.heap.size w9 wr) (fun _ i _ => LL.length - (intOf i).toNat)
  case atStart => exact ⟨0, by omega, rfl, rfl, Below.refl _ _⟩
  case round =>
    obtain ⟨k, hk, rfl, rfl, hbw⟩ := hrel
    have HBW := Lib.hid hbw
    have hzw := hbw.size
    clear hbw
    by_cases hlt : k < LL.length
    · obtain ⟨g9, cap9, u9, he9, _, _, hc9, hu9⟩ := HO9.out.at_ hlt
      injection he9 with e1 e2 e3
      subst e1 e3
      have hg9 := World.block_lt_of_cell? w9 _ hc9
      have hg9w : g9 < wr.drew.heap.size := Nat.lt_of_lt_of_le hg9 hzw
      have hc9w : wr.drew.cell? ⟨g9, k, none⟩ = some u9 := (HBW.out.cell (p := ⟨g9, k, none⟩) hg9).trans hc9
      have HC9 := Lib.hid hc9w
      have HU9 := Lib.hid (hu9.rds.below HBW.out)
      have hany := any_take LL b k hlt
      have HAN := Lib.hid hany
      clear hc9 hc9w hu9 hany
      have q1 : (0 : Int) ≤ (k : Int) := by omega
      have q2 : (k : Int) < (LL.length : Int) := by omega
      generalize LL.getD k [] = f at *
      rcases hin : (LL.take k).any (· == b) with _ | _
      · rw [hin] at HAN
        have HIN := Lib.hid hin
        clear hin
        go_wp2
        refine rest_begin (by kernel_rfl) ?_
        refine rest_take 0 (oi := _) (v := ?_) (by simp only [List.getElem?_toArray, List.getElem?_cons_zero]; rfl) (by kernel_rfl) (by kernel_rfl) (by kernel_rfl) (by exact fun _ _ _ h => h) (by rfl) ?_ ?_; rotate_left; (· intro W HW; go_simp; try with_reducible rfl)
        simp only [Act.put, List.setIfInBounds_toArray, List.set_cons_zero, List.set_cons_succ]
        refine rest_take 1 (oi := _) (v := ?_) (by simp only [List.getElem?_toArray, List.getElem?_cons_succ, List.getElem?_cons_zero]; rfl) (by kernel_rfl) (by kernel_rfl) (by kernel_rfl) (by exact fun _ _ _ h => h) (by rfl) ?_ ?_; rotate_left; (· intro W HW; go_simp; try with_reducible rfl)
        simp only [Act.put, List.setIfInBounds_toArray, List.set_cons_zero, List.set_cons_succ]
        refine rest_take 2 (oi := _) (v := ?_) (by simp only [List.getElem?_toArray, List.getElem?_cons_succ, List.getElem?_cons_zero]; rfl) (by kernel_rfl) (by kernel_rfl) (by kernel_rfl) (by exact fun _ _ _ h => h) (by rfl) ?_ ?_; rotate_left; (· intro W HW; go_simp; try with_reducible rfl)
        simp only [Act.put, List.setIfInBounds_toArray, List.set_cons_zero, List.set_cons_succ]
        refine rest_take 3 (oi := _) (v := ?_) (by simp only [List.getElem?_toArray, List.getElem?_cons_succ, List.getElem?_cons_zero]; rfl) (by kernel_rfl) (by kernel_rfl) (by kernel_rfl) (by exact fun _ _ _ h => h) (by rfl) ?_ ?_; rotate_left; (· intro W HW; go_simp; try with_reducible rfl)
        simp only [Act.put, List.setIfInBounds_toArray, List.set_cons_zero, List.set_cons_succ]
        refine rest_take 4 (oi := _) (v := ?_) (by simp only [List.getElem?_toArray, List.getElem?_cons_succ, List.getElem?_cons_zero]; rfl) (by kernel_rfl) (by kernel_rfl) (by kernel_rfl) (by exact fun _ _ _ h => h) (by rfl) ?_ ?_; rotate_left; (· intro W HW; go_simp; try with_reducible rfl)
        simp only [Act.put, List.setIfInBounds_toArray, List.set_cons_zero, List.set_cons_succ]
        refine rest_take 5 (oi := _) (v := ?_) (by simp only [List.getElem?_toArray, List.getElem?_cons_succ, List.getElem?_cons_zero]; rfl) (by kernel_rfl) (by kernel_rfl) (by kernel_rfl) (by exact fun _ _ _ h => h) (by rfl) ?_ ?_; rotate_left; (· intro W HW; have hcW := (HW.cell (p := ⟨g9, k, none⟩) hg9w).trans HC9.out; go_simp; try with_reducible rfl)
        simp only [Act.put, List.setIfInBounds_toArray, List.set_cons_zero, List.set_cons_succ]
        refine rest_conv 6 (oi := _) (by simp only [List.getElem?_toArray, List.getElem?_cons_succ, List.getElem?_cons_zero]; rfl) (.tmp 45) _ _ (by kernel_rfl) (by kernel_rfl) (by kernel_rfl) (by exact fun _ _ _ h => h) (by rfl) rfl rfl ((HU9.out.below (Ext.drew wr))) ?_
        simp only [Act.put, List.setIfInBounds_toArray, List.set_cons_zero, List.set_cons_succ]
        refine rest_take 7 (oi := _) (v := ?_) (by simp only [List.getElem?_toArray, List.getElem?_cons_succ, List.getElem?_cons_zero]; rfl) (by kernel_rfl) (by kernel_rfl) (by kernel_rfl) (by exact fun _ _ _ h => h) (by rfl) ?_ ?_; rotate_left; (· intro W HW; go_simp; try with_reducible rfl)
        simp only [Act.put, List.setIfInBounds_toArray, List.set_cons_zero, List.set_cons_succ]
        refine rest_conv 8 (oi := _) (by simp only [List.getElem?_toArray, List.getElem?_cons_succ, List.getElem?_cons_zero]; rfl) (.tmp 47) _ _ (by kernel_rfl) (by kernel_rfl) (by kernel_rfl) (by exact fun _ _ _ h => h) (by rfl) rfl rfl (((HO29.out.rds.below HBW.out).below (Ext.drew wr))) ?_
        simp only [Act.put, List.setIfInBounds_toArray, List.set_cons_zero, List.set_cons_succ]
        refine rest_take 9 (oi := _) (v := ?_) (by simp only [List.getElem?_toArray, List.getElem?_cons_succ, List.getElem?_cons_zero]; rfl) (by kernel_rfl) (by kernel_rfl) (by kernel_rfl) (by exact fun _ _ _ h => h) (by rfl) ?_ ?_; rotate_left; (· intro W HW; go_simp; try with_reducible rfl)
        simp only [Act.put, List.setIfInBounds_toArray, List.set_cons_zero, List.set_cons_succ]
        refine rest_take 10 (oi := _) (v := ?_) (by simp only [List.getElem?_toArray, List.getElem?_cons_succ, List.getElem?_cons_zero]; rfl) (by kernel_rfl) (by kernel_rfl) (by kernel_rfl) (by exact fun _ _ _ h => h) (by rfl) ?_ ?_; rotate_left; (· intro W HW; go_simp; try with_reducible rfl)
        simp only [Act.put, List.setIfInBounds_toArray, List.set_cons_zero, List.set_cons_succ]
        refine rest_take 11 (oi := _) (v := ?_) (by simp only [List.getElem?_toArray, List.getElem?_cons_succ, List.getElem?_cons_zero]; rfl) (by kernel_rfl) (by kernel_rfl) (by kernel_rfl) (by exact fun _ _ _ h => h) (by rfl) ?_ ?_; rotate_left; (· intro W HW; go_simp; try with_reducible rfl)
        simp only [Act.put, List.setIfInBounds_toArray, List.set_cons_zero, List.set_cons_succ]
        refine rest_done (by kernel_rfl) ?_

        go_wp2
        go_roundw
        case rel => exact ⟨k + 1, by omega, by go_num, by rw [HAN.out]; rfl, HBW.out.trans ((Ext.drew wr).mono hzw)⟩
        case measure => simp [intOf]; omega
      · rw [hin] at HAN
        have HIN := Lib.hid hin
        clear hin
        go_wp2
        refine rest_begin (by kernel_rfl) ?_
        refine rest_take 0 (oi := _) (v := ?_) (by simp only [List.getElem?_toArray, List.getElem?_cons_zero]; rfl) (by kernel_rfl) (by kernel_rfl) (by kernel_rfl) (by exact fun _ _ _ h => h) (by rfl) ?_ ?_; rotate_left; (· intro W HW; go_simp; try with_reducible rfl)
        simp only [Act.put, List.setIfInBounds_toArray, List.set_cons_zero, List.set_cons_succ]
        refine rest_take 1 (oi := _) (v := ?_) (by simp only [List.getElem?_toArray, List.getElem?_cons_succ, List.getElem?_cons_zero]; rfl) (by kernel_rfl) (by kernel_rfl) (by kernel_rfl) (by exact fun _ _ _ h => h) (by rfl) ?_ ?_; rotate_left; (· intro W HW; go_simp; try with_reducible rfl)
        simp only [Act.put, List.setIfInBounds_toArray, List.set_cons_zero, List.set_cons_succ]
        refine rest_skip 2 (oi := _) (by simp only [List.getElem?_toArray, List.getElem?_cons_succ, List.getElem?_cons_zero]; rfl) (by kernel_rfl) (by kernel_rfl) (by kernel_rfl) (by exact fun _ _ _ h => h) (by rfl) ?_
        simp only [Act.put, List.setIfInBounds_toArray, List.set_cons_zero, List.set_cons_succ]
        refine rest_skip 3 (oi := _) (by simp only [List.getElem?_toArray, List.getElem?_cons_succ, List.getElem?_cons_zero]; rfl) (by kernel_rfl) (by kernel_rfl) (by kernel_rfl) (by exact fun _ _ _ h => h) (by rfl) ?_
        simp only [Act.put, List.setIfInBounds_toArray, List.set_cons_zero, List.set_cons_succ]
        refine rest_skip 4 (oi := _) (by simp only [List.getElem?_toArray, List.getElem?_cons_succ, List.getElem?_cons_zero]; rfl) (by kernel_rfl) (by kernel_rfl) (by kernel_rfl) (by exact fun _ _ _ h => h) (by rfl) ?_
        simp only [Act.put, List.setIfInBounds_toArray, List.set_cons_zero, List.set_cons_succ]
        refine rest_skip 5 (oi := _) (by simp only [List.getElem?_toArray, List.getElem?_cons_succ, List.getElem?_cons_zero]; rfl) (by kernel_rfl) (by kernel_rfl) (by kernel_rfl) (by exact fun _ _ _ h => h) (by rfl) ?_
        simp only [Act.put, List.setIfInBounds_toArray, List.set_cons_zero, List.set_cons_succ]
        refine rest_skip 6 (oi := _) (by simp only [List.getElem?_toArray, List.getElem?_cons_succ, List.getElem?_cons_zero]; rfl) (by kernel_rfl) (by kernel_rfl) (by kernel_rfl) (by exact fun _ _ _ h => h) (by rfl) ?_
        simp only [Act.put, List.setIfInBounds_toArray, List.set_cons_zero, List.set_cons_succ]
        refine rest_skip 7 (oi := _) (by simp only [List.getElem?_toArray, List.getElem?_cons_succ, List.getElem?_cons_zero]; rfl) (by kernel_rfl) (by kernel_rfl) (by kernel_rfl) (by exact fun _ _ _ h => h) (by rfl) ?_
        simp only [Act.put, List.setIfInBounds_toArray, List.set_cons_zero, List.set_cons_succ]
        refine rest_skip 8 (oi := _) (by simp only [List.getElem?_toArray, List.getElem?_cons_succ, List.getElem?_cons_zero]; rfl) (by kernel_rfl) (by kernel_rfl) (by kernel_rfl) (by exact fun _ _ _ h => h) (by rfl) ?_
        simp only [Act.put, List.setIfInBounds_toArray, List.set_cons_zero, List.set_cons_succ]
        refine rest_skip 9 (oi := _) (by simp only [List.getElem?_toArray, List.getElem?_cons_succ, List.getElem?_cons_zero]; rfl) (by kernel_rfl) (by kernel_rfl) (by kernel_rfl) (by exact fun _ _ _ h => h) (by rfl) ?_
        simp only [Act.put, List.setIfInBounds_toArray, List.set_cons_zero, List.set_cons_succ]
        refine rest_take 10 (oi := _) (v := ?_) (by simp only [List.getElem?_toArray, List.getElem?_cons_succ, List.getElem?_cons_zero]; rfl) (by kernel_rfl) (by kernel_rfl) (by kernel_rfl) (by exact fun _ _ _ h => h) (by rfl) ?_ ?_; rotate_left; (· intro W HW; go_simp; try with_reducible rfl)
        simp only [Act.put, List.setIfInBounds_toArray, List.set_cons_zero, List.set_cons_succ]
        refine rest_take 11 (oi := _) (v := ?_) (by simp only [List.getElem?_toArray, List.getElem?_cons_succ, List.getElem?_cons_zero]; rfl) (by kernel_rfl) (by kernel_rfl) (by kernel_rfl) (by exact fun _ _ _ h => h) (by rfl) ?_ ?_; rotate_left; (· intro W HW; go_simp; try with_reducible rfl)
        simp only [Act.put, List.setIfInBounds_toArray, List.set_cons_zero, List.set_cons_succ]
        refine rest_done (by kernel_rfl) ?_

        go_wp2
        go_roundw
        case rel => exact ⟨k + 1, by omega, by go_num, by rw [HAN.out]; rfl, HBW.out.trans ((Ext.drew wr).mono hzw)⟩
        case measure => simp [intOf]; omega
    · obtain rfl : k = LL.length := by omega
      have hback := HBK.out
      simp only [List.take_length, hback]
      go_wp2
      go_loop [14, 54] (fun t i => ∃ j : Nat, j ≤ s.length ∧ i = .int .i64 j ∧ t = .int .i64 (cnt (s.take j) : Nat)) (fun _ i => s.length - (intOf i).toNat)
      case atStart => exact ⟨0, by omega, rfl, rfl⟩
      case round =>
        obtain ⟨j, hj, rfl, rfl⟩ := hrel
        have hcl : cnt (s.take j) ≤ 1000 := by
          have h5 := List.length_filter_le (fun x : UInt8 => x == 192 || x == 193) (s.take j)
          rw [List.length_take] at h5
          show ((s.take j).filter _).length ≤ 1000
          omega
        by_cases hlj : j < s.length
        · obtain ⟨g5, off, rfl, hcell⟩ := (HO59.out.rds.below HBW.out).cell hlj
          unfold bc at hcell
          have hct : cnt (s.take (j + 1)) = cnt (s.take j) + if s.getD j 0 = 192 ∨ s.getD j 0 = 193 then 1 else 0 := by rw [take_snoc s j hlj, cnt_append, cnt_one]
          have hxl := (s.getD j 0).toNat_lt
          generalize s.getD j 0 = x at *
          by_cases hx1 : x = 192
          · have t1 := toNat_beq x 192
            rw [decide_eq_true hx1] at t1
            replace t1 : ((x.toNat : Int) == 192) = true := t1
            rw [if_pos (.inl hx1)] at hct
            have HCT := Lib.hid hct
            clear hct hx1
            generalize cnt (s.take j) = z at *
            go_wp2
            go_round
            case rel => exact ⟨j + 1, by omega, by go_num, by rw [HCT.out]; go_num⟩
            case measure => simp [intOf]; omega
          · have t1 := toNat_beq x 192
            rw [decide_eq_false hx1] at t1
            replace t1 : ((x.toNat : Int) == 192) = false := t1
            by_cases hx2 : x = 193
            · have t2 := toNat_beq x 193
              rw [decide_eq_true hx2] at t2
              replace t2 : ((x.toNat : Int) == 193) = true := t2
              rw [if_pos (.inr hx2)] at hct
              have HCT := Lib.hid hct
              clear hct hx1 hx2
              generalize cnt (s.take j) = z at *
              go_wp2
              go_round
              case rel => exact ⟨j + 1, by omega, by go_num, by rw [HCT.out]; go_num⟩
              case measure => simp [intOf]; omega
            · have t2 := toNat_beq x 193
              rw [decide_eq_false hx2] at t2
              replace t2 : ((x.toNat : Int) == 193) = false := t2
              rw [if_neg (by rintro (h | h); exact hx1 h; exact hx2 h)] at hct
              have HCT := Lib.hid hct
              clear hct hx1 hx2
              generalize cnt (s.take j) = z at *
              go_wp2
              go_round
              case rel => exact ⟨j + 1, by omega, by go_num, by rw [HCT.out]; rfl⟩
              case measure => simp [intOf]; omega
        · obtain rfl : j = s.length := by omega
          have hcn := HCN.out
          simp only [List.take_length, hcn] at hcl ⊢
          have hbb : ((decide (0 < b.length)) == (decide ((0 : Int) < (b.length : Int)))) = true := by simp
          have hr2 := (HO29.out.rds.below HBW.out)
          have HR2 := Lib.hid hr2
          clear hr2
          go_wp2_with (first
            | (go_at_call 32; refine (Abort_any _ b _ HR2.out (by omega)).mono ?_; rintro e w10 ⟨v10, rfl, ho10, hb10⟩; have HB10 := Lib.hid (HBW.out.trans (hb10.mono hzw)); have hz10 := HB10.out.size; have HO10 := Lib.hid ho10; clear ho10 hb10)
            | (go_at_call 34; refine (makesL_to (All_any 100 _ (cabort b) _ HO10.out.rds (by have := (cesc_length b).2; simp [cabort]; omega)) HAB.out).mono ?_; rintro e w11 ⟨v11, rfl, ho11, hb11⟩; have HB11 := Lib.hid (HB10.out.trans (hb11.mono hz10)); obtain ⟨A11, n11, rfl, _, _⟩ := ho11.shape; clear ho11 hb11))
          go_ret
          exact ⟨rfl, HB9.out.trans (HB11.out.mono hz9)⟩
end Go.Proofs.Ytelpeccacbeaiaa
