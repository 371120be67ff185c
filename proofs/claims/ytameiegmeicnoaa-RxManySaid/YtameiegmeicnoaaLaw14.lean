/- The law RxMany. -/
import Derived.Test.YtameiegmeicnoaaRows2
import Derived.Test.YtameiegmeicnoaaFrm3
import Derived.Test.YtameiegmeicnoaaLaw5
namespace Go.Proofs.Ytameiegmeicnoaa
open Go.RowKit M

theorem apart_own2 {w w' : World} {base base' : Nat} {v u : Value} {l m : List UInt8} (h : Own w base v l) (h' : Own w' base' u m) (hb : w.heap.size ≤ base') : u.ownBlock = none ∨ u.ownBlock ≠ v.ownBlock := by
  rcases hv : u.ownBlock with _ | j
  · exact .inl rfl
  · right
    have h1 := (h'.lt j hv).1
    intro e
    have h2 := (h.lt j e.symm).2
    omega
theorem Onto.apart2 {w w' : World} {base B : Nat} {v v' u : Value} {l m : List UInt8} (h : Onto w base v w' v' l) (hu : Own w B u m) (hne : u.ownBlock = none ∨ u.ownBlock ≠ v.ownBlock) : u.ownBlock = none ∨ u.ownBlock ≠ v'.ownBlock := by
  rcases hv : u.ownBlock with _ | j
  · exact .inl rfl
  · right
    have h1 := (hu.lt j hv).2
    rcases h.2.2 with e | ⟨k, e, hk⟩
    · rw [e]
      rcases hne with h2 | h2
      · rw [hv] at h2; cases h2
      · rw [hv] at h2; exact h2
    · rw [e]
      intro e'
      injection e' with e'
      omega
theorem gap_end (gp : List UInt8) (j : Nat) (h1 : j ≤ gp.length) (h2 : j ≤ 5) (h : ¬ (j < gp.length ∧ j < 5)) : (gp.take j).filter (· != 192) = gap5 gp := by
  unfold gap5
  congr 1
  by_cases h5 : j = 5
  · rw [h5]
  · have : j = gp.length := by omega
    rw [this, List.take_length, List.take_of_length_le (by omega)]
theorem Onto.rds {w w' : World} {base B : Nat} {v v' u : Value} {l m : List UInt8} (h : Onto w base v w' v' l) (hu : Own w B u m) (ha : Apart u m v.ownBlock) : Rds w' u m := hu.rds.grown h.2.1 ha

set_option maxRecDepth 100000 in
set_option maxHeartbeats 8000000 in
theorem RxMany_law (va vb : Value) (ll : List (List UInt8)) (gp : List UInt8) (w : World) (ha : Rdss w va ll) (hb : Rds w vb gp) : Calls Try.prog 8 #[va, vb] w (Holds w) := by
  have HA := Lib.hid ha
  have HB := Lib.hid hb
  obtain ⟨A, n, rfl, hn, hm, _⟩ := ha
  obtain ⟨A', n', rfl, hn', hm', _⟩ := hb
  unfold maxLen at hm hm'
  obtain ⟨g5, hg5⟩ : ∃ g, g = gap5 gp := ⟨_, rfl⟩
  obtain ⟨L, hL⟩ : ∃ L : Nat → List UInt8, L = fun i => ll.getD i [] := ⟨_, rfl⟩
  have hgc : ∀ x ∈ g5, x ≠ 192 := by rw [hg5]; exact gap5_clean gp
  have hgl : g5.length ≤ 5 := by rw [hg5]; exact gap5_len gp
  have HG5 := Lib.hid hg5
  have HL := Lib.hid hL
  have HALL := Lib.hid (many_all g5 L hgc)
  have HBL := Lib.hid (manyB_len g5 L hgl)
  have HWL := Lib.hid (manyW_len L)
  clear hg5 hL hgc
  go_enter Try.func8, Try.ntmps8
  go_wp2_with (go_at_call 18; refine (begun_any _).mono ?_; rintro e w1 ⟨rfl, hb1⟩; have HB1 := Lib.hid hb1; have hz1 := hb1.size; clear hb1)
  go_loopw [6, 7, 8] (fun vx vw i wr => ∃ k : Nat, k ≤ ll.length ∧ k ≤ 8 ∧ i = .int .i64 k ∧ Own wr w1.heap.size vx (manyB g5 L k) ∧ OwnS wr w1.heap.size vw (manyW L k) ∧ Below w1.heap.size w1 wr) (fun _ _ i _ => 8 - (intOf i).toNat)
  case atStart => exact ⟨0, by omega, by omega, rfl, Own.nil_ _ _, OwnS.nil_ _ _, Below.refl _ _⟩
  case round =>
    obtain ⟨k, hk, hk8, rfl, hox, how, hbw⟩ := hrel
    have HOX := Lib.hid hox
    have HOW := Lib.hid how
    have HBW := Lib.hid hbw
    have hzw := hbw.size
    clear hox how hbw
    obtain ⟨wo, rfl⟩ : ∃ x, x = wr := ⟨wr, rfl⟩
    have hBw : Below w.heap.size w wo := HB1.out.trans (HBW.out.mono hz1)
    have HBw := Lib.hid hBw
    have hzz := hBw.size
    clear hBw
    by_cases hin : k < ll.length ∧ k < 8
    · obtain ⟨hlt, hlt8⟩ := hin
      obtain ⟨bb, off, u, rfl, hcell, hru⟩ := (HA.out.below HBw.out).at_ hlt
      have HRU := Lib.hid hru
      obtain ⟨f, hf⟩ : ∃ f, f = (L k).take 30 := ⟨_, rfl⟩
      have hfl : f.length ≤ 30 := by rw [hf]; exact short_len _ _
      have hfu : f = (ll.getD k []).take (30 : Int).toNat := by rw [hf, HL.out]; rfl
      have HF := Lib.hid hf
      have HFU := Lib.hid hfu
      clear hru hf hfu
      have q1 : (0 : Int) ≤ (k : Int) := by omega
      have q2 : (k : Int) < (ll.length : Int) := by omega
      have q3 : (k : Int) < 8 := by omega
      by_cases hf0 : f.length = 0
      · have t0 : ((f.length : Int) == 0) = true := by rw [beq_iff_eq]; omega
        have t0' : (f.length == 0) = true := by rw [beq_iff_eq]; omega
        have e1 : manyB g5 L (k + 1) = manyB g5 L k := by simp only [manyB]; rw [if_pos (by rw [← HF.out]; exact hf0)]
        have e2 : manyW L (k + 1) = manyW L k := by simp only [manyW]; rw [if_pos (by rw [← HF.out]; exact hf0)]
        have E1 := Lib.hid e1
        have E2 := Lib.hid e2
        clear e1 e2 hf0
        go_wp2_with (go_at_call 19; refine (Short_to u _ f 30 _ HRU.out (by omega) (by omega) HFU.out).mono ?_; rintro e w2 ⟨v2, rfl, ho2, hb2⟩; have HB2 := Lib.hid hb2; obtain ⟨A2, n2, rfl, _, _, _⟩ := ho2.rds; clear ho2 hb2)
        go_roundw
        case rel => exact ⟨k + 1, by omega, by omega, by go_num, by rw [E1.out]; exact HOX.out.below HB2.out, by rw [E2.out]; exact HOW.out.below HB2.out, HBW.out.trans (HB2.out.mono hzw)⟩
        case measure => simp [intOf]; omega
      · have t0 : ((f.length : Int) == 0) = false := by rw [beq_eq_false_iff_ne]; omega
        have t0' : (f.length == 0) = false := by rw [beq_eq_false_iff_ne]; omega
        have e1 : manyB g5 L (k + 1) = manyB g5 L k ++ g5 ++ cwrap f k := by simp only [manyB]; rw [if_neg (by rw [← HF.out]; exact hf0), ← HF.out]
        have e2 : manyW L (k + 1) = manyW L k ++ [f] := by simp only [manyW]; rw [if_neg (by rw [← HF.out]; exact hf0), ← HF.out]
        have E1 := Lib.hid e1
        have E2 := Lib.hid e2
        clear e1 e2 hf0
        have hbl := HBL.out k
        have hwl := HWL.out k
        go_wp2_with (go_at_call 19; refine (Short_to u _ f 30 _ HRU.out (by omega) (by omega) HFU.out).mono ?_; rintro e w2 ⟨v2, rfl, ho2, hb2⟩; have HB2 := Lib.hid hb2; have hz2 := hb2.size; obtain ⟨A2, n2, rfl, _, _, _⟩ := ho2.rds; have HO2 := Lib.hid ho2; have HOX2 := Lib.hid (HOX.out.below hb2); have HOW2 := Lib.hid (HOW.out.below hb2); have HAP := Lib.hid (apart_own2 HOX.out ho2 (Nat.le_refl _)); clear ho2 hb2)
        generalize manyB g5 L k = B0 at *
        generalize manyW L k = W0 at *
        have hzw2 : w1.heap.size ≤ w2.heap.size := by omega
        go_loopw [6, 10] (fun vx i wr => ∃ j : Nat, j ≤ gp.length ∧ j ≤ 5 ∧ i = .int .i64 j ∧ Onto w2 w1.heap.size u6 wr vx (B0 ++ (gp.take j).filter (· != 192))) (fun _ i _ => 5 - (intOf i).toNat)
        case atStart => exact ⟨0, by omega, by omega, rfl, by simpa using Onto.start HOX2.out⟩
        case round =>
          obtain ⟨j, hj, hj5, rfl, hon⟩ := hrel
          have HON := Lib.hid hon
          have hbel := (hon.below (.inr ⟨hzw2, fun q hq => (HOX2.out.lt q hq).1⟩)).2 w1.heap.size (Nat.le_refl _) hzw2
          have hzr := hbel.size
          have HBEL := Lib.hid hbel
          have hR := HB.out.below ((HBw.out.trans (HB2.out.mono hzz)).trans (hbel.mono hz1))
          have HR := Lib.hid hR
          clear hon hbel hR
          by_cases hin2 : j < gp.length ∧ j < 5
          · obtain ⟨hjl, hj4⟩ := hin2
            obtain ⟨bb2, off2, rfl, hcell2⟩ := HR.out.cell hjl
            have hfs := filt_snoc gp j hjl
            have HFS := Lib.hid hfs
            unfold bc at hcell2
            have r1 : (0 : Int) ≤ (j : Int) := by omega
            have r2 : (j : Int) < (gp.length : Int) := by omega
            have r3 : (j : Int) < 5 := by omega
            have hxl := (gp.getD j 0).toNat_lt
            clear hfs
            generalize gp.getD j 0 = x at *
            have hcur : ((gp.take j).filter (· != 192)).length ≤ 5 := by
              have h1 := List.length_filter_le (· != (192 : UInt8)) (gp.take j)
              have h2 : (gp.take j).length ≤ j := by rw [List.length_take]; omega
              omega
            generalize (gp.take j).filter (· != 192) = c0 at *
            have t1 := toNat_beq x 192
            by_cases hx : x = 192
            · rw [decide_eq_true hx] at t1
              replace t1 : ((x.toNat : Int) == 192) = true := t1
              have t2 : ((x.toNat : Int) != 192) = false := by rw [bne, t1]; rfl
              rw [if_pos hx, List.append_nil] at HFS
              clear hx
              go_wp2
              go_roundw
              case rel => exact ⟨j + 1, by omega, by omega, by go_num, by rw [HFS.out]; exact HON.out⟩
              case measure => simp [intOf]; omega
            · rw [decide_eq_false hx] at t1
              replace t1 : ((x.toNat : Int) == 192) = false := t1
              have t2 : ((x.toNat : Int) != 192) = true := by rw [bne, t1]; rfl
              rw [if_neg hx] at HFS
              clear hx
              go_wp2_with (at_builtin; (refine wpList_app rfl (.tmp 49) (.tmp 54) rfl w1.heap.size u6 (.slice (some ⟨wr.heap.size, 0, none⟩) 1 1) (B0 ++ c0) [x] rfl rfl (HON.out.1.alloc _) (Own.built wr [x] 0 (Nat.zero_le _) (by simp [maxLen])).rds (by simp; omega) (by simp; omega) ?_; intro v4 w4 hown4 hg4 hat4; have HON4 := Lib.hid (HON.out.app ((Below.refl _ _).alloc (Nat.le_refl _) _) hown4 hg4 hat4); clear hown4 hg4 hat4))
              go_roundw
              case rel => exact ⟨j + 1, by omega, by omega, by go_num, by rw [HFS.out, ← List.append_assoc]; exact HON4.out⟩
              case measure => simp [intOf]; omega
          · have hge := gap_end gp j hj hj5 hin2
            rw [← HG5.out] at hge
            rw [hge] at HON
            clear hge
            have HOF := Lib.hid (HO2.out.grown HON.out.2.1 HAP.out)
            have HOS := Lib.hid (HOW2.out.grown HON.out.2.1 (row_ne HOW2.out HOX2.out (by decide)))
            have HNE := Lib.hid (HON.out.apart2 HO2.out HAP.out)
            have d1 : ((j : Int) < (gp.length : Int) ∧ (5 : Int) ≤ (j : Int)) ∨ (gp.length : Int) ≤ (j : Int) := by omega
            clear hin2
            rcases d1 with ⟨d1, d2⟩ | d1
            all_goals
              go_wp2_with (first
                | (go_at_call 28; (refine (Wrap_any _ f _ _ HOF.out.rds (by omega)).mono ?_; rintro e w5 ⟨v5, rfl, ho5, hb5⟩; have HB5 := Lib.hid hb5; have hz5 := hb5.size; have HO5 := Lib.hid ho5; have HOX5 := Lib.hid (HON.out.1.below hb5); have HOS5 := Lib.hid (HOS.out.below hb5); have HOF5 := Lib.hid (HOF.out.below hb5); clear ho5 hb5))
                | (at_builtin; (refine wpList_app rfl (.tmp 56) (.tmp 59) rfl w1.heap.size u6 v5 (B0 ++ g5) (cwrap f k) rfl rfl HOX5.out HO5.out.rds (by have := cwrap_most f k; simp; omega) (by omega) ?_; intro v6 w6 hown6 hg6 hat6; have hb6 := (Below.refl w1.heap.size w5).grown hg6 (by omega) (fun q hq => (HOX5.out.lt q hq).1); have HB6 := Lib.hid hb6; have hz6 := hb6.size; have HO6 := Lib.hid hown6; have HOS6 := Lib.hid (HOS5.out.grown hg6 (row_ne HOS5.out HOX5.out (by decide))); have k6 := run_str (HOF5.out.grown hg6 HNE.out).rds; clear hown6 hg6 hat6 hb6))
                | (at_builtin; (refine wpList_appS rfl (.tmp 61) (.tmp 64) rfl w1.heap.size w6.heap.size u7 W0 f rfl rfl (heap_alloc_new w6 _) (HOS6.out.below ((Below.refl _ _).alloc (Nat.le_refl _) _)) (by omega) (by simp; omega) ?_; intro v7 w7 hown7 hg7 hat7; have hb7 := ((Below.refl w1.heap.size w6).alloc (by omega) _).grown hg7 (by simp; omega) (fun q hq => (HOS6.out.lt q hq).1); have HB7 := Lib.hid hb7; have HO7 := Lib.hid hown7; have HO67 := Lib.hid ((HO6.out.alloc _).grown hg7 (row_ne HO6.out HOS6.out (by decide))); clear hown7 hg7 hat7 hb7)))
              go_roundw
              case rel => exact ⟨k + 1, by omega, by omega, by go_num, by rw [E1.out]; exact HO67.out, by rw [E2.out]; exact HO7.out, (((HBW.out.trans (HB2.out.mono hzw)).trans (HBEL.out)).trans ((HB5.out.mono (by omega)).trans (HB6.out.trans HB7.out)))⟩
              case measure => simp [intOf]; omega
    · have hall := (HALL.out k).1
      have hbl := HBL.out k
      have hwl := HWL.out k
      generalize manyB g5 L k = B0 at *
      generalize manyW L k = W0 at *
      have HW := Lib.hid hall
      clear hall
      have d1 : ((k : Int) < (ll.length : Int) ∧ (8 : Int) ≤ (k : Int)) ∨ (ll.length : Int) ≤ (k : Int) := by omega
      clear hin
      obtain ⟨Ax, nx, rfl, _, _, _⟩ := HOX.out.rds
      obtain ⟨Aw, nw, rfl, hnw, hmw⟩ := HOW.out.shape
      unfold maxLen at hmw
      rcases d1 with ⟨d1, d2⟩ | d1
      all_goals
        go_wp2_with (go_at_call 34; refine (makesL_to (All_any 30 _ B0 _ HOX.out.rds (by omega)) HW.out).mono ?_; rintro e w2 ⟨v2, rfl, ho2, hb2⟩; have HB2 := Lib.hid hb2; have HO2 := Lib.hid ho2; have HOW2 := Lib.hid (HOW.out.below hb2); obtain ⟨A2, n2, rfl, hn2, hm2⟩ := ho2.shape; unfold maxLen at hm2; clear ho2 hb2)
        go_loopw [75] (fun i wr => ∃ q : Nat, q ≤ W0.length ∧ i = .int .i64 q ∧ Below w2.heap.size w2 wr) (fun i _ => W0.length - (intOf i).toNat)
        case atStart => exact ⟨0, by omega, rfl, Below.refl _ _⟩
        case round =>
          obtain ⟨q, hq, rfl, hbw⟩ := hrel
          have HBX := Lib.hid hbw
          have hzx := hbw.size
          clear hbw
          by_cases hlt : q < W0.length
          · obtain ⟨ga, capa, ua, hea, _, _, hca, hua⟩ := HO2.out.at_ hlt
            obtain ⟨gb, capb, heb, hcb⟩ := HOW2.out.at_ hlt
            injection hea with e1 e2 e3
            injection heb with e4 e5 e6
            subst e1 e3 e4 e6
            have hga0 := World.block_lt_of_cell? w2 _ hca
            have hgb0 := World.block_lt_of_cell? w2 _ hcb
            have hga : ga < wr.drew.heap.size := Nat.lt_of_lt_of_le hga0 hzx
            have hgb : gb < wr.drew.heap.size := Nat.lt_of_lt_of_le hgb0 hzx
            generalize W0.getD q [] = f at *
            have HCA := Lib.hid (show wr.drew.cell? ⟨ga, q, none⟩ = some ua from (HBX.out.cell (p := ⟨ga, q, none⟩) hga0).trans hca)
            have HCB := Lib.hid (show wr.drew.cell? ⟨gb, q, none⟩ = some (.string ⟨f.toArray⟩) from (HBX.out.cell (p := ⟨gb, q, none⟩) hgb0).trans hcb)
            have HU := Lib.hid (hua.rds.below HBX.out)
            have q1 : (0 : Int) ≤ (q : Int) := by omega
            have q2 : (q : Int) < (W0.length : Int) := by omega
            clear hca hcb hua
            go_wp2
            refine rest_begin (by kernel_rfl) ?_
            refine rest_take 0 (oi := _) (v := ?_) (by simp only [List.getElem?_toArray, List.getElem?_cons_zero]; rfl) (by kernel_rfl) (by kernel_rfl) (by kernel_rfl) (by exact fun _ _ _ h => h) (by rfl) ?_ ?_; rotate_left; (· intro W HW; go_simp; try with_reducible rfl)
            simp only [Act.put, List.setIfInBounds_toArray, List.set_cons_zero, List.set_cons_succ]
            refine rest_take 1 (oi := _) (v := ?_) (by simp only [List.getElem?_toArray, List.getElem?_cons_succ, List.getElem?_cons_zero]; rfl) (by kernel_rfl) (by kernel_rfl) (by kernel_rfl) (by exact fun _ _ _ h => h) (by rfl) ?_ ?_; rotate_left; (· intro W HW; go_simp; try with_reducible rfl)
            simp only [Act.put, List.setIfInBounds_toArray, List.set_cons_zero, List.set_cons_succ]
            refine rest_take 2 (oi := _) (v := ?_) (by simp only [List.getElem?_toArray, List.getElem?_cons_succ, List.getElem?_cons_zero]; rfl) (by kernel_rfl) (by kernel_rfl) (by kernel_rfl) (by exact fun _ _ _ h => h) (by rfl) ?_ ?_; rotate_left; (· intro W HW; go_simp; try with_reducible rfl)
            simp only [Act.put, List.setIfInBounds_toArray, List.set_cons_zero, List.set_cons_succ]
            refine rest_take 3 (oi := _) (v := ?_) (by simp only [List.getElem?_toArray, List.getElem?_cons_succ, List.getElem?_cons_zero]; rfl) (by kernel_rfl) (by kernel_rfl) (by kernel_rfl) (by exact fun _ _ _ h => h) (by rfl) ?_ ?_; rotate_left; (· intro W HW; have hcW := (HW.cell (p := ⟨ga, q, none⟩) hga).trans HCA.out; go_simp; try with_reducible rfl)
            simp only [Act.put, List.setIfInBounds_toArray, List.set_cons_zero, List.set_cons_succ]
            refine rest_conv 4 (oi := _) (by simp only [List.getElem?_toArray, List.getElem?_cons_succ, List.getElem?_cons_zero]; rfl) (.tmp 81) _ _ (by kernel_rfl) (by kernel_rfl) (by kernel_rfl) (by exact fun _ _ _ h => h) (by rfl) rfl rfl (HU.out.below (Ext.drew wr)) ?_
            simp only [Act.put, List.setIfInBounds_toArray, List.set_cons_zero, List.set_cons_succ]
            refine rest_take 5 (oi := _) (v := ?_) (by simp only [List.getElem?_toArray, List.getElem?_cons_succ, List.getElem?_cons_zero]; rfl) (by kernel_rfl) (by kernel_rfl) (by kernel_rfl) (by exact fun _ _ _ h => h) (by rfl) ?_ ?_; rotate_left; (· intro W HW; go_simp; try with_reducible rfl)
            simp only [Act.put, List.setIfInBounds_toArray, List.set_cons_zero, List.set_cons_succ]
            refine rest_take 6 (oi := _) (v := ?_) (by simp only [List.getElem?_toArray, List.getElem?_cons_succ, List.getElem?_cons_zero]; rfl) (by kernel_rfl) (by kernel_rfl) (by kernel_rfl) (by exact fun _ _ _ h => h) (by rfl) ?_ ?_; rotate_left; (· intro W HW; go_simp; try with_reducible rfl)
            simp only [Act.put, List.setIfInBounds_toArray, List.set_cons_zero, List.set_cons_succ]
            refine rest_take 7 (oi := _) (v := ?_) (by simp only [List.getElem?_toArray, List.getElem?_cons_succ, List.getElem?_cons_zero]; rfl) (by kernel_rfl) (by kernel_rfl) (by kernel_rfl) (by exact fun _ _ _ h => h) (by rfl) ?_ ?_; rotate_left; (· intro W HW; go_simp; try with_reducible rfl)
            simp only [Act.put, List.setIfInBounds_toArray, List.set_cons_zero, List.set_cons_succ]
            refine rest_take 8 (oi := _) (v := ?_) (by simp only [List.getElem?_toArray, List.getElem?_cons_succ, List.getElem?_cons_zero]; rfl) (by kernel_rfl) (by kernel_rfl) (by kernel_rfl) (by exact fun _ _ _ h => h) (by rfl) ?_ ?_; rotate_left; (· intro W HW; have hcW := (HW.cell (p := ⟨gb, q, none⟩) hgb).trans HCB.out; go_simp; try with_reducible rfl)
            simp only [Act.put, List.setIfInBounds_toArray, List.set_cons_zero, List.set_cons_succ]
            refine rest_take 9 (oi := _) (v := ?_) (by simp only [List.getElem?_toArray, List.getElem?_cons_succ, List.getElem?_cons_zero]; rfl) (by kernel_rfl) (by kernel_rfl) (by kernel_rfl) (by exact fun _ _ _ h => h) (by rfl) ?_ ?_; rotate_left; (· intro W HW; go_simp; try with_reducible rfl)
            simp only [Act.put, List.setIfInBounds_toArray, List.set_cons_zero, List.set_cons_succ]
            refine rest_done (by kernel_rfl) ?_

            go_wp2
            go_roundw
            case rel => exact ⟨q + 1, by omega, by go_num, HBX.out.trans ((Ext.drew wr).mono hzx)⟩
            case measure => simp [intOf]; omega
          · obtain rfl : q = W0.length := by omega
            go_wp2
            go_ret
            exact ⟨rfl, HBw.out.trans ((HB2.out.mono hzz).trans (HBX.out.mono (by have := HB2.out.size; omega)))⟩
end Go.Proofs.Ytameiegmeicnoaa
