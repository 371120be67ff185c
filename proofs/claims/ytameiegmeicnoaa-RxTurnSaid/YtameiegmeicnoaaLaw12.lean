/- The law RxTurn. -/
import Derived.Test.YtameiegmeicnoaaEqAll
import Derived.Test.YtameiegmeicnoaaLaw5
import Derived.Test.YtameiegmeicnoaaFrm3
namespace Go.Proofs.Ytameiegmeicnoaa
open Go.RowKit M

theorem rest_made {P : Program} {ops : Array Oper} {Q : Exit → Act → World → Prop} {fuel : Nat} {listed : Array Bool} {a : Act} {w : World} (i : Nat) {oi : Oper} (hi : ops[i]? = some oi) (v : Value) (o : Obj)
    (hr : Region.ready .any ops listed = [i]) (hw : Region.wanted oi (yielded ops a.tmps) = true)
    (he : (execOp a.eval oi).run P w = .ok (.value v) (w.alloc o))
    (h : Rest P ops Q fuel (listed.setIfInBounds i true) (a.put oi.dst v) (w.alloc o)) : Rest P ops Q (fuel + 1) listed a w := by
  refine rest_step i hi hr hw ?_
  unfold Oper.wp
  rw [he, Oper.upon_value]
  exact ⟨(Below.refl _ _).alloc (Nat.le_refl _) o, h⟩

theorem skip_len (b : List UInt8) (h : b.length ≤ 100) : (rall (R.new 100) (cwrap b 0)).1.length = if 0 < b.length then 1 else 0 := by
  have hm : (R.new 100).most = 100 := by decide
  by_cases h0 : 0 < b.length
  · rw [if_pos h0, rall_wrap _ b 0 (by rw [hm]; exact h) h0]
    rfl
  · have hb0 : b = [] := List.eq_nil_of_length_eq_zero (by omega)
    subst hb0
    rw [rall_wrap_nil]
    rfl

set_option maxRecDepth 100000 in
set_option maxHeartbeats 4000000 in
theorem RxTurn_law (va : Value) (at0 x0 : Int) (la : List UInt8) (w : World) (ha : Rds w va la) (hat : (Lit.int .i64 at0).wf = true) (hx0 : (Lit.int .u8 x0).wf = true) : Calls Try.prog 15 #[va, .int .i64 at0, .int .u8 x0] w (Holds w) := by
  have hbx := bounds_i64 hat
  have hbu := bounds_u8 hx0
  have HA := Lib.hid ha
  obtain ⟨x, rfl⟩ : ∃ x : UInt8, x0 = (x.toNat : Int) := ⟨UInt8.ofNat x0.toNat, by rw [UInt8.toNat_ofNat']; omega⟩
  have h1 : (la.take 60).length ≤ 60 := short_len _ _
  obtain ⟨b, heb⟩ : ∃ b, b = la.take 60 := ⟨_, rfl⟩
  rw [← heb] at h1
  have HEB := Lib.hid heb
  have hsk := skip_len b (by omega)
  have HSK := Lib.hid hsk
  have hft := fun k (hk : k < (cwrap b 0).length) (hx : x ≠ 0) h2 h3 => frame_turned b k x (R.new 100) (by rw [show (R.new 100).most = 100 by decide]; omega) hk hx h2 h3
  obtain ⟨s, hs⟩ : ∃ s, s = cwrap b 0 := ⟨_, rfl⟩
  have hsl : s.length ≤ 200 := by rw [hs]; have := cwrap_most b 0; omega
  have hsl0 : 4 ≤ s.length := by rw [hs]; exact cwrap_pos b 0
  rw [← hs] at hft
  have HS := Lib.hid hs
  have HFT := Lib.hid hft
  clear ha hat hx0 heb hs hsk hft
  by_cases hskip : b.length = 0 ∨ at0 < 0 ∨ x = 0
  · have hlen : ((((rall (R.new 100) s).1.length : Nat) : Int) == if 0 < b.length then 1 else 0) = true := by
      rw [HS.out, HSK.out, beq_iff_eq]
      split <;> rfl
    have HLEN := Lib.hid hlen
    obtain ⟨LL, hLL⟩ : ∃ LL, LL = (rall (R.new 100) s).1 := ⟨_, rfl⟩
    have HLL := Lib.hid hLL
    clear hlen hLL
    rcases Nat.eq_zero_or_pos b.length with h | h
    · have t0 : ((b.length : Int) == 0) = true := by rw [h]; rfl
      have t0' : (b.length == 0) = true := by rw [h]; rfl
      have td : decide ((0 : Int) < (b.length : Int)) = false := by rw [h]; rfl
      have td' : decide (0 < b.length) = false := by rw [h]; rfl
      have tl : ((LL.length : Int) == 0) = true := by rw [HLL.out, HS.out, HSK.out, h]; rfl
      have tl' : (LL.length == 0) = true := by rw [HLL.out, HS.out, HSK.out, h]; rfl
      have H0 := Lib.hid h
      clear h hskip
      go_enter Try.func15, Try.ntmps15
      go_wp2_with (first
        | (go_at_call 18; refine (begun_any _).mono ?_; rintro e w1 ⟨rfl, hb1⟩; have HB1 := Lib.hid hb1; have hz1 := hb1.size; clear hb1)
        | (go_at_call 19; refine (Short_to va la b 60 _ (HA.out.below HB1.out) (by omega) (by omega) HEB.out).mono ?_; rintro e w2 ⟨v2, rfl, ho2, hb2⟩; have HB2 := Lib.hid (HB1.out.trans (hb2.mono hz1)); have hz2 := HB2.out.size; obtain ⟨A2, n2, rfl, _, _, _⟩ := ho2.rds; have HO2 := Lib.hid ho2; clear ho2 hb2)
        | (go_at_call 28; (refine (makes_to (Wrap_any _ b 0 _ HO2.out.rds (by omega)) HS.out.symm).mono ?_; rintro e w3 ⟨v3, rfl, ho3, hb3⟩; have HB3 := Lib.hid (HB2.out.trans (hb3.mono hz2)); have hz3 := HB3.out.size; obtain ⟨A3, n3, rfl, _, _, _⟩ := ho3.rds; have HO3 := Lib.hid ho3; clear ho3 hb3))
        | (go_at_call 34; refine (makesL_to (All_any 100 _ s _ HO3.out.rds (by omega)) HLL.out.symm).mono ?_; rintro e w4 ⟨v4, rfl, ho4, hb4⟩; have HB4 := Lib.hid (HB3.out.trans (hb4.mono hz3)); obtain ⟨A4, n4, rfl, _, _⟩ := ho4.shape; clear ho4 hb4)
        | (go_at_call 38; refine (b2i_any _ _).mono ?_; rintro e w' ⟨rfl, rfl⟩))
      go_ret
      exact ⟨rfl, HB4.out⟩
    · have t0 : ((b.length : Int) == 0) = false := by rw [beq_eq_false_iff_ne]; omega
      have t0' : (b.length == 0) = false := by rw [beq_eq_false_iff_ne]; omega
      have td : decide ((0 : Int) < (b.length : Int)) = true := by simp; omega
      have td' : decide (0 < b.length) = true := by simp; omega
      have tl : ((LL.length : Int) == 1) = true := by rw [HLL.out, HS.out, HSK.out, if_pos h]; rfl
      have tl' : (LL.length == 1) = true := by rw [HLL.out, HS.out, HSK.out, if_pos h]; rfl
      rcases Int.lt_or_le at0 0 with h' | h'
      · have t1 : decide (at0 < 0) = true := by simpa using h'
        have H0 := Lib.hid h
        clear h hskip h'
        go_enter Try.func15, Try.ntmps15
        go_wp2_with (first
          | (go_at_call 18; refine (begun_any _).mono ?_; rintro e w1 ⟨rfl, hb1⟩; have HB1 := Lib.hid hb1; have hz1 := hb1.size; clear hb1)
          | (go_at_call 19; refine (Short_to va la b 60 _ (HA.out.below HB1.out) (by omega) (by omega) HEB.out).mono ?_; rintro e w2 ⟨v2, rfl, ho2, hb2⟩; have HB2 := Lib.hid (HB1.out.trans (hb2.mono hz1)); have hz2 := HB2.out.size; obtain ⟨A2, n2, rfl, _, _, _⟩ := ho2.rds; have HO2 := Lib.hid ho2; clear ho2 hb2)
          | (go_at_call 28; (refine (makes_to (Wrap_any _ b 0 _ HO2.out.rds (by omega)) HS.out.symm).mono ?_; rintro e w3 ⟨v3, rfl, ho3, hb3⟩; have HB3 := Lib.hid (HB2.out.trans (hb3.mono hz2)); have hz3 := HB3.out.size; obtain ⟨A3, n3, rfl, _, _, _⟩ := ho3.rds; have HO3 := Lib.hid ho3; clear ho3 hb3))
          | (go_at_call 34; refine (makesL_to (All_any 100 _ s _ HO3.out.rds (by omega)) HLL.out.symm).mono ?_; rintro e w4 ⟨v4, rfl, ho4, hb4⟩; have HB4 := Lib.hid (HB3.out.trans (hb4.mono hz3)); obtain ⟨A4, n4, rfl, _, _⟩ := ho4.shape; clear ho4 hb4)
          | (go_at_call 38; refine (b2i_any _ _).mono ?_; rintro e w' ⟨rfl, rfl⟩))
        go_ret
        exact ⟨rfl, HB4.out⟩
      · have t1 : decide (at0 < 0) = false := by simpa using h'
        have t2 : ((x.toNat : Int) == 0) = true := by
          rcases hskip with h2 | h2 | h2
          · omega
          · omega
          · rw [h2]; rfl
        have H0 := Lib.hid h
        clear h hskip h'
        go_enter Try.func15, Try.ntmps15
        go_wp2_with (first
          | (go_at_call 18; refine (begun_any _).mono ?_; rintro e w1 ⟨rfl, hb1⟩; have HB1 := Lib.hid hb1; have hz1 := hb1.size; clear hb1)
          | (go_at_call 19; refine (Short_to va la b 60 _ (HA.out.below HB1.out) (by omega) (by omega) HEB.out).mono ?_; rintro e w2 ⟨v2, rfl, ho2, hb2⟩; have HB2 := Lib.hid (HB1.out.trans (hb2.mono hz1)); have hz2 := HB2.out.size; obtain ⟨A2, n2, rfl, _, _, _⟩ := ho2.rds; have HO2 := Lib.hid ho2; clear ho2 hb2)
          | (go_at_call 28; (refine (makes_to (Wrap_any _ b 0 _ HO2.out.rds (by omega)) HS.out.symm).mono ?_; rintro e w3 ⟨v3, rfl, ho3, hb3⟩; have HB3 := Lib.hid (HB2.out.trans (hb3.mono hz2)); have hz3 := HB3.out.size; obtain ⟨A3, n3, rfl, _, _, _⟩ := ho3.rds; have HO3 := Lib.hid ho3; clear ho3 hb3))
          | (go_at_call 34; refine (makesL_to (All_any 100 _ s _ HO3.out.rds (by omega)) HLL.out.symm).mono ?_; rintro e w4 ⟨v4, rfl, ho4, hb4⟩; have HB4 := Lib.hid (HB3.out.trans (hb4.mono hz3)); obtain ⟨A4, n4, rfl, _, _⟩ := ho4.shape; clear ho4 hb4)
          | (go_at_call 38; refine (b2i_any _ _).mono ?_; rintro e w' ⟨rfl, rfl⟩))
        go_ret
        exact ⟨rfl, HB4.out⟩
  · have hb0 : 0 < b.length := by omega
    have h0 : 0 ≤ at0 := by omega
    have hxz : x ≠ 0 := fun e => hskip (.inr (.inr e))
    have t0 : ((b.length : Int) == 0) = false := by rw [beq_eq_false_iff_ne]; omega
    have t0' : (b.length == 0) = false := by rw [beq_eq_false_iff_ne]; omega
    have t1 : decide (at0 < 0) = false := by simpa using h0
    have t2 : ((x.toNat : Int) == 0) = false := by
      have := toNat_beq x 0
      rw [decide_eq_false hxz] at this
      exact this
    obtain ⟨k, hk⟩ : ∃ k : Nat, at0 % (s.length : Int) = (k : Int) := ⟨(at0 % (s.length : Int)).toNat, by have := Int.emod_nonneg at0 (show (s.length : Int) ≠ 0 by omega); omega⟩
    have hks : k < s.length := by have := Int.emod_lt_of_pos at0 (show (0 : Int) < s.length by omega); omega
    have hnz : ((s.length : Int) == 0) = false := by rw [beq_eq_false_iff_ne]; omega
    have q1 : (0 : Int) ≤ (k : Int) := by omega
    have q2 : (k : Int) < (s.length : Int) := by omega
    obtain ⟨c0, hc0⟩ : ∃ c, c = s.getD k 0 := ⟨_, rfl⟩
    obtain ⟨c1, hc1⟩ : ∃ c, c = c0 ^^^ x := ⟨_, rfl⟩
    have hxor : bits .xor .u8 (c0.toNat : Int) (x.toNat : Int) = (c1.toNat : Int) := by
      rw [hc1, u8_xor_nat _ _ c0.toNat_lt x.toNat_lt, UInt8.toNat_xor]
    obtain ⟨q, hq⟩ : ∃ q, q = s.set k c1 := ⟨_, rfl⟩
    obtain ⟨LQ, hLQ⟩ : ∃ L, L = (rall (R.new 100) q).1 := ⟨_, rfl⟩
    have hql : q.length = s.length := by rw [hq, List.length_set]
    have hlq : LQ.length ≤ 1000000 := by
      have := rall_len q (R.new 100)
      rw [← hLQ] at this
      omega
    have hqk : q.getD k 0 = c1 := by rw [hq]; simp [hks]
    have hnone : special c0 = false → special c1 = false → LQ = [] := by
      intro e0 e1
      rw [hLQ, hq, hc1, hc0]
      exact HFT.out k hks hxz (by rw [← hc0]; exact e0) (by rw [← hc0, ← hc1]; exact e1)
    have HC0 := Lib.hid hc0
    have HQ := Lib.hid hq
    have HLQ := Lib.hid hLQ
    have HNO := Lib.hid hnone
    have HQL := Lib.hid hql
    have HQK := Lib.hid hqk
    have hc0l := c0.toNat_lt
    have hc1l := c1.toNat_lt
    have hqle : q.length ≤ 200 := by omega
    clear hskip hc0 hc1 hq hLQ hql hqk hnone hxz
    go_enter Try.func15, Try.ntmps15
    go_wp2_with (first
      | (go_at_call 18; refine (begun_any _).mono ?_; rintro e w1 ⟨rfl, hb1⟩; have HB1 := Lib.hid hb1; have hz1 := hb1.size; clear hb1)
      | (go_at_call 19; refine (Short_to va la b 60 _ (HA.out.below HB1.out) (by omega) (by omega) HEB.out).mono ?_; rintro e w2 ⟨v2, rfl, ho2, hb2⟩; have HB2 := Lib.hid (HB1.out.trans (hb2.mono hz1)); have hz2 := HB2.out.size; obtain ⟨A2, n2, rfl, _, _, _⟩ := ho2.rds; have HO2 := Lib.hid ho2; clear ho2 hb2)
      | (go_at_call 28; (refine (makes_to (Wrap_any _ b 0 _ HO2.out.rds (by omega)) HS.out.symm).mono ?_; rintro e w3 ⟨v3, rfl, ho3, hb3⟩; have HB3 := Lib.hid (HB2.out.trans (hb3.mono hz2)); have hz3 := HB3.out.size; obtain ⟨gs, ns, rfl, hns, hms, hbs, hls, hcs⟩ := ho3.shape (by omega); have hs0 : w3.cell? ⟨gs, k, none⟩ = some (.int .u8 (c0.toNat : Int)) := (by have := hcs k hks; rw [← HC0.out] at this; exact this); have HO3 := Lib.hid ho3; unfold maxLen at hms; clear ho3 hb3 hcs))
      | (at_builtin; (refine wpList_app rfl (.const (.slice none 0 0)) (.tmp 43) rfl w3.heap.size (.slice none 0 0) (.slice (some ⟨gs, 0, none⟩) s.length ns) [] s rfl rfl (Own.nil_ w3 _) HO3.out.rds (by simp; omega) (Nat.le_refl _) ?_; intro v4 w4 hown4 hg4 hat4; rw [List.nil_append] at hown4; have hb4 := below_of_grown hg4; have HB34 := Lib.hid hb4; have hz34 := hb4.size; obtain ⟨gq, nq, rfl, hnq, hmq, hbq, hlq4, hcq⟩ := hown4.shape (by omega); have hq1 : w4.cell? ⟨gq, k, none⟩ = some (.int .u8 (c0.toNat : Int)) := (by have := hcq k hks; rw [← HC0.out] at this; exact this); have hs1 : w4.cell? ⟨gs, k, none⟩ = some (.int .u8 (c0.toNat : Int)) := (hb4.cell (p := ⟨gs, k, none⟩) hls).trans hs0; have fq := hown4.free k; have HO4 := Lib.hid hown4; unfold maxLen at hmq; clear hown4 hg4 hat4 hb4 hcq)))
    have hO5 : Own (w4.setCell ⟨gq, k, none⟩ (.int .u8 (c1.toNat : Int))) w3.heap.size (.slice (some ⟨gq, 0, none⟩) s.length nq) q := by rw [HQ.out]; exact HO4.out.set_ k hks c1
    have hgs : gs < (w4.setCell ⟨gq, k, none⟩ (.int .u8 (c1.toNat : Int))).drew.heap.size := by simp [World.setCell, World.drew]; omega
    have hgq : gq < (w4.setCell ⟨gq, k, none⟩ (.int .u8 (c1.toNat : Int))).drew.heap.size := by simp [World.setCell, World.drew]; omega
    have HCS := Lib.hid (show (w4.setCell ⟨gq, k, none⟩ (.int .u8 (c1.toNat : Int))).drew.cell? ⟨gs, k, none⟩ = some (.int .u8 (c0.toNat : Int)) from (World.cell?_setCell_other w4 _ _ _ (fun e => by injection e with e1; omega)).trans hs1)
    have HCQ := Lib.hid (show (w4.setCell ⟨gq, k, none⟩ (.int .u8 (c1.toNat : Int))).drew.cell? ⟨gq, k, none⟩ = some (.int .u8 (c1.toNat : Int)) from by
      obtain ⟨g', n', he, _, _, _, _, hc⟩ := hO5.shape (by rw [HQL.out]; omega)
      injection he with e1 e2 e3
      injection e1 with e1
      injection e1 with e1 _ _
      subst e1
      have := hc k (by rw [HQL.out]; exact hks)
      rw [HQK.out] at this
      exact this)
    have HO5 := Lib.hid hO5
    have hbw : Below w3.heap.size w3 (w4.setCell ⟨gq, k, none⟩ (.int .u8 (c1.toNat : Int))) := HB34.out.setCell (p := ⟨gq, k, none⟩) hbq _
    have HBW0 := Lib.hid hbw
    clear hO5 hs1 hs0 hq1 fq hbw
    refine rest_begin (by kernel_rfl) ?_
    refine rest_take 0 (oi := _) (v := ?_) (by simp only [List.getElem?_toArray, List.getElem?_cons_zero]; rfl) (by kernel_rfl) (by kernel_rfl) (by kernel_rfl) (by exact fun _ _ _ h => h) (by rfl) ?_ ?_; rotate_left; (· intro W HW; go_simp; try with_reducible rfl)
    simp only [Act.put, List.setIfInBounds_toArray, List.set_cons_zero, List.set_cons_succ]
    refine rest_take 1 (oi := _) (v := ?_) (by simp only [List.getElem?_toArray, List.getElem?_cons_succ, List.getElem?_cons_zero]; rfl) (by kernel_rfl) (by kernel_rfl) (by kernel_rfl) (by exact fun _ _ _ h => h) (by rfl) ?_ ?_; rotate_left; (· intro W HW; go_simp; try with_reducible rfl)
    simp only [Act.put, List.setIfInBounds_toArray, List.set_cons_zero, List.set_cons_succ]
    refine rest_take 2 (oi := _) (v := ?_) (by simp only [List.getElem?_toArray, List.getElem?_cons_succ, List.getElem?_cons_zero]; rfl) (by kernel_rfl) (by kernel_rfl) (by kernel_rfl) (by exact fun _ _ _ h => h) (by rfl) ?_ ?_; rotate_left; (· intro W HW; go_simp; try with_reducible rfl)
    simp only [Act.put, List.setIfInBounds_toArray, List.set_cons_zero, List.set_cons_succ]
    refine rest_take 3 (oi := _) (v := ?_) (by simp only [List.getElem?_toArray, List.getElem?_cons_succ, List.getElem?_cons_zero]; rfl) (by kernel_rfl) (by kernel_rfl) (by kernel_rfl) (by exact fun _ _ _ h => h) (by rfl) ?_ ?_; rotate_left; (· intro W HW; have hcW := (HW.cell (p := ⟨gs, k, none⟩) hgs).trans HCS.out; go_simp; try with_reducible rfl)
    simp only [Act.put, List.setIfInBounds_toArray, List.set_cons_zero, List.set_cons_succ]
    refine rest_take 4 (oi := _) (v := ?_) (by simp only [List.getElem?_toArray, List.getElem?_cons_succ, List.getElem?_cons_zero]; rfl) (by kernel_rfl) (by kernel_rfl) (by kernel_rfl) (by exact fun _ _ _ h => h) (by rfl) ?_ ?_; rotate_left; (· intro W HW; go_simp; try with_reducible rfl)
    simp only [Act.put, List.setIfInBounds_toArray, List.set_cons_zero, List.set_cons_succ]
    refine rest_take 5 (oi := _) (v := ?_) (by simp only [List.getElem?_toArray, List.getElem?_cons_succ, List.getElem?_cons_zero]; rfl) (by kernel_rfl) (by kernel_rfl) (by kernel_rfl) (by exact fun _ _ _ h => h) (by rfl) ?_ ?_; rotate_left; (· intro W HW; go_simp; try with_reducible rfl)
    simp only [Act.put, List.setIfInBounds_toArray, List.set_cons_zero, List.set_cons_succ]
    refine rest_take 6 (oi := _) (v := ?_) (by simp only [List.getElem?_toArray, List.getElem?_cons_succ, List.getElem?_cons_zero]; rfl) (by kernel_rfl) (by kernel_rfl) (by kernel_rfl) (by exact fun _ _ _ h => h) (by rfl) ?_ ?_; rotate_left; (· intro W HW; go_simp; try with_reducible rfl)
    simp only [Act.put, List.setIfInBounds_toArray, List.set_cons_zero, List.set_cons_succ]
    refine rest_take 7 (oi := _) (v := ?_) (by simp only [List.getElem?_toArray, List.getElem?_cons_succ, List.getElem?_cons_zero]; rfl) (by kernel_rfl) (by kernel_rfl) (by kernel_rfl) (by exact fun _ _ _ h => h) (by rfl) ?_ ?_; rotate_left; (· intro W HW; have hcW := (HW.cell (p := ⟨gq, k, none⟩) hgq).trans HCQ.out; go_simp; try with_reducible rfl)
    simp only [Act.put, List.setIfInBounds_toArray, List.set_cons_zero, List.set_cons_succ]
    refine rest_take 10 (oi := _) (v := ?_) (by simp only [List.getElem?_toArray, List.getElem?_cons_succ, List.getElem?_cons_zero]; rfl) (by kernel_rfl) (by kernel_rfl) (by kernel_rfl) (by exact fun _ _ _ h => h) (by rfl) ?_ ?_; rotate_left; (· intro W HW; go_simp; try with_reducible rfl)
    simp only [Act.put, List.setIfInBounds_toArray, List.set_cons_zero, List.set_cons_succ]
    refine rest_made 8 (oi := _) (by simp only [List.getElem?_toArray, List.getElem?_cons_succ, List.getElem?_cons_zero]; rfl) (.slice (some ⟨w4.heap.size, 0, none⟩) 2 2) (.cells (bcs [c0, c1]).toArray 5) (by kernel_rfl) (by rfl) (by go_simp; rfl) ?_
    simp only [Act.put, List.setIfInBounds_toArray, List.set_cons_zero, List.set_cons_succ]
    refine rest_take 9 (oi := _) (v := ?_) (by simp only [List.getElem?_toArray, List.getElem?_cons_succ, List.getElem?_cons_zero]; rfl) (by kernel_rfl) (by kernel_rfl) (by kernel_rfl) (by exact fun _ _ _ h => h) (by rfl) ?_ ?_; rotate_left; (· intro W HW; go_simp; try with_reducible rfl)
    simp only [Act.put, List.setIfInBounds_toArray, List.set_cons_zero, List.set_cons_succ]
    refine rest_done (by kernel_rfl) ?_

    obtain ⟨W6, hW6⟩ : ∃ W, W = (w4.setCell ⟨gq, k, none⟩ (.int .u8 (c1.toNat : Int))).drew.alloc (.cells (bcs [c0, c1]).toArray 5) := ⟨_, rfl⟩
    have hpair : ∀ j, j < 2 → W6.cell? ⟨w4.heap.size, j, none⟩ = some (.int .u8 (([c0, c1].getD j 0).toNat : Int)) := by
      intro j hj
      have hz : (w4.setCell ⟨gq, k, none⟩ (.int .u8 (c1.toNat : Int))).drew.heap.size = w4.heap.size := by simp [World.setCell, World.drew]
      have h := Own.built (w4.setCell ⟨gq, k, none⟩ (.int .u8 (c1.toNat : Int))).drew [c0, c1] 0 (Nat.zero_le _) (by simp [maxLen])
      rw [hz, ← hW6] at h
      obtain ⟨g', n', he, _, _, _, _, hc⟩ := h.shape (by simp)
      injection he with e1 e2 e3
      injection e1 with e1
      injection e1 with e1 _ _
      subst e1
      exact hc j hj
    have hOQ : Own W6 w3.heap.size (.slice (some ⟨gq, 0, none⟩) s.length nq) q := by rw [hW6]; exact Own.alloc (w := (w4.setCell ⟨gq, k, none⟩ (.int .u8 (c1.toNat : Int))).drew) HO5.out _
    have hBW : Below w.heap.size w W6 := by
      rw [hW6]
      exact HB3.out.trans ((HBW0.out.drew.alloc (by simp [World.setCell, World.drew]; omega) _).mono hz3)
    have HP := Lib.hid hpair
    have HOQ := Lib.hid hOQ
    have HBW := Lib.hid hBW
    rw [← hW6]
    clear hpair hOQ hBW hW6 HO4 HO5 HBW0 HCS HCQ hgs hgq
    go_wp2
    go_loop [62] (fun i => ∃ j : Nat, j ≤ 2 ∧ i = .int .i64 j ∧ (1 ≤ j → special c0 = false) ∧ (2 ≤ j → special c1 = false)) (fun i => 2 - (intOf i).toNat)
    case atStart => exact ⟨0, by omega, rfl, fun h => absurd h (by omega), fun h => absurd h (by omega)⟩
    case round =>
      obtain ⟨j, hj, rfl, hs0, hs1⟩ := hrel
      have HS0 := Lib.hid hs0
      have HS1 := Lib.hid hs1
      clear hs0 hs1
      by_cases hlt : j < 2
      · have hcell := HP.out j hlt
        have hcv : (j = 0 → [c0, c1].getD j 0 = c0) ∧ (j = 1 → [c0, c1].getD j 0 = c1) := ⟨by rintro rfl; rfl, by rintro rfl; rfl⟩
        have HCV := Lib.hid hcv
        clear hcv
        generalize [c0, c1].getD j 0 = c at *
        have hcl := c.toNat_lt
        have r1 : (0 : Int) ≤ (j : Int) := by omega
        have r2 : (j : Int) < 2 := by omega
        have u1 := toNat_beq c 192
        have u2 := toNat_beq c 193
        have u3 := toNat_beq c 125
        by_cases e1 : c = 192
        · rw [decide_eq_true e1] at u1
          replace u1 : ((c.toNat : Int) == 192) = true := u1
          clear e1 u2 u3
          go_wp2_with (first
            | (go_at_call 34; refine (makesL_to (All_any 100 _ q _ HOQ.out.rds (by omega)) HLQ.out.symm).mono ?_; rintro e w7 ⟨v7, rfl, ho7, hb7⟩; have HB7 := Lib.hid hb7; have HO7 := Lib.hid ho7; have HOQ7 := Lib.hid (HOQ.out.below hb7); clear ho7 hb7)
            | (go_at_call 40; refine (makesL_to (RefAll_any 100 _ q _ HOQ7.out.rds (by omega)) HLQ.out.symm).mono ?_; rintro e w8 ⟨v8, rfl, ho8, hb8⟩; have HB8 := Lib.hid (HB7.out.trans (hb8.mono HB7.out.size)); have HO8 := Lib.hid ho8; have HO78 := Lib.hid (HO7.out.below hb8); clear ho8 hb8)
            | (go_at_call 39; refine (eqAll_same _ _ _ _ LQ _ HO78.out HO8.out hlq).mono ?_; rintro e w9 ⟨rfl, hb9⟩; have HB9 := Lib.hid (HB8.out.trans (hb9.mono HB8.out.size)); clear hb9))
          go_ret
          exact ⟨rfl, HBW.out.trans (HB9.out.mono HBW.out.size)⟩
        · by_cases e2 : c = 193
          · rw [decide_eq_false e1] at u1
            rw [decide_eq_true e2] at u2
            replace u1 : ((c.toNat : Int) == 192) = false := u1
            replace u2 : ((c.toNat : Int) == 193) = true := u2
            clear e1 e2 u3
            go_wp2_with (first
              | (go_at_call 34; refine (makesL_to (All_any 100 _ q _ HOQ.out.rds (by omega)) HLQ.out.symm).mono ?_; rintro e w7 ⟨v7, rfl, ho7, hb7⟩; have HB7 := Lib.hid hb7; have HO7 := Lib.hid ho7; have HOQ7 := Lib.hid (HOQ.out.below hb7); clear ho7 hb7)
              | (go_at_call 40; refine (makesL_to (RefAll_any 100 _ q _ HOQ7.out.rds (by omega)) HLQ.out.symm).mono ?_; rintro e w8 ⟨v8, rfl, ho8, hb8⟩; have HB8 := Lib.hid (HB7.out.trans (hb8.mono HB7.out.size)); have HO8 := Lib.hid ho8; have HO78 := Lib.hid (HO7.out.below hb8); clear ho8 hb8)
              | (go_at_call 39; refine (eqAll_same _ _ _ _ LQ _ HO78.out HO8.out hlq).mono ?_; rintro e w9 ⟨rfl, hb9⟩; have HB9 := Lib.hid (HB8.out.trans (hb9.mono HB8.out.size)); clear hb9))
            go_ret
            exact ⟨rfl, HBW.out.trans (HB9.out.mono HBW.out.size)⟩
          · by_cases e3 : c = 125
            · rw [decide_eq_false e1] at u1
              rw [decide_eq_false e2] at u2
              rw [decide_eq_true e3] at u3
              replace u1 : ((c.toNat : Int) == 192) = false := u1
              replace u2 : ((c.toNat : Int) == 193) = false := u2
              replace u3 : ((c.toNat : Int) == 125) = true := u3
              clear e1 e2 e3
              go_wp2_with (first
                | (go_at_call 34; refine (makesL_to (All_any 100 _ q _ HOQ.out.rds (by omega)) HLQ.out.symm).mono ?_; rintro e w7 ⟨v7, rfl, ho7, hb7⟩; have HB7 := Lib.hid hb7; have HO7 := Lib.hid ho7; have HOQ7 := Lib.hid (HOQ.out.below hb7); clear ho7 hb7)
                | (go_at_call 40; refine (makesL_to (RefAll_any 100 _ q _ HOQ7.out.rds (by omega)) HLQ.out.symm).mono ?_; rintro e w8 ⟨v8, rfl, ho8, hb8⟩; have HB8 := Lib.hid (HB7.out.trans (hb8.mono HB7.out.size)); have HO8 := Lib.hid ho8; have HO78 := Lib.hid (HO7.out.below hb8); clear ho8 hb8)
                | (go_at_call 39; refine (eqAll_same _ _ _ _ LQ _ HO78.out HO8.out hlq).mono ?_; rintro e w9 ⟨rfl, hb9⟩; have HB9 := Lib.hid (HB8.out.trans (hb9.mono HB8.out.size)); clear hb9))
              go_ret
              exact ⟨rfl, HBW.out.trans (HB9.out.mono HBW.out.size)⟩
            · have hsp : special c = false := by
                rcases h : special c with _ | _
                · rfl
                · rcases (special_iff c).1 h with h | h | h
                  · exact absurd h e1
                  · exact absurd h e2
                  · exact absurd h e3
              have HSP := Lib.hid hsp
              rw [decide_eq_false e1] at u1
              rw [decide_eq_false e2] at u2
              rw [decide_eq_false e3] at u3
              replace u1 : ((c.toNat : Int) == 192) = false := u1
              replace u2 : ((c.toNat : Int) == 193) = false := u2
              replace u3 : ((c.toNat : Int) == 125) = false := u3
              clear e1 e2 e3 hsp
              go_wp2
              go_round
              case rel =>
                refine ⟨j + 1, by omega, by go_num, fun h => ?_, fun h => ?_⟩
                · rcases Nat.eq_zero_or_pos j with h' | h'
                  · rw [← HCV.out.1 h']; exact HSP.out
                  · exact HS0.out h'
                · have h' : j = 1 := by omega
                  rw [← HCV.out.2 h']; exact HSP.out
              case measure => simp [intOf]; omega
      · obtain rfl : j = 2 := by omega
        have hLN := HLQ.out.symm.trans (HNO.out (HS0.out (by omega)) (HS1.out (by omega)))
        have HLN := Lib.hid hLN
        clear hLN
        go_wp2_with (go_at_call 34; refine (makesL_to (All_any 100 _ q _ HOQ.out.rds (by omega)) HLN.out).mono ?_; rintro e w7 ⟨v7, rfl, ho7, hb7⟩; have HB7 := Lib.hid hb7; obtain ⟨A7, n7, rfl, _, _⟩ := ho7.shape; clear ho7 hb7)
        go_ret
        exact ⟨rfl, HBW.out.trans (HB7.out.mono HBW.out.size)⟩
end Go.Proofs.Ytameiegmeicnoaa
