/- The law CrcBit. -/
import Derived.Test.YtameiegmeicnoaaLaw5
namespace Go.Proofs.Ytameiegmeicnoaa
open Go.RowKit M

theorem Own.free {w : World} {base : Nat} {g n cap : Nat} {l : List UInt8} (h : Own w base (.slice (some ⟨g, 0, none⟩) n cap) l) (j : Nat) : w.frozen? ⟨g, j, none⟩ = false := by
  rcases h.2 with ⟨e, _⟩ | ⟨g', cap', cur, e, hb, hh, _⟩
  · cases e
  · injection e with e1 e2 e3
    injection e1 with e1
    injection e1 with e1 _ _
    subst e1
    simp [World.frozen?, hh]
/-- A byte of one's own is written. -/
theorem Own.set_ {w : World} {base : Nat} {g n cap : Nat} {l : List UInt8} (h : Own w base (.slice (some ⟨g, 0, none⟩) n cap) l) (j : Nat) (_ : j < l.length) (x : UInt8) : Own (w.setCell ⟨g, j, none⟩ (bc x)) base (.slice (some ⟨g, 0, none⟩) n cap) (l.set j x) := by
  rcases h.2 with ⟨e, _⟩ | ⟨g', cap', cur, e, hb, hh, hc, hm, hs, ht⟩
  · cases e
  · injection e with e1 e2 e3
    injection e1 with e1
    injection e1 with e1 _ _
    subst e1 e2 e3
    refine ⟨by simp [bcs_length], .inr ⟨_, _, (cur.toList.set j (bc x)).toArray, by rw [List.length_set], hb, ?_, by rw [List.length_set]; exact hc, hm, by simpa using hs, ?_⟩⟩
    · have hh' : w.heap[g]? = some (.cells cur.toList.toArray 5 (0, 0)) := by simpa using hh
      exact set_block hh' j (bc x)
    · simp only [List.length_set, Nat.mul_one] at ht ⊢
      rw [List.take_set, ht]
      simp [bcs]

theorem Own.setOther {w : World} {base : Nat} {v : Value} {l : List UInt8} (h : Own w base v l) (p : Addr) (u : Value) (hp : v.ownBlock ≠ some p.block) : Own (w.setCell p u) base v l := by
  refine ⟨h.1, ?_⟩
  rcases h.2 with h2 | ⟨g, cap, cur, rfl, hb, hh, r⟩
  · exact .inl h2
  · refine .inr ⟨g, cap, cur, rfl, hb, ?_, r⟩
    rw [Below.heap_setCell _ _ _ _ (by simpa [Value.ownBlock] using hp)]
    exact hh
theorem turn_bit (p : UInt8) (j : Nat) (hj : j < 8) : bits .xor .u8 (p.toNat : Int) ((2 : Int) ^ j % 256) = ((p ^^^ UInt8.ofNat (2 ^ j)).toNat : Int) := by
  have h0 : (2 : Int) ^ j = ((2 ^ j : Nat) : Int) := (Int.natCast_pow 2 j).symm
  have hlt := pow_lt8 j hj
  have h1 : (2 : Int) ^ j % 256 = ((2 ^ j : Nat) : Int) := by
    rw [h0]
    generalize 2 ^ j = z at *
    omega
  rw [h1, u8_xor_nat _ _ p.toNat_lt (pow_lt8 j hj), UInt8.toNat_xor, UInt8.toNat_ofNat', Nat.mod_eq_of_lt (pow_lt8 j hj)]

set_option maxRecDepth 100000 in
set_option maxHeartbeats 2000000 in
theorem CrcBit_law (va : Value) (i0 k0 : Int) (la : List UInt8) (w : World) (ha : Rds w va la) (hi : (Lit.int .i64 i0).wf = true) (hk : (Lit.int .i64 k0).wf = true) : Calls Try.prog 11 #[va, .int .i64 i0, .int .i64 k0] w (Holds w) := by
  have hbi := bounds_i64 hi
  have hbk := bounds_i64 hk
  have HA := Lib.hid ha
  have h1 : (la.take 60).length ≤ 60 := short_len _ _
  obtain ⟨b, heb⟩ : ∃ b, b = la.take 60 := ⟨_, rfl⟩
  rw [← heb] at h1
  have HEB := Lib.hid heb
  clear ha hi hk heb
  by_cases hb0 : b.length = 0
  · have t0 : ((b.length : Int) == 0) = true := by rw [beq_iff_eq]; omega
    have t0' : (b.length == 0) = true := by rw [beq_iff_eq]; omega
    clear hb0
    go_enter Try.func11, Try.ntmps11
    go_wp2_with (first
      | (go_at_call 18; refine (begun_any _).mono ?_; rintro e w1 ⟨rfl, hb1⟩; have HB1 := Lib.hid hb1; have hz1 := hb1.size; clear hb1)
      | (go_at_call_of 19 va; refine (Short_to va la b 60 _ (HA.out.below HB1.out) (by omega) (by omega) HEB.out).mono ?_; rintro e w2 ⟨v2, rfl, ho2, hb2⟩; have HB2 := Lib.hid (HB1.out.trans (hb2.mono hz1)); obtain ⟨A2, n2, rfl, _, _, _⟩ := ho2.rds; clear ho2 hb2))
    go_ret
    exact ⟨rfl, HB2.out⟩
  · by_cases hi0 : i0 < 0
    · have t0 : ((b.length : Int) == 0) = false := by rw [beq_eq_false_iff_ne]; omega
      have t0' : (b.length == 0) = false := by rw [beq_eq_false_iff_ne]; omega
      have t1 : decide (i0 < 0) = true := by simpa using hi0
      clear hb0
      go_enter Try.func11, Try.ntmps11
      go_wp2_with (first
        | (go_at_call 18; refine (begun_any _).mono ?_; rintro e w1 ⟨rfl, hb1⟩; have HB1 := Lib.hid hb1; have hz1 := hb1.size; clear hb1)
        | (go_at_call_of 19 va; refine (Short_to va la b 60 _ (HA.out.below HB1.out) (by omega) (by omega) HEB.out).mono ?_; rintro e w2 ⟨v2, rfl, ho2, hb2⟩; have HB2 := Lib.hid (HB1.out.trans (hb2.mono hz1)); obtain ⟨A2, n2, rfl, _, _, _⟩ := ho2.rds; clear ho2 hb2))
      go_ret
      exact ⟨rfl, HB2.out⟩
    · by_cases hk0 : k0 < 0
      · have t0 : ((b.length : Int) == 0) = false := by rw [beq_eq_false_iff_ne]; omega
        have t0' : (b.length == 0) = false := by rw [beq_eq_false_iff_ne]; omega
        have t1 : decide (i0 < 0) = false := by simpa using hi0
        have t2 : decide (k0 < 0) = true := by simpa using hk0
        clear hb0
        go_enter Try.func11, Try.ntmps11
        go_wp2_with (first
          | (go_at_call 18; refine (begun_any _).mono ?_; rintro e w1 ⟨rfl, hb1⟩; have HB1 := Lib.hid hb1; have hz1 := hb1.size; clear hb1)
          | (go_at_call_of 19 va; refine (Short_to va la b 60 _ (HA.out.below HB1.out) (by omega) (by omega) HEB.out).mono ?_; rintro e w2 ⟨v2, rfl, ho2, hb2⟩; have HB2 := Lib.hid (HB1.out.trans (hb2.mono hz1)); obtain ⟨A2, n2, rfl, _, _, _⟩ := ho2.rds; clear ho2 hb2))
        go_ret
        exact ⟨rfl, HB2.out⟩
      · have t0 : ((b.length : Int) == 0) = false := by rw [beq_eq_false_iff_ne]; omega
        have t0' : (b.length == 0) = false := by rw [beq_eq_false_iff_ne]; omega
        have t1 : decide (i0 < 0) = false := by simpa using hi0
        have t2 : decide (k0 < 0) = false := by simpa using hk0
        obtain ⟨i, hi⟩ : ∃ i : Nat, i0 % ((b.length : Int) * 8) = (i : Int) := ⟨(i0 % ((b.length : Int) * 8)).toNat, by have := Int.emod_nonneg i0 (show (b.length : Int) * 8 ≠ 0 by omega); omega⟩
        obtain ⟨k, hk⟩ : ∃ k : Nat, k0 % ((b.length : Int) * 8) = (k : Int) := ⟨(k0 % ((b.length : Int) * 8)).toNat, by have := Int.emod_nonneg k0 (show (b.length : Int) * 8 ≠ 0 by omega); omega⟩
        have hib : i < 8 * b.length := by have := Int.emod_lt_of_pos i0 (show (0 : Int) < (b.length : Int) * 8 by omega); omega
        have hkb : k < 8 * b.length := by have := Int.emod_lt_of_pos k0 (show (0 : Int) < (b.length : Int) * 8 by omega); omega
        have hwr : IntKind.i64.wrap ((b.length : Int) * 8) = (b.length : Int) * 8 := IntWalk.i64_in _ (by omega)
        have hnz : ((b.length : Int) * 8 == 0) = false := by rw [beq_eq_false_iff_ne]; omega
        have ht1 : i0.tmod ((b.length : Int) * 8) = (i : Int) := by rw [Int.tmod_eq_emod_of_nonneg (by omega)]; exact hi
        have ht2 : k0.tmod ((b.length : Int) * 8) = (k : Int) := by rw [Int.tmod_eq_emod_of_nonneg (by omega)]; exact hk
        go_enter Try.func11, Try.ntmps11
        go_wp2_with (first
          | (go_at_call 18; refine (begun_any _).mono ?_; rintro e w1 ⟨rfl, hb1⟩; have HB1 := Lib.hid hb1; have hz1 := hb1.size; clear hb1)
          | (go_at_call_of 19 va; refine (Short_to va la b 60 _ (HA.out.below HB1.out) (by omega) (by omega) HEB.out).mono ?_; rintro e w2 ⟨v2, rfl, ho2, hb2⟩; have HB2 := Lib.hid (HB1.out.trans (hb2.mono hz1)); have hz2 := HB2.out.size; obtain ⟨A2, n2, rfl, _, _, _⟩ := ho2.rds; have HO2 := Lib.hid ho2; clear ho2 hb2))
        go_quiet (fail)
        go_wp2_with (first
          | (at_builtin; (refine wpList_app rfl (.const (.slice none 0 0)) (.tmp 36) rfl w2.heap.size (.slice none 0 0) _ [] b rfl rfl (Own.nil_ _ _) (HO2.out.rds.below (below_drewN (Below.refl _ _) _)) (by simp; omega) (Nat.le_refl _) ?_; intro v3 w3 hown3 hg3 hat3; rw [List.nil_append] at hown3; have hb3 := below_of_grown hg3; have HB3 := Lib.hid hb3; have hz3 : w2.heap.size ≤ w3.heap.size := hb3.size; have HO3 := Lib.hid hown3; clear hown3 hg3 hat3 hb3))
          | (at_builtin; (refine wpList_app rfl (.const (.slice none 0 0)) (.tmp 38) rfl w3.heap.size (.slice none 0 0) _ [] b rfl rfl (Own.nil_ _ _) ((HO2.out.rds.below (below_drewN (Below.refl _ _) _)).below HB3.out) (by simp; omega) (Nat.le_refl _) ?_; intro v4 w4 hown4 hg4 hat4; rw [List.nil_append] at hown4; have hb4 := below_of_grown hg4; have HB4 := Lib.hid hb4; have hz4 := hb4.size; have HO4 := Lib.hid hown4; have HO34 := Lib.hid (HO3.out.below hb4); clear hown4 hg4 hat4 hb4)))
        obtain ⟨gx, nx, rfl, hnx, hmx, hgx, hgx', hcx⟩ := HO34.out.shape (by omega)
        obtain ⟨gy, ny, rfl, hny, hmy, hgy, hgy', hcy⟩ := HO4.out.shape (by omega)
        have hcx1 := hcx (i / 8) (by omega)
        have fx1 := HO34.out.free (i / 8)
        have hcy1 := hcy (k / 8) (by omega)
        have fy1 := HO4.out.free (k / 8)
        unfold bc at hcx1 hcy1
        have hgx3 := (HO3.out.lt gx (by simp [Value.ownBlock])).2
        have hgxy : gx ≠ gy := by omega
        have hgyx : gy ≠ gx := by omega
        have hsx := turn_bit (b.getD (i / 8) 0) (i % 8) (by omega)
        have hsy := turn_bit (b.getD (k / 8) 0) (k % 8) (by omega)
        have q1 : (0 : Int) ≤ (i : Int) / 8 := by omega
        have q2 : (i : Int) / 8 < (b.length : Int) := by omega
        have q3 : (0 : Int) ≤ (i : Int) % 8 := by omega
        have q4 : (0 : Int) ≤ (k : Int) / 8 := by omega
        have q5 : (k : Int) / 8 < (b.length : Int) := by omega
        have q6 : (0 : Int) ≤ (k : Int) % 8 := by omega
        have hfx : flip b i = b.set (i / 8) (b.getD (i / 8) 0 ^^^ UInt8.ofNat (2 ^ (i % 8))) := rfl
        have hfy : flip b k = b.set (k / 8) (b.getD (k / 8) 0 ^^^ UInt8.ofNat (2 ^ (k % 8))) := rfl
        have HFX := Lib.hid hfx
        have HFY := Lib.hid hfy
        have hpl := (b.getD (i / 8) 0).toNat_lt
        have hql := (b.getD (k / 8) 0).toNat_lt
        generalize b.getD (i / 8) 0 ^^^ UInt8.ofNat (2 ^ (i % 8)) = p' at *
        generalize b.getD (k / 8) 0 ^^^ UInt8.ofNat (2 ^ (k % 8)) = q' at *
        generalize b.getD (i / 8) 0 = p at *
        generalize b.getD (k / 8) 0 = q at *
        clear hcx hcy hfx hfy
        unfold maxLen at hmx hmy
        have X1 : Own (w4.setCell ⟨gx, i / 8, none⟩ (.int .u8 (p'.toNat : Int))) w2.heap.size (.slice (some ⟨gx, 0, none⟩) b.length nx) (flip b i) := by rw [HFX.out]; exact HO34.out.set_ _ (by omega) _
        have X2 := X1.setOther ⟨gy, k / 8, none⟩ (.int .u8 (q'.toNat : Int)) (by simp [Value.ownBlock]; omega)
        have Y1 := HO4.out.setOther ⟨gx, i / 8, none⟩ (.int .u8 (p'.toNat : Int)) (by simp [Value.ownBlock]; omega)
        have Y2 : Own ((w4.setCell ⟨gx, i / 8, none⟩ (.int .u8 (p'.toNat : Int))).setCell ⟨gy, k / 8, none⟩ (.int .u8 (q'.toNat : Int))) w3.heap.size (.slice (some ⟨gy, 0, none⟩) b.length ny) (flip b k) := by rw [HFY.out]; exact Y1.set_ _ (by omega) _
        have BL : Below w2.heap.size w2 ((w4.setCell ⟨gx, i / 8, none⟩ (.int .u8 (p'.toNat : Int))).setCell ⟨gy, k / 8, none⟩ (.int .u8 (q'.toNat : Int))) :=
          ((((below_drewN (Below.refl w2.heap.size w2) nq).trans HB3.out).trans (HB4.out.mono hz3)).setCell (p := ⟨gx, i / 8, none⟩) (by simp only; omega) _).setCell (p := ⟨gy, k / 8, none⟩) (by simp only; omega) _
        have HX2 := Lib.hid X2
        have HY2 := Lib.hid Y2
        have HBL := Lib.hid BL
        have u1 : (((cof (flip b i) : Nat) : Int) != ((cof b : Nat) : Int)) = true := by
          have := cof_flip_ne b i hib
          rw [bne_iff_ne]; omega
        have u1' : ((cof (flip b i)) != (cof b)) = true := by
          have := cof_flip_ne b i hib
          rw [bne_iff_ne]; omega
        have u2 : ((((cof (flip b i) : Nat) : Int) == ((cof (flip b k) : Nat) : Int)) == ((i : Int) == (k : Int))) = true := by
          have := cof_flip_inj b i k hib hkb h1
          rw [beq_iff_eq, Bool.eq_iff_iff, beq_iff_eq, beq_iff_eq]
          omega
        have u2' : ((cof (flip b i) == cof (flip b k)) == (i == k)) = true := by
          have := cof_flip_inj b i k hib hkb h1
          rw [beq_iff_eq, Bool.eq_iff_iff, beq_iff_eq, beq_iff_eq]
          exact this
        clear X1 X2 Y1 Y2 BL
        go_region
        all_goals
          go_wp2
          go_region
          all_goals
            go_wp2_with fail
            refine (Of_any _ (flip b i) _ (HX2.out.rds.below ((Below.refl _ _).drew.drew))).mono ?_
            rintro e w' ⟨rfl, rfl⟩
            go_wp2_with fail
            refine (Of_any _ b _ ((HO2.out.rds.below HBL.out).below ((Below.refl _ _).drew.drew))).mono ?_
            rintro e w' ⟨rfl, rfl⟩
            go_wp2_with fail
            refine (Of_any _ (flip b i) _ (HX2.out.rds.below ((Below.refl _ _).drew.drew))).mono ?_
            rintro e w' ⟨rfl, rfl⟩
            go_wp2_with fail
            refine (Of_any _ (flip b k) _ (HY2.out.rds.below ((Below.refl _ _).drew.drew))).mono ?_
            rintro e w' ⟨rfl, rfl⟩
            go_wp2
            go_ret
            exact ⟨rfl, HB2.out.trans ((HBL.out.drew.drew).mono hz2)⟩
end Go.Proofs.Ytameiegmeicnoaa
