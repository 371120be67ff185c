/- The law RxLong. -/
import Derived.Test.YtameiegmeicnoaaLaw6
import Derived.Test.YtameiegmeicnoaaFrm3
namespace Go.Proofs.Ytameiegmeicnoaa
open Go.RowKit M

theorem madeCells_bytes (n : Nat) : madeCells (Value.int .u8 0).cells (n * 1) = (bcs (List.replicate n 0)).toArray := by
  apply Array.ext
  · simp [size_madeCells, bcs]
  · intro i h1 h2
    simp [madeCells, Value.cells, bcs, bc, Nat.mod_one]
/-- A row of noughts, as it was made. -/
theorem Own.made (w : World) (n base : Nat) (hb : base ≤ w.heap.size) (hn : n ≤ maxLen) : Own (w.alloc (.cells (madeCells (Value.int .u8 0).cells (n * 1)) 5)) base (.slice (some ⟨w.heap.size, 0, none⟩) n n) (List.replicate n 0) := by
  have h := Own.built w (List.replicate n 0) base hb (by rw [List.length_replicate]; exact hn)
  rw [List.length_replicate] at h
  rw [madeCells_bytes]
  exact h
theorem fill_set (n k : Nat) (c : UInt8) (h : k < n) : (List.replicate k c ++ List.replicate (n - k) 0).set k c = List.replicate (k + 1) c ++ List.replicate (n - (k + 1)) 0 := by
  rw [List.set_append_right _ _ (by simp), List.length_replicate, Nat.sub_self, show n - k = (n - (k + 1)) + 1 by omega, List.replicate_succ, List.set_cons_zero, List.replicate_succ' (n := k)]
  simp
theorem fill_len (n k : Nat) (c : UInt8) (h : k ≤ n) : (List.replicate k c ++ List.replicate (n - k) 0).length = n := by simp; omega

set_option maxRecDepth 100000 in
set_option maxHeartbeats 4000000 in
theorem RxLong_law (m0 n0 c0 : Int) (w : World) (hm0 : (Lit.int .i64 m0).wf = true) (hn0 : (Lit.int .i64 n0).wf = true) (hc0 : (Lit.int .u8 c0).wf = true) : Calls Try.prog 9 #[.int .i64 m0, .int .i64 n0, .int .u8 c0] w (Holds w) := by
  have hbm := bounds_i64 hm0
  have hbn := bounds_i64 hn0
  have hbc := bounds_u8 hc0
  clear hm0 hn0 hc0
  obtain ⟨c, rfl⟩ : ∃ c : UInt8, c0 = (c.toNat : Int) := ⟨UInt8.ofNat c0.toNat, by rw [UInt8.toNat_ofNat']; omega⟩
  have a1 : -39 ≤ m0.tmod 40 := by have := Int.lt_tmod_of_pos m0 (show (0 : Int) < 40 by decide); omega
  have a2 : m0.tmod 40 ≤ 39 := by have := Int.tmod_lt_of_pos m0 (show (0 : Int) < 40 by decide); omega
  have a3 : -59 ≤ n0.tmod 60 := by have := Int.lt_tmod_of_pos n0 (show (0 : Int) < 60 by decide); omega
  have a4 : n0.tmod 60 ≤ 59 := by have := Int.tmod_lt_of_pos n0 (show (0 : Int) < 60 by decide); omega
  obtain ⟨m, hm⟩ : ∃ m : Nat, 1 + m0.tmod 40 % 40 = (m : Int) := ⟨(1 + m0.tmod 40 % 40).toNat, by omega⟩
  obtain ⟨n, hn⟩ : ∃ n : Nat, 1 + n0.tmod 60 % 60 = (n : Int) := ⟨(1 + n0.tmod 60 % 60).toNat, by omega⟩
  have b1 : 1 ≤ m := by omega
  have b2 : m ≤ 40 := by omega
  have b3 : 1 ≤ n := by omega
  have b4 : n ≤ 60 := by omega
  obtain ⟨F, hF⟩ : ∃ F, F = List.replicate n c := ⟨_, rfl⟩
  have hFl : F.length ≤ 60 := by rw [hF, List.length_replicate]; exact b4
  obtain ⟨s1, hs1⟩ : ∃ s, s = cwrap F 0 := ⟨_, rfl⟩
  obtain ⟨s2, hs2⟩ : ∃ s, s = cwrap [1] 2 := ⟨_, rfl⟩
  have hl1 : s1.length ≤ 300 := by rw [hs1]; have := cwrap_most F 0; omega
  have hl2 : s2.length ≤ 300 := by rw [hs2]; have := cwrap_most [1] 2; simp at this ⊢; omega
  obtain ⟨s, hs⟩ : ∃ s, s = s1 ++ s2 := ⟨_, rfl⟩
  have hl : s.length ≤ 600 := by rw [hs, List.length_append]; omega
  have hends : ∃ d : Nat, (d = 0 ∧ n ≤ m ∨ d = 7 ∧ m < n) ∧ (ends (R.new m) s).1 = [d, 0] := by
    refine ⟨if (n : Int) ≤ m then 0 else 7, ?_, by rw [hs, hs1, hs2, hF]; exact long_all m n c (by omega) (by omega) b3⟩
    split <;> omega
  have HF := Lib.hid hF
  have HS1 := Lib.hid hs1
  have HS2 := Lib.hid hs2
  have HS := Lib.hid hs
  have HE := Lib.hid hends
  clear hF hs1 hs2 hs hends
  obtain ⟨i0, hi, hz0, hz1, hz2⟩ := info_parts byte_info
  have hmk := fun w => run_make (P := Try.prog) w 22 5 i0 (.int .u8 0) Try.underlying22 hi hz0 .i64 .i64 n n (by omega) (by omega) (by rw [hz2]; omega) (by omega)
  rw [hz1] at hmk
  clear hi hz0 hz1 hz2
  go_enter Try.func9, Try.ntmps9
  go_wp2_with (go_at_call 18; refine (begun_any _).mono ?_; rintro e w1 ⟨rfl, hb1⟩; have HB1 := Lib.hid hb1; have hz1 := hb1.size; clear hb1)
  have hmax : n ≤ maxLen := by unfold maxLen; omega
  have hst := Own.made w1 n w1.heap.size (Nat.le_refl _) hmax
  have HST := Lib.hid hst
  clear hst hmax hmk
  go_loopw [35] (fun i wr => ∃ k : Nat, k ≤ n ∧ i = .int .i64 k ∧ Own wr w1.heap.size (.slice (some ⟨w1.heap.size, 0, none⟩) n n) (List.replicate k c ++ List.replicate (n - k) 0) ∧ Below w1.heap.size w1 wr) (fun i _ => n - (intOf i).toNat)
  case atStart => exact ⟨0, by omega, rfl, by simpa [Value.cells] using HST.out, (Below.refl _ _).alloc (Nat.le_refl _) _⟩
  case round =>
    obtain ⟨k, hk, rfl, ho, hb⟩ := hrel
    have HO := Lib.hid ho
    have HB := Lib.hid hb
    clear ho hb
    by_cases hlt : k < n
    · obtain ⟨g', cap', he, h1, h2, h3, h4, h5⟩ := HO.out.shape (by rw [fill_len n k c hk]; omega)
      injection he with e1 e2 e3
      injection e1 with e1
      injection e1 with e1 _ _
      subst e1
      have hcell := h5 k (by rw [fill_len n k c hk]; exact hlt)
      have hfr := HO.out.free k
      have hset := HO.out.set_ k (by rw [fill_len n k c hk]; exact hlt) c
      rw [fill_set n k c hlt] at hset
      unfold bc at hcell hset
      have HSE := Lib.hid hset
      clear hset h5 e2 e3
      go_wp2
      go_roundw
      case rel => exact ⟨k + 1, by omega, by go_num, HSE.out, HB.out.setCell (Nat.le_refl _) _⟩
      case measure => simp [intOf]; omega
    · obtain rfl : k = n := by omega
      have hO2 := HO.out
      rw [Nat.sub_self, List.replicate_zero, List.append_nil] at hO2
      rw [← HF.out] at hO2
      have HO2 := Lib.hid hO2
      have hzr := HB.out.size
      clear hO2
      obtain ⟨wf, rfl⟩ : ∃ x, x = wr := ⟨wr, rfl⟩
      go_wp2_with (go_at_call 35; refine (New_any (m : Int) wf).mono ?_; rintro e w4 ⟨rfl, hx4, hb4⟩; have HX4 := Lib.hid hx4; have HB4 := Lib.hid hb4; have hz4 := hb4.size; have hg4 : wf.heap.size < w4.heap.size := hx4.lt; clear hx4 hb4)
      go_wp2_with (first
        | (go_at_call_of 28 (Value.int IntKind.i64 0); (refine (makes_to (Wrap_any _ F 0 _ (HO2.out.below HB4.out).rds (by omega)) HS1.out.symm).mono ?_; rintro e w5 ⟨v5, rfl, ho5, hb5⟩; have HB45 := Lib.hid hb5; have hz45 := hb5.size; have HO5 := Lib.hid ho5; clear ho5 hb5))
        | (go_at_call_of 28 (Value.int IntKind.i64 2); (refine (makes_to (Wrap_any _ [1] 2 _ (Own.built w5 [1] 0 (by omega) (by simp [maxLen])).rds (by simp)) HS2.out.symm).mono ?_; rintro e w6 ⟨v6, rfl, ho6, hb6⟩; have HB46 := Lib.hid ((HB45.out.alloc hz45 _).trans (hb6.mono (by simp; omega))); have hz46 := HB46.out.size; have HO6 := Lib.hid ho6; have HO56 := Lib.hid ((HO5.out.alloc _).below hb6); clear ho6 hb6))
        | (at_builtin; (refine wpList_app rfl (.tmp 48) (.tmp 50) rfl w4.heap.size v5 v6 s1 s2 rfl rfl HO56.out HO6.out.rds (by omega) hz46 ?_; intro v7 w7 hown7 hg7 hat7; have hb7 := HB46.out.grown hg7 hz46 (fun j hj => (HO56.out.lt j hj).1); have HB47 := Lib.hid hb7; have hz47 := hb7.size; rw [← HS.out] at hown7; have HO7 := Lib.hid hown7; obtain ⟨A7, n7, rfl, _, _, _⟩ := hown7.rds; have HX7 := Lib.hid (HX4.out.below hb7); clear hown7 hg7 hat7 hb7)))
      go_loopw [11, 12, 53] (fun got why i wr' => ∃ k : Nat, k ≤ s.length ∧ i = .int .i64 k ∧ got = .int .i64 ((ends (R.new m) (s.take k)).1.length : Nat) ∧ why = .int .i64 (whyOf (ends (R.new m) (s.take k)).1 : Nat) ∧ IsRx wr' wf.heap.size (ends (R.new m) (s.take k)).2 ∧ w7.grownBy wr' (some wf.heap.size)) (fun _ _ i _ => s.length - (intOf i).toNat)
      case atStart => exact ⟨0, by omega, rfl, rfl, rfl, HX7.out, grownBy_refl _ _⟩
      case round =>
        obtain ⟨j, hj, rfl, rfl, rfl, hx, hg⟩ := hrel
        have HX := Lib.hid hx
        have HG := Lib.hid hg
        have hzw := hg.size
        have hO := HX7.out.keepOwn HO7.out hg
        have HOW := Lib.hid hO
        have hlen := ends_len (s.take j) (R.new m)
        rw [List.length_take] at hlen
        clear hx hg hO
        by_cases hlt : j < s.length
        · obtain ⟨bb, off, rfl, hcell⟩ := HOW.out.rds.cell hlt
          unfold bc at hcell
          have hxl := (s.getD j 0).toNat_lt
          have hsn := ends_snoc (s.take j) (R.new m) (s.getD j 0)
          rw [← take_snoc s j hlt] at hsn
          have HSN := Lib.hid hsn
          clear hsn
          generalize s.getD j 0 = x at *
          have hput := RxPut_any wf.heap.size _ x wr HX.out
          have HP := Lib.hid hput
          clear hput
          generalize hp : rput (ends (R.new m) (s.take j)).2 x = y at *
          obtain ⟨r', l', err, ok⟩ := y
          clear hp
          simp only at HP
          generalize ends (R.new m) (s.take j) = z at *
          obtain ⟨el, er⟩ := z
          simp only at hlen HSN ⊢
          rcases ok with _ | _
          · have hst2 : ∀ w', IsRx w' wf.heap.size r' → wr.grownBy w' (some wf.heap.size) → (el.length = (ends (R.new m) (s.take (j + 1))).1.length ∧ whyOf el = whyOf (ends (R.new m) (s.take (j + 1))).1) ∧ IsRx w' wf.heap.size (ends (R.new m) (s.take (j + 1))).2 ∧ w7.grownBy w' (some wf.heap.size) := by
              intro w' h1 h2
              rw [HSN.out]
              exact ⟨⟨by simp, by simp⟩, h1, grown_trans HG.out h2 (.inl rfl)⟩
            have H2 := Lib.hid hst2
            clear hst2
            go_wp2_with (go_at_call 36; refine HP.out.mono ?_; rintro e w2 ⟨v2, rfl, ho, hi, hg⟩)
            go_roundw
            case rel => exact ⟨j + 1, by omega, by go_num, by rw [(H2.out w2 hi hg).1.1], by rw [(H2.out w2 hi hg).1.2], (H2.out w2 hi hg).2⟩
            case measure => simp [intOf]; omega
          · by_cases he : err = 0
            · subst he
              have hst2 : ∀ w', IsRx w' wf.heap.size r' → wr.grownBy w' (some wf.heap.size) → ((ends (R.new m) (s.take (j + 1))).1.length = el.length + 1 ∧ whyOf el = whyOf (ends (R.new m) (s.take (j + 1))).1) ∧ IsRx w' wf.heap.size (ends (R.new m) (s.take (j + 1))).2 ∧ w7.grownBy w' (some wf.heap.size) := by
                intro w' h1 h2
                rw [HSN.out]
                exact ⟨⟨by simp, by simp [whyOf_snoc]⟩, h1, grown_trans HG.out h2 (.inl rfl)⟩
              have H2 := Lib.hid hst2
              clear hst2
              go_wp2_with (go_at_call 36; refine HP.out.mono ?_; rintro e w2 ⟨v2, rfl, ho, hi, hg⟩)
              go_roundw
              case rel => exact ⟨j + 1, by omega, by go_num, by rw [(H2.out w2 hi hg).1.1]; go_num, by rw [(H2.out w2 hi hg).1.2], (H2.out w2 hi hg).2⟩
              case measure => simp [intOf]; omega
            · have hst2 : ∀ w', IsRx w' wf.heap.size r' → wr.grownBy w' (some wf.heap.size) → ((ends (R.new m) (s.take (j + 1))).1.length = el.length + 1 ∧ whyOf (ends (R.new m) (s.take (j + 1))).1 = err) ∧ IsRx w' wf.heap.size (ends (R.new m) (s.take (j + 1))).2 ∧ w7.grownBy w' (some wf.heap.size) := by
                intro w' h1 h2
                rw [HSN.out]
                exact ⟨⟨by simp, by simp [whyOf_snoc, he]⟩, h1, grown_trans HG.out h2 (.inl rfl)⟩
              have H2 := Lib.hid hst2
              have hd : ((err : Int) != 0) = true := by rw [bne_iff_ne]; omega
              have hd' : ((err : Int) == 0) = false := by rw [beq_eq_false_iff_ne]; omega
              clear hst2 he
              go_wp2_with (go_at_call 36; refine HP.out.mono ?_; rintro e w2 ⟨v2, rfl, ho, hi, hg⟩)
              go_roundw
              case rel => exact ⟨j + 1, by omega, by go_num, by rw [(H2.out w2 hi hg).1.1]; go_num, by rw [(H2.out w2 hi hg).1.2], (H2.out w2 hi hg).2⟩
              case measure => simp [intOf]; omega
        · obtain rfl : j = s.length := by omega
          obtain ⟨d, hd, hed⟩ := HE.out
          have hBF : Below w.heap.size w wr := HB1.out.trans ((HB.out.trans (((HB4.out.trans (HB47.out.mono hz4)).grown HG.out (Nat.le_trans hz4 hz47) (fun q hq => by injection hq with hq; omega)).mono hzr)).mono hz1)
          have HBF := Lib.hid hBF
          rw [List.take_length, hed]
          clear hBF hed hlen
          rcases hd with ⟨rfl, hd⟩ | ⟨rfl, hd⟩
          · have t1 : decide ((k : Int) ≤ (m : Int)) = true := by simpa using hd
            have t1' : decide (k ≤ m) = true := by simpa using hd
            go_wp2
            go_ret
            exact ⟨rfl, HBF.out⟩
          · have t1 : decide ((k : Int) ≤ (m : Int)) = false := by simp; omega
            have t1' : decide (k ≤ m) = false := by simp; omega
            go_wp2
            go_ret
            exact ⟨rfl, HBF.out⟩
end Go.Proofs.Ytameiegmeicnoaa
