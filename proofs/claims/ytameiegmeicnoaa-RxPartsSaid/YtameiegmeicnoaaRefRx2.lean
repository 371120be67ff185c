/- The walk of the reference's Rx: Put. -/
import Derived.Test.YtameiegmeicnoaaRefRx
namespace Go.Proofs.Ytameiegmeicnoaa
open Go.RowKit M

set_option maxRecDepth 100000 in
set_option maxHeartbeats 2000000 in
theorem RefPutRx_any (g B : Nat) (r : R) (v : Value) (b : UInt8) (w : World) (h : IsRef w g B r v) (hB : B ≤ w.heap.size) :
    Calls Try.prog 46 #[.pointer (some ⟨g, 0, none⟩), .int .u8 (b.toNat : Int)] w (RefDone w g B v (rput r b).1 (rput r b).2.1 (rput r b).2.2.1 (rput r b).2.2.2) := by
  have hrok := rput_ok r b h.ok
  obtain ⟨most, ins, esc, f⟩ := r
  have h1 := h.c1
  obtain ⟨e2, h2, he2⟩ := h.c2
  have h3 := h.c3
  have f1 := h.free 1
  have f2 := h.free 2
  have f3 := h.free 3
  have hok := h.ok
  obtain ⟨hm1, hm2, hfl⟩ := hok
  have hne := h.ne
  have hrow := h.row
  have H := Lib.hid h
  clear h
  simp only at *
  by_cases b1 : b = 192
  · subst b1
    have e : rput ⟨most, ins, esc, f⟩ 192 = (⟨most, true, false, []⟩, [], 0, false) := by simp [rput]
    rw [e]
    clear e
    have hend : IsRef (((w.setCell ⟨g, 1, none⟩ (.bool true)).setCell ⟨g, 2, none⟩ (.bool false)).setCell ⟨g, 3, none⟩ (.slice none 0 0)) g B ⟨most, true, false, []⟩ (.slice none 0 0) := by
      obtain ⟨ee, hh, _, _, _⟩ := H.out
      exact IsRef.in_ (set3_ref (set2_ref (set1_ref hh true) false) (.slice none 0 0)) (Own.nil_ _ _) ⟨hm1, hm2, Nat.zero_le _⟩ (nil_row _ _)
    have HE := Lib.hid hend
    have HT := Lib.hid (((Turned.refl w g v.ownBlock).set_ 1 (.bool true)).set_ 2 (.bool false) |>.set_ 3 (.slice none 0 0))
    clear hend hne hrow hrok he2
    go_enter Try.func46, Try.ntmps46
    go_wp2
    go_ret3
    exact ⟨_, _, rfl, Own.nil_ _ _, HE.out, HT.out, (fun h => Bool.noConfusion h), .inl rfl⟩
  · have t1 := toNat_beq b 192
    rw [decide_eq_false b1] at t1
    replace t1 : ((b.toNat : Int) == 192) = false := t1
    rcases ins with _ | _
    · have e : rput ⟨most, false, esc, f⟩ b = (⟨most, false, esc, f⟩, [], 0, false) := by simp [rput, b1]
      rw [e]
      clear e b1 hrok hne hrow he2
      go_enter Try.func46, Try.ntmps46
      go_wp2
      go_ret3
      exact ⟨_, _, rfl, Own.nil_ _ _, H.out, Turned.refl _ _ _, (fun h => Bool.noConfusion h), .inr (.inl rfl)⟩
    · have he2 := he2 rfl
      subst he2
      by_cases b2 : b = 193
      · subst b2
        have e : rput ⟨most, true, e2, f⟩ 193 = (⟨most, false, e2, f⟩, (rend e2 f).1, (rend e2 f).2, true) := by simp [rput]
        rw [e]
        clear e b1 hrok hne hrow
        go_enter Try.func46, Try.ntmps46
        go_wp2_with (go_at_call 48; refine (RefEnd_any g B _ v _ H.out rfl).mono ?_; rintro e w1 ⟨u, v', rfl, k1, k2, k3, k4, k5⟩)
        go_ret3
        exact ⟨_, _, rfl, k1, k2, k3, fun _ => k4 trivial, k5⟩
      · have t2 := toNat_beq b 193
        rw [decide_eq_false b2] at t2
        replace t2 : ((b.toNat : Int) == 193) = false := t2
        by_cases b3 : b = 125 ∧ e2 = false
        · obtain ⟨rfl, rfl⟩ := b3
          have e : rput ⟨most, true, false, f⟩ 125 = (⟨most, true, true, f⟩, [], 0, false) := by simp [rput]
          rw [e]
          have hend : IsRef (w.setCell ⟨g, 2, none⟩ (.bool true)) g B ⟨most, true, true, f⟩ v := by
            obtain ⟨ee, hh, hi, _, _⟩ := H.out
            exact IsRef.in_ (set2_ref hh true) ((hi rfl).2.setOther ⟨g, 2, none⟩ _ hne) ⟨hm1, hm2, hfl⟩ hrow
          have HE := Lib.hid hend
          have HT := Lib.hid ((Turned.refl w g v.ownBlock).set_ 2 (.bool true))
          clear e b1 b2 hend hrok hne hrow
          go_enter Try.func46, Try.ntmps46
          go_wp2
          go_ret3
          exact ⟨_, _, rfl, Own.nil_ _ _, HE.out, HT.out, (fun h => Bool.noConfusion h), .inr (.inl rfl)⟩
        · obtain ⟨y, hy⟩ : ∃ y, y = if e2 = true then b ^^^ 32 else b := ⟨_, rfl⟩
          have e : rput ⟨most, true, e2, f⟩ b = if most + 2 ≤ f.length then (⟨most, false, e2, f⟩, [], 7, true) else (⟨most, true, false, f ++ [y]⟩, [], 0, false) := by
            rw [hy]
            unfold rput
            rw [if_neg b1, if_neg (by simp), if_neg b2, if_neg b3]
          have hown := H.out.own rfl
          simp only at hown
          have hxor : bits .xor .u8 (b.toNat : Int) 32 = ((b ^^^ 32).toNat : Int) := by
            have := u8_xor_nat b.toNat 32 b.toNat_lt (by decide)
            rw [UInt8.toNat_xor]
            exact this
          have hyl := y.toNat_lt
          obtain ⟨A, cap, rfl, hc, hm, _⟩ := hown.rds
          unfold maxLen at hm
          have hglt := H.out.lt
          have hzs : (w.setCell ⟨g, 2, none⟩ (.bool false)).heap.size = w.heap.size := by simp [World.setCell]
          have hown1 : Own (w.setCell ⟨g, 2, none⟩ (.bool false)) B (.slice A f.length cap) f := hown.setOther ⟨g, 2, none⟩ _ hne
          have hmid : ∀ o w2, ((w.setCell ⟨g, 2, none⟩ (.bool false)).alloc o).grownBy w2 (Value.slice A f.length cap).ownBlock → w2.heap[g]? = some (.cells [Value.int .i64 (most : Int), .bool true, .bool false, .slice A f.length cap].toArray 60 (0, 0)) ∧ Turned w w2 g (Value.slice A f.length cap).ownBlock := by
            intro o w2 hg2
            obtain ⟨ee, hh, _, _, _⟩ := H.out
            refine ⟨(hg2.block g (by simp; omega) hne.symm).trans ?_, (((Turned.refl w g _).set_ 2 (.bool false)).alloc o).grown hg2 (.inl rfl)⟩
            rw [Below.heap_alloc _ _ _ (by omega)]
            exact set2_ref hh false
          have hnew : ∀ (v2 : Value) w2, Own w2 B v2 (f ++ [y]) → (v2.ownBlock = (Value.slice A f.length cap).ownBlock ∨ v2.ownBlock = some (w.heap.size + 1)) → (∀ k, v2.ownBlock = some k → B ≤ k ∧ k ≠ g) ∧ (v2.ownBlock = none ∨ v2.ownBlock = (Value.slice A f.length cap).ownBlock ∨ ∃ k, v2.ownBlock = some k ∧ w.heap.size ≤ k) := by
            intro v2 w2 ho hat
            refine ⟨fun k hk => ⟨(ho.lt k hk).1, ?_⟩, ?_⟩
            · rcases hat with e | e
              · exact (hrow k (e.symm.trans hk)).2
              · rw [hk] at e
                injection e with e
                omega
            · rcases hat with e | e
              · exact .inr (.inl e)
              · exact .inr (.inr ⟨_, e, by omega⟩)
          have hyr : Rds ((w.setCell ⟨g, 2, none⟩ (.bool false)).alloc (.cells (bcs [y]).toArray 5)) (.slice (some ⟨w.heap.size, 0, none⟩) 1 1) [y] := by
            have := (Own.built (w.setCell ⟨g, 2, none⟩ (.bool false)) [y] 0 (Nat.zero_le _) (by simp [maxLen])).rds
            rw [hzs] at this
            exact this
          have HY := Lib.hid hyr
          have HN := Lib.hid hnew
          have HM := Lib.hid hmid
          have HZ := Lib.hid hzs
          have HO1 := Lib.hid hown1
          have HR := Lib.hid hrow
          have HNE := Lib.hid hne
          have HE := Lib.hid e
          clear hyr hnew hmid hzs hown1 hrow hne e hrok hown
          have hb3 : e2 = false → ((b.toNat : Int) == 125) = false := by
            intro h
            have t3 := toNat_beq b 125
            rw [decide_eq_false (fun h' => b3 ⟨h', h⟩)] at t3
            exact t3
          have hw : IntKind.i64.wrap ((most : Int) + 2) = (most : Int) + 2 := IntWalk.i64_in _ (by omega)
          by_cases hr : most + 2 ≤ f.length
          · have HE2 := Lib.hid (HE.out.trans (if_pos hr))
            rw [HE2.out]
            have hd : decide ((most : Int) + 2 < (f.length : Int) + 1) = true := by simp; omega
            rcases e2 with _ | _
            · have hb3 := hb3 rfl
              simp only [Bool.false_eq_true, if_false] at hy
              subst hy
              clear b1 b2 b3
              go_enter Try.func46, Try.ntmps46
              go_wp2_with (at_builtin; (refine wpList_app rfl (.tmp 59) (.tmp 61) rfl B (.slice A f.length cap) (.slice (some ⟨w.heap.size, 0, none⟩) 1 1) f [y] rfl rfl (HO1.out.alloc _) HY.out (by simp; omega) (by rw [World.size_alloc, HZ.out]; omega) ?_; intro v2 w2 hown2 hg2 hat2; have HM2 := Lib.hid (HM.out _ _ hg2); have k0 : w2.cell? ⟨g, 0, none⟩ = some (.int .i64 (most : Int)) := block_cell HM2.out.1 0; have k1 : w2.cell? ⟨g, 1, none⟩ = some (.bool true) := block_cell HM2.out.1 1; have k3 : w2.cell? ⟨g, 3, none⟩ = some (.slice A f.length cap) := block_cell HM2.out.1 3; have j1 := block_free HM2.out.1 1; have j3 := block_free HM2.out.1 3; have HAT := Lib.hid (HN.out v2 w2 hown2 (hat2.imp_right (fun e => by rw [e, World.size_alloc, HZ.out]))); obtain ⟨A2, n2, rfl, _, _, _⟩ := hown2.rds; have HO2 := Lib.hid hown2; clear hown2 hg2 hat2))
              go_quiet (fail)
              go_wp2
              go_ret3
              have ht := ((((HM2.out.2.set_ 3 (.slice A2 (f ++ [y]).length n2)).drewN nq).set_ 1 (.bool false)).set_ 3 (.slice none 0 0))
              exact ⟨_, _, rfl, Own.nil_ _ _, IsRef.out_ (set3_ref (set1_ref (w := (w2.setCell ⟨g, 3, none⟩ _).drewN nq) (set3_ref HM2.out.1 _) false) (.slice none 0 0)) ⟨hm1, hm2, hfl⟩ (nil_row _ _), by simpa using ht, fun _ => rfl, .inl rfl⟩
            · simp only [if_true] at hy
              rw [← hy] at hxor
              clear b1 b2 b3 hb3 hy
              rcases t3 : ((b.toNat : Int) == 125) with _ | _
              all_goals
                go_enter Try.func46, Try.ntmps46
                go_wp2_with (at_builtin; (refine wpList_app rfl (.tmp 59) (.tmp 61) rfl B (.slice A f.length cap) (.slice (some ⟨w.heap.size, 0, none⟩) 1 1) f [y] rfl rfl (HO1.out.alloc _) HY.out (by simp; omega) (by rw [World.size_alloc, HZ.out]; omega) ?_; intro v2 w2 hown2 hg2 hat2; have HM2 := Lib.hid (HM.out _ _ hg2); have k0 : w2.cell? ⟨g, 0, none⟩ = some (.int .i64 (most : Int)) := block_cell HM2.out.1 0; have k1 : w2.cell? ⟨g, 1, none⟩ = some (.bool true) := block_cell HM2.out.1 1; have k3 : w2.cell? ⟨g, 3, none⟩ = some (.slice A f.length cap) := block_cell HM2.out.1 3; have j1 := block_free HM2.out.1 1; have j3 := block_free HM2.out.1 3; have HAT := Lib.hid (HN.out v2 w2 hown2 (hat2.imp_right (fun e => by rw [e, World.size_alloc, HZ.out]))); obtain ⟨A2, n2, rfl, _, _, _⟩ := hown2.rds; have HO2 := Lib.hid hown2; clear hown2 hg2 hat2))
                go_quiet (fail)
                go_wp2
                go_ret3
                have ht := ((((HM2.out.2.set_ 3 (.slice A2 (f ++ [y]).length n2)).drewN nq).set_ 1 (.bool false)).set_ 3 (.slice none 0 0))
                exact ⟨_, _, rfl, Own.nil_ _ _, IsRef.out_ (set3_ref (set1_ref (w := (w2.setCell ⟨g, 3, none⟩ _).drewN nq) (set3_ref HM2.out.1 _) false) (.slice none 0 0)) ⟨hm1, hm2, hfl⟩ (nil_row _ _), by simpa using ht, fun _ => rfl, .inl rfl⟩
          · have HE2 := Lib.hid (HE.out.trans (if_neg hr))
            rw [HE2.out]
            have hd : decide ((most : Int) + 2 < (f.length : Int) + 1) = false := by simp; omega
            rcases e2 with _ | _
            · have hb3 := hb3 rfl
              simp only [Bool.false_eq_true, if_false] at hy
              subst hy
              clear b1 b2 b3
              go_enter Try.func46, Try.ntmps46
              go_wp2_with (at_builtin; (refine wpList_app rfl (.tmp 59) (.tmp 61) rfl B (.slice A f.length cap) (.slice (some ⟨w.heap.size, 0, none⟩) 1 1) f [y] rfl rfl (HO1.out.alloc _) HY.out (by simp; omega) (by rw [World.size_alloc, HZ.out]; omega) ?_; intro v2 w2 hown2 hg2 hat2; have HM2 := Lib.hid (HM.out _ _ hg2); have k0 : w2.cell? ⟨g, 0, none⟩ = some (.int .i64 (most : Int)) := block_cell HM2.out.1 0; have k1 : w2.cell? ⟨g, 1, none⟩ = some (.bool true) := block_cell HM2.out.1 1; have k3 : w2.cell? ⟨g, 3, none⟩ = some (.slice A f.length cap) := block_cell HM2.out.1 3; have j1 := block_free HM2.out.1 1; have j3 := block_free HM2.out.1 3; have HAT := Lib.hid (HN.out v2 w2 hown2 (hat2.imp_right (fun e => by rw [e, World.size_alloc, HZ.out]))); obtain ⟨A2, n2, rfl, _, _, _⟩ := hown2.rds; have HO2 := Lib.hid hown2; clear hown2 hg2 hat2))
              go_quiet (fail)
              go_wp2
              go_ret3
              have ht := ((HM2.out.2.set_ 3 (.slice A2 (f ++ [y]).length n2)).drewN nq)
              have hi : IsRef ((w2.setCell ⟨g, 3, none⟩ (.slice A2 (f ++ [y]).length n2)).drewN nq) g B ⟨most, true, false, f ++ [y]⟩ (.slice A2 (f ++ [y]).length n2) := IsRef.in_ (set3_ref HM2.out.1 _) (HO2.out.setOther ⟨g, 3, none⟩ _ (fun e => (HAT.out.1 g e).2 rfl)) ⟨hm1, hm2, by simp; omega⟩ HAT.out.1
              exact ⟨_, _, rfl, Own.nil_ _ _, by simpa using hi, by simpa using ht, (fun h => Bool.noConfusion h), by simpa using HAT.out.2⟩
            · simp only [if_true] at hy
              rw [← hy] at hxor
              clear b1 b2 b3 hb3 hy
              rcases t3 : ((b.toNat : Int) == 125) with _ | _
              all_goals
                go_enter Try.func46, Try.ntmps46
                go_wp2_with (at_builtin; (refine wpList_app rfl (.tmp 59) (.tmp 61) rfl B (.slice A f.length cap) (.slice (some ⟨w.heap.size, 0, none⟩) 1 1) f [y] rfl rfl (HO1.out.alloc _) HY.out (by simp; omega) (by rw [World.size_alloc, HZ.out]; omega) ?_; intro v2 w2 hown2 hg2 hat2; have HM2 := Lib.hid (HM.out _ _ hg2); have k0 : w2.cell? ⟨g, 0, none⟩ = some (.int .i64 (most : Int)) := block_cell HM2.out.1 0; have k1 : w2.cell? ⟨g, 1, none⟩ = some (.bool true) := block_cell HM2.out.1 1; have k3 : w2.cell? ⟨g, 3, none⟩ = some (.slice A f.length cap) := block_cell HM2.out.1 3; have j1 := block_free HM2.out.1 1; have j3 := block_free HM2.out.1 3; have HAT := Lib.hid (HN.out v2 w2 hown2 (hat2.imp_right (fun e => by rw [e, World.size_alloc, HZ.out]))); obtain ⟨A2, n2, rfl, _, _, _⟩ := hown2.rds; have HO2 := Lib.hid hown2; clear hown2 hg2 hat2))
                go_quiet (fail)
                go_wp2
                go_ret3
                have ht := ((HM2.out.2.set_ 3 (.slice A2 (f ++ [y]).length n2)).drewN nq)
                have hi : IsRef ((w2.setCell ⟨g, 3, none⟩ (.slice A2 (f ++ [y]).length n2)).drewN nq) g B ⟨most, true, false, f ++ [y]⟩ (.slice A2 (f ++ [y]).length n2) := IsRef.in_ (set3_ref HM2.out.1 _) (HO2.out.setOther ⟨g, 3, none⟩ _ (fun e => (HAT.out.1 g e).2 rfl)) ⟨hm1, hm2, by simp; omega⟩ HAT.out.1
                exact ⟨_, _, rfl, Own.nil_ _ _, by simpa using hi, by simpa using ht, (fun h => Bool.noConfusion h), by simpa using HAT.out.2⟩
end Go.Proofs.Ytameiegmeicnoaa
