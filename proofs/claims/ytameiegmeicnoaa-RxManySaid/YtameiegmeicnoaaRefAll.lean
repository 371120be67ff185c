/- The walks of the reference's All, and of eqAll. -/
import Derived.Test.YtameiegmeicnoaaRefRx2
import Derived.Test.YtameiegmeicnoaaRegion
namespace Go.Proofs.Ytameiegmeicnoaa
open Go.RowKit M

theorem ownsRow_turned {w w' : World} {base : Nat} {e : TypeId} {s n g : Nat} {v : Value} {xs : List Value} {row : Option Nat} (h : w.ownsRow base e s v n xs) (ht : Turned w w' g row) (h1 : v.ownBlock = none ∨ v.ownBlock ≠ some g) (h2 : v.ownBlock = none ∨ v.ownBlock ≠ row) : w'.ownsRow base e s v n xs := by
  refine ⟨h.1, ?_⟩
  rcases h.2 with h3 | ⟨g', cap, cur, rfl, hb, hh, r⟩
  · exact .inl h3
  · refine .inr ⟨g', cap, cur, rfl, hb, ?_, r⟩
    have hlt := (Array.getElem?_eq_some_iff.1 hh).1
    rw [ht.block g' hlt (by rcases h1 with h | h; cases h; rintro rfl; exact h rfl) (by rcases h2 with h | h; cases h; exact h)]
    exact hh
/-- A slice of the call's own of slices of the call's own, none of which lies in the row. -/
def OwnLA (w : World) (base : Nat) (v : Value) (ll : List (List UInt8)) (row : Option Nat) : Prop :=
  ∃ vs : List Value, w.ownsRow base 22 1 v ll.length vs ∧ vs.length = ll.length ∧ (∀ i, i < ll.length → Own w base (vs.getD i undef) (ll.getD i [])) ∧ (v.ownBlock = none ∨ v.ownBlock ≠ row) ∧ ∀ i, i < ll.length → ((vs.getD i undef).ownBlock = none ∨ (vs.getD i undef).ownBlock ≠ row)
theorem none_or {x : Option Nat} : x = none ∨ x ≠ none := by cases x <;> simp
theorem OwnLA.ownL {w : World} {base : Nat} {v : Value} {ll : List (List UInt8)} {row : Option Nat} (h : OwnLA w base v ll row) : OwnL w base v ll := by
  obtain ⟨vs, h1, h2, h3, _⟩ := h; exact ⟨vs, h1, h2, h3⟩
theorem OwnL.la {w : World} {base : Nat} {v : Value} {ll : List (List UInt8)} (h : OwnL w base v ll) : OwnLA w base v ll none := by
  obtain ⟨vs, h1, h2, h3⟩ := h; exact ⟨vs, h1, h2, h3, none_or, fun _ _ => none_or⟩
theorem OwnLA.turned {w w' : World} {base g B : Nat} {v y : Value} {ll : List (List UInt8)} {r : R} {row row' : Option Nat} (h : OwnLA w base v ll row) (hi : IsRef w g B r y) (ht : Turned w w' g row) (hr : row' = none ∨ row' = row ∨ ∃ k, row' = some k ∧ w.heap.size ≤ k) : OwnLA w' base v ll row' := by
  obtain ⟨vs, h1, h2, h3, h4, h5⟩ := h
  obtain ⟨ee, hh, _⟩ := hi
  have key : ∀ {u : Value} {e : TypeId} {s n : Nat} {xs : List Value}, w.ownsRow base e s u n xs → (u.ownBlock = none ∨ u.ownBlock ≠ row) → (u.ownBlock = none ∨ u.ownBlock ≠ row') := by
    intro u e s n xs hu hne
    rcases hr with rfl | rfl | ⟨k, rfl, hk⟩
    · exact none_or
    · exact hne
    · rcases hb : u.ownBlock with _ | j
      · exact .inl rfl
      · right
        have := (World.ownsRow.lt hu j hb).2
        intro e
        injection e with e
        omega
  refine ⟨vs, ownsRow_turned h1 ht (row_ne_block h1 hh (by decide)) h4, h2, fun i hi => ownsRow_turned (h3 i hi) ht (row_ne_block (h3 i hi) hh (by decide)) (h5 i hi), key h1 h4, fun i hi => key (h3 i hi) (h5 i hi)⟩
theorem OwnLA.below {w w' : World} {base : Nat} {v : Value} {ll : List (List UInt8)} {row : Option Nat} (h : OwnLA w base v ll row) (hb : Below w.heap.size w w') : OwnLA w' base v ll row := by
  obtain ⟨vs, h1, h2, h3, h4⟩ := h
  exact ⟨vs, World.ownsRow.kept h1 (grownBy_of_below hb none) (by cases hv : v.ownBlock <;> simp), h2, fun i hi => (h3 i hi).below hb, h4⟩

/-- The state of the reference's All's loop. -/
structure RefSt (w : World) (most : Int) (b : List UInt8) (k : Nat) (fs v : Value) (wr : World) : Prop where
  own : OwnLA wr w.heap.size fs (rall (R.new most) (b.take k)).1 v.ownBlock
  rx : IsRef wr w.heap.size w.heap.size (rall (R.new most) (b.take k)).2 v
  bel : Below w.heap.size w wr

theorem IsRef.keepRow {w w' : World} {base g B : Nat} {u v : Value} {ll : List (List UInt8)} {r : R} (h : IsRef w g B r v) (ho : OwnL w base u ll) (hg : w.grownBy w' u.ownBlock) (hv : v.ownBlock = none) : IsRef w' g B r v := by
  have hb : some g ≠ u.ownBlock := by
    obtain ⟨ee, hh, _⟩ := h
    obtain ⟨vs, h1, _⟩ := ho
    rcases row_ne_block h1 hh (by decide) with e | e
    · rw [e]; simp
    · exact fun he => e he.symm
  exact h.keep (hg.block g h.lt hb) (fun _ ho => ho.grown hg (.inl hv))

set_option maxHeartbeats 2000000 in
theorem RefAll_any (most : Int) (v : Value) (b : List UInt8) (w : World) (hv : Rds w v b) (hl : b.length ≤ 900000) :
    Calls Try.prog 40 #[.int .i64 most, v] w (MakesL w (rall (R.new most) b).1) := by
  have HV := Lib.hid hv
  obtain ⟨A, cap, rfl, hc, hm, hr⟩ := hv
  clear hr hc hm
  go_enter Try.func40, Try.ntmps40
  go_wp2_with (go_at_call 45; refine (RefNew_any most w.heap.size w).mono ?_; rintro e w1 ⟨rfl, hrx, hb1⟩)
  have hst : RefSt w most b 0 (.slice none 0 0) (.slice none 0 0) w1 := ⟨(OwnL.nil_ _ _).la, hrx, hb1⟩
  clear hrx hb1
  go_loopw [6, 7] (fun t i wr => ∃ (k : Nat) (x : Value), k ≤ b.length ∧ i = .int .i64 k ∧ RefSt w most b k t x wr) (fun _ i _ => b.length - (intOf i).toNat)
  case atStart => exact ⟨0, _, by omega, rfl, hst⟩
  case round =>
    obtain ⟨k, vx, hk, rfl, hst'⟩ := hrel
    have HS := Lib.hid hst'
    have hz := hst'.bel.size
    have hR := HV.out.below hst'.bel
    clear hst' hst
    by_cases hlt : k < b.length
    · obtain ⟨bb, off, rfl, hcell⟩ := hR.cell hlt
      clear hR
      unfold bc at hcell
      have hxl := (b.getD k 0).toNat_lt
      have hs := rall_snoc (b.take k) (R.new most) (b.getD k 0)
      rw [← take_snoc b k hlt] at hs
      have hlen := rall_len (b.take k) (R.new most)
      rw [List.length_take] at hlen
      have HX := Lib.hid hs
      clear hs
      generalize b.getD k 0 = x at *
      have hput := RefPutRx_any w.heap.size w.heap.size _ vx x wr HS.out.rx hz
      have HP := Lib.hid hput
      clear hput
      generalize hp : rput (rall (R.new most) (b.take k)).2 x = y at *
      obtain ⟨r', l', err, ok⟩ := y
      clear hp
      simp only at HP
      rcases ok with _ | _
      · have hst2 : ∀ w' v', IsRef w' w.heap.size w.heap.size r' v' → Turned wr w' w.heap.size vx.ownBlock → (v'.ownBlock = none ∨ v'.ownBlock = vx.ownBlock ∨ ∃ k, v'.ownBlock = some k ∧ wr.heap.size ≤ k) → RefSt w most b (k + 1) u6 v' w' := by
          intro w' v' h1 h2 h3
          have e := HX.out
          rw [show told (r', l', err, false) = [] by cases err <;> rfl, List.append_nil] at e
          exact ⟨by rw [e]; exact HS.out.own.turned HS.out.rx h2 h3, by rw [e]; exact h1, HS.out.bel.trans (h2.below hz (Nat.le_refl _) (fun j hj => (HS.out.rx.row j hj).1))⟩
        have H2 := Lib.hid hst2
        clear hst2
        go_wp2_with (go_at_call 46; refine HP.out.mono ?_; rintro e w2 ⟨v2, v', rfl, ho, hi, hg, _, hb⟩)
        go_roundw
        case rel => exact ⟨k + 1, v', by omega, by go_num, H2.out w2 v' hi hg hb⟩
        case measure => simp [intOf]; omega
      · by_cases he : err = 0
        · subst he
          have hst2 : ∀ w2 w3 v2 v' v3 o, IsRef w2 w.heap.size w.heap.size r' v' → Turned wr w2 w.heap.size vx.ownBlock → v'.ownBlock = none → OwnL w3 w.heap.size v3 ((rall (R.new most) (b.take k)).1 ++ [l']) → (w2.alloc o).grownBy w3 u6.ownBlock → Own w2 w.heap.size v2 l' → RefSt w most b (k + 1) v3 v' w3 := by
            intro w2 w3 v2 v' v3 o h1 h2 hv' h3 h4 _
            have e := HX.out
            rw [show told (r', l', 0, true) = [l'] from rfl] at e
            have ho := (HS.out.own.turned HS.out.rx h2 (.inl hv')).ownL
            refine ⟨by rw [e, hv']; exact h3.la, by rw [e]; exact (h1.below ((Below.refl _ _).alloc (Nat.le_refl _) o)).keepRow (ho.alloc o) h4 hv', ?_⟩
            have hb2 := HS.out.bel.trans (h2.below hz (Nat.le_refl _) (fun j hj => (HS.out.rx.row j hj).1))
            have hz2 := h2.size
            exact (hb2.alloc (by omega) o).grown h4 (by simp; omega) (fun k' hk' => (ho.lt k' hk').1)
          have H2 := Lib.hid hst2
          clear hst2
          go_wp2_with (first
            | (go_at_call 46; refine HP.out.mono ?_; rintro e w2 ⟨v2, v', rfl, ho, hi, hg, hok, hb⟩; have hok := hok rfl; have HG := Lib.hid hg; have HOL := Lib.hid ((HS.out.own.turned HS.out.rx hg (.inl hok)).ownL); have hz2 := hg.size; obtain ⟨A2, n2, rfl, _, _, _⟩ := ho.rds; have HOK := Lib.hid hok; clear hg hb hok)
            | (at_builtin; (refine wpList_appL rfl (.tmp 34) (.tmp 36) rfl w.heap.size w2.heap.size u6 (.slice A2 l'.length n2) (rall (R.new most) (b.take k)).1 l' rfl rfl (heap_alloc_new w2 _) (HOL.out.alloc _) (ho.alloc _) (by omega) (by simp; omega) ?_; intro v3 w3 hown3 hg3 hat3)))
          go_roundw
          case rel => exact ⟨k + 1, v', by omega, by go_num, H2.out w2 w3 _ v' v3 _ hi HG.out HOK.out hown3 hg3 ho⟩
          case measure => simp [intOf]; omega
        · have hst2 : ∀ w' v', IsRef w' w.heap.size w.heap.size r' v' → Turned wr w' w.heap.size vx.ownBlock → (v'.ownBlock = none ∨ v'.ownBlock = vx.ownBlock ∨ ∃ k, v'.ownBlock = some k ∧ wr.heap.size ≤ k) → RefSt w most b (k + 1) u6 v' w' := by
            intro w' v' h1 h2 h3
            have e := HX.out
            rw [show told (r', l', err, true) = [] by cases err with | zero => exact absurd rfl he | succ n => rfl, List.append_nil] at e
            exact ⟨by rw [e]; exact HS.out.own.turned HS.out.rx h2 h3, by rw [e]; exact h1, HS.out.bel.trans (h2.below hz (Nat.le_refl _) (fun j hj => (HS.out.rx.row j hj).1))⟩
          have H2 := Lib.hid hst2
          have hd : ((err : Int) == 0) = false := by rw [beq_eq_false_iff_ne]; omega
          clear hst2 he
          go_wp2_with (go_at_call 46; refine HP.out.mono ?_; rintro e w2 ⟨v2, v', rfl, ho, hi, hg, _, hb⟩)
          go_roundw
          case rel => exact ⟨k + 1, v', by omega, by go_num, H2.out w2 v' hi hg hb⟩
          case measure => simp [intOf]; omega
    · obtain rfl : k = b.length := by omega
      clear hR
      go_wp2
      go_ret
      exact ⟨u6, rfl, by have := HS.out.own.ownL; rwa [List.take_length] at this, HS.out.bel⟩
end Go.Proofs.Ytameiegmeicnoaa
