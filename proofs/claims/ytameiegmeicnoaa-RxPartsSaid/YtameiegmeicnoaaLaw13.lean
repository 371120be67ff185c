/- The law RxParts. -/
import Derived.Test.YtameiegmeicnoaaEqAll
import Derived.Test.YtameiegmeicnoaaLaw5
namespace Go.Proofs.Ytameiegmeicnoaa
open Go.RowKit M

theorem OwnL.laNew {w : World} {B k : Nat} {v : Value} {ll : List (List UInt8)} (h : OwnL w B v ll) (hk : w.heap.size ≤ k) : OwnLA w B v ll (some k) := by
  obtain ⟨vs, h1, h2, h3⟩ := h
  have key : ∀ {u : Value} {e : TypeId} {s n : Nat} {xs : List Value}, w.ownsRow B e s u n xs → (u.ownBlock = none ∨ u.ownBlock ≠ some k) := by
    intro u e s n xs hu
    rcases hb : u.ownBlock with _ | j
    · exact .inl rfl
    · right
      have := (World.ownsRow.lt hu j hb).2
      intro e
      injection e with e
      omega
  exact ⟨vs, h1, h2, h3, key h1, fun i hi => key (h3 i hi)⟩
theorem OwnLA.grown {w w' : World} {B : Nat} {v : Value} {ll : List (List UInt8)} {row : Option Nat} (h : OwnLA w B v ll row) (hg : w.grownBy w' row) : OwnLA w' B v ll row := by
  obtain ⟨vs, h1, h2, h3, h4, h5⟩ := h
  exact ⟨vs, World.ownsRow.kept h1 hg h4, h2, fun i hi => (h3 i hi).grown hg (h5 i hi), h4, h5⟩
theorem IsRx.keepLA {w w' : World} {B g : Nat} {r : R} {v : Value} {ll : List (List UInt8)} {row : Option Nat} (h : IsRx w g r) (ho : OwnLA w B v ll row) (hg : w.grownBy w' (some g)) : OwnLA w' B v ll row := by
  obtain ⟨cs, hh, _⟩ := h
  obtain ⟨vs, h1, h2, h3, h4, h5⟩ := ho
  exact ⟨vs, World.ownsRow.kept h1 hg (row_ne_block h1 hh (by decide)), h2, fun i hi => (h3 i hi).grown hg (row_ne_block (h3 i hi) hh (by decide)), h4, h5⟩
theorem OwnLA.alloc {w : World} {B : Nat} {v : Value} {ll : List (List UInt8)} {row : Option Nat} (h : OwnLA w B v ll row) (o : Obj) : OwnLA (w.alloc o) B v ll row := h.below ((Below.refl _ _).alloc (Nat.le_refl _) o)
theorem OwnLA.outer {w : World} {B : Nat} {v : Value} {ll : List (List UInt8)} {row : Option Nat} (h : OwnLA w B v ll row) : v.ownBlock = none ∨ v.ownBlock ≠ row := by
  obtain ⟨vs, _, _, _, h4, _⟩ := h; exact h4
/-- append of one slice onto slices of the call's own, all apart from a row. -/
theorem wpList_appLA {w : World} {ops : Array Oper} {rest : List Oper} {o : Oper} {a : Act} {Q : Exit → Act → World → Prop} (hgd : o.guard = none) (s x : Operand)
    (ho : o.op = .call { callee := .builtin .append, args := #[s, x], argTypes := #[34, 34] })
    (base g k : Nat) (v u : Value) (ll : List (List UInt8)) (l : List UInt8) (hs : a.eval s = v) (hx : a.eval x = .slice (some ⟨g, 0, none⟩) 1 1) (hg : w.heap[g]? = some (.cells #[u] 22 (0, 0))) (hown : OwnLA w base v ll (some k)) (hu : Own w base u l)
    (hne : u.ownBlock = none ∨ u.ownBlock ≠ some k) (hk : k < w.heap.size) (hlen : ll.length ≤ 1000000) (hbase : base ≤ w.heap.size)
    (h : ∀ v' w', OwnLA w' base v' (ll ++ [l]) (some k) → w.grownBy w' v.ownBlock → (v'.ownBlock = v.ownBlock ∨ v'.ownBlock = some w.heap.size) → wpList Try.prog ops Q rest (a.put o.dst v') w') : wpList Try.prog ops Q (o :: rest) a w := by
  obtain ⟨i0, hi, hz0, hz1, hz2⟩ := info_parts slice_info
  obtain ⟨vs, h1, h2, h3, h4, h5⟩ := hown
  have hone : u.oneCell' = true := by
    obtain ⟨A, cap, rfl, _⟩ := hu.rds
    rfl
  have hreads : Reads w w.heap.size 1 (some ⟨g, 0, none⟩) 1 [u] := by
    refine ⟨rfl, fun _ => ⟨_, rfl, ?_, fun j y hy => ?_⟩⟩
    · rcases Nat.lt_or_ge g w.heap.size with hlt | hge
      · exact hlt
      · rw [Array.getElem?_eq_none hge] at hg; cases hg
    · rw [addr_add, cell_of_row w g _ _ 22 (0, 0) hg]
      rcases j with _ | j
      · simpa using hy
      · simp at hy
  refine wpList_append_any w hgd s x 34 ho base 22 i0 _ 1 24 Try.underlying34 hi hz0 hz1 hz2 rfl (by omega) v ll.length vs hs h1 w.heap.size (some ⟨g, 0, none⟩) 1 1 [u] hx hreads (by simp [hone]) (by simp only [maxLen]; omega) (by omega) hbase ?_
  intro v' w' k1 k2 k3
  have keep : ∀ y m, Own w base y m → Own w' base y m := fun y m hy => hy.grown k2 (row_ne hy h1 (by decide))
  have hat : ∀ i, (vs ++ [u]).getD i undef = if i < vs.length then vs.getD i undef else if i = vs.length then u else undef := by
    intro i
    simp only [List.getD_eq_getElem?_getD]
    by_cases hi : i < vs.length
    · rw [if_pos hi, List.getElem?_append_left hi]
    · rw [if_neg hi, List.getElem?_append_right (by omega)]
      by_cases hi2 : i = vs.length
      · rw [if_pos hi2, hi2, Nat.sub_self]; rfl
      · rw [if_neg hi2, List.getElem?_eq_none (by simp; omega)]; rfl
  refine h v' w' ⟨vs ++ [u], by simpa using k1, by simp [h2], fun i hi' => ?_, ?_, fun i hi' => ?_⟩ k2 k3
  · rcases Nat.lt_or_ge i ll.length with hlt | hge
    · have := keep _ _ (h3 i hlt)
      simpa [List.getElem?_append_left, hlt, show i < vs.length by omega] using this
    · have e : i = ll.length := by simp at hi'; omega
      subst e
      have := keep _ _ hu
      simpa [← h2] using this
  · rcases k3 with e | e
    · rw [e]; exact h4
    · right
      rw [e]
      intro e'
      injection e' with e'
      omega
  · rw [hat]
    simp only [List.length_append, List.length_cons, List.length_nil] at hi'
    by_cases hi : i < vs.length
    · rw [if_pos hi]; exact h5 i (by omega)
    · rw [if_neg hi, if_pos (by omega)]; exact hne

theorem apart_own {w : World} {B k : Nat} {v : Value} {l : List UInt8} (h : Own w B v l) (hk : k < B) : v.ownBlock = none ∨ v.ownBlock ≠ some k := by
  rcases hv : v.ownBlock with _ | j
  · exact .inl rfl
  · right
    have := (h.lt j hv).1
    intro e
    injection e with e
    omega
theorem rend_len (mk : Bool) (f : List UInt8) : (rend mk f).1.length ≤ f.length := by
  unfold rend
  split
  · simp
  · split
    · simp
    · simp only [List.length_take]; omega
theorem rput_len (r : R) (b : UInt8) (h : r.ok) : (rput r b).2.1.length ≤ 202 := by
  obtain ⟨h1, h2, h3⟩ := h
  have := rend_len r.esc r.f
  unfold rput
  repeat' split
  all_goals simp only [List.length_nil]; omega

theorem xor_ff (x : UInt8) : bits .xor .u8 (x.toNat : Int) 255 = ((x ^^^ 255).toNat : Int) := by
  have := u8_xor_nat x.toNat 255 x.toNat_lt (by decide)
  rw [UInt8.toNat_xor]
  exact this

set_option maxRecDepth 100000 in
set_option maxHeartbeats 4000000 in
theorem RxParts_law (va : Value) (la : List UInt8) (w : World) (ha : Rds w va la) : Calls Try.prog 17 #[va] w (Holds w) := by
  have HA := Lib.hid ha
  have h1 : (la.take 200).length ≤ 200 := short_len _ _
  obtain ⟨b, heb⟩ : ∃ b, b = la.take 200 := ⟨_, rfl⟩
  rw [← heb] at h1
  have HEB := Lib.hid heb
  clear ha heb
  go_enter Try.func17, Try.ntmps17
  go_wp2_with (first
    | (go_at_call 18; refine (begun_any _).mono ?_; rintro e w1 ⟨rfl, hb1⟩; have HB1 := Lib.hid hb1; have hz1 := hb1.size; clear hb1)
    | (go_at_call 19; refine (Short_to va la b 200 _ (HA.out.below HB1.out) (by omega) (by omega) HEB.out).mono ?_; rintro e w2 ⟨v2, rfl, ho2, hb2⟩; have HB2 := Lib.hid (HB1.out.trans (hb2.mono hz1)); have hz2 := HB2.out.size; obtain ⟨A2, n2, rfl, _, _, _⟩ := ho2.rds; have HO2 := Lib.hid ho2; clear ho2 hb2)
    | (go_at_call 35; refine (New_any 50 w2).mono ?_; rintro e w3 ⟨rfl, hx3, hb3⟩; have HST := Lib.hid (show AllSt w2 50 b 0 (.slice none 0 0) w3 from ⟨OwnL.nil_ _ _, hx3, hb3⟩); clear hx3 hb3))
  go_loopw [5, 21] (fun t i wr => ∃ k : Nat, k ≤ b.length ∧ i = .int .i64 k ∧ AllSt w2 50 b k t wr) (fun _ i _ => b.length - (intOf i).toNat)
  case atStart => exact ⟨0, by omega, rfl, HST.out⟩
  case round =>
    obtain ⟨k, hk, rfl, hst'⟩ := hrel
    have HS := Lib.hid hst'
    have hz := hst'.bel.size
    have hR := HO2.out.rds.below hst'.bel
    clear hst'
    obtain ⟨wo, rfl⟩ : ∃ x, x = wr := ⟨wr, rfl⟩
    by_cases hlt : k < b.length
    · obtain ⟨bb, off, rfl, hcell⟩ := hR.cell hlt
      clear hR
      unfold bc at hcell
      have hxl := (b.getD k 0).toNat_lt
      have hs := rall_snoc (b.take k) (R.new 50) (b.getD k 0)
      rw [← take_snoc b k hlt] at hs
      have hlen := rall_len (b.take k) (R.new 50)
      rw [List.length_take] at hlen
      have HX := Lib.hid hs
      clear hs
      have q1 : (0 : Int) ≤ (k : Int) := by omega
      have q2 : (k : Int) < (b.length : Int) := by omega
      generalize b.getD k 0 = x at *
      have hput := RxPut_any w2.heap.size _ x wo HS.out.rx
      have hne := told_ne (rall (R.new 50) (b.take k)).2 x
      have HP := Lib.hid hput
      have hll := rput_len (rall (R.new 50) (b.take k)).2 x HS.out.rx.ok
      clear hput
      generalize hp : rput (rall (R.new 50) (b.take k)).2 x = y at *
      obtain ⟨r', l', err, ok⟩ := y
      clear hp
      simp only at HP hll
      rcases ok with _ | _
      · have hst2 : ∀ w', IsRx w' w2.heap.size r' → wo.grownBy w' (some w2.heap.size) → AllSt w2 50 b (k + 1) u5 w' := by
          intro w' h1 h2
          have e := HX.out
          rw [show told (r', l', err, false) = [] by cases err <;> rfl, List.append_nil] at e
          exact ⟨by rw [e]; exact HS.out.rx.keepOwnL HS.out.own h2, by rw [e]; exact h1, below_of_grownSome HS.out.bel h2 hz (Nat.le_refl _)⟩
        have H2 := Lib.hid hst2
        clear hst2 hne
        go_wp2_with (go_at_call 36; refine HP.out.mono ?_; rintro e w4 ⟨v4, rfl, ho, hi, hg⟩)
        go_roundw
        case rel => exact ⟨k + 1, by omega, by go_num, H2.out w4 hi hg⟩
        case measure => simp [intOf]; omega
      · by_cases he : err = 0
        · subst he
          have hl0 : 0 < l'.length := by
            have := hne l' (by simp [told])
            rcases l' with _ | ⟨y, l'⟩
            · exact absurd rfl this
            · simp
          clear hne
          go_wp2_with (first
            | (go_at_call 36; refine HP.out.mono ?_; rintro e w4 ⟨v4, rfl, ho4, hi4, hg4⟩; have HG4 := Lib.hid hg4; have hz4 := hg4.size; have HI4 := Lib.hid hi4; obtain ⟨gf, nf, rfl, hnf, hmf, hbf, hlf, _⟩ := ho4.shape hl0; have HO4 := Lib.hid ho4; have HLA4 := Lib.hid (HS.out.rx.keepLA (HS.out.own.laNew hbf) hg4); unfold maxLen at hmf; clear ho4 hi4 hg4)
            | (at_builtin; (refine wpList_app rfl (.const (.slice none 0 0)) (.tmp 40) rfl w4.heap.size (.slice none 0 0) (.slice (some ⟨gf, 0, none⟩) l'.length nf) [] l' rfl rfl (Own.nil_ _ _) HO4.out.rds (by simp; omega) (Nat.le_refl _) ?_; intro v5 w5 hown5 hg5 hat5; rw [List.nil_append] at hown5; have hb5 := below_of_grown hg5; have HB5 := Lib.hid hb5; have hz5 := hb5.size; have HNE := Lib.hid (apart_own hown5 hlf); obtain ⟨A5, n5, rfl, _, _, _⟩ := hown5.rds; have HO5 := Lib.hid hown5; have HLA5 := Lib.hid (HLA4.out.below hb5); have HO45 := Lib.hid (HO4.out.below hb5); clear hown5 hg5 hat5 hb5))
            | (at_builtin; (refine wpList_appLA rfl (.tmp 39) (.tmp 42) rfl w2.heap.size w5.heap.size gf u5 (.slice A5 l'.length n5) (rall (R.new 50) (b.take k)).1 l' rfl rfl (heap_alloc_new w5 _) (HLA5.out.alloc _) ((HO5.out.more (by omega)).alloc _) HNE.out (by simp; omega) (by omega) (by simp; omega) ?_; intro v6 w6 hla6 hg6 hat6; have HLA6 := Lib.hid hla6; have HG6 := Lib.hid hg6; have hz6 := hg6.size; obtain ⟨A6, n6, rfl, _, _⟩ := hla6.ownL.shape; clear hla6 hg6 hat6)))
          have hO6 : Own w6 wo.heap.size (.slice (some ⟨gf, 0, none⟩) l'.length nf) l' := (HO45.out.alloc _).grown HG6.out (by
            rcases HLA5.out.outer with e | e
            · right; rw [e]; simp [Value.ownBlock]
            · right; exact fun h => e h.symm)
          have hX6 : IsRx w6 w2.heap.size r' := ((HI4.out.below HB5.out).alloc _).keepRow (HLA5.out.ownL.alloc _) HG6.out
          have hB6 : Below w2.heap.size w2 w6 := ((((below_of_grownSome HS.out.bel HG4.out hz (Nat.le_refl _)).trans (HB5.out.mono (by omega))).alloc (by omega) _)).grown HG6.out (by simp; omega) (fun q hq => (HLA5.out.ownL.lt q hq).1)
          have HO6 := Lib.hid hO6
          have HX6 := Lib.hid hX6
          have HB6 := Lib.hid hB6
          clear hO6 hX6 hB6
          go_loopw [46] (fun i wr => ∃ (j : Nat) (m : List UInt8), j ≤ l'.length ∧ i = .int .i64 j ∧ m.length = l'.length ∧ Own wr wo.heap.size (.slice (some ⟨gf, 0, none⟩) l'.length nf) m ∧ w6.grownBy wr (some gf)) (fun i _ => l'.length - (intOf i).toNat)
          case atStart => exact ⟨0, l', by omega, rfl, rfl, HO6.out, grownBy_refl _ _⟩
          case round =>
            obtain ⟨j, m, hj, rfl, hm, ho, hg⟩ := hrel
            have HM := Lib.hid hm
            have HO := Lib.hid ho
            have HG := Lib.hid hg
            clear hm ho hg
            by_cases hjl : j < l'.length
            · have hjm : j < m.length := by rw [HM.out]; exact hjl
              obtain ⟨g', cap', he', _, _, _, _, hcs⟩ := HO.out.shape (by omega)
              have hcj := hcs j hjm
              injection he' with e1 e2 e3
              injection e1 with e1
              injection e1 with e1 _ _
              subst e1
              have hfr := HO.out.free j
              have hset := HO.out.set_ j hjm (m.getD j 0 ^^^ 255)
              have hxr := xor_ff (m.getD j 0)
              unfold bc at hcj hset
              have hyl := (m.getD j 0).toNat_lt
              have HSE := Lib.hid hset
              clear hset hcs e2 e3 hjm
              generalize m.getD j 0 ^^^ 255 = y' at *
              generalize m.getD j 0 = y at *
              have r1 : (0 : Int) ≤ (j : Int) := by omega
              have r2 : (j : Int) < (l'.length : Int) := by omega
              go_wp2
              go_roundw
              case rel => exact ⟨j + 1, m.set j y', by omega, by go_num, by rw [List.length_set]; exact HM.out, HSE.out, grown_set HG.out rfl _⟩
              case measure => simp [intOf]; omega
            · obtain rfl : j = l'.length := by omega
              have hrlt := HS.out.rx.lt
              have hst2 : AllSt w2 50 b (k + 1) (.slice A6 ((rall (R.new 50) (b.take k)).1 ++ [l']).length n6) wr := by
                have e := HX.out
                rw [show told (r', l', 0, true) = [l'] from rfl] at e
                refine ⟨by rw [e]; exact (HLA6.out.grown HG.out).ownL, by rw [e]; exact HX6.out.keep (HG.out.block _ HX6.out.lt (by intro h; injection h with h; omega)), HB6.out.grown HG.out (by have := HB6.out.size; omega) (by intro q hq; injection hq with hq; omega)⟩
              have H2 := Lib.hid hst2
              clear hst2
              go_wp2
              go_roundw
              case rel => exact ⟨k + 1, by omega, by go_num, by simpa using H2.out⟩
              case measure => simp [intOf]; omega
        · have hst2 : ∀ w', IsRx w' w2.heap.size r' → wo.grownBy w' (some w2.heap.size) → AllSt w2 50 b (k + 1) u5 w' := by
            intro w' h1 h2
            have e := HX.out
            rw [show told (r', l', err, true) = [] by cases err with | zero => exact absurd rfl he | succ n => rfl, List.append_nil] at e
            exact ⟨by rw [e]; exact HS.out.rx.keepOwnL HS.out.own h2, by rw [e]; exact h1, below_of_grownSome HS.out.bel h2 hz (Nat.le_refl _)⟩
          have H2 := Lib.hid hst2
          have hd : ((err : Int) == 0) = false := by rw [beq_eq_false_iff_ne]; omega
          clear hst2 he hne
          go_wp2_with (go_at_call 36; refine HP.out.mono ?_; rintro e w4 ⟨v4, rfl, ho, hi, hg⟩)
          go_roundw
          case rel => exact ⟨k + 1, by omega, by go_num, H2.out w4 hi hg⟩
          case measure => simp [intOf]; omega
    · obtain rfl : k = b.length := by omega
      clear hR
      have hown := HS.out.own
      rw [List.take_length] at hown
      obtain ⟨LL, hLL⟩ : ∃ L, L = (rall (R.new 50) b).1 := ⟨_, rfl⟩
      have hlen : LL.length ≤ 1000000 := by
        have := rall_len b (R.new 50)
        rw [← hLL] at this
        omega
      rw [← hLL] at hown
      have HLL := Lib.hid hLL
      have HOW := Lib.hid hown
      have HBW := Lib.hid (HB2.out.trans (HS.out.bel.mono hz2))
      have HRB := Lib.hid (HO2.out.rds.below HS.out.bel)
      obtain ⟨A7, n7, rfl, _, _⟩ := hown.shape
      clear hLL hown
      go_wp2_with (first
        | (go_at_call 34; refine (makesL_to (All_any 50 _ b _ HRB.out (by omega)) HLL.out.symm).mono ?_; rintro e w7 ⟨v7, rfl, ho7, hb7⟩; have HB7 := Lib.hid hb7; have HO7 := Lib.hid ho7; have HOW7 := Lib.hid (HOW.out.below hb7); clear ho7 hb7)
        | (go_at_call 39; refine (eqAll_same _ _ _ _ LL _ HOW7.out HO7.out hlen).mono ?_; rintro e w9 ⟨rfl, hb9⟩; have HB9 := Lib.hid (HB7.out.trans (hb9.mono HB7.out.size)); clear hb9))
      go_ret
      exact ⟨rfl, HBW.out.trans (HB9.out.mono HBW.out.size)⟩
end Go.Proofs.Ytameiegmeicnoaa
