/- The walk of rx.All. -/
import Derived.Test.YtameiegmeicnoaaRxB
namespace Go.Proofs.Ytameiegmeicnoaa
open Go.RowKit M

/-- The value v is a slice of the call's own of slices of the call's own, of the bytes ll. -/
def OwnL (w : World) (base : Nat) (v : Value) (ll : List (List UInt8)) : Prop :=
  ∃ vs : List Value, w.ownsRow base 22 1 v ll.length vs ∧ vs.length = ll.length ∧ ∀ i, i < ll.length → Own w base (vs.getD i undef) (ll.getD i [])

theorem row_ne {w : World} {base base' : Nat} {e e' : TypeId} {s s' : Nat} {v v' : Value} {n n' : Nat} {xs xs' : List Value} (h : w.ownsRow base e s v n xs) (h' : w.ownsRow base' e' s' v' n' xs') (hne : e ≠ e') : v.ownBlock = none ∨ v.ownBlock ≠ v'.ownBlock := by
  rcases h.2 with ⟨rfl, _⟩ | ⟨g, cap, cur, rfl, _, hh, _⟩
  · exact .inl rfl
  · right
    rcases h'.2 with ⟨rfl, _⟩ | ⟨g', cap', cur', rfl, _, hh', _⟩
    · simp [Value.ownBlock]
    · intro he
      simp only [Value.ownBlock, Option.some.injEq] at he
      subst he
      rw [hh] at hh'
      injection hh' with hh'
      injection hh' with _ ht
      exact hne ht
theorem row_ne_block {w : World} {base : Nat} {e t : TypeId} {s : Nat} {v : Value} {n g : Nat} {xs : List Value} {cs : Array Value} (h : w.ownsRow base e s v n xs) (hg : w.heap[g]? = some (.cells cs t (0, 0))) (hne : e ≠ t) : v.ownBlock = none ∨ v.ownBlock ≠ some g := by
  rcases h.2 with ⟨rfl, _⟩ | ⟨g', cap, cur, rfl, _, hh, _⟩
  · exact .inl rfl
  · right
    intro he
    simp only [Value.ownBlock, Option.some.injEq] at he
    subst he
    rw [hh] at hg
    injection hg with hg
    injection hg with _ ht
    exact hne ht
theorem OwnL.nil_ (w : World) (base : Nat) : OwnL w base (.slice none 0 0) [] := ⟨[], World.ownsRow_nil w base 22 1, rfl, fun i h => absurd h (by simp)⟩
theorem OwnL.grown {w w' : World} {base : Nat} {v : Value} {ll : List (List UInt8)} (h : OwnL w base v ll) {g : Nat} {t : TypeId} {cs : Array Value} (hb : w.heap[g]? = some (.cells cs t (0, 0))) (h5 : 5 ≠ t) (h22 : 22 ≠ t) (hg : w.grownBy w' (some g)) : OwnL w' base v ll := by
  obtain ⟨vs, h1, h2, h3⟩ := h
  exact ⟨vs, World.ownsRow.kept h1 hg (row_ne_block h1 hb h22), h2, fun i hi => (h3 i hi).grown hg (row_ne_block (h3 i hi) hb h5)⟩
theorem OwnL.below {w w' : World} {base : Nat} {v : Value} {ll : List (List UInt8)} (h : OwnL w base v ll) (hb : Below w.heap.size w w') : OwnL w' base v ll := by
  obtain ⟨vs, h1, h2, h3⟩ := h
  exact ⟨vs, World.ownsRow.kept h1 (grownBy_of_below hb none) (by cases hv : v.ownBlock <;> simp), h2, fun i hi => (h3 i hi).below hb⟩
theorem OwnL.alloc {w : World} {base : Nat} {v : Value} {ll : List (List UInt8)} (h : OwnL w base v ll) (o : Obj) : OwnL (w.alloc o) base v ll := h.below ((Below.refl _ _).alloc (Nat.le_refl _) o)
theorem OwnL.more {w : World} {base base' : Nat} {v : Value} {ll : List (List UInt8)} (h : OwnL w base v ll) (hb : base' ≤ base) : OwnL w base' v ll := by
  obtain ⟨vs, h1, h2, h3⟩ := h
  refine ⟨vs, ⟨h1.1, ?_⟩, h2, fun i hi => (h3 i hi).more hb⟩
  rcases h1.2 with h2 | ⟨g, cap, cur, hv, hg, r⟩
  · exact .inl h2
  · exact .inr ⟨g, cap, cur, hv, by omega, r⟩
theorem OwnL.lt {w : World} {base : Nat} {v : Value} {ll : List (List UInt8)} (h : OwnL w base v ll) : ∀ k, v.ownBlock = some k → base ≤ k ∧ k < w.heap.size := by
  obtain ⟨vs, h1, _⟩ := h
  exact World.ownsRow.lt h1
/-- The i-th. -/
theorem OwnL.at_ {w : World} {base : Nat} {v : Value} {ll : List (List UInt8)} (h : OwnL w base v ll) {i : Nat} (hi : i < ll.length) : ∃ g cap u, v = .slice (some ⟨g, 0, none⟩) ll.length cap ∧ ll.length ≤ cap ∧ cap ≤ maxLen ∧ w.cell? ⟨g, i, none⟩ = some u ∧ Own w base u (ll.getD i []) := by
  obtain ⟨vs, h1, h2, h3⟩ := h
  rcases h1.2 with ⟨rfl, hn⟩ | ⟨g, cap, cur, rfl, hb, hh, hc, hm, hs, ht⟩
  · omega
  · have := World.ownsRow.cells h1 (g := g) rfl i (vs.getD i undef) (by simp [show i < vs.length by omega])
    rw [addr_add, Nat.zero_add] at this
    exact ⟨g, cap, _, rfl, hc, hm, this, h3 i hi⟩
theorem OwnL.shape {w : World} {base : Nat} {v : Value} {ll : List (List UInt8)} (h : OwnL w base v ll) : ∃ A cap, v = .slice A ll.length cap ∧ ll.length ≤ cap ∧ cap ≤ maxLen := by
  obtain ⟨vs, h1, _⟩ := h
  rcases h1.2 with ⟨rfl, hn⟩ | ⟨g, cap, cur, rfl, hb, hh, hc, hm, hs, ht⟩
  · exact ⟨none, 0, by rw [hn], by omega, by simp [maxLen]⟩
  · exact ⟨_, cap, rfl, hc, hm⟩

theorem slice_info : (Try.prog.info? 22).map (fun i => (i.zero, i.size, i.bytes)) = some (some (.slice none 0 0), 1, 24) := by kernel_rfl

/-- append of one slice onto slices of the call's own. -/
theorem wpList_appL {w : World} {ops : Array Oper} {rest : List Oper} {o : Oper} {a : Act} {Q : Exit → Act → World → Prop} (hgd : o.guard = none) (s x : Operand)
    (ho : o.op = .call { callee := .builtin .append, args := #[s, x], argTypes := #[34, 34] })
    (base g : Nat) (v u : Value) (ll : List (List UInt8)) (l : List UInt8) (hs : a.eval s = v) (hx : a.eval x = .slice (some ⟨g, 0, none⟩) 1 1) (hg : w.heap[g]? = some (.cells #[u] 22 (0, 0))) (hown : OwnL w base v ll) (hu : Own w base u l)
    (hlen : ll.length ≤ 1000000) (hbase : base ≤ w.heap.size)
    (h : ∀ v' w', OwnL w' base v' (ll ++ [l]) → w.grownBy w' v.ownBlock → (v'.ownBlock = v.ownBlock ∨ v'.ownBlock = some w.heap.size) → wpList Try.prog ops Q rest (a.put o.dst v') w') : wpList Try.prog ops Q (o :: rest) a w := by
  obtain ⟨i0, hi, hz0, hz1, hz2⟩ := info_parts slice_info
  obtain ⟨vs, h1, h2, h3⟩ := hown
  have hone : u.oneCell' = true := by
    obtain ⟨A, cap, rfl, _⟩ := hu.rds
    rfl
  have hreads : Reads w w.heap.size 1 (some ⟨g, 0, none⟩) 1 [u] := by
    refine ⟨rfl, fun _ => ⟨_, rfl, ?_, fun j y hy => ?_⟩⟩
    · rcases Nat.lt_or_ge g w.heap.size with hlt | hge
      · exact hlt
      · rw [Array.getElem?_eq_none hge] at hg; cases hg
    · rw [addr_add, cell_of_row w g _ _ 22 (0, 0) hg]
      rcases j with _ | j
      · simpa using hy
      · simp at hy
  refine wpList_append_any w hgd s x 34 ho base 22 i0 _ 1 24 Try.underlying34 hi hz0 hz1 hz2 rfl (by omega) v ll.length vs hs h1 w.heap.size (some ⟨g, 0, none⟩) 1 1 [u] hx hreads (by simp [hone]) (by simp only [maxLen]; omega) (by omega) hbase ?_
  intro v' w' k1 k2 k3
  refine h v' w' ⟨vs ++ [u], by simpa using k1, by simp [h2], fun i hi' => ?_⟩ k2 k3
  have keep : ∀ y m, Own w base y m → Own w' base y m := fun y m hy => hy.grown k2 (row_ne hy h1 (by decide))
  rcases Nat.lt_or_ge i ll.length with hlt | hge
  · have := keep _ _ (h3 i hlt)
    simpa [List.getElem?_append_left, hlt, show i < vs.length by omega] using this
  · have e : i = ll.length := by simp at hi'; omega
    subst e
    have := keep _ _ hu
    simpa [← h2] using this

/-- What All leaves. -/
def MakesL (w : World) (ll : List (List UInt8)) (e : Ending) (w' : World) : Prop := ∃ v, e = .returned v ∧ OwnL w' w.heap.size v ll ∧ Below w.heap.size w w'


theorem IsRx.keepOwn {w w' : World} {base : Nat} {v : Value} {l : List UInt8} {g : Nat} {r : R} (h : IsRx w g r) (ho : Own w base v l) (hg : w.grownBy w' (some g)) : Own w' base v l := by
  obtain ⟨cs, hh, _⟩ := h
  exact ho.grown hg (row_ne_block ho hh (by decide))
theorem IsRx.keepOwnL {w w' : World} {base : Nat} {v : Value} {ll : List (List UInt8)} {g : Nat} {r : R} (h : IsRx w g r) (ho : OwnL w base v ll) (hg : w.grownBy w' (some g)) : OwnL w' base v ll := by
  obtain ⟨cs, hh, _⟩ := h
  exact ho.grown hh (by decide) (by decide) hg
theorem below_of_grownSome {w w1 w2 : World} {B g : Nat} (h : Below B w w1) (hg : w1.grownBy w2 (some g)) (hB : B ≤ w1.heap.size) (hg' : B ≤ g) : Below B w w2 :=
  h.grown hg hB (by rintro k hk; injection hk with hk; omega)

theorem IsRx.keepRow {w w' : World} {base : Nat} {v : Value} {ll : List (List UInt8)} {g : Nat} {r : R} (h : IsRx w g r) (ho : OwnL w base v ll) (hg : w.grownBy w' v.ownBlock) : IsRx w' g r := by
  have hlt := h.lt
  have hb : some g ≠ v.ownBlock := by
    obtain ⟨cs, hh, _⟩ := h
    obtain ⟨vs, h1, _⟩ := ho
    rcases row_ne_block h1 hh (by decide) with e | e
    · rw [e]; simp
    · exact fun he => e he.symm
  exact h.keep (hg.block g hlt hb)
theorem IsRx.alloc {w : World} {g : Nat} {r : R} (h : IsRx w g r) (o : Obj) : IsRx (w.alloc o) g r := h.below ((Below.refl _ _).alloc (Nat.le_refl _) o)

/-- The state of All's loop. -/
structure AllSt (w : World) (most : Int) (b : List UInt8) (k : Nat) (fs : Value) (wr : World) : Prop where
  own : OwnL wr w.heap.size fs (rall (R.new most) (b.take k)).1
  rx : IsRx wr w.heap.size (rall (R.new most) (b.take k)).2
  bel : Below w.heap.size w wr

set_option maxHeartbeats 2000000 in
theorem All_any (most : Int) (v : Value) (b : List UInt8) (w : World) (hv : Rds w v b) (hl : b.length ≤ 900000) :
    Calls Try.prog 34 #[.int .i64 most, v] w (MakesL w (rall (R.new most) b).1) := by
  have HV := Lib.hid hv
  obtain ⟨A, cap, rfl, hc, hm, hr⟩ := hv
  clear hr hc hm
  go_enter Try.func34, Try.ntmps34
  go_wp2_with (go_at_call 35; refine (New_any most w).mono ?_; rintro e w1 ⟨rfl, hrx, hb1⟩)
  have hst : AllSt w most b 0 (.slice none 0 0) w1 := ⟨OwnL.nil_ _ _, hrx, hb1⟩
  clear hrx hb1
  go_loopw [5, 16] (fun t i wr => ∃ k : Nat, k ≤ b.length ∧ i = .int .i64 k ∧ AllSt w most b k t wr) (fun _ i _ => b.length - (intOf i).toNat)
  case atStart => exact ⟨0, by omega, rfl, hst⟩
  case round =>
    obtain ⟨k, hk, rfl, hst'⟩ := hrel
    have HS := Lib.hid hst'
    have hz := hst'.bel.size
    have hR := HV.out.below hst'.bel
    clear hst' hst
    by_cases hlt : k < b.length
    · obtain ⟨bb, off, rfl, hcell⟩ := hR.cell hlt
      clear hR
      unfold bc at hcell
      have hxl := (b.getD k 0).toNat_lt
      have hs := rall_snoc (b.take k) (R.new most) (b.getD k 0)
      rw [← take_snoc b k hlt] at hs
      have hlen := rall_len (b.take k) (R.new most)
      rw [List.length_take] at hlen
      have HX := Lib.hid hs
      clear hs
      generalize b.getD k 0 = x at *
      have hput := RxPut_any w.heap.size _ x wr HS.out.rx
      have HP := Lib.hid hput
      clear hput
      generalize hp : rput (rall (R.new most) (b.take k)).2 x = y at *
      obtain ⟨r', l', err, ok⟩ := y
      clear hp
      simp only at HP
      rcases ok with _ | _
      · have hst2 : ∀ w', IsRx w' w.heap.size r' → wr.grownBy w' (some w.heap.size) → AllSt w most b (k + 1) u5 w' := by
          intro w' h1 h2
          have e := HX.out
          rw [show told (r', l', err, false) = [] by cases err <;> rfl, List.append_nil] at e
          exact ⟨by rw [e]; exact HS.out.rx.keepOwnL HS.out.own h2, by rw [e]; exact h1, below_of_grownSome HS.out.bel h2 hz (Nat.le_refl _)⟩
        have H2 := Lib.hid hst2
        clear hst2
        go_wp2_with (go_at_call 36; refine HP.out.mono ?_; rintro e w2 ⟨v2, rfl, ho, hi, hg⟩)
        go_roundw
        case rel => exact ⟨k + 1, by omega, by go_num, H2.out w2 hi hg⟩
        case measure => simp [intOf]; omega
      · by_cases he : err = 0
        · subst he
          have hst2 : ∀ w2 w3 v2 v3 o, IsRx w2 w.heap.size r' → wr.grownBy w2 (some w.heap.size) → OwnL w3 w.heap.size v3 ((rall (R.new most) (b.take k)).1 ++ [l']) → (w2.alloc o).grownBy w3 u5.ownBlock → Own w2 wr.heap.size v2 l' → AllSt w most b (k + 1) v3 w3 := by
            intro w2 w3 v2 v3 o h1 h2 h3 h4 _
            have e := HX.out
            rw [show told (r', l', 0, true) = [l'] from rfl] at e
            have ho := HS.out.rx.keepOwnL HS.out.own h2
            refine ⟨by rw [e]; exact h3, by rw [e]; exact (h1.alloc o).keepRow (ho.alloc o) h4, ?_⟩
            have hb2 := below_of_grownSome HS.out.bel h2 hz (Nat.le_refl _)
            have hz2 := h2.size
            exact (hb2.alloc (by omega) o).grown h4 (by simp; omega) (fun k' hk' => (ho.lt k' hk').1)
          have H2 := Lib.hid hst2
          clear hst2
          go_wp2_with (first
            | (go_at_call 36; refine HP.out.mono ?_; rintro e w2 ⟨v2, rfl, ho, hi, hg⟩; have HG := Lib.hid hg; have hz2 := hg.size; obtain ⟨A2, n2, rfl, _, _, _⟩ := ho.rds; clear hg)
            | (at_builtin; (refine wpList_appL rfl (.tmp 32) (.tmp 34) rfl w.heap.size w2.heap.size u5 (.slice A2 l'.length n2) (rall (R.new most) (b.take k)).1 l' rfl rfl (heap_alloc_new w2 _) ((HS.out.rx.keepOwnL HS.out.own HG.out).alloc _) ((ho.more hz).alloc _) (by omega) (by simp; omega) ?_; intro v3 w3 hown3 hg3 hat3)))
          go_roundw
          case rel => exact ⟨k + 1, by omega, by go_num, H2.out w2 w3 _ v3 _ hi HG.out hown3 hg3 ho⟩
          case measure => simp [intOf]; omega
        · have hst2 : ∀ w', IsRx w' w.heap.size r' → wr.grownBy w' (some w.heap.size) → AllSt w most b (k + 1) u5 w' := by
            intro w' h1 h2
            have e := HX.out
            rw [show told (r', l', err, true) = [] by cases err with | zero => exact absurd rfl he | succ n => rfl, List.append_nil] at e
            exact ⟨by rw [e]; exact HS.out.rx.keepOwnL HS.out.own h2, by rw [e]; exact h1, below_of_grownSome HS.out.bel h2 hz (Nat.le_refl _)⟩
          have H2 := Lib.hid hst2
          have hd : ((err : Int) == 0) = false := by rw [beq_eq_false_iff_ne]; omega
          clear hst2 he
          go_wp2_with (go_at_call 36; refine HP.out.mono ?_; rintro e w2 ⟨v2, rfl, ho, hi, hg⟩)
          go_roundw
          case rel => exact ⟨k + 1, by omega, by go_num, H2.out w2 hi hg⟩
          case measure => simp [intOf]; omega
    · obtain rfl : k = b.length := by omega
      clear hR
      go_wp2
      go_ret
      exact ⟨u5, rfl, by have := HS.out.own; rwa [List.take_length] at this, HS.out.bel⟩
end Go.Proofs.Ytameiegmeicnoaa
