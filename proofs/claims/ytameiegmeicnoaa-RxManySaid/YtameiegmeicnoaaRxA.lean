/- The walks of package rx: its inner functions. -/
import Derived.Test.YtameiegmeicnoaaCrc3
import Derived.WalkSpells
namespace Go.Proofs.Ytameiegmeicnoaa
open Go.RowKit M

/-- The block g is an Rx of state r. -/
def IsRx (w : World) (g : Nat) (r : R) : Prop :=
  ∃ cs : List Value, w.heap[g]? = some (.cells (Value.int .i64 (r.most : Int) :: .bool r.ins :: .bool r.esc :: .int .i64 (r.f.length : Int) :: cs).toArray 54 (0, 0)) ∧ cs.length = 202 ∧ cs.take r.f.length = bcs r.f ∧ r.ok

theorem set_block {w : World} {g : Nat} {cs : List Value} {t : TypeId} (h : w.heap[g]? = some (.cells cs.toArray t (0, 0))) (i : Nat) (u : Value) : (w.setCell ⟨g, i, none⟩ u).heap[g]? = some (.cells (cs.set i u).toArray t (0, 0)) := by
  simp [World.setCell, Array.getElem?_modify, h]
theorem block_cell {w : World} {g : Nat} {cs : List Value} {t : TypeId} (h : w.heap[g]? = some (.cells cs.toArray t (0, 0))) (i : Nat) : w.cell? ⟨g, i, none⟩ = cs[i]? := by
  have := cell_of_row w g i cs.toArray t (0, 0) h
  simpa using this
theorem block_free {w : World} {g : Nat} {cs : Array Value} {t : TypeId} (h : w.heap[g]? = some (.cells cs t (0, 0))) (i : Nat) : w.frozen? ⟨g, i, none⟩ = false := by
  simp [World.frozen?, h]

section
variable {w : World} {g : Nat} {r : R}
theorem IsRx.c0 (h : IsRx w g r) : w.cell? ⟨g, 0, none⟩ = some (.int .i64 (r.most : Int)) := by
  obtain ⟨cs, hh, _⟩ := h; rw [block_cell hh]; rfl
theorem IsRx.c1 (h : IsRx w g r) : w.cell? ⟨g, 1, none⟩ = some (.bool r.ins) := by
  obtain ⟨cs, hh, _⟩ := h; rw [block_cell hh]; rfl
theorem IsRx.c2 (h : IsRx w g r) : w.cell? ⟨g, 2, none⟩ = some (.bool r.esc) := by
  obtain ⟨cs, hh, _⟩ := h; rw [block_cell hh]; rfl
theorem IsRx.c3 (h : IsRx w g r) : w.cell? ⟨g, 3, none⟩ = some (.int .i64 (r.f.length : Int)) := by
  obtain ⟨cs, hh, _⟩ := h; rw [block_cell hh]; rfl
theorem IsRx.held (h : IsRx w g r) (j : Nat) (hj : j < r.f.length) : w.cell? ⟨g, 4 + j, none⟩ = some (bc (r.f.getD j 0)) := by
  obtain ⟨cs, hh, hl, ht, _⟩ := h
  rw [block_cell hh, show 4 + j = j + 1 + 1 + 1 + 1 by omega]
  simp only [List.getElem?_cons_succ]
  have : (cs.take r.f.length)[j]? = (bcs r.f)[j]? := by rw [ht]
  rw [List.getElem?_take_of_lt hj] at this
  rw [this]
  simp [bcs, hj]
theorem IsRx.room (h : IsRx w g r) (j : Nat) (hj : j < 202) : ∃ u, w.cell? ⟨g, 4 + j, none⟩ = some u := by
  obtain ⟨cs, hh, hl, ht, _⟩ := h
  rw [block_cell hh, show 4 + j = j + 1 + 1 + 1 + 1 by omega]
  simp only [List.getElem?_cons_succ]
  exact ⟨cs[j], List.getElem?_eq_getElem (by omega)⟩
theorem IsRx.free (h : IsRx w g r) (i : Nat) : w.frozen? ⟨g, i, none⟩ = false := by
  obtain ⟨cs, hh, _⟩ := h; exact block_free hh i
theorem IsRx.lt (h : IsRx w g r) : g < w.heap.size := World.block_lt_of_cell? w _ h.c0
theorem IsRx.ok (h : IsRx w g r) : r.ok := by obtain ⟨cs, hh, _, _, h⟩ := h; exact h
theorem IsRx.set1 (h : IsRx w g r) (b : Bool) : IsRx (w.setCell ⟨g, 1, none⟩ (.bool b)) g ⟨r.most, b, r.esc, r.f⟩ := by
  obtain ⟨cs, hh, hl, ht, ho⟩ := h
  exact ⟨cs, set_block hh 1 _, hl, ht, ho⟩
theorem IsRx.set2 (h : IsRx w g r) (b : Bool) : IsRx (w.setCell ⟨g, 2, none⟩ (.bool b)) g ⟨r.most, r.ins, b, r.f⟩ := by
  obtain ⟨cs, hh, hl, ht, ho⟩ := h
  exact ⟨cs, set_block hh 2 _, hl, ht, ho⟩
theorem IsRx.clear (h : IsRx w g r) : IsRx (w.setCell ⟨g, 3, none⟩ (.int .i64 0)) g ⟨r.most, r.ins, r.esc, []⟩ := by
  obtain ⟨cs, hh, hl, ht, ho⟩ := h
  exact ⟨cs, set_block hh 3 _, hl, rfl, ho.1, ho.2.1, by simp⟩
theorem IsRx.more (h : IsRx w g r) (x : UInt8) (hr : r.f.length < r.most + 2) : IsRx ((w.setCell ⟨g, 4 + r.f.length, none⟩ (bc x)).setCell ⟨g, 3, none⟩ (.int .i64 ((r.f.length : Int) + 1))) g ⟨r.most, r.ins, r.esc, r.f ++ [x]⟩ := by
  obtain ⟨cs, hh, hl, ht, ho⟩ := h
  have h1 := set_block hh (4 + r.f.length) (bc x)
  rw [show 4 + r.f.length = r.f.length + 1 + 1 + 1 + 1 by omega] at h1 ⊢
  simp only [List.set_cons_succ] at h1
  have h2 := set_block h1 3 (.int .i64 ((r.f.length : Int) + 1))
  have hm := ho.2.1
  refine ⟨cs.set r.f.length (bc x), by simpa using h2, by simpa using hl, ?_, ho.1, ho.2.1, by simp; omega⟩
  simp only [List.length_append, List.length_cons, List.length_nil, bcs_append]
  rw [List.take_succ_eq_append_getElem (by simp; omega), List.take_set_of_le (Nat.le_refl _), ht]
  simp [bcs]
theorem IsRx.keep {w' : World} (h : IsRx w g r) (hk : w'.heap[g]? = w.heap[g]?) : IsRx w' g r := by
  obtain ⟨cs, hh, hl, ht, ho⟩ := h
  exact ⟨cs, hk.trans hh, hl, ht, ho⟩
theorem IsRx.below {w' : World} (h : IsRx w g r) (hb : Below w.heap.size w w') : IsRx w' g r := h.keep (hb.block g h.lt)
theorem grown_set {w w1 : World} {p : Addr} (h : w.grownBy w1 (some g)) (hp : p.block = g) (u : Value) : w.grownBy (w1.setCell p u) (some g) :=
  ⟨h.os, h.tape, h.output, by simpa [World.setCell] using h.size, fun i hi hne => (Below.heap_setCell w1 p u i (by
    rintro rfl
    exact hne (by rw [hp]))).trans (h.block i hi hne)⟩
end

set_option maxHeartbeats 400000 in
theorem start_any (g : Nat) (r : R) (w : World) (h : IsRx w g r) :
    Calls Try.prog 42 #[.pointer (some ⟨g, 0, none⟩)] w fun e w' => e = .returned (.tuple #[]) ∧ IsRx w' g ⟨r.most, true, false, []⟩ ∧ w.grownBy w' (some g) := by
  have h1 := h.c1
  have h2 := h.c2
  have h3 := h.c3
  have f1 := h.free 1
  have f2 := h.free 2
  have f3 := h.free 3
  have H := Lib.hid h
  clear h
  go_enter Try.func42, Try.ntmps42
  go_wp2
  go_end0
  have g1 := grown_set (p := ⟨g, 1, none⟩) (grownBy_refl w (some g)) rfl (.bool true)
  have g2 := grown_set (p := ⟨g, 2, none⟩) g1 rfl (.bool false)
  have g3 := grown_set (p := ⟨g, 3, none⟩) g2 rfl (.int .i64 0)
  have i1 := H.out.set1 true
  have i2 := i1.set2 false
  have i3 := i2.clear
  exact ⟨rfl, i3, g3⟩

/-- What an Rx's call leaves: a tuple; the state; only that Rx and new blocks have turned. -/
def RxDone (w : World) (g : Nat) (r : R) (l : List UInt8) (err : Nat) (ok : Bool) (e : Ending) (w' : World) : Prop :=
  ∃ v, e = .returned (.tuple #[v, .int .i64 (err : Int), .bool ok]) ∧ Own w' w.heap.size v l ∧ IsRx w' g r ∧ w.grownBy w' (some g)

theorem IsRx.drewN {w : World} {g : Nat} {r : R} (h : IsRx w g r) (n : Nat) : IsRx (w.drewN n) g r := h
theorem grown_drewN {a w : World} {row : Option Nat} (h : a.grownBy w row) (n : Nat) : a.grownBy (w.drewN n) row := ⟨h.os, h.tape, h.output, h.size, h.block⟩

set_option maxHeartbeats 1000000 in
theorem add_range (g : Nat) (r : R) (b : UInt8) (w : World) (h : IsRx w g r) (hr : r.most + 2 ≤ r.f.length) :
    Calls Try.prog 44 #[.pointer (some ⟨g, 0, none⟩), .int .u8 (b.toNat : Int)] w (RxDone w g ⟨r.most, false, r.esc, r.f⟩ [] 7 true) := by
  have h0 := h.c0
  have h1 := h.c1
  have h3 := h.c3
  have f1 := h.free 1
  have hok := h.ok
  obtain ⟨_, hm, hl⟩ := hok
  have H := Lib.hid h
  clear h
  have hw : IntKind.i64.wrap ((r.most : Int) + 2) = (r.most : Int) + 2 := IntWalk.i64_in _ (by omega)
  have hd : decide (((r.most : Int) + 2) ≤ (r.f.length : Int)) = true := by simp; omega
  go_enter Try.func44, Try.ntmps44
  go_wp2
  go_quiet (fail)
  go_wp2
  go_ret3
  exact ⟨_, rfl, Own.nil_ _ _, (H.out.drewN _).set1 false, grown_set (grown_drewN (grownBy_refl w _) _) rfl _⟩

set_option maxRecDepth 100000 in
set_option maxHeartbeats 1000000 in
theorem add_fits (g : Nat) (r : R) (b : UInt8) (w : World) (h : IsRx w g r) (hr : r.f.length < r.most + 2) :
    Calls Try.prog 44 #[.pointer (some ⟨g, 0, none⟩), .int .u8 (b.toNat : Int)] w (RxDone w g ⟨r.most, r.ins, false, r.f ++ [if r.esc = true then b ^^^ 32 else b]⟩ [] 0 false) := by
  obtain ⟨most, ins, esc, f⟩ := r
  have h0 := h.c0
  have h2 := h.c2
  have h3 := h.c3
  have f2 := h.free 2
  have f3 := h.free 3
  have hok := h.ok
  obtain ⟨_, hm, hl⟩ := hok
  obtain ⟨u, hu⟩ := h.room f.length (by simp only at hr hm; omega)
  have fu := h.free (4 + f.length)
  have H := Lib.hid h
  clear h
  simp only at *
  have hw : IntKind.i64.wrap ((most : Int) + 2) = (most : Int) + 2 := IntWalk.i64_in _ (by omega)
  have hd : decide (((most : Int) + 2) ≤ (f.length : Int)) = false := by simp; omega
  have hx : bits .xor .u8 (b.toNat : Int) 32 = ((b ^^^ 32).toNat : Int) := by
    have := u8_xor_nat b.toNat 32 b.toNat_lt (by decide)
    rw [UInt8.toNat_xor]
    exact this
  have q1 : (0 : Int) ≤ (f.length : Int) := by omega
  have q2 : (f.length : Int) < 202 := by omega
  generalize b ^^^ 32 = y at *
  cases esc
  · go_enter Try.func44, Try.ntmps44
    go_wp2
    go_quiet (fail)
    go_wp2
    go_region
    all_goals
      go_wp2
      go_ret3
      have g1 := grown_set (p := ⟨g, 4 + f.length, none⟩) (grown_drewN (grownBy_refl w (some g)) (nq + 1)) rfl (bc b)
      have g2 := grown_set (p := ⟨g, 3, none⟩) g1 rfl (.int .i64 ((f.length : Int) + 1))
      exact ⟨_, rfl, Own.nil_ _ _, (H.out.drewN (nq + 1)).more b hr, g2⟩
  · go_enter Try.func44, Try.ntmps44
    go_wp2
    go_quiet (fail)
    go_wp2
    go_region
    all_goals
      go_wp2
      go_ret3
      have i1 := ((H.out.drewN nq).set2 false).more y hr
      have g0 := grown_set (p := ⟨g, 2, none⟩) (grown_drewN (grownBy_refl w (some g)) nq) rfl (.bool false)
      have g1 := grown_set (p := ⟨g, 4 + f.length, none⟩) g0 rfl (bc y)
      have g2 := grown_set (p := ⟨g, 3, none⟩) g1 rfl (.int .i64 ((f.length : Int) + 1))
      exact ⟨_, rfl, Own.nil_ _ _, i1, g2.os, g2.tape, g2.output, g2.size, g2.block⟩

set_option maxHeartbeats 400000 in
theorem Clone_any (a : Addr) (n cap : Nat) (l : List UInt8) (w : World) (hv : Rds w (.slice (some a) n cap) l) (hl : l.length ≤ 1000000) :
    Calls Try.prog 47 #[.slice (some a) n cap] w (Makes w l) := by
  have HV := Lib.hid hv
  clear hv
  have hnil := Lib.run_eql_slice_nil (P := Try.prog) w 22 5 (some a) n cap 0 0 Try.underlying22
  go_enter Try.func47, Try.ntmps47
  go_wp2_with (at_builtin; (refine wpList_app rfl (.tmp 5) (.tmp 6) rfl w.heap.size (.slice (some ⟨w.heap.size, 0, none⟩) 0 0) (.slice (some a) n cap) [] l rfl rfl (Own.built w [] _ (Nat.le_refl _) (by simp)) (HV.out.alloc _) (by simp; omega) (by simp) ?_; intro v2 w2 hown2 hg2 hat2))
  go_ret
  exact ⟨v2, rfl, hown2, ((Below.refl _ _).alloc (Nat.le_refl _) _).grown hg2 (by simp) (by simp [Value.ownBlock])⟩

/-- An Rx's cells as New makes them. -/
def rxCells (m : Int) : Array Value := (Value.int .i64 m :: .bool false :: .bool false :: .int .i64 0 :: List.replicate 202 (.int .u8 0)).toArray
theorem run_build54 (m : Int) (w : World) : (Instr.build 54 #[(0, .int .i64 m)]).run Try.prog w = .ok (.agg (rxCells m)) w := by kernel_rfl
theorem run_box54 (m : Int) (w : World) : (Instr.box 54 (.agg (rxCells m))).run Try.prog w = .ok (.pointer (some ⟨w.heap.size, 0, none⟩)) (w.alloc (.cells (rxCells m) 54)) := by kernel_rfl
theorem rxCells_is (w : World) (n : Nat) (h1 : 1 ≤ n) (h2 : n ≤ 200) : IsRx (w.alloc (.cells (rxCells n) 54)) w.heap.size ⟨n, false, false, []⟩ :=
  ⟨List.replicate 202 (.int .u8 0), heap_alloc_new w _, List.length_replicate, rfl, h1, h2, Nat.zero_le _⟩

theorem wpList_build54 {w : World} {ops : Array Oper} {rest : List Oper} {o : Oper} {a : Act} {Q : Exit → Act → World → Prop} (hgd : o.guard = none) (x : Operand) (ho : o.op = .build 54 #[(0, x)]) (m : Int) (hx : a.eval x = .int .i64 m)
    (h : wpList Try.prog ops Q rest (a.put o.dst (.agg (rxCells m))) w) : wpList Try.prog ops Q (o :: rest) a w := by
  refine wpList_plain hgd fun K hK => ?_
  have hrun : (execOp a.eval o).run Try.prog w = .ok (.value (.agg (rxCells m))) w := by
    have h1 : #[(0, x)].map (fun (i, x) => (i, a.eval x)) = #[(0, .int .i64 m)] := by simp [hx]
    simp only [execOp, ho, h1, Sem.run_bind, run_build54, Result.andThen_ok, Sem.run_pure]
  unfold Oper.wp
  rw [hrun, Oper.upon_value]
  exact hK _ _ h
theorem wpList_box54 {w : World} {ops : Array Oper} {rest : List Oper} {o : Oper} {a : Act} {Q : Exit → Act → World → Prop} (hgd : o.guard = none) (x : Operand) (ho : o.op = .box 54 x) (m : Int) (hx : a.eval x = .agg (rxCells m))
    (h : wpList Try.prog ops Q rest (a.put o.dst (.pointer (some ⟨w.heap.size, 0, none⟩))) (w.alloc (.cells (rxCells m) 54))) : wpList Try.prog ops Q (o :: rest) a w := by
  refine wpList_plain hgd fun K hK => ?_
  have hrun : (execOp a.eval o).run Try.prog w = .ok (.value (.pointer (some ⟨w.heap.size, 0, none⟩))) (w.alloc (.cells (rxCells m) 54)) := by
    simp only [execOp, ho, hx, Sem.run_bind, run_box54, Result.andThen_ok, Sem.run_pure]
  unfold Oper.wp
  rw [hrun, Oper.upon_value]
  exact hK _ _ h

set_option maxHeartbeats 400000 in
theorem New_any (most : Int) (w : World) :
    Calls Try.prog 35 #[.int .i64 most] w fun e w' => e = .returned (.pointer (some ⟨w.heap.size, 0, none⟩)) ∧ IsRx w' w.heap.size (R.new most) ∧ Below w.heap.size w w' := by
  have hfin : ∀ n : Nat, (min (max most 1) 200).toNat = n → IsRx (w.alloc (.cells (rxCells n) 54)) w.heap.size (R.new most) := by
    rintro n rfl
    exact rxCells_is w _ (by omega) (by omega)
  have HF := Lib.hid hfin
  clear hfin
  rcases (show most < 1 ∨ (1 ≤ most ∧ most ≤ 200) ∨ 200 < most by omega) with h | h | h
  · go_enter Try.func35, Try.ntmps35
    go_wp2_with (first | (with_reducible refine wpList_build54 rfl (.tmp 5) rfl _ rfl ?_) | (with_reducible refine wpList_box54 rfl (.tmp 6) rfl _ rfl ?_))
    go_ret
    exact ⟨rfl, HF.out 1 (by omega), (Below.refl _ _).alloc (Nat.le_refl _) _⟩
  · obtain ⟨h1, h2⟩ := h
    obtain ⟨n, rfl⟩ : ∃ n : Nat, most = n := ⟨most.toNat, by omega⟩
    go_enter Try.func35, Try.ntmps35
    go_wp2_with (first | (with_reducible refine wpList_build54 rfl (.tmp 5) rfl _ rfl ?_) | (with_reducible refine wpList_box54 rfl (.tmp 6) rfl _ rfl ?_))
    all_goals
      go_ret
      exact ⟨rfl, HF.out _ (by omega), (Below.refl _ _).alloc (Nat.le_refl _) _⟩
  · go_enter Try.func35, Try.ntmps35
    go_wp2_with (first | (with_reducible refine wpList_build54 rfl (.tmp 5) rfl _ rfl ?_) | (with_reducible refine wpList_box54 rfl (.tmp 6) rfl _ rfl ?_))
    go_ret
    exact ⟨rfl, HF.out 200 (by omega), (Below.refl _ _).alloc (Nat.le_refl _) _⟩

set_option maxRecDepth 100000 in
set_option maxHeartbeats 1000000 in
theorem finish_esc (g : Nat) (r : R) (w : World) (h : IsRx w g r) (hr : r.esc = true) :
    Calls Try.prog 43 #[.pointer (some ⟨g, 0, none⟩)] w fun e w' => e = .returned (.tuple #[.slice none 0 0, .int .i64 9]) ∧ IsRx w' g ⟨r.most, false, r.esc, r.f⟩ ∧ w.grownBy w' (some g) := by
  obtain ⟨most, ins, esc, f⟩ := r
  have h1 := h.c1
  have h2 := h.c2
  have h3 := h.c3
  have f1 := h.free 1
  have hok := h.ok
  obtain ⟨_, hm, hl⟩ := hok
  have H := Lib.hid h
  clear h
  simp only at *
  subst hr
  have q1 : (0 : Int) ≤ (f.length : Int) := by omega
  have q2 : (f.length : Int) ≤ 202 := by omega
  go_enter Try.func43, Try.ntmps43
  go_wp2
  go_quiet (fail)
  go_wp2
  go_ret2
  have i1 := H.out.set1 false
  have g1 := grown_set (p := ⟨g, 1, none⟩) (grownBy_refl w (some g)) rfl (.bool false)
  exact ⟨rfl, i1, g1.os, g1.tape, g1.output, g1.size, g1.block⟩
end Go.Proofs.Ytameiegmeicnoaa
