/- The walks of the reference's Rx: New, Put, end. -/
import Derived.Test.YtameiegmeicnoaaRxC
import Derived.Test.YtameiegmeicnoaaLaw6
namespace Go.Proofs.Ytameiegmeicnoaa
open Go.RowKit M

/-- Only the block g and the row have turned, and new blocks have come. -/
structure Turned (w w' : World) (g : Nat) (row : Option Nat) : Prop where
  os : w'.os = w.os
  tape : w'.tape = w.tape
  output : w'.output = w.output
  size : w.heap.size ≤ w'.heap.size
  block : ∀ k, k < w.heap.size → k ≠ g → some k ≠ row → w'.heap[k]? = w.heap[k]?
theorem Turned.refl (w : World) (g : Nat) (row : Option Nat) : Turned w w g row := ⟨rfl, rfl, rfl, Nat.le_refl _, fun _ _ _ _ => rfl⟩
theorem Turned.drewN {w w' : World} {g : Nat} {row : Option Nat} (h : Turned w w' g row) (n : Nat) : Turned w (w'.drewN n) g row := ⟨h.os, h.tape, h.output, h.size, h.block⟩
theorem Turned.set_ {w w' : World} {g : Nat} {row : Option Nat} (h : Turned w w' g row) (i : Nat) (u : Value) : Turned w (w'.setCell ⟨g, i, none⟩ u) g row :=
  ⟨h.os, h.tape, h.output, by simpa [World.setCell] using h.size, fun k hk h1 h2 => (Below.heap_setCell w' ⟨g, i, none⟩ u k (by simpa using h1)).trans (h.block k hk h1 h2)⟩
theorem Turned.grown {w w1 w2 : World} {g : Nat} {row row1 : Option Nat} (h : Turned w w1 g row) (h1 : w1.grownBy w2 row1) (hr : row1 = row ∨ ∀ k, row1 = some k → w.heap.size ≤ k) : Turned w w2 g row := by
  refine ⟨h1.os.trans h.os, h1.tape.trans h.tape, h1.output.trans h.output, Nat.le_trans h.size h1.size, fun k hk e1 e2 => (h1.block k (Nat.lt_of_lt_of_le hk h.size) ?_).trans (h.block k hk e1 e2)⟩
  rcases hr with rfl | hr
  · exact e2
  · intro e
    have := hr k e.symm
    omega
theorem Turned.alloc {w w1 : World} {g : Nat} {row : Option Nat} (h : Turned w w1 g row) (o : Obj) : Turned w (w1.alloc o) g row := h.grown (grownBy_of_below ((Below.refl _ _).alloc (Nat.le_refl _) o) none) (.inr (by simp))
theorem Turned.below {w w' : World} {g B : Nat} {row : Option Nat} (h : Turned w w' g row) (hB : B ≤ w.heap.size) (hg : B ≤ g) (hr : ∀ k, row = some k → B ≤ k) : Below B w w' :=
  ⟨h.os, h.tape, h.output, h.size, fun k hk => h.block k (by omega) (by omega) (fun e => by have := hr k e.symm; omega)⟩

/-- The block g is a reference's Rx of state r, whose bytes lie in v. -/
def IsRef (w : World) (g B : Nat) (r : R) (v : Value) : Prop :=
  ∃ esc, w.heap[g]? = some (.cells [Value.int .i64 (r.most : Int), .bool r.ins, .bool esc, v].toArray 60 (0, 0)) ∧ (r.ins = true → esc = r.esc ∧ Own w B v r.f) ∧ r.ok ∧ ∀ k, v.ownBlock = some k → B ≤ k ∧ k ≠ g

section
variable {w : World} {g B : Nat} {r : R} {v : Value}
theorem IsRef.c0 (h : IsRef w g B r v) : w.cell? ⟨g, 0, none⟩ = some (.int .i64 (r.most : Int)) := by
  obtain ⟨e, hh, _⟩ := h; rw [block_cell hh]; rfl
theorem IsRef.c1 (h : IsRef w g B r v) : w.cell? ⟨g, 1, none⟩ = some (.bool r.ins) := by
  obtain ⟨e, hh, _⟩ := h; rw [block_cell hh]; rfl
theorem IsRef.c2 (h : IsRef w g B r v) : ∃ e, w.cell? ⟨g, 2, none⟩ = some (.bool e) ∧ (r.ins = true → e = r.esc) := by
  obtain ⟨e, hh, hi, _⟩ := h; exact ⟨e, by rw [block_cell hh]; rfl, fun h => (hi h).1⟩
theorem IsRef.c3 (h : IsRef w g B r v) : w.cell? ⟨g, 3, none⟩ = some v := by
  obtain ⟨e, hh, _⟩ := h; rw [block_cell hh]; rfl
theorem IsRef.free (h : IsRef w g B r v) (i : Nat) : w.frozen? ⟨g, i, none⟩ = false := by
  obtain ⟨e, hh, _⟩ := h; exact block_free hh i
theorem IsRef.lt (h : IsRef w g B r v) : g < w.heap.size := World.block_lt_of_cell? w _ h.c0
theorem IsRef.own (h : IsRef w g B r v) (hi : r.ins = true) : Own w B v r.f := by obtain ⟨e, _, hh, _⟩ := h; exact (hh hi).2
theorem IsRef.ok (h : IsRef w g B r v) : r.ok := by obtain ⟨e, _, _, h, _⟩ := h; exact h
theorem IsRef.row (h : IsRef w g B r v) : ∀ k, v.ownBlock = some k → B ≤ k ∧ k ≠ g := by obtain ⟨e, _, _, _, h⟩ := h; exact h
theorem IsRef.ne (h : IsRef w g B r v) : v.ownBlock ≠ some g := fun e => (h.row g e).2 rfl
/-- A state, from its four cells. -/
theorem IsRef.mk {w' : World} (h : IsRef w g B r v) (hk : w'.heap[g]? = w.heap[g]?) : ∃ esc, w'.heap[g]? = some (.cells [Value.int .i64 (r.most : Int), .bool r.ins, .bool esc, v].toArray 60 (0, 0)) := by
  obtain ⟨e, hh, _⟩ := h; exact ⟨e, hk.trans hh⟩
theorem IsRef.keep {w' : World} (h : IsRef w g B r v) (hk : w'.heap[g]? = w.heap[g]?) (ho : r.ins = true → Own w B v r.f → Own w' B v r.f) : IsRef w' g B r v := by
  obtain ⟨e, hh, hi, h2, h3⟩ := h
  exact ⟨e, hk.trans hh, fun h => ⟨(hi h).1, ho h (hi h).2⟩, h2, h3⟩
theorem IsRef.below {w' : World} (h : IsRef w g B r v) (hb : Below w.heap.size w w') : IsRef w' g B r v := h.keep (hb.block g h.lt) (fun _ ho => ho.below hb)
theorem IsRef.drewN (h : IsRef w g B r v) (n : Nat) : IsRef (w.drewN n) g B r v := h
end
theorem nil_row (B g : Nat) : ∀ k, (Value.slice none 0 0).ownBlock = some k → B ≤ k ∧ k ≠ g := by intro k hk; cases hk

theorem IsRef.out_ {w : World} {g B most : Nat} {e esc : Bool} {f : List UInt8} {v : Value} (hh : w.heap[g]? = some (.cells [Value.int .i64 (most : Int), .bool false, .bool e, v].toArray 60 (0, 0))) (hok : (R.mk most false esc f).ok) (hr : ∀ k, v.ownBlock = some k → B ≤ k ∧ k ≠ g) : IsRef w g B ⟨most, false, esc, f⟩ v := by
  refine ⟨e, hh, ?_, hok, hr⟩
  intro h
  cases h
theorem IsRef.in_ {w : World} {g B most : Nat} {esc : Bool} {f : List UInt8} {v : Value} (hh : w.heap[g]? = some (.cells [Value.int .i64 (most : Int), .bool true, .bool esc, v].toArray 60 (0, 0))) (ho : Own w B v f) (hok : (R.mk most true esc f).ok) (hr : ∀ k, v.ownBlock = some k → B ≤ k ∧ k ≠ g) : IsRef w g B ⟨most, true, esc, f⟩ v :=
  ⟨esc, hh, fun _ => ⟨rfl, ho⟩, hok, hr⟩

/-- What a call of the reference's Rx leaves. -/
def RefDone (w : World) (g B : Nat) (v : Value) (r : R) (l : List UInt8) (err : Nat) (ok : Bool) (e : Ending) (w' : World) : Prop :=
  ∃ u v', e = .returned (.tuple #[u, .int .i64 (err : Int), .bool ok]) ∧ Own w' B u l ∧ IsRef w' g B r v' ∧ Turned w w' g v.ownBlock ∧ (ok = true → v'.ownBlock = none) ∧ (v'.ownBlock = none ∨ v'.ownBlock = v.ownBlock ∨ ∃ k, v'.ownBlock = some k ∧ w.heap.size ≤ k)

theorem Own.prefix_ {w : World} {B n cap : Nat} {A : Option Addr} {l : List UInt8} (h : Own w B (.slice A n cap) l) (k : Nat) (hk : k ≤ l.length) (h0 : 0 < l.length) : Own w B (.slice A k cap) (l.take k) := by
  rcases h.2 with ⟨e, hn⟩ | ⟨g, cap', cur, e, hb, hh, hc, hm, hs, ht⟩
  · omega
  · injection e with e1 e2 e3
    subst e1 e3
    refine ⟨by simp [bcs_length], .inr ⟨g, cap, cur, by rw [List.length_take, Nat.min_eq_left hk], hb, hh, by rw [List.length_take]; omega, hm, hs, ?_⟩⟩
    have : (cur.toList.take (l.length * 1)).take k = (bcs l).take k := by rw [ht]
    rw [List.take_take] at this
    rw [List.length_take, Nat.min_eq_left hk, Nat.mul_one]
    rw [Nat.mul_one, Nat.min_eq_left hk] at this
    rw [this]
    simp [bcs, List.map_take]

/-- The cells of a reference's Rx as its New makes them. -/
def refCells (m : Int) : Array Value := [Value.int .i64 m, .bool false, .bool false, .slice none 0 0].toArray
theorem run_build60 (m : Int) (w : World) : (Instr.build 60 #[(0, .int .i64 m)]).run Try.prog w = .ok (.agg (refCells m)) w := by kernel_rfl
theorem run_box60 (m : Int) (w : World) : (Instr.box 60 (.agg (refCells m))).run Try.prog w = .ok (.pointer (some ⟨w.heap.size, 0, none⟩)) (w.alloc (.cells (refCells m) 60)) := by kernel_rfl
theorem refCells_is (w : World) (n : Nat) (B : Nat) (h1 : 1 ≤ n) (h2 : n ≤ 200) : IsRef (w.alloc (.cells (refCells n) 60)) w.heap.size B ⟨n, false, false, []⟩ (.slice none 0 0) :=
  IsRef.out_ (heap_alloc_new w _) ⟨h1, h2, Nat.zero_le _⟩ (nil_row _ _)
theorem wpList_build60 {w : World} {ops : Array Oper} {rest : List Oper} {o : Oper} {a : Act} {Q : Exit → Act → World → Prop} (hgd : o.guard = none) (x : Operand) (ho : o.op = .build 60 #[(0, x)]) (m : Int) (hx : a.eval x = .int .i64 m)
    (h : wpList Try.prog ops Q rest (a.put o.dst (.agg (refCells m))) w) : wpList Try.prog ops Q (o :: rest) a w := by
  refine wpList_plain hgd fun K hK => ?_
  have hrun : (execOp a.eval o).run Try.prog w = .ok (.value (.agg (refCells m))) w := by
    have h1 : #[(0, x)].map (fun (i, x) => (i, a.eval x)) = #[(0, .int .i64 m)] := by simp [hx]
    simp only [execOp, ho, h1, Sem.run_bind, run_build60, Result.andThen_ok, Sem.run_pure]
  unfold Oper.wp
  rw [hrun, Oper.upon_value]
  exact hK _ _ h
theorem wpList_box60 {w : World} {ops : Array Oper} {rest : List Oper} {o : Oper} {a : Act} {Q : Exit → Act → World → Prop} (hgd : o.guard = none) (x : Operand) (ho : o.op = .box 60 x) (m : Int) (hx : a.eval x = .agg (refCells m))
    (h : wpList Try.prog ops Q rest (a.put o.dst (.pointer (some ⟨w.heap.size, 0, none⟩))) (w.alloc (.cells (refCells m) 60))) : wpList Try.prog ops Q (o :: rest) a w := by
  refine wpList_plain hgd fun K hK => ?_
  have hrun : (execOp a.eval o).run Try.prog w = .ok (.value (.pointer (some ⟨w.heap.size, 0, none⟩))) (w.alloc (.cells (refCells m) 60)) := by
    simp only [execOp, ho, hx, Sem.run_bind, run_box60, Result.andThen_ok, Sem.run_pure]
  unfold Oper.wp
  rw [hrun, Oper.upon_value]
  exact hK _ _ h

set_option maxHeartbeats 400000 in
theorem RefNew_any (most : Int) (B : Nat) (w : World) :
    Calls Try.prog 45 #[.int .i64 most] w fun e w' => e = .returned (.pointer (some ⟨w.heap.size, 0, none⟩)) ∧ IsRef w' w.heap.size B (R.new most) (.slice none 0 0) ∧ Below w.heap.size w w' := by
  have hfin : ∀ n : Nat, (min (max most 1) 200).toNat = n → IsRef (w.alloc (.cells (refCells n) 60)) w.heap.size B (R.new most) (.slice none 0 0) := by
    rintro n rfl
    exact refCells_is w _ B (by omega) (by omega)
  have HF := Lib.hid hfin
  clear hfin
  rcases (show most < 1 ∨ (1 ≤ most ∧ most ≤ 200) ∨ 200 < most by omega) with h | h | h
  · go_enter Try.func45, Try.ntmps45
    go_wp2_with (first | (with_reducible refine wpList_build60 rfl (.tmp 5) rfl _ rfl ?_) | (with_reducible refine wpList_box60 rfl (.tmp 6) rfl _ rfl ?_))
    go_ret
    exact ⟨rfl, HF.out 1 (by omega), (Below.refl _ _).alloc (Nat.le_refl _) _⟩
  · obtain ⟨h1, h2⟩ := h
    obtain ⟨n, rfl⟩ : ∃ n : Nat, most = n := ⟨most.toNat, by omega⟩
    go_enter Try.func45, Try.ntmps45
    go_wp2_with (first | (with_reducible refine wpList_build60 rfl (.tmp 5) rfl _ rfl ?_) | (with_reducible refine wpList_box60 rfl (.tmp 6) rfl _ rfl ?_))
    all_goals
      go_ret
      first
        | exact ⟨rfl, HF.out n (by omega), (Below.refl _ _).alloc (Nat.le_refl _) _⟩
        | exact ⟨rfl, HF.out 1 (by omega), (Below.refl _ _).alloc (Nat.le_refl _) _⟩
  · go_enter Try.func45, Try.ntmps45
    go_wp2_with (first | (with_reducible refine wpList_build60 rfl (.tmp 5) rfl _ rfl ?_) | (with_reducible refine wpList_box60 rfl (.tmp 6) rfl _ rfl ?_))
    go_ret
    exact ⟨rfl, HF.out 200 (by omega), (Below.refl _ _).alloc (Nat.le_refl _) _⟩

theorem set1_ref {w : World} {g : Nat} {m : Int} {i e : Bool} {v : Value} (h : w.heap[g]? = some (.cells [Value.int .i64 m, .bool i, .bool e, v].toArray 60 (0, 0))) (b : Bool) :
    (w.setCell ⟨g, 1, none⟩ (.bool b)).heap[g]? = some (.cells [Value.int .i64 m, .bool b, .bool e, v].toArray 60 (0, 0)) := set_block h 1 _
theorem set2_ref {w : World} {g : Nat} {m : Int} {i e : Bool} {v : Value} (h : w.heap[g]? = some (.cells [Value.int .i64 m, .bool i, .bool e, v].toArray 60 (0, 0))) (b : Bool) :
    (w.setCell ⟨g, 2, none⟩ (.bool b)).heap[g]? = some (.cells [Value.int .i64 m, .bool i, .bool b, v].toArray 60 (0, 0)) := set_block h 2 _
theorem set3_ref {w : World} {g : Nat} {m : Int} {i e : Bool} {v : Value} (h : w.heap[g]? = some (.cells [Value.int .i64 m, .bool i, .bool e, v].toArray 60 (0, 0))) (u : Value) :
    (w.setCell ⟨g, 3, none⟩ u).heap[g]? = some (.cells [Value.int .i64 m, .bool i, .bool e, u].toArray 60 (0, 0)) := set_block h 3 _

set_option maxRecDepth 100000 in
set_option maxHeartbeats 1000000 in
theorem RefEnd_any (g B : Nat) (r : R) (v : Value) (w : World) (h : IsRef w g B r v) (hi : r.ins = true) :
    Calls Try.prog 48 #[.pointer (some ⟨g, 0, none⟩)] w (RefDone w g B v ⟨r.most, false, r.esc, r.f⟩ (rend r.esc r.f).1 (rend r.esc r.f).2 true) := by
  obtain ⟨most, ins, esc, f⟩ := r
  simp only at hi
  subst hi
  have ho := h.own rfl
  have h1 := h.c1
  obtain ⟨e2, h2, he2⟩ := h.c2
  have he2 := he2 rfl
  simp only at he2
  subst he2
  have h3 := h.c3
  have f1 := h.free 1
  have f2 := h.free 2
  have f3 := h.free 3
  have hok := h.ok
  obtain ⟨hm1, hm2, hfl⟩ := hok
  have hne := h.ne
  have hrow := h.row
  simp only at *
  have hend : ∀ n w' (_ : w' = (((w.drewN n).setCell ⟨g, 1, none⟩ (.bool false)).setCell ⟨g, 2, none⟩ (.bool false)).setCell ⟨g, 3, none⟩ (.slice none 0 0)), IsRef w' g B ⟨most, false, e2, f⟩ (.slice none 0 0) ∧ Turned w w' g v.ownBlock ∧ Own w' B v f ∧ w'.heap.size = w.heap.size := by
    rintro n w' rfl
    obtain ⟨ee, hh, _, _, _⟩ := h
    have k1 := set3_ref (set2_ref (set1_ref (w := w.drewN n) hh false) false) (.slice none 0 0)
    refine ⟨IsRef.out_ k1 ⟨hm1, hm2, hfl⟩ (nil_row _ _), (((Turned.refl w g _).drewN n).set_ 1 _ |>.set_ 2 _).set_ 3 _, ?_, by simp [World.setCell, World.drewN]⟩
    exact ((Own.setOther (w := w.drewN n) ho ⟨g, 1, none⟩ _ hne).setOther ⟨g, 2, none⟩ _ hne).setOther ⟨g, 3, none⟩ _ hne
  have HEND := Lib.hid hend
  have HO := Lib.hid ho
  obtain ⟨A, cap, rfl, hc, hm, _⟩ := ho.rds
  unfold maxLen at hm
  clear h ho hend hrow
  rcases e2 with _ | _
  · by_cases hs : f.length ≤ 2
    · have hd : decide ((f.length : Int) < 3) = true := by simp; omega
      have hend2 : rend false f = ([], 8) := by simp [rend, hs]
      have HE := Lib.hid hend2
      clear hend2
      rw [HE.out]
      go_enter Try.func48, Try.ntmps48
      go_wp2
      go_quiet (fail)
      go_wp2
      go_ret3
      have k := HEND.out nq _ rfl
      exact ⟨_, _, rfl, Own.nil_ _ _, k.1, k.2.1, fun _ => rfl, .inl rfl⟩
    · have hd : decide ((f.length : Int) < 3) = false := by simp; omega
      have hlt : f.length ≤ 1000000 := by omega
      obtain ⟨g', cap', he, h4, h5, h6, h7, _⟩ := HO.out.shape (by omega)
      injection he with e1 e4 e5
      subst e1 e5
      clear e4
      rcases hf : cfine f with _ | _
      · have hend2 : rend false f = ([], 8) := by simp [rend, hf]
        have HE := Lib.hid hend2
        clear hend2
        rw [HE.out]
        go_enter Try.func48, Try.ntmps48
        go_wp2
        go_quiet (fail)
        go_wp2_with (go_at_call 27; refine (RefFine_any _ f _ (HEND.out nq _ rfl).2.2.1.rds hlt).mono ?_; rintro e w2 ⟨rfl, hb2⟩)
        go_ret3
        have k := HEND.out nq _ rfl
        exact ⟨_, _, rfl, Own.nil_ _ _, k.1.below hb2, k.2.1.grown (grownBy_of_below hb2 none) (.inr (by simp)), fun _ => rfl, .inl rfl⟩
      · have hend2 : rend false f = (f.take (f.length - 2), 0) := by simp [rend, hf]; omega
        have HE := Lib.hid hend2
        clear hend2
        rw [HE.out]
        have q3 : (0 : Int) ≤ (f.length : Int) - 2 := by omega
        go_enter Try.func48, Try.ntmps48
        go_wp2
        go_quiet (fail)
        go_wp2_with (go_at_call 27; refine (RefFine_any _ f _ (HEND.out nq _ rfl).2.2.1.rds hlt).mono ?_; rintro e w2 ⟨rfl, hb2⟩)
        go_ret3
        have k := HEND.out nq _ rfl
        exact ⟨_, _, rfl, (k.2.2.1.below hb2).prefix_ (f.length - 2) (by omega) (by omega), k.1.below hb2, k.2.1.grown (grownBy_of_below hb2 none) (.inr (by simp)), fun _ => rfl, .inl rfl⟩
  · go_enter Try.func48, Try.ntmps48
    go_wp2
    go_quiet (fail)
    go_wp2
    go_ret3
    have k := HEND.out nq _ rfl
    exact ⟨_, _, rfl, Own.nil_ _ _, k.1, k.2.1, fun _ => rfl, .inl rfl⟩
end Go.Proofs.Ytameiegmeicnoaa
