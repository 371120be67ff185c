/- Package turn as landed (db57207e): what is heard. -/
import Derived.Test.YtocjhpaackccpaaGreatDoorN12B
import Derived.Test.YtocjhpaackccpaaGreatDoorN12A

set_option linter.all false

namespace Go.Proofs.YtocjhpaackccpaaGreatDoor
open Go.RowKit M

theorem CMayI (nr ns : Int) (b : Bool) (w : World) (hb : decide (0 ≤ nr ∧ nr ≤ 7 ∧ 0 ≤ ns ∧ ns ≤ 7) = b) : Calls Tryz.prog 72 #[iV nr ns false] w fun e w' => e = .returned (.bool b) ∧ Below w.heap.size w w' := by
  subst hb
  refine (CMay_any (v := iV nr ns false) (c := ⟨1, 0, nr, ns, false⟩) (.inl ⟨nr, ns, false, rfl, rfl⟩) w).mono ?_
  rintro e w' ⟨rfl, hw⟩
  refine ⟨?_, hw⟩
  congr 2
  by_cases h : 0 ≤ nr ∧ nr ≤ 7 ∧ 0 ≤ ns ∧ ns ≤ 7
  · rw [decide_eq_true h, cb_I (c := ⟨1, 0, nr, ns, false⟩) ⟨rfl, h.1, h.2.1, h.2.2.1, h.2.2.2, rfl⟩]
    rfl
  · rw [decide_eq_false h, cb_none (c := ⟨1, 0, nr, ns, false⟩)]
    · rfl
    · exact fun hi => h ⟨hi.2.1, hi.2.2.1, hi.2.2.2.1, hi.2.2.2.2.1⟩
    · exact fun hi => by have := hi.1; simp at this
    · exact fun hi => by have := hi.1; simp at this
theorem bel_cell {w W : World} {g k : Nat} {u : Value} (h : w.cell? ⟨g, k, none⟩ = some u) (hb : Below w.heap.size w W) : W.cell? ⟨g, k, none⟩ = some u := (hb.cell (p := ⟨g, k, none⟩) (World.block_lt_of_cell? _ _ h)).trans h
set_option maxRecDepth 100000 in
set_option maxHeartbeats 16000000 in
theorem TnFits_1t (gt : Nat) (seat count kind sort nr ns : Int) (pf : Bool) (body : ByteArray) (w : World) (hk : kind = 1 ∨ kind = 2) (q : w.cell? ⟨gt, 0, none⟩ = some (.int .i64 1)) : Calls Tryz.prog 63 #[.pointer (some ⟨gt, 0, none⟩), .agg #[.int .i64 seat, .int .i64 count, .bool true, .int .i64 kind, .int .i64 sort, .int .i64 nr, .int .i64 ns, .bool pf, .string body]] w fun e w' => e = .returned (.bool false) ∧ Below w.heap.size w w' := by
  rcases hk with rfl | rfl
  · have hb1 : Below w.heap.size w ((w.alloc (.cells #[.int .i64 seat, .int .i64 count, .bool true, .int .i64 1, .int .i64 sort, .int .i64 nr, .int .i64 ns, .bool pf, .string body] 37))) := (Below.refl _ _).alloc (Nat.le_refl _) _
    have hbx : ((w.alloc (.cells #[.int .i64 seat, .int .i64 count, .bool true, .int .i64 1, .int .i64 sort, .int .i64 nr, .int .i64 ns, .bool pf, .string body] 37))).heap[w.heap.size]? = some (.cells #[.int .i64 seat, .int .i64 count, .bool true, .int .i64 1, .int .i64 sort, .int .i64 nr, .int .i64 ns, .bool pf, .string body] 37 (0, 0)) := heap_alloc_new w _
    have HP := Lib.hid (fun w q => TnPrim_at gt 1 true w (.inl rfl) (by decide) q)
    have HQ : Hid (∀ W, Below ((w.alloc (.cells #[.int .i64 seat, .int .i64 count, .bool true, .int .i64 1, .int .i64 sort, .int .i64 nr, .int .i64 ns, .bool pf, .string body] 37))).heap.size ((w.alloc (.cells #[.int .i64 seat, .int .i64 count, .bool true, .int .i64 1, .int .i64 sort, .int .i64 nr, .int .i64 ns, .bool pf, .string body] 37))) W → W.cell? ⟨gt, 0, none⟩ = some (.int .i64 1)) := fun W HW => bel_cell (bel_cell q hb1) HW
    have HZ2 : Hid (∀ W, Below ((w.alloc (.cells #[.int .i64 seat, .int .i64 count, .bool true, .int .i64 1, .int .i64 sort, .int .i64 nr, .int .i64 ns, .bool pf, .string body] 37))).heap.size ((w.alloc (.cells #[.int .i64 seat, .int .i64 count, .bool true, .int .i64 1, .int .i64 sort, .int .i64 nr, .int .i64 ns, .bool pf, .string body] 37))) W → W.cell? ⟨w.heap.size, 2, none⟩ = some (.bool true)) := fun W HW => bel_cell (cell_at hbx 2 _ rfl) HW
    have HZ5 : Hid (∀ W, Below ((w.alloc (.cells #[.int .i64 seat, .int .i64 count, .bool true, .int .i64 1, .int .i64 sort, .int .i64 nr, .int .i64 ns, .bool pf, .string body] 37))).heap.size ((w.alloc (.cells #[.int .i64 seat, .int .i64 count, .bool true, .int .i64 1, .int .i64 sort, .int .i64 nr, .int .i64 ns, .bool pf, .string body] 37))) W → W.cell? ⟨w.heap.size, 5, none⟩ = some (.int .i64 nr)) := fun W HW => bel_cell (cell_at hbx 5 _ rfl) HW
    have HZ6 : Hid (∀ W, Below ((w.alloc (.cells #[.int .i64 seat, .int .i64 count, .bool true, .int .i64 1, .int .i64 sort, .int .i64 nr, .int .i64 ns, .bool pf, .string body] 37))).heap.size ((w.alloc (.cells #[.int .i64 seat, .int .i64 count, .bool true, .int .i64 1, .int .i64 sort, .int .i64 nr, .int .i64 ns, .bool pf, .string body] 37))) W → W.cell? ⟨w.heap.size, 6, none⟩ = some (.int .i64 ns)) := fun W HW => bel_cell (cell_at hbx 6 _ rfl) HW
    have z3 : ((w.alloc (.cells #[.int .i64 seat, .int .i64 count, .bool true, .int .i64 1, .int .i64 sort, .int .i64 nr, .int .i64 ns, .bool pf, .string body] 37))).cell? ⟨w.heap.size, 3, none⟩ = some (.int .i64 1) := cell_at hbx 3 _ rfl
    have HB1 := Lib.hid hb1
    skip
    clear q  hb1 hbx
    go_enter Tryz.func63, Tryz.ntmps63
    go_wp2
    refine regq (fun W => Below ((w.alloc (.cells #[.int .i64 seat, .int .i64 count, .bool true, .int .i64 1, .int .i64 sort, .int .i64 nr, .int .i64 ns, .bool pf, .string body] 37))).heap.size ((w.alloc (.cells #[.int .i64 seat, .int .i64 count, .bool true, .int .i64 1, .int .i64 sort, .int .i64 nr, .int .i64 ns, .bool pf, .string body] 37))) W) (by kernel_rfl) (by kernel_rfl) ((Below.refl _ _).drew) ?_
    iterate 3 (first | (refine q_skip (by rfl) ?_; simp only [Act.put, List.setIfInBounds_toArray, List.set_cons_zero, List.set_cons_succ]) | (refine q_take (v := ?_) (by rfl) ?_ ?_; rotate_left; (· intro W HW; have z := HZ2.out W HW; have z5 := HZ5.out W HW; have z6 := HZ6.out W HW; go_simp; try with_reducible rfl); simp only [Act.put, List.setIfInBounds_toArray, List.set_cons_zero, List.set_cons_succ]))
    refine q_call 65 #[.pointer (some ⟨gt, 0, none⟩)] (by rfl) (by intro W HW; go_simp) (fun W HW => (HP.out W (HQ.out W HW)).mono fun e W' ⟨he, hw⟩ => ⟨he, hw ▸ HW⟩) ?_
    simp only [Act.put, List.setIfInBounds_toArray, List.set_cons_zero, List.set_cons_succ]
    iterate 11 (first | (refine q_skip (by rfl) ?_; simp only [Act.put, List.setIfInBounds_toArray, List.set_cons_zero, List.set_cons_succ]) | (refine q_take (v := ?_) (by rfl) ?_ ?_; rotate_left; (· intro W HW; have z := HZ2.out W HW; have z5 := HZ5.out W HW; have z6 := HZ6.out W HW; go_simp; try with_reducible rfl); simp only [Act.put, List.setIfInBounds_toArray, List.set_cons_zero, List.set_cons_succ]))
    refine q_done ?_
    intro w2 hw2
    have HW2 := Lib.hid hw2
    clear hw2
    go_wp2
    go_ret
    exact ⟨rfl, HB1.out.trans (HW2.out.mono HB1.out.size)⟩
  · have hb1 : Below w.heap.size w ((w.alloc (.cells #[.int .i64 seat, .int .i64 count, .bool true, .int .i64 2, .int .i64 sort, .int .i64 nr, .int .i64 ns, .bool pf, .string body] 37))) := (Below.refl _ _).alloc (Nat.le_refl _) _
    have hbx : ((w.alloc (.cells #[.int .i64 seat, .int .i64 count, .bool true, .int .i64 2, .int .i64 sort, .int .i64 nr, .int .i64 ns, .bool pf, .string body] 37))).heap[w.heap.size]? = some (.cells #[.int .i64 seat, .int .i64 count, .bool true, .int .i64 2, .int .i64 sort, .int .i64 nr, .int .i64 ns, .bool pf, .string body] 37 (0, 0)) := heap_alloc_new w _
    have HP := Lib.hid (fun w q => TnPrim_at gt 1 true w (.inl rfl) (by decide) q)
    have HQ : Hid (∀ W, Below ((w.alloc (.cells #[.int .i64 seat, .int .i64 count, .bool true, .int .i64 2, .int .i64 sort, .int .i64 nr, .int .i64 ns, .bool pf, .string body] 37))).heap.size ((w.alloc (.cells #[.int .i64 seat, .int .i64 count, .bool true, .int .i64 2, .int .i64 sort, .int .i64 nr, .int .i64 ns, .bool pf, .string body] 37))) W → W.cell? ⟨gt, 0, none⟩ = some (.int .i64 1)) := fun W HW => bel_cell (bel_cell q hb1) HW
    have HZ2 : Hid (∀ W, Below ((w.alloc (.cells #[.int .i64 seat, .int .i64 count, .bool true, .int .i64 2, .int .i64 sort, .int .i64 nr, .int .i64 ns, .bool pf, .string body] 37))).heap.size ((w.alloc (.cells #[.int .i64 seat, .int .i64 count, .bool true, .int .i64 2, .int .i64 sort, .int .i64 nr, .int .i64 ns, .bool pf, .string body] 37))) W → W.cell? ⟨w.heap.size, 2, none⟩ = some (.bool true)) := fun W HW => bel_cell (cell_at hbx 2 _ rfl) HW
    have HZ5 : Hid (∀ W, Below ((w.alloc (.cells #[.int .i64 seat, .int .i64 count, .bool true, .int .i64 2, .int .i64 sort, .int .i64 nr, .int .i64 ns, .bool pf, .string body] 37))).heap.size ((w.alloc (.cells #[.int .i64 seat, .int .i64 count, .bool true, .int .i64 2, .int .i64 sort, .int .i64 nr, .int .i64 ns, .bool pf, .string body] 37))) W → W.cell? ⟨w.heap.size, 5, none⟩ = some (.int .i64 nr)) := fun W HW => bel_cell (cell_at hbx 5 _ rfl) HW
    have HZ6 : Hid (∀ W, Below ((w.alloc (.cells #[.int .i64 seat, .int .i64 count, .bool true, .int .i64 2, .int .i64 sort, .int .i64 nr, .int .i64 ns, .bool pf, .string body] 37))).heap.size ((w.alloc (.cells #[.int .i64 seat, .int .i64 count, .bool true, .int .i64 2, .int .i64 sort, .int .i64 nr, .int .i64 ns, .bool pf, .string body] 37))) W → W.cell? ⟨w.heap.size, 6, none⟩ = some (.int .i64 ns)) := fun W HW => bel_cell (cell_at hbx 6 _ rfl) HW
    have z3 : ((w.alloc (.cells #[.int .i64 seat, .int .i64 count, .bool true, .int .i64 2, .int .i64 sort, .int .i64 nr, .int .i64 ns, .bool pf, .string body] 37))).cell? ⟨w.heap.size, 3, none⟩ = some (.int .i64 2) := cell_at hbx 3 _ rfl
    have HB1 := Lib.hid hb1
    skip
    clear q  hb1 hbx
    go_enter Tryz.func63, Tryz.ntmps63
    go_wp2
    refine regq (fun W => Below ((w.alloc (.cells #[.int .i64 seat, .int .i64 count, .bool true, .int .i64 2, .int .i64 sort, .int .i64 nr, .int .i64 ns, .bool pf, .string body] 37))).heap.size ((w.alloc (.cells #[.int .i64 seat, .int .i64 count, .bool true, .int .i64 2, .int .i64 sort, .int .i64 nr, .int .i64 ns, .bool pf, .string body] 37))) W) (by kernel_rfl) (by kernel_rfl) ((Below.refl _ _).drew) ?_
    iterate 3 (first | (refine q_skip (by rfl) ?_; simp only [Act.put, List.setIfInBounds_toArray, List.set_cons_zero, List.set_cons_succ]) | (refine q_take (v := ?_) (by rfl) ?_ ?_; rotate_left; (· intro W HW; have z := HZ2.out W HW; have z5 := HZ5.out W HW; have z6 := HZ6.out W HW; go_simp; try with_reducible rfl); simp only [Act.put, List.setIfInBounds_toArray, List.set_cons_zero, List.set_cons_succ]))
    refine q_call 65 #[.pointer (some ⟨gt, 0, none⟩)] (by rfl) (by intro W HW; go_simp) (fun W HW => (HP.out W (HQ.out W HW)).mono fun e W' ⟨he, hw⟩ => ⟨he, hw ▸ HW⟩) ?_
    simp only [Act.put, List.setIfInBounds_toArray, List.set_cons_zero, List.set_cons_succ]
    iterate 11 (first | (refine q_skip (by rfl) ?_; simp only [Act.put, List.setIfInBounds_toArray, List.set_cons_zero, List.set_cons_succ]) | (refine q_take (v := ?_) (by rfl) ?_ ?_; rotate_left; (· intro W HW; have z := HZ2.out W HW; have z5 := HZ5.out W HW; have z6 := HZ6.out W HW; go_simp; try with_reducible rfl); simp only [Act.put, List.setIfInBounds_toArray, List.set_cons_zero, List.set_cons_succ]))
    refine q_done ?_
    intro w2 hw2
    have HW2 := Lib.hid hw2
    clear hw2
    go_wp2
    go_ret
    exact ⟨rfl, HB1.out.trans (HW2.out.mono HB1.out.size)⟩
set_option maxRecDepth 100000 in
set_option maxHeartbeats 16000000 in
theorem TnFits_1f (gt : Nat) (b : Bool) (seat count kind sort nr ns : Int) (pf : Bool) (body : ByteArray) (w : World) (hk : kind = 1 ∨ kind = 2) (hb : decide (0 ≤ nr ∧ nr ≤ 7 ∧ 0 ≤ ns ∧ ns ≤ 7) = b) (q : w.cell? ⟨gt, 0, none⟩ = some (.int .i64 1)) : Calls Tryz.prog 63 #[.pointer (some ⟨gt, 0, none⟩), .agg #[.int .i64 seat, .int .i64 count, .bool false, .int .i64 kind, .int .i64 sort, .int .i64 nr, .int .i64 ns, .bool pf, .string body]] w fun e w' => e = .returned (.bool b) ∧ Below w.heap.size w w' := by
  rcases hk with rfl | rfl
  · have hb1 : Below w.heap.size w ((w.alloc (.cells #[.int .i64 seat, .int .i64 count, .bool false, .int .i64 1, .int .i64 sort, .int .i64 nr, .int .i64 ns, .bool pf, .string body] 37))) := (Below.refl _ _).alloc (Nat.le_refl _) _
    have hbx : ((w.alloc (.cells #[.int .i64 seat, .int .i64 count, .bool false, .int .i64 1, .int .i64 sort, .int .i64 nr, .int .i64 ns, .bool pf, .string body] 37))).heap[w.heap.size]? = some (.cells #[.int .i64 seat, .int .i64 count, .bool false, .int .i64 1, .int .i64 sort, .int .i64 nr, .int .i64 ns, .bool pf, .string body] 37 (0, 0)) := heap_alloc_new w _
    have HP := Lib.hid (fun w q => TnPrim_at gt 1 true w (.inl rfl) (by decide) q)
    have HQ : Hid (∀ W, Below ((w.alloc (.cells #[.int .i64 seat, .int .i64 count, .bool false, .int .i64 1, .int .i64 sort, .int .i64 nr, .int .i64 ns, .bool pf, .string body] 37))).heap.size ((w.alloc (.cells #[.int .i64 seat, .int .i64 count, .bool false, .int .i64 1, .int .i64 sort, .int .i64 nr, .int .i64 ns, .bool pf, .string body] 37))) W → W.cell? ⟨gt, 0, none⟩ = some (.int .i64 1)) := fun W HW => bel_cell (bel_cell q hb1) HW
    have HZ2 : Hid (∀ W, Below ((w.alloc (.cells #[.int .i64 seat, .int .i64 count, .bool false, .int .i64 1, .int .i64 sort, .int .i64 nr, .int .i64 ns, .bool pf, .string body] 37))).heap.size ((w.alloc (.cells #[.int .i64 seat, .int .i64 count, .bool false, .int .i64 1, .int .i64 sort, .int .i64 nr, .int .i64 ns, .bool pf, .string body] 37))) W → W.cell? ⟨w.heap.size, 2, none⟩ = some (.bool false)) := fun W HW => bel_cell (cell_at hbx 2 _ rfl) HW
    have HZ5 : Hid (∀ W, Below ((w.alloc (.cells #[.int .i64 seat, .int .i64 count, .bool false, .int .i64 1, .int .i64 sort, .int .i64 nr, .int .i64 ns, .bool pf, .string body] 37))).heap.size ((w.alloc (.cells #[.int .i64 seat, .int .i64 count, .bool false, .int .i64 1, .int .i64 sort, .int .i64 nr, .int .i64 ns, .bool pf, .string body] 37))) W → W.cell? ⟨w.heap.size, 5, none⟩ = some (.int .i64 nr)) := fun W HW => bel_cell (cell_at hbx 5 _ rfl) HW
    have HZ6 : Hid (∀ W, Below ((w.alloc (.cells #[.int .i64 seat, .int .i64 count, .bool false, .int .i64 1, .int .i64 sort, .int .i64 nr, .int .i64 ns, .bool pf, .string body] 37))).heap.size ((w.alloc (.cells #[.int .i64 seat, .int .i64 count, .bool false, .int .i64 1, .int .i64 sort, .int .i64 nr, .int .i64 ns, .bool pf, .string body] 37))) W → W.cell? ⟨w.heap.size, 6, none⟩ = some (.int .i64 ns)) := fun W HW => bel_cell (cell_at hbx 6 _ rfl) HW
    have z3 : ((w.alloc (.cells #[.int .i64 seat, .int .i64 count, .bool false, .int .i64 1, .int .i64 sort, .int .i64 nr, .int .i64 ns, .bool pf, .string body] 37))).cell? ⟨w.heap.size, 3, none⟩ = some (.int .i64 1) := cell_at hbx 3 _ rfl
    have HB1 := Lib.hid hb1
    have HB := Lib.hid hb
    clear q hb hb1 hbx
    go_enter Tryz.func63, Tryz.ntmps63
    go_wp2
    refine regq (fun W => Below ((w.alloc (.cells #[.int .i64 seat, .int .i64 count, .bool false, .int .i64 1, .int .i64 sort, .int .i64 nr, .int .i64 ns, .bool pf, .string body] 37))).heap.size ((w.alloc (.cells #[.int .i64 seat, .int .i64 count, .bool false, .int .i64 1, .int .i64 sort, .int .i64 nr, .int .i64 ns, .bool pf, .string body] 37))) W) (by kernel_rfl) (by kernel_rfl) ((Below.refl _ _).drew) ?_
    iterate 3 (first | (refine q_skip (by rfl) ?_; simp only [Act.put, List.setIfInBounds_toArray, List.set_cons_zero, List.set_cons_succ]) | (refine q_take (v := ?_) (by rfl) ?_ ?_; rotate_left; (· intro W HW; have z := HZ2.out W HW; have z5 := HZ5.out W HW; have z6 := HZ6.out W HW; go_simp; try with_reducible rfl); simp only [Act.put, List.setIfInBounds_toArray, List.set_cons_zero, List.set_cons_succ]))
    refine q_call 65 #[.pointer (some ⟨gt, 0, none⟩)] (by rfl) (by intro W HW; go_simp) (fun W HW => (HP.out W (HQ.out W HW)).mono fun e W' ⟨he, hw⟩ => ⟨he, hw ▸ HW⟩) ?_
    simp only [Act.put, List.setIfInBounds_toArray, List.set_cons_zero, List.set_cons_succ]
    iterate 8 (first | (refine q_skip (by rfl) ?_; simp only [Act.put, List.setIfInBounds_toArray, List.set_cons_zero, List.set_cons_succ]) | (refine q_take (v := ?_) (by rfl) ?_ ?_; rotate_left; (· intro W HW; have z := HZ2.out W HW; have z5 := HZ5.out W HW; have z6 := HZ6.out W HW; go_simp; try with_reducible rfl); simp only [Act.put, List.setIfInBounds_toArray, List.set_cons_zero, List.set_cons_succ]))
    refine q_call 72 #[iV nr ns false] (by rfl) (by intro W HW; go_simp) (fun W HW => (CMayI nr ns b W HB.out).mono fun e W' ⟨he, hb⟩ => ⟨he, HW.trans (hb.mono HW.size)⟩) ?_
    simp only [Act.put, List.setIfInBounds_toArray, List.set_cons_zero, List.set_cons_succ]
    iterate 2 (first | (refine q_skip (by rfl) ?_; simp only [Act.put, List.setIfInBounds_toArray, List.set_cons_zero, List.set_cons_succ]) | (refine q_take (v := ?_) (by rfl) ?_ ?_; rotate_left; (· intro W HW; have z := HZ2.out W HW; have z5 := HZ5.out W HW; have z6 := HZ6.out W HW; go_simp; try with_reducible rfl); simp only [Act.put, List.setIfInBounds_toArray, List.set_cons_zero, List.set_cons_succ]))
    refine q_done ?_
    intro w2 hw2
    have HW2 := Lib.hid hw2
    clear hw2
    go_wp2
    go_ret
    exact ⟨rfl, HB1.out.trans (HW2.out.mono HB1.out.size)⟩
  · have hb1 : Below w.heap.size w ((w.alloc (.cells #[.int .i64 seat, .int .i64 count, .bool false, .int .i64 2, .int .i64 sort, .int .i64 nr, .int .i64 ns, .bool pf, .string body] 37))) := (Below.refl _ _).alloc (Nat.le_refl _) _
    have hbx : ((w.alloc (.cells #[.int .i64 seat, .int .i64 count, .bool false, .int .i64 2, .int .i64 sort, .int .i64 nr, .int .i64 ns, .bool pf, .string body] 37))).heap[w.heap.size]? = some (.cells #[.int .i64 seat, .int .i64 count, .bool false, .int .i64 2, .int .i64 sort, .int .i64 nr, .int .i64 ns, .bool pf, .string body] 37 (0, 0)) := heap_alloc_new w _
    have HP := Lib.hid (fun w q => TnPrim_at gt 1 true w (.inl rfl) (by decide) q)
    have HQ : Hid (∀ W, Below ((w.alloc (.cells #[.int .i64 seat, .int .i64 count, .bool false, .int .i64 2, .int .i64 sort, .int .i64 nr, .int .i64 ns, .bool pf, .string body] 37))).heap.size ((w.alloc (.cells #[.int .i64 seat, .int .i64 count, .bool false, .int .i64 2, .int .i64 sort, .int .i64 nr, .int .i64 ns, .bool pf, .string body] 37))) W → W.cell? ⟨gt, 0, none⟩ = some (.int .i64 1)) := fun W HW => bel_cell (bel_cell q hb1) HW
    have HZ2 : Hid (∀ W, Below ((w.alloc (.cells #[.int .i64 seat, .int .i64 count, .bool false, .int .i64 2, .int .i64 sort, .int .i64 nr, .int .i64 ns, .bool pf, .string body] 37))).heap.size ((w.alloc (.cells #[.int .i64 seat, .int .i64 count, .bool false, .int .i64 2, .int .i64 sort, .int .i64 nr, .int .i64 ns, .bool pf, .string body] 37))) W → W.cell? ⟨w.heap.size, 2, none⟩ = some (.bool false)) := fun W HW => bel_cell (cell_at hbx 2 _ rfl) HW
    have HZ5 : Hid (∀ W, Below ((w.alloc (.cells #[.int .i64 seat, .int .i64 count, .bool false, .int .i64 2, .int .i64 sort, .int .i64 nr, .int .i64 ns, .bool pf, .string body] 37))).heap.size ((w.alloc (.cells #[.int .i64 seat, .int .i64 count, .bool false, .int .i64 2, .int .i64 sort, .int .i64 nr, .int .i64 ns, .bool pf, .string body] 37))) W → W.cell? ⟨w.heap.size, 5, none⟩ = some (.int .i64 nr)) := fun W HW => bel_cell (cell_at hbx 5 _ rfl) HW
    have HZ6 : Hid (∀ W, Below ((w.alloc (.cells #[.int .i64 seat, .int .i64 count, .bool false, .int .i64 2, .int .i64 sort, .int .i64 nr, .int .i64 ns, .bool pf, .string body] 37))).heap.size ((w.alloc (.cells #[.int .i64 seat, .int .i64 count, .bool false, .int .i64 2, .int .i64 sort, .int .i64 nr, .int .i64 ns, .bool pf, .string body] 37))) W → W.cell? ⟨w.heap.size, 6, none⟩ = some (.int .i64 ns)) := fun W HW => bel_cell (cell_at hbx 6 _ rfl) HW
    have z3 : ((w.alloc (.cells #[.int .i64 seat, .int .i64 count, .bool false, .int .i64 2, .int .i64 sort, .int .i64 nr, .int .i64 ns, .bool pf, .string body] 37))).cell? ⟨w.heap.size, 3, none⟩ = some (.int .i64 2) := cell_at hbx 3 _ rfl
    have HB1 := Lib.hid hb1
    have HB := Lib.hid hb
    clear q hb hb1 hbx
    go_enter Tryz.func63, Tryz.ntmps63
    go_wp2
    refine regq (fun W => Below ((w.alloc (.cells #[.int .i64 seat, .int .i64 count, .bool false, .int .i64 2, .int .i64 sort, .int .i64 nr, .int .i64 ns, .bool pf, .string body] 37))).heap.size ((w.alloc (.cells #[.int .i64 seat, .int .i64 count, .bool false, .int .i64 2, .int .i64 sort, .int .i64 nr, .int .i64 ns, .bool pf, .string body] 37))) W) (by kernel_rfl) (by kernel_rfl) ((Below.refl _ _).drew) ?_
    iterate 3 (first | (refine q_skip (by rfl) ?_; simp only [Act.put, List.setIfInBounds_toArray, List.set_cons_zero, List.set_cons_succ]) | (refine q_take (v := ?_) (by rfl) ?_ ?_; rotate_left; (· intro W HW; have z := HZ2.out W HW; have z5 := HZ5.out W HW; have z6 := HZ6.out W HW; go_simp; try with_reducible rfl); simp only [Act.put, List.setIfInBounds_toArray, List.set_cons_zero, List.set_cons_succ]))
    refine q_call 65 #[.pointer (some ⟨gt, 0, none⟩)] (by rfl) (by intro W HW; go_simp) (fun W HW => (HP.out W (HQ.out W HW)).mono fun e W' ⟨he, hw⟩ => ⟨he, hw ▸ HW⟩) ?_
    simp only [Act.put, List.setIfInBounds_toArray, List.set_cons_zero, List.set_cons_succ]
    iterate 8 (first | (refine q_skip (by rfl) ?_; simp only [Act.put, List.setIfInBounds_toArray, List.set_cons_zero, List.set_cons_succ]) | (refine q_take (v := ?_) (by rfl) ?_ ?_; rotate_left; (· intro W HW; have z := HZ2.out W HW; have z5 := HZ5.out W HW; have z6 := HZ6.out W HW; go_simp; try with_reducible rfl); simp only [Act.put, List.setIfInBounds_toArray, List.set_cons_zero, List.set_cons_succ]))
    refine q_call 72 #[iV nr ns false] (by rfl) (by intro W HW; go_simp) (fun W HW => (CMayI nr ns b W HB.out).mono fun e W' ⟨he, hb⟩ => ⟨he, HW.trans (hb.mono HW.size)⟩) ?_
    simp only [Act.put, List.setIfInBounds_toArray, List.set_cons_zero, List.set_cons_succ]
    iterate 2 (first | (refine q_skip (by rfl) ?_; simp only [Act.put, List.setIfInBounds_toArray, List.set_cons_zero, List.set_cons_succ]) | (refine q_take (v := ?_) (by rfl) ?_ ?_; rotate_left; (· intro W HW; have z := HZ2.out W HW; have z5 := HZ5.out W HW; have z6 := HZ6.out W HW; go_simp; try with_reducible rfl); simp only [Act.put, List.setIfInBounds_toArray, List.set_cons_zero, List.set_cons_succ]))
    refine q_done ?_
    intro w2 hw2
    have HW2 := Lib.hid hw2
    clear hw2
    go_wp2
    go_ret
    exact ⟨rfl, HB1.out.trans (HW2.out.mono HB1.out.size)⟩
set_option maxRecDepth 100000 in
set_option maxHeartbeats 16000000 in
theorem TnFits_2t (gt : Nat) (b : Bool) (seat count kind sort nr ns : Int) (pf : Bool) (body : ByteArray) (w : World) (hk : kind = 1 ∨ kind = 2) (hb : decide (0 ≤ nr ∧ nr ≤ 7 ∧ 0 ≤ ns ∧ ns ≤ 7) = b) (q : w.cell? ⟨gt, 0, none⟩ = some (.int .i64 2)) : Calls Tryz.prog 63 #[.pointer (some ⟨gt, 0, none⟩), .agg #[.int .i64 seat, .int .i64 count, .bool true, .int .i64 kind, .int .i64 sort, .int .i64 nr, .int .i64 ns, .bool pf, .string body]] w fun e w' => e = .returned (.bool b) ∧ Below w.heap.size w w' := by
  rcases hk with rfl | rfl
  · have hb1 : Below w.heap.size w ((w.alloc (.cells #[.int .i64 seat, .int .i64 count, .bool true, .int .i64 1, .int .i64 sort, .int .i64 nr, .int .i64 ns, .bool pf, .string body] 37))) := (Below.refl _ _).alloc (Nat.le_refl _) _
    have hbx : ((w.alloc (.cells #[.int .i64 seat, .int .i64 count, .bool true, .int .i64 1, .int .i64 sort, .int .i64 nr, .int .i64 ns, .bool pf, .string body] 37))).heap[w.heap.size]? = some (.cells #[.int .i64 seat, .int .i64 count, .bool true, .int .i64 1, .int .i64 sort, .int .i64 nr, .int .i64 ns, .bool pf, .string body] 37 (0, 0)) := heap_alloc_new w _
    have HP := Lib.hid (fun w q => TnPrim_at gt 2 false w (.inr rfl) (by decide) q)
    have HQ : Hid (∀ W, Below ((w.alloc (.cells #[.int .i64 seat, .int .i64 count, .bool true, .int .i64 1, .int .i64 sort, .int .i64 nr, .int .i64 ns, .bool pf, .string body] 37))).heap.size ((w.alloc (.cells #[.int .i64 seat, .int .i64 count, .bool true, .int .i64 1, .int .i64 sort, .int .i64 nr, .int .i64 ns, .bool pf, .string body] 37))) W → W.cell? ⟨gt, 0, none⟩ = some (.int .i64 2)) := fun W HW => bel_cell (bel_cell q hb1) HW
    have HZ2 : Hid (∀ W, Below ((w.alloc (.cells #[.int .i64 seat, .int .i64 count, .bool true, .int .i64 1, .int .i64 sort, .int .i64 nr, .int .i64 ns, .bool pf, .string body] 37))).heap.size ((w.alloc (.cells #[.int .i64 seat, .int .i64 count, .bool true, .int .i64 1, .int .i64 sort, .int .i64 nr, .int .i64 ns, .bool pf, .string body] 37))) W → W.cell? ⟨w.heap.size, 2, none⟩ = some (.bool true)) := fun W HW => bel_cell (cell_at hbx 2 _ rfl) HW
    have HZ5 : Hid (∀ W, Below ((w.alloc (.cells #[.int .i64 seat, .int .i64 count, .bool true, .int .i64 1, .int .i64 sort, .int .i64 nr, .int .i64 ns, .bool pf, .string body] 37))).heap.size ((w.alloc (.cells #[.int .i64 seat, .int .i64 count, .bool true, .int .i64 1, .int .i64 sort, .int .i64 nr, .int .i64 ns, .bool pf, .string body] 37))) W → W.cell? ⟨w.heap.size, 5, none⟩ = some (.int .i64 nr)) := fun W HW => bel_cell (cell_at hbx 5 _ rfl) HW
    have HZ6 : Hid (∀ W, Below ((w.alloc (.cells #[.int .i64 seat, .int .i64 count, .bool true, .int .i64 1, .int .i64 sort, .int .i64 nr, .int .i64 ns, .bool pf, .string body] 37))).heap.size ((w.alloc (.cells #[.int .i64 seat, .int .i64 count, .bool true, .int .i64 1, .int .i64 sort, .int .i64 nr, .int .i64 ns, .bool pf, .string body] 37))) W → W.cell? ⟨w.heap.size, 6, none⟩ = some (.int .i64 ns)) := fun W HW => bel_cell (cell_at hbx 6 _ rfl) HW
    have z3 : ((w.alloc (.cells #[.int .i64 seat, .int .i64 count, .bool true, .int .i64 1, .int .i64 sort, .int .i64 nr, .int .i64 ns, .bool pf, .string body] 37))).cell? ⟨w.heap.size, 3, none⟩ = some (.int .i64 1) := cell_at hbx 3 _ rfl
    have HB1 := Lib.hid hb1
    have HB := Lib.hid hb
    clear q hb hb1 hbx
    go_enter Tryz.func63, Tryz.ntmps63
    go_wp2
    refine regq (fun W => Below ((w.alloc (.cells #[.int .i64 seat, .int .i64 count, .bool true, .int .i64 1, .int .i64 sort, .int .i64 nr, .int .i64 ns, .bool pf, .string body] 37))).heap.size ((w.alloc (.cells #[.int .i64 seat, .int .i64 count, .bool true, .int .i64 1, .int .i64 sort, .int .i64 nr, .int .i64 ns, .bool pf, .string body] 37))) W) (by kernel_rfl) (by kernel_rfl) ((Below.refl _ _).drew) ?_
    iterate 3 (first | (refine q_skip (by rfl) ?_; simp only [Act.put, List.setIfInBounds_toArray, List.set_cons_zero, List.set_cons_succ]) | (refine q_take (v := ?_) (by rfl) ?_ ?_; rotate_left; (· intro W HW; have z := HZ2.out W HW; have z5 := HZ5.out W HW; have z6 := HZ6.out W HW; go_simp; try with_reducible rfl); simp only [Act.put, List.setIfInBounds_toArray, List.set_cons_zero, List.set_cons_succ]))
    refine q_call 65 #[.pointer (some ⟨gt, 0, none⟩)] (by rfl) (by intro W HW; go_simp) (fun W HW => (HP.out W (HQ.out W HW)).mono fun e W' ⟨he, hw⟩ => ⟨he, hw ▸ HW⟩) ?_
    simp only [Act.put, List.setIfInBounds_toArray, List.set_cons_zero, List.set_cons_succ]
    iterate 8 (first | (refine q_skip (by rfl) ?_; simp only [Act.put, List.setIfInBounds_toArray, List.set_cons_zero, List.set_cons_succ]) | (refine q_take (v := ?_) (by rfl) ?_ ?_; rotate_left; (· intro W HW; have z := HZ2.out W HW; have z5 := HZ5.out W HW; have z6 := HZ6.out W HW; go_simp; try with_reducible rfl); simp only [Act.put, List.setIfInBounds_toArray, List.set_cons_zero, List.set_cons_succ]))
    refine q_call 72 #[iV nr ns false] (by rfl) (by intro W HW; go_simp) (fun W HW => (CMayI nr ns b W HB.out).mono fun e W' ⟨he, hb⟩ => ⟨he, HW.trans (hb.mono HW.size)⟩) ?_
    simp only [Act.put, List.setIfInBounds_toArray, List.set_cons_zero, List.set_cons_succ]
    iterate 2 (first | (refine q_skip (by rfl) ?_; simp only [Act.put, List.setIfInBounds_toArray, List.set_cons_zero, List.set_cons_succ]) | (refine q_take (v := ?_) (by rfl) ?_ ?_; rotate_left; (· intro W HW; have z := HZ2.out W HW; have z5 := HZ5.out W HW; have z6 := HZ6.out W HW; go_simp; try with_reducible rfl); simp only [Act.put, List.setIfInBounds_toArray, List.set_cons_zero, List.set_cons_succ]))
    refine q_done ?_
    intro w2 hw2
    have HW2 := Lib.hid hw2
    clear hw2
    go_wp2
    go_ret
    exact ⟨rfl, HB1.out.trans (HW2.out.mono HB1.out.size)⟩
  · have hb1 : Below w.heap.size w ((w.alloc (.cells #[.int .i64 seat, .int .i64 count, .bool true, .int .i64 2, .int .i64 sort, .int .i64 nr, .int .i64 ns, .bool pf, .string body] 37))) := (Below.refl _ _).alloc (Nat.le_refl _) _
    have hbx : ((w.alloc (.cells #[.int .i64 seat, .int .i64 count, .bool true, .int .i64 2, .int .i64 sort, .int .i64 nr, .int .i64 ns, .bool pf, .string body] 37))).heap[w.heap.size]? = some (.cells #[.int .i64 seat, .int .i64 count, .bool true, .int .i64 2, .int .i64 sort, .int .i64 nr, .int .i64 ns, .bool pf, .string body] 37 (0, 0)) := heap_alloc_new w _
    have HP := Lib.hid (fun w q => TnPrim_at gt 2 false w (.inr rfl) (by decide) q)
    have HQ : Hid (∀ W, Below ((w.alloc (.cells #[.int .i64 seat, .int .i64 count, .bool true, .int .i64 2, .int .i64 sort, .int .i64 nr, .int .i64 ns, .bool pf, .string body] 37))).heap.size ((w.alloc (.cells #[.int .i64 seat, .int .i64 count, .bool true, .int .i64 2, .int .i64 sort, .int .i64 nr, .int .i64 ns, .bool pf, .string body] 37))) W → W.cell? ⟨gt, 0, none⟩ = some (.int .i64 2)) := fun W HW => bel_cell (bel_cell q hb1) HW
    have HZ2 : Hid (∀ W, Below ((w.alloc (.cells #[.int .i64 seat, .int .i64 count, .bool true, .int .i64 2, .int .i64 sort, .int .i64 nr, .int .i64 ns, .bool pf, .string body] 37))).heap.size ((w.alloc (.cells #[.int .i64 seat, .int .i64 count, .bool true, .int .i64 2, .int .i64 sort, .int .i64 nr, .int .i64 ns, .bool pf, .string body] 37))) W → W.cell? ⟨w.heap.size, 2, none⟩ = some (.bool true)) := fun W HW => bel_cell (cell_at hbx 2 _ rfl) HW
    have HZ5 : Hid (∀ W, Below ((w.alloc (.cells #[.int .i64 seat, .int .i64 count, .bool true, .int .i64 2, .int .i64 sort, .int .i64 nr, .int .i64 ns, .bool pf, .string body] 37))).heap.size ((w.alloc (.cells #[.int .i64 seat, .int .i64 count, .bool true, .int .i64 2, .int .i64 sort, .int .i64 nr, .int .i64 ns, .bool pf, .string body] 37))) W → W.cell? ⟨w.heap.size, 5, none⟩ = some (.int .i64 nr)) := fun W HW => bel_cell (cell_at hbx 5 _ rfl) HW
    have HZ6 : Hid (∀ W, Below ((w.alloc (.cells #[.int .i64 seat, .int .i64 count, .bool true, .int .i64 2, .int .i64 sort, .int .i64 nr, .int .i64 ns, .bool pf, .string body] 37))).heap.size ((w.alloc (.cells #[.int .i64 seat, .int .i64 count, .bool true, .int .i64 2, .int .i64 sort, .int .i64 nr, .int .i64 ns, .bool pf, .string body] 37))) W → W.cell? ⟨w.heap.size, 6, none⟩ = some (.int .i64 ns)) := fun W HW => bel_cell (cell_at hbx 6 _ rfl) HW
    have z3 : ((w.alloc (.cells #[.int .i64 seat, .int .i64 count, .bool true, .int .i64 2, .int .i64 sort, .int .i64 nr, .int .i64 ns, .bool pf, .string body] 37))).cell? ⟨w.heap.size, 3, none⟩ = some (.int .i64 2) := cell_at hbx 3 _ rfl
    have HB1 := Lib.hid hb1
    have HB := Lib.hid hb
    clear q hb hb1 hbx
    go_enter Tryz.func63, Tryz.ntmps63
    go_wp2
    refine regq (fun W => Below ((w.alloc (.cells #[.int .i64 seat, .int .i64 count, .bool true, .int .i64 2, .int .i64 sort, .int .i64 nr, .int .i64 ns, .bool pf, .string body] 37))).heap.size ((w.alloc (.cells #[.int .i64 seat, .int .i64 count, .bool true, .int .i64 2, .int .i64 sort, .int .i64 nr, .int .i64 ns, .bool pf, .string body] 37))) W) (by kernel_rfl) (by kernel_rfl) ((Below.refl _ _).drew) ?_
    iterate 3 (first | (refine q_skip (by rfl) ?_; simp only [Act.put, List.setIfInBounds_toArray, List.set_cons_zero, List.set_cons_succ]) | (refine q_take (v := ?_) (by rfl) ?_ ?_; rotate_left; (· intro W HW; have z := HZ2.out W HW; have z5 := HZ5.out W HW; have z6 := HZ6.out W HW; go_simp; try with_reducible rfl); simp only [Act.put, List.setIfInBounds_toArray, List.set_cons_zero, List.set_cons_succ]))
    refine q_call 65 #[.pointer (some ⟨gt, 0, none⟩)] (by rfl) (by intro W HW; go_simp) (fun W HW => (HP.out W (HQ.out W HW)).mono fun e W' ⟨he, hw⟩ => ⟨he, hw ▸ HW⟩) ?_
    simp only [Act.put, List.setIfInBounds_toArray, List.set_cons_zero, List.set_cons_succ]
    iterate 8 (first | (refine q_skip (by rfl) ?_; simp only [Act.put, List.setIfInBounds_toArray, List.set_cons_zero, List.set_cons_succ]) | (refine q_take (v := ?_) (by rfl) ?_ ?_; rotate_left; (· intro W HW; have z := HZ2.out W HW; have z5 := HZ5.out W HW; have z6 := HZ6.out W HW; go_simp; try with_reducible rfl); simp only [Act.put, List.setIfInBounds_toArray, List.set_cons_zero, List.set_cons_succ]))
    refine q_call 72 #[iV nr ns false] (by rfl) (by intro W HW; go_simp) (fun W HW => (CMayI nr ns b W HB.out).mono fun e W' ⟨he, hb⟩ => ⟨he, HW.trans (hb.mono HW.size)⟩) ?_
    simp only [Act.put, List.setIfInBounds_toArray, List.set_cons_zero, List.set_cons_succ]
    iterate 2 (first | (refine q_skip (by rfl) ?_; simp only [Act.put, List.setIfInBounds_toArray, List.set_cons_zero, List.set_cons_succ]) | (refine q_take (v := ?_) (by rfl) ?_ ?_; rotate_left; (· intro W HW; have z := HZ2.out W HW; have z5 := HZ5.out W HW; have z6 := HZ6.out W HW; go_simp; try with_reducible rfl); simp only [Act.put, List.setIfInBounds_toArray, List.set_cons_zero, List.set_cons_succ]))
    refine q_done ?_
    intro w2 hw2
    have HW2 := Lib.hid hw2
    clear hw2
    go_wp2
    go_ret
    exact ⟨rfl, HB1.out.trans (HW2.out.mono HB1.out.size)⟩
set_option maxRecDepth 100000 in
set_option maxHeartbeats 16000000 in
theorem TnFits_2f (gt : Nat) (seat count kind sort nr ns : Int) (pf : Bool) (body : ByteArray) (w : World) (hk : kind = 1 ∨ kind = 2) (q : w.cell? ⟨gt, 0, none⟩ = some (.int .i64 2)) : Calls Tryz.prog 63 #[.pointer (some ⟨gt, 0, none⟩), .agg #[.int .i64 seat, .int .i64 count, .bool false, .int .i64 kind, .int .i64 sort, .int .i64 nr, .int .i64 ns, .bool pf, .string body]] w fun e w' => e = .returned (.bool false) ∧ Below w.heap.size w w' := by
  rcases hk with rfl | rfl
  · have hb1 : Below w.heap.size w ((w.alloc (.cells #[.int .i64 seat, .int .i64 count, .bool false, .int .i64 1, .int .i64 sort, .int .i64 nr, .int .i64 ns, .bool pf, .string body] 37))) := (Below.refl _ _).alloc (Nat.le_refl _) _
    have hbx : ((w.alloc (.cells #[.int .i64 seat, .int .i64 count, .bool false, .int .i64 1, .int .i64 sort, .int .i64 nr, .int .i64 ns, .bool pf, .string body] 37))).heap[w.heap.size]? = some (.cells #[.int .i64 seat, .int .i64 count, .bool false, .int .i64 1, .int .i64 sort, .int .i64 nr, .int .i64 ns, .bool pf, .string body] 37 (0, 0)) := heap_alloc_new w _
    have HP := Lib.hid (fun w q => TnPrim_at gt 2 false w (.inr rfl) (by decide) q)
    have HQ : Hid (∀ W, Below ((w.alloc (.cells #[.int .i64 seat, .int .i64 count, .bool false, .int .i64 1, .int .i64 sort, .int .i64 nr, .int .i64 ns, .bool pf, .string body] 37))).heap.size ((w.alloc (.cells #[.int .i64 seat, .int .i64 count, .bool false, .int .i64 1, .int .i64 sort, .int .i64 nr, .int .i64 ns, .bool pf, .string body] 37))) W → W.cell? ⟨gt, 0, none⟩ = some (.int .i64 2)) := fun W HW => bel_cell (bel_cell q hb1) HW
    have HZ2 : Hid (∀ W, Below ((w.alloc (.cells #[.int .i64 seat, .int .i64 count, .bool false, .int .i64 1, .int .i64 sort, .int .i64 nr, .int .i64 ns, .bool pf, .string body] 37))).heap.size ((w.alloc (.cells #[.int .i64 seat, .int .i64 count, .bool false, .int .i64 1, .int .i64 sort, .int .i64 nr, .int .i64 ns, .bool pf, .string body] 37))) W → W.cell? ⟨w.heap.size, 2, none⟩ = some (.bool false)) := fun W HW => bel_cell (cell_at hbx 2 _ rfl) HW
    have HZ5 : Hid (∀ W, Below ((w.alloc (.cells #[.int .i64 seat, .int .i64 count, .bool false, .int .i64 1, .int .i64 sort, .int .i64 nr, .int .i64 ns, .bool pf, .string body] 37))).heap.size ((w.alloc (.cells #[.int .i64 seat, .int .i64 count, .bool false, .int .i64 1, .int .i64 sort, .int .i64 nr, .int .i64 ns, .bool pf, .string body] 37))) W → W.cell? ⟨w.heap.size, 5, none⟩ = some (.int .i64 nr)) := fun W HW => bel_cell (cell_at hbx 5 _ rfl) HW
    have HZ6 : Hid (∀ W, Below ((w.alloc (.cells #[.int .i64 seat, .int .i64 count, .bool false, .int .i64 1, .int .i64 sort, .int .i64 nr, .int .i64 ns, .bool pf, .string body] 37))).heap.size ((w.alloc (.cells #[.int .i64 seat, .int .i64 count, .bool false, .int .i64 1, .int .i64 sort, .int .i64 nr, .int .i64 ns, .bool pf, .string body] 37))) W → W.cell? ⟨w.heap.size, 6, none⟩ = some (.int .i64 ns)) := fun W HW => bel_cell (cell_at hbx 6 _ rfl) HW
    have z3 : ((w.alloc (.cells #[.int .i64 seat, .int .i64 count, .bool false, .int .i64 1, .int .i64 sort, .int .i64 nr, .int .i64 ns, .bool pf, .string body] 37))).cell? ⟨w.heap.size, 3, none⟩ = some (.int .i64 1) := cell_at hbx 3 _ rfl
    have HB1 := Lib.hid hb1
    skip
    clear q  hb1 hbx
    go_enter Tryz.func63, Tryz.ntmps63
    go_wp2
    refine regq (fun W => Below ((w.alloc (.cells #[.int .i64 seat, .int .i64 count, .bool false, .int .i64 1, .int .i64 sort, .int .i64 nr, .int .i64 ns, .bool pf, .string body] 37))).heap.size ((w.alloc (.cells #[.int .i64 seat, .int .i64 count, .bool false, .int .i64 1, .int .i64 sort, .int .i64 nr, .int .i64 ns, .bool pf, .string body] 37))) W) (by kernel_rfl) (by kernel_rfl) ((Below.refl _ _).drew) ?_
    iterate 3 (first | (refine q_skip (by rfl) ?_; simp only [Act.put, List.setIfInBounds_toArray, List.set_cons_zero, List.set_cons_succ]) | (refine q_take (v := ?_) (by rfl) ?_ ?_; rotate_left; (· intro W HW; have z := HZ2.out W HW; have z5 := HZ5.out W HW; have z6 := HZ6.out W HW; go_simp; try with_reducible rfl); simp only [Act.put, List.setIfInBounds_toArray, List.set_cons_zero, List.set_cons_succ]))
    refine q_call 65 #[.pointer (some ⟨gt, 0, none⟩)] (by rfl) (by intro W HW; go_simp) (fun W HW => (HP.out W (HQ.out W HW)).mono fun e W' ⟨he, hw⟩ => ⟨he, hw ▸ HW⟩) ?_
    simp only [Act.put, List.setIfInBounds_toArray, List.set_cons_zero, List.set_cons_succ]
    iterate 11 (first | (refine q_skip (by rfl) ?_; simp only [Act.put, List.setIfInBounds_toArray, List.set_cons_zero, List.set_cons_succ]) | (refine q_take (v := ?_) (by rfl) ?_ ?_; rotate_left; (· intro W HW; have z := HZ2.out W HW; have z5 := HZ5.out W HW; have z6 := HZ6.out W HW; go_simp; try with_reducible rfl); simp only [Act.put, List.setIfInBounds_toArray, List.set_cons_zero, List.set_cons_succ]))
    refine q_done ?_
    intro w2 hw2
    have HW2 := Lib.hid hw2
    clear hw2
    go_wp2
    go_ret
    exact ⟨rfl, HB1.out.trans (HW2.out.mono HB1.out.size)⟩
  · have hb1 : Below w.heap.size w ((w.alloc (.cells #[.int .i64 seat, .int .i64 count, .bool false, .int .i64 2, .int .i64 sort, .int .i64 nr, .int .i64 ns, .bool pf, .string body] 37))) := (Below.refl _ _).alloc (Nat.le_refl _) _
    have hbx : ((w.alloc (.cells #[.int .i64 seat, .int .i64 count, .bool false, .int .i64 2, .int .i64 sort, .int .i64 nr, .int .i64 ns, .bool pf, .string body] 37))).heap[w.heap.size]? = some (.cells #[.int .i64 seat, .int .i64 count, .bool false, .int .i64 2, .int .i64 sort, .int .i64 nr, .int .i64 ns, .bool pf, .string body] 37 (0, 0)) := heap_alloc_new w _
    have HP := Lib.hid (fun w q => TnPrim_at gt 2 false w (.inr rfl) (by decide) q)
    have HQ : Hid (∀ W, Below ((w.alloc (.cells #[.int .i64 seat, .int .i64 count, .bool false, .int .i64 2, .int .i64 sort, .int .i64 nr, .int .i64 ns, .bool pf, .string body] 37))).heap.size ((w.alloc (.cells #[.int .i64 seat, .int .i64 count, .bool false, .int .i64 2, .int .i64 sort, .int .i64 nr, .int .i64 ns, .bool pf, .string body] 37))) W → W.cell? ⟨gt, 0, none⟩ = some (.int .i64 2)) := fun W HW => bel_cell (bel_cell q hb1) HW
    have HZ2 : Hid (∀ W, Below ((w.alloc (.cells #[.int .i64 seat, .int .i64 count, .bool false, .int .i64 2, .int .i64 sort, .int .i64 nr, .int .i64 ns, .bool pf, .string body] 37))).heap.size ((w.alloc (.cells #[.int .i64 seat, .int .i64 count, .bool false, .int .i64 2, .int .i64 sort, .int .i64 nr, .int .i64 ns, .bool pf, .string body] 37))) W → W.cell? ⟨w.heap.size, 2, none⟩ = some (.bool false)) := fun W HW => bel_cell (cell_at hbx 2 _ rfl) HW
    have HZ5 : Hid (∀ W, Below ((w.alloc (.cells #[.int .i64 seat, .int .i64 count, .bool false, .int .i64 2, .int .i64 sort, .int .i64 nr, .int .i64 ns, .bool pf, .string body] 37))).heap.size ((w.alloc (.cells #[.int .i64 seat, .int .i64 count, .bool false, .int .i64 2, .int .i64 sort, .int .i64 nr, .int .i64 ns, .bool pf, .string body] 37))) W → W.cell? ⟨w.heap.size, 5, none⟩ = some (.int .i64 nr)) := fun W HW => bel_cell (cell_at hbx 5 _ rfl) HW
    have HZ6 : Hid (∀ W, Below ((w.alloc (.cells #[.int .i64 seat, .int .i64 count, .bool false, .int .i64 2, .int .i64 sort, .int .i64 nr, .int .i64 ns, .bool pf, .string body] 37))).heap.size ((w.alloc (.cells #[.int .i64 seat, .int .i64 count, .bool false, .int .i64 2, .int .i64 sort, .int .i64 nr, .int .i64 ns, .bool pf, .string body] 37))) W → W.cell? ⟨w.heap.size, 6, none⟩ = some (.int .i64 ns)) := fun W HW => bel_cell (cell_at hbx 6 _ rfl) HW
    have z3 : ((w.alloc (.cells #[.int .i64 seat, .int .i64 count, .bool false, .int .i64 2, .int .i64 sort, .int .i64 nr, .int .i64 ns, .bool pf, .string body] 37))).cell? ⟨w.heap.size, 3, none⟩ = some (.int .i64 2) := cell_at hbx 3 _ rfl
    have HB1 := Lib.hid hb1
    skip
    clear q  hb1 hbx
    go_enter Tryz.func63, Tryz.ntmps63
    go_wp2
    refine regq (fun W => Below ((w.alloc (.cells #[.int .i64 seat, .int .i64 count, .bool false, .int .i64 2, .int .i64 sort, .int .i64 nr, .int .i64 ns, .bool pf, .string body] 37))).heap.size ((w.alloc (.cells #[.int .i64 seat, .int .i64 count, .bool false, .int .i64 2, .int .i64 sort, .int .i64 nr, .int .i64 ns, .bool pf, .string body] 37))) W) (by kernel_rfl) (by kernel_rfl) ((Below.refl _ _).drew) ?_
    iterate 3 (first | (refine q_skip (by rfl) ?_; simp only [Act.put, List.setIfInBounds_toArray, List.set_cons_zero, List.set_cons_succ]) | (refine q_take (v := ?_) (by rfl) ?_ ?_; rotate_left; (· intro W HW; have z := HZ2.out W HW; have z5 := HZ5.out W HW; have z6 := HZ6.out W HW; go_simp; try with_reducible rfl); simp only [Act.put, List.setIfInBounds_toArray, List.set_cons_zero, List.set_cons_succ]))
    refine q_call 65 #[.pointer (some ⟨gt, 0, none⟩)] (by rfl) (by intro W HW; go_simp) (fun W HW => (HP.out W (HQ.out W HW)).mono fun e W' ⟨he, hw⟩ => ⟨he, hw ▸ HW⟩) ?_
    simp only [Act.put, List.setIfInBounds_toArray, List.set_cons_zero, List.set_cons_succ]
    iterate 11 (first | (refine q_skip (by rfl) ?_; simp only [Act.put, List.setIfInBounds_toArray, List.set_cons_zero, List.set_cons_succ]) | (refine q_take (v := ?_) (by rfl) ?_ ?_; rotate_left; (· intro W HW; have z := HZ2.out W HW; have z5 := HZ5.out W HW; have z6 := HZ6.out W HW; go_simp; try with_reducible rfl); simp only [Act.put, List.setIfInBounds_toArray, List.set_cons_zero, List.set_cons_succ]))
    refine q_done ?_
    intro w2 hw2
    have HW2 := Lib.hid hw2
    clear hw2
    go_wp2
    go_ret
    exact ⟨rfl, HB1.out.trans (HW2.out.mono HB1.out.size)⟩
set_option maxRecDepth 100000 in
set_option maxHeartbeats 16000000 in
theorem TnFits_0 (gt : Nat) (cmd : Bool) (seat count kind sort nr ns : Int) (pf : Bool) (body : ByteArray) (w : World) (hk : ¬ (kind = 1 ∨ kind = 2)) : Calls Tryz.prog 63 #[.pointer (some ⟨gt, 0, none⟩), .agg #[.int .i64 seat, .int .i64 count, .bool cmd, .int .i64 kind, .int .i64 sort, .int .i64 nr, .int .i64 ns, .bool pf, .string body]] w fun e w' => e = .returned (.bool false) ∧ Below w.heap.size w w' := by
  have h1 : (kind == 1) = false := beq_eq_false_iff_ne.2 (fun h => hk (.inl h))
  have h2 : (kind == 2) = false := beq_eq_false_iff_ne.2 (fun h => hk (.inr h))
  have h3 : (kind != 1) = true := by simp [bne, h1]
  have h4 : (kind != 2) = true := by simp [bne, h2]
  have hb1 : Below w.heap.size w ((w.alloc (.cells #[.int .i64 seat, .int .i64 count, .bool cmd, .int .i64 kind, .int .i64 sort, .int .i64 nr, .int .i64 ns, .bool pf, .string body] 37))) := (Below.refl _ _).alloc (Nat.le_refl _) _
  have hbx : ((w.alloc (.cells #[.int .i64 seat, .int .i64 count, .bool cmd, .int .i64 kind, .int .i64 sort, .int .i64 nr, .int .i64 ns, .bool pf, .string body] 37))).heap[w.heap.size]? = some (.cells #[.int .i64 seat, .int .i64 count, .bool cmd, .int .i64 kind, .int .i64 sort, .int .i64 nr, .int .i64 ns, .bool pf, .string body] 37 (0, 0)) := heap_alloc_new w _
  have z3 : ((w.alloc (.cells #[.int .i64 seat, .int .i64 count, .bool cmd, .int .i64 kind, .int .i64 sort, .int .i64 nr, .int .i64 ns, .bool pf, .string body] 37))).cell? ⟨w.heap.size, 3, none⟩ = some (.int .i64 kind) := cell_at hbx 3 _ rfl
  have HB1 := Lib.hid hb1
  clear hk hb1 hbx
  go_enter Tryz.func63, Tryz.ntmps63
  go_wp2
  go_ret
  exact ⟨rfl, HB1.out⟩
/-- May it be the other one's? -/
def fitsM (R : Int) (p : PIn) : Bool := decide (1 ≤ p.kind ∧ p.kind ≤ 2 ∧ p.cmd = decide (R = 2) ∧ 0 ≤ p.nr ∧ p.nr ≤ 7 ∧ 0 ≤ p.ns ∧ p.ns ≤ 7)
theorem TnFits_any (gt : Nat) (R : Int) (p : PIn) (w : World) (hr : R = 1 ∨ R = 2) (q : w.cell? ⟨gt, 0, none⟩ = some (.int .i64 R)) : Calls Tryz.prog 63 #[.pointer (some ⟨gt, 0, none⟩), p.val] w fun e w' => e = .returned (.bool (fitsM R p)) ∧ Below w.heap.size w w' := by
  obtain ⟨seat, count, cmd, kind, sort, nr, ns, pf, body⟩ := p
  by_cases hk : kind = 1 ∨ kind = 2
  · rcases hr with rfl | rfl <;> cases cmd
    · rw [show fitsM 1 ⟨seat, count, false, kind, sort, nr, ns, pf, body⟩ = decide (0 ≤ nr ∧ nr ≤ 7 ∧ 0 ≤ ns ∧ ns ≤ 7) by unfold fitsM; rw [decide_eq_decide]; simp; omega]
      exact TnFits_1f gt _ seat count kind sort nr ns pf body w hk rfl q
    · rw [show fitsM 1 ⟨seat, count, true, kind, sort, nr, ns, pf, body⟩ = false by unfold fitsM; simp]
      exact TnFits_1t gt seat count kind sort nr ns pf body w hk q
    · rw [show fitsM 2 ⟨seat, count, false, kind, sort, nr, ns, pf, body⟩ = false by unfold fitsM; simp]
      exact TnFits_2f gt seat count kind sort nr ns pf body w hk q
    · rw [show fitsM 2 ⟨seat, count, true, kind, sort, nr, ns, pf, body⟩ = decide (0 ≤ nr ∧ nr ≤ 7 ∧ 0 ≤ ns ∧ ns ≤ 7) by unfold fitsM; rw [decide_eq_decide]; simp; omega]
      exact TnFits_2t gt _ seat count kind sort nr ns pf body w hk rfl q
  · rw [show fitsM R ⟨seat, count, cmd, kind, sort, nr, ns, pf, body⟩ = false by unfold fitsM; exact decide_eq_false (fun h => hk (by have h1 := h.1; have h2 := h.2.1; simp only at h1 h2; omega))]
    exact TnFits_0 gt cmd seat count kind sort nr ns pf body w hk
set_option maxRecDepth 100000 in
set_option maxHeartbeats 16000000 in
theorem TnTake_nof (gt : Nat) (ao ai : Addr) (R sz : Int) (mi : Bool) (o : OutM) (i : InM) (seat count : Int) (cmd : Bool) (kind sort nr ns : Int) (pf : Bool) (body : ByteArray) (w : World) (F : List Nat) (hr : R = 1 ∨ R = 2) (hf : fitsM R ⟨seat, count, cmd, kind, sort, nr, ns, pf, body⟩ = false) (h : TurnO gt ao ai ⟨R, sz, mi, o, i⟩ w F) : Calls Tryz.prog 37 #[.pointer (some ⟨gt, 0, none⟩), .agg #[.int .i64 seat, .int .i64 count, .bool cmd, .int .i64 kind, .int .i64 sort, .int .i64 nr, .int .i64 ns, .bool pf, .string body]] w fun e w' => e = .returned (.tuple #[.string ⟨#[]⟩, .bool false]) ∧ Done w F (TurnO gt ao ai ⟨R, sz, mi, o, i⟩) w' := by
  have hS : Done w F (Star (Star (CellW gt #[.int .i64 R, .int .i64 sz, .bool mi, .pointer (some ao), .pointer (some ai)] 92) (OutW (.pointer (some ao)) o)) (InW (.pointer (some ai)) i)) w := Done.start h
  have hq := (Done.at_ (C := fun X => Star (Star (X) (OutW (.pointer (some ao)) o)) (InW (.pointer (some ai)) i)) (Fr.l (Fr.l Fr.id_ (OutW.stab _ _)) (InW.stab _ _)) hS)
  have q0 : w.cell? ⟨gt, 0, none⟩ = some (.int .i64 R) := cell_at hq 0 _ rfl
  have hb1 : Below w.heap.size w ((w.alloc (.cells #[.int .i64 seat, .int .i64 count, .bool cmd, .int .i64 kind, .int .i64 sort, .int .i64 nr, .int .i64 ns, .bool pf, .string body] 37))) := (Below.refl _ _).alloc (Nat.le_refl _) _
  have hS1 : Done w F (Star (Star (Star (CellW gt #[.int .i64 R, .int .i64 sz, .bool mi, .pointer (some ao), .pointer (some ai)] 92) (OutW (.pointer (some ao)) o)) (InW (.pointer (some ai)) i)) (CellW w.heap.size #[.int .i64 seat, .int .i64 count, .bool cmd, .int .i64 kind, .int .i64 sort, .int .i64 nr, .int .i64 ns, .bool pf, .string body] 37)) ((w.alloc (.cells #[.int .i64 seat, .int .i64 count, .bool cmd, .int .i64 kind, .int .i64 sort, .int .i64 nr, .int .i64 ns, .bool pf, .string body] 37))) := hS.add (((CellW.stab _ _ _).star (OutW.stab _ _)).star (InW.stab _ _)) (CellW.new w _ _)
  have hbx := (Done.at_ (C := fun X => Star (Star (Star (CellW gt #[.int .i64 R, .int .i64 sz, .bool mi, .pointer (some ao), .pointer (some ai)] 92) (OutW (.pointer (some ao)) o)) (InW (.pointer (some ai)) i)) X) (Fr.r (((CellW.stab _ _ _).star (OutW.stab _ _)).star (InW.stab _ _)) Fr.id_) hS1)
  have z0 : ((w.alloc (.cells #[.int .i64 seat, .int .i64 count, .bool cmd, .int .i64 kind, .int .i64 sort, .int .i64 nr, .int .i64 ns, .bool pf, .string body] 37))).cell? ⟨w.heap.size, 0, none⟩ = some (.int .i64 seat) := cell_at hbx 0 _ rfl
  have z1 : ((w.alloc (.cells #[.int .i64 seat, .int .i64 count, .bool cmd, .int .i64 kind, .int .i64 sort, .int .i64 nr, .int .i64 ns, .bool pf, .string body] 37))).cell? ⟨w.heap.size, 1, none⟩ = some (.int .i64 count) := cell_at hbx 1 _ rfl
  have z2 : ((w.alloc (.cells #[.int .i64 seat, .int .i64 count, .bool cmd, .int .i64 kind, .int .i64 sort, .int .i64 nr, .int .i64 ns, .bool pf, .string body] 37))).cell? ⟨w.heap.size, 2, none⟩ = some (.bool cmd) := cell_at hbx 2 _ rfl
  have z3 : ((w.alloc (.cells #[.int .i64 seat, .int .i64 count, .bool cmd, .int .i64 kind, .int .i64 sort, .int .i64 nr, .int .i64 ns, .bool pf, .string body] 37))).cell? ⟨w.heap.size, 3, none⟩ = some (.int .i64 kind) := cell_at hbx 3 _ rfl
  have z4 : ((w.alloc (.cells #[.int .i64 seat, .int .i64 count, .bool cmd, .int .i64 kind, .int .i64 sort, .int .i64 nr, .int .i64 ns, .bool pf, .string body] 37))).cell? ⟨w.heap.size, 4, none⟩ = some (.int .i64 sort) := cell_at hbx 4 _ rfl
  have z5 : ((w.alloc (.cells #[.int .i64 seat, .int .i64 count, .bool cmd, .int .i64 kind, .int .i64 sort, .int .i64 nr, .int .i64 ns, .bool pf, .string body] 37))).cell? ⟨w.heap.size, 5, none⟩ = some (.int .i64 nr) := cell_at hbx 5 _ rfl
  have z6 : ((w.alloc (.cells #[.int .i64 seat, .int .i64 count, .bool cmd, .int .i64 kind, .int .i64 sort, .int .i64 nr, .int .i64 ns, .bool pf, .string body] 37))).cell? ⟨w.heap.size, 6, none⟩ = some (.int .i64 ns) := cell_at hbx 6 _ rfl
  have z7 : ((w.alloc (.cells #[.int .i64 seat, .int .i64 count, .bool cmd, .int .i64 kind, .int .i64 sort, .int .i64 nr, .int .i64 ns, .bool pf, .string body] 37))).cell? ⟨w.heap.size, 7, none⟩ = some (.bool pf) := cell_at hbx 7 _ rfl
  have z8 : ((w.alloc (.cells #[.int .i64 seat, .int .i64 count, .bool cmd, .int .i64 kind, .int .i64 sort, .int .i64 nr, .int .i64 ns, .bool pf, .string body] 37))).cell? ⟨w.heap.size, 8, none⟩ = some (.string body) := cell_at hbx 8 _ rfl
  have HF := Lib.hid (fun W (hb : Below ((w.alloc (.cells #[.int .i64 seat, .int .i64 count, .bool cmd, .int .i64 kind, .int .i64 sort, .int .i64 nr, .int .i64 ns, .bool pf, .string body] 37))).heap.size ((w.alloc (.cells #[.int .i64 seat, .int .i64 count, .bool cmd, .int .i64 kind, .int .i64 sort, .int .i64 nr, .int .i64 ns, .bool pf, .string body] 37))) W) => hS1.keep ((((CellW.stab _ _ _).star (OutW.stab _ _)).star (InW.stab _ _)).star (CellW.stab _ _ _)) hb)
  have HT := Lib.hid (TnFits_any gt R ⟨seat, count, cmd, kind, sort, nr, ns, pf, body⟩ ((w.alloc (.cells #[.int .i64 seat, .int .i64 count, .bool cmd, .int .i64 kind, .int .i64 sort, .int .i64 nr, .int .i64 ns, .bool pf, .string body] 37))) hr (bel_cell q0 hb1))
  rw [hf] at HT
  clear h hS hq q0 hb1 hS1 hbx hr hf
  go_enter Tryz.func37, Tryz.ntmps37
  go_wp2_with (go_at_call 63; ((with_reducible refine (HT.out).mono ?_); rintro e w2 ⟨rfl, hb⟩; have HS2 := Lib.hid (HF.out _ hb); clear hb))
  go_ret2
  exact ⟨rfl, HS2.out.drop⟩
set_option maxRecDepth 100000 in
set_option maxHeartbeats 16000000 in
theorem TnTake_1t (gt : Nat) (ao ai : Addr) (R sz : Int) (o : OutM) (i : InM) (seat count : Int) (cmd : Bool) (sort nr ns : Int) (pf : Bool) (body : ByteArray) (w : World) (F : List Nat) (hr : R = 1 ∨ R = 2) (hf : fitsM R ⟨seat, count, cmd, 1, sort, nr, ns, pf, body⟩ = true) (hnr : (Lit.int .i64 nr).wf = true) (hns : (Lit.int .i64 ns).wf = true) (hsz : i.hit ns = true → body.size ≤ 281474976710656) (h : TurnO gt ao ai ⟨R, sz, true, o, i⟩ w F) : Calls Tryz.prog 37 #[.pointer (some ⟨gt, 0, none⟩), .agg #[.int .i64 seat, .int .i64 count, .bool cmd, .int .i64 1, .int .i64 sort, .int .i64 nr, .int .i64 ns, .bool pf, .string body]] w fun e w' => e = .returned (.tuple #[.string (i.told ns body), .bool (i.hit ns)]) ∧ Done w F (TurnO gt ao ai ⟨R, sz, true, o.ack nr, (i.take ns)⟩) w' := by
  have hS : Done w F (Star (Star (CellW gt #[.int .i64 R, .int .i64 sz, .bool true, .pointer (some ao), .pointer (some ai)] 92) (OutW (.pointer (some ao)) o)) (InW (.pointer (some ai)) i)) w := Done.start h
  have hq := (Done.at_ (C := fun X => Star (Star (X) (OutW (.pointer (some ao)) o)) (InW (.pointer (some ai)) i)) (Fr.l (Fr.l Fr.id_ (OutW.stab _ _)) (InW.stab _ _)) hS)
  have q0 : w.cell? ⟨gt, 0, none⟩ = some (.int .i64 R) := cell_at hq 0 _ rfl
  have hb1 : Below w.heap.size w ((w.alloc (.cells #[.int .i64 seat, .int .i64 count, .bool cmd, .int .i64 1, .int .i64 sort, .int .i64 nr, .int .i64 ns, .bool pf, .string body] 37))) := (Below.refl _ _).alloc (Nat.le_refl _) _
  have hS1 : Done w F (Star (Star (Star (CellW gt #[.int .i64 R, .int .i64 sz, .bool true, .pointer (some ao), .pointer (some ai)] 92) (OutW (.pointer (some ao)) o)) (InW (.pointer (some ai)) i)) (CellW w.heap.size #[.int .i64 seat, .int .i64 count, .bool cmd, .int .i64 1, .int .i64 sort, .int .i64 nr, .int .i64 ns, .bool pf, .string body] 37)) ((w.alloc (.cells #[.int .i64 seat, .int .i64 count, .bool cmd, .int .i64 1, .int .i64 sort, .int .i64 nr, .int .i64 ns, .bool pf, .string body] 37))) := hS.add (((CellW.stab _ _ _).star (OutW.stab _ _)).star (InW.stab _ _)) (CellW.new w _ _)
  have hbx := (Done.at_ (C := fun X => Star (Star (Star (CellW gt #[.int .i64 R, .int .i64 sz, .bool true, .pointer (some ao), .pointer (some ai)] 92) (OutW (.pointer (some ao)) o)) (InW (.pointer (some ai)) i)) X) (Fr.r (((CellW.stab _ _ _).star (OutW.stab _ _)).star (InW.stab _ _)) Fr.id_) hS1)
  have z0 : ((w.alloc (.cells #[.int .i64 seat, .int .i64 count, .bool cmd, .int .i64 1, .int .i64 sort, .int .i64 nr, .int .i64 ns, .bool pf, .string body] 37))).cell? ⟨w.heap.size, 0, none⟩ = some (.int .i64 seat) := cell_at hbx 0 _ rfl
  have z1 : ((w.alloc (.cells #[.int .i64 seat, .int .i64 count, .bool cmd, .int .i64 1, .int .i64 sort, .int .i64 nr, .int .i64 ns, .bool pf, .string body] 37))).cell? ⟨w.heap.size, 1, none⟩ = some (.int .i64 count) := cell_at hbx 1 _ rfl
  have z2 : ((w.alloc (.cells #[.int .i64 seat, .int .i64 count, .bool cmd, .int .i64 1, .int .i64 sort, .int .i64 nr, .int .i64 ns, .bool pf, .string body] 37))).cell? ⟨w.heap.size, 2, none⟩ = some (.bool cmd) := cell_at hbx 2 _ rfl
  have z3 : ((w.alloc (.cells #[.int .i64 seat, .int .i64 count, .bool cmd, .int .i64 1, .int .i64 sort, .int .i64 nr, .int .i64 ns, .bool pf, .string body] 37))).cell? ⟨w.heap.size, 3, none⟩ = some (.int .i64 1) := cell_at hbx 3 _ rfl
  have z4 : ((w.alloc (.cells #[.int .i64 seat, .int .i64 count, .bool cmd, .int .i64 1, .int .i64 sort, .int .i64 nr, .int .i64 ns, .bool pf, .string body] 37))).cell? ⟨w.heap.size, 4, none⟩ = some (.int .i64 sort) := cell_at hbx 4 _ rfl
  have z5 : ((w.alloc (.cells #[.int .i64 seat, .int .i64 count, .bool cmd, .int .i64 1, .int .i64 sort, .int .i64 nr, .int .i64 ns, .bool pf, .string body] 37))).cell? ⟨w.heap.size, 5, none⟩ = some (.int .i64 nr) := cell_at hbx 5 _ rfl
  have z6 : ((w.alloc (.cells #[.int .i64 seat, .int .i64 count, .bool cmd, .int .i64 1, .int .i64 sort, .int .i64 nr, .int .i64 ns, .bool pf, .string body] 37))).cell? ⟨w.heap.size, 6, none⟩ = some (.int .i64 ns) := cell_at hbx 6 _ rfl
  have z7 : ((w.alloc (.cells #[.int .i64 seat, .int .i64 count, .bool cmd, .int .i64 1, .int .i64 sort, .int .i64 nr, .int .i64 ns, .bool pf, .string body] 37))).cell? ⟨w.heap.size, 7, none⟩ = some (.bool pf) := cell_at hbx 7 _ rfl
  have z8 : ((w.alloc (.cells #[.int .i64 seat, .int .i64 count, .bool cmd, .int .i64 1, .int .i64 sort, .int .i64 nr, .int .i64 ns, .bool pf, .string body] 37))).cell? ⟨w.heap.size, 8, none⟩ = some (.string body) := cell_at hbx 8 _ rfl
  have HF := Lib.hid (fun W (hb : Below ((w.alloc (.cells #[.int .i64 seat, .int .i64 count, .bool cmd, .int .i64 1, .int .i64 sort, .int .i64 nr, .int .i64 ns, .bool pf, .string body] 37))).heap.size ((w.alloc (.cells #[.int .i64 seat, .int .i64 count, .bool cmd, .int .i64 1, .int .i64 sort, .int .i64 nr, .int .i64 ns, .bool pf, .string body] 37))) W) => hS1.keep ((((CellW.stab _ _ _).star (OutW.stab _ _)).star (InW.stab _ _)).star (CellW.stab _ _ _)) hb)
  have HT := Lib.hid (TnFits_any gt R ⟨seat, count, cmd, 1, sort, nr, ns, pf, body⟩ ((w.alloc (.cells #[.int .i64 seat, .int .i64 count, .bool cmd, .int .i64 1, .int .i64 sort, .int .i64 nr, .int .i64 ns, .bool pf, .string body] 37))) hr (bel_cell q0 hb1))
  rw [hf] at HT
  have HNR := Lib.hid hnr
  have HNS := Lib.hid hns
  have HSZ := Lib.hid hsz
  clear h hS hq q0 hb1 hS1 hbx hr hf hnr hns hsz
  go_enter Tryz.func37, Tryz.ntmps37
  go_wp2_with (go_at_call 63; ((with_reducible refine (HT.out).mono ?_); rintro e w2 ⟨rfl, hb⟩; have HS2 := Lib.hid (HF.out _ hb); clear hb))
  have HS2d := Lib.hid (HS2.out.drewD ((((CellW.stab _ _ _).star (OutW.stab _ _)).star (InW.stab _ _)).star (CellW.stab _ _ _)))
  have HE2d : Hid ((fun U => U.heap[gt]? = some (.cells #[.int .i64 R, .int .i64 sz, .bool true, .pointer (some ao), .pointer (some ai)] 92 (0, 0)) ∧ U.heap[w.heap.size]? = some (.cells #[.int .i64 seat, .int .i64 count, .bool cmd, .int .i64 1, .int .i64 sort, .int .i64 nr, .int .i64 ns, .bool pf, .string body] 37 (0, 0))) w2.drew) := ⟨(Done.at_ (C := fun X => Star (Star (Star (X) (OutW (.pointer (some ao)) o)) (InW (.pointer (some ai)) i)) (CellW w.heap.size #[.int .i64 seat, .int .i64 count, .bool cmd, .int .i64 1, .int .i64 sort, .int .i64 nr, .int .i64 ns, .bool pf, .string body] 37)) (Fr.l (Fr.l (Fr.l Fr.id_ (OutW.stab _ _)) (InW.stab _ _)) (CellW.stab _ _ _)) HS2d.out), (Done.at_ (C := fun X => Star (Star (Star (CellW gt #[.int .i64 R, .int .i64 sz, .bool true, .pointer (some ao), .pointer (some ai)] 92) (OutW (.pointer (some ao)) o)) (InW (.pointer (some ai)) i)) X) (Fr.r (((CellW.stab _ _ _).star (OutW.stab _ _)).star (InW.stab _ _)) Fr.id_) HS2d.out)⟩
  refine rests_begin (fun U => U.heap[gt]? = some (.cells #[.int .i64 R, .int .i64 sz, .bool true, .pointer (some ao), .pointer (some ai)] 92 (0, 0)) ∧ U.heap[w.heap.size]? = some (.cells #[.int .i64 seat, .int .i64 count, .bool cmd, .int .i64 1, .int .i64 sort, .int .i64 nr, .int .i64 ns, .bool pf, .string body] 37 (0, 0))) (by kernel_rfl) ?_
  refine rests_take 0 (oi := _) (v := ?_) (by simp only [List.getElem?_toArray, List.getElem?_cons_zero]; rfl) (by kernel_rfl) (by kernel_rfl) (by kernel_rfl) (by exact fun _ _ _ h => h) (HE2d.out) (by rfl) ?_ ?_; rotate_left; (· intro W HW; go_simp; try with_reducible rfl)
  simp only [Act.put, List.setIfInBounds_toArray, List.set_cons_zero, List.set_cons_succ]
  refine rests_take 1 (oi := _) (v := ?_) (by simp only [List.getElem?_toArray, List.getElem?_cons_succ, List.getElem?_cons_zero]; rfl) (by kernel_rfl) (by kernel_rfl) (by kernel_rfl) (by exact fun _ _ _ h => h) (HE2d.out) (by rfl) ?_ ?_; rotate_left; (· intro W HW; go_simp; try with_reducible rfl)
  simp only [Act.put, List.setIfInBounds_toArray, List.set_cons_zero, List.set_cons_succ]
  refine rests_take 2 (oi := _) (v := ?_) (by simp only [List.getElem?_toArray, List.getElem?_cons_succ, List.getElem?_cons_zero]; rfl) (by kernel_rfl) (by kernel_rfl) (by kernel_rfl) (by exact fun _ _ _ h => h) (HE2d.out) (by rfl) ?_ ?_; rotate_left; (· intro W HW; go_simp; try with_reducible rfl)
  simp only [Act.put, List.setIfInBounds_toArray, List.set_cons_zero, List.set_cons_succ]
  refine rests_take 3 (oi := _) (v := ?_) (by simp only [List.getElem?_toArray, List.getElem?_cons_succ, List.getElem?_cons_zero]; rfl) (by kernel_rfl) (by kernel_rfl) (by kernel_rfl) (by exact fun _ _ _ h => h) (HE2d.out) (by rfl) ?_ ?_; rotate_left; (· intro W HW; have z3 : W.cell? ⟨gt, 3, none⟩ = some (.pointer (some ao)) := cell_at HW.1 3 _ rfl; go_simp; try with_reducible rfl)
  simp only [Act.put, List.setIfInBounds_toArray, List.set_cons_zero, List.set_cons_succ]
  refine rests_take 4 (oi := _) (v := ?_) (by simp only [List.getElem?_toArray, List.getElem?_cons_succ, List.getElem?_cons_zero]; rfl) (by kernel_rfl) (by kernel_rfl) (by kernel_rfl) (by exact fun _ _ _ h => h) (HE2d.out) (by rfl) ?_ ?_; rotate_left; (· intro W HW; go_simp; try with_reducible rfl)
  simp only [Act.put, List.setIfInBounds_toArray, List.set_cons_zero, List.set_cons_succ]
  refine rests_take 5 (oi := _) (v := ?_) (by simp only [List.getElem?_toArray, List.getElem?_cons_succ, List.getElem?_cons_zero]; rfl) (by kernel_rfl) (by kernel_rfl) (by kernel_rfl) (by exact fun _ _ _ h => h) (HE2d.out) (by rfl) ?_ ?_; rotate_left; (· intro W HW; have z5 : W.cell? ⟨w.heap.size, 5, none⟩ = some (.int .i64 nr) := cell_at HW.2 5 _ rfl; go_simp; try with_reducible rfl)
  simp only [Act.put, List.setIfInBounds_toArray, List.set_cons_zero, List.set_cons_succ]
  refine rests_call 6 (oi := _) (by simp only [List.getElem?_toArray, List.getElem?_cons_succ, List.getElem?_cons_zero]; rfl) 48 #[.pointer (some ao), .int .i64 nr] _ (by kernel_rfl) (by rfl) (by go_simp) (dcalls_at (C := fun X => Star (Star (Star (CellW gt #[.int .i64 R, .int .i64 sz, .bool true, .pointer (some ao), .pointer (some ai)] 92) X) (InW (.pointer (some ai)) i)) (CellW w.heap.size #[.int .i64 seat, .int .i64 count, .bool cmd, .int .i64 1, .int .i64 sort, .int .i64 nr, .int .i64 ns, .bool pf, .string body] 37)) (Fr.l (Fr.l (Fr.r (CellW.stab _ _ _) Fr.id_) (InW.stab _ _)) (CellW.stab _ _ _)) HS2d.out (fun F hF => OAck_any (.pointer (some ao)) o F nr _ hF HNR.out)) ?_
  rintro e w3 ⟨rfl, hs⟩; have HS3 := Lib.hid hs; have HE3 : Hid ((fun U => U.heap[gt]? = some (.cells #[.int .i64 R, .int .i64 sz, .bool true, .pointer (some ao), .pointer (some ai)] 92 (0, 0)) ∧ U.heap[w.heap.size]? = some (.cells #[.int .i64 seat, .int .i64 count, .bool cmd, .int .i64 1, .int .i64 sort, .int .i64 nr, .int .i64 ns, .bool pf, .string body] 37 (0, 0))) w3) := ⟨(Done.at_ (C := fun X => Star (Star (Star (X) (OutW (.pointer (some ao)) (o.ack nr))) (InW (.pointer (some ai)) i)) (CellW w.heap.size #[.int .i64 seat, .int .i64 count, .bool cmd, .int .i64 1, .int .i64 sort, .int .i64 nr, .int .i64 ns, .bool pf, .string body] 37)) (Fr.l (Fr.l (Fr.l Fr.id_ (OutW.stab _ _)) (InW.stab _ _)) (CellW.stab _ _ _)) hs), (Done.at_ (C := fun X => Star (Star (Star (CellW gt #[.int .i64 R, .int .i64 sz, .bool true, .pointer (some ao), .pointer (some ai)] 92) (OutW (.pointer (some ao)) (o.ack nr))) (InW (.pointer (some ai)) i)) X) (Fr.r (((CellW.stab _ _ _).star (OutW.stab _ _)).star (InW.stab _ _)) Fr.id_) hs)⟩; refine ⟨_, rfl, HE3.out, ?_⟩; clear hs
  simp only [Act.put, List.setIfInBounds_toArray, List.set_cons_zero, List.set_cons_succ]
  refine rests_done (by kernel_rfl) ?_
  have hq := (Done.at_ (C := fun X => Star (Star (Star (X) (OutW (.pointer (some ao)) (o.ack nr))) (InW (.pointer (some ai)) i)) (CellW w.heap.size #[.int .i64 seat, .int .i64 count, .bool cmd, .int .i64 1, .int .i64 sort, .int .i64 nr, .int .i64 ns, .bool pf, .string body] 37)) (Fr.l (Fr.l (Fr.l Fr.id_ (OutW.stab _ _)) (InW.stab _ _)) (CellW.stab _ _ _)) HS3.out)
  have q2 : w3.cell? ⟨gt, 2, none⟩ = some (.bool true) := cell_at hq 2 _ rfl
  have hbx := (Done.at_ (C := fun X => Star (Star (Star (CellW gt #[.int .i64 R, .int .i64 sz, .bool true, .pointer (some ao), .pointer (some ai)] 92) (OutW (.pointer (some ao)) (o.ack nr))) (InW (.pointer (some ai)) i)) X) (Fr.r (((CellW.stab _ _ _).star (OutW.stab _ _)).star (InW.stab _ _)) Fr.id_) HS3.out)
  have y7 : w3.cell? ⟨w.heap.size, 7, none⟩ = some (.bool pf) := cell_at hbx 7 _ rfl
  clear hq hbx
  go_wp2_with ((with_reducible refine wpList_storeD (C := fun X => Star (Star (Star (X) (OutW (.pointer (some ao)) (o.ack nr))) (InW (.pointer (some ai)) i)) (CellW w.heap.size #[.int .i64 seat, .int .i64 count, .bool cmd, .int .i64 1, .int .i64 sort, .int .i64 nr, .int .i64 ns, .bool pf, .string body] 37)) (Fr.l (Fr.l (Fr.l Fr.id_ (OutW.stab _ _)) (InW.stab _ _)) (CellW.stab _ _ _)) HS3.out rfl 4 (.tmp 31) (.tmp 29) rfl 2 (.bool true) rfl rfl (by simp) (run_storeBo _ _ _) ?_); intro w9 hs; have HS9 : Hid (Done w F (Star (Star (Star (CellW gt #[.int .i64 R, .int .i64 sz, .bool true, .pointer (some ao), .pointer (some ai)] 92) (OutW (.pointer (some ao)) (o.ack nr))) (InW (.pointer (some ai)) i)) (CellW w.heap.size #[.int .i64 seat, .int .i64 count, .bool cmd, .int .i64 1, .int .i64 sort, .int .i64 nr, .int .i64 ns, .bool pf, .string body] 37)) w9) := (by show Done _ _ _ _; exact hs); have y3 : w9.cell? ⟨w.heap.size, 3, none⟩ = some (.int .i64 1) := cell_at (Done.at_ (C := fun X => Star (Star (Star (CellW gt #[.int .i64 R, .int .i64 sz, .bool true, .pointer (some ao), .pointer (some ai)] 92) (OutW (.pointer (some ao)) (o.ack nr))) (InW (.pointer (some ai)) i)) X) (Fr.r (((CellW.stab _ _ _).star (OutW.stab _ _)).star (InW.stab _ _)) Fr.id_) HS9.out) 3 _ rfl; clear hs)
  have HS9d := Lib.hid (HS9.out.drewD ((((CellW.stab _ _ _).star (OutW.stab _ _)).star (InW.stab _ _)).star (CellW.stab _ _ _)))
  have HE9d : Hid ((fun U => U.heap[gt]? = some (.cells #[.int .i64 R, .int .i64 sz, .bool true, .pointer (some ao), .pointer (some ai)] 92 (0, 0)) ∧ U.heap[w.heap.size]? = some (.cells #[.int .i64 seat, .int .i64 count, .bool cmd, .int .i64 1, .int .i64 sort, .int .i64 nr, .int .i64 ns, .bool pf, .string body] 37 (0, 0))) w9.drew) := ⟨(Done.at_ (C := fun X => Star (Star (Star (X) (OutW (.pointer (some ao)) (o.ack nr))) (InW (.pointer (some ai)) i)) (CellW w.heap.size #[.int .i64 seat, .int .i64 count, .bool cmd, .int .i64 1, .int .i64 sort, .int .i64 nr, .int .i64 ns, .bool pf, .string body] 37)) (Fr.l (Fr.l (Fr.l Fr.id_ (OutW.stab _ _)) (InW.stab _ _)) (CellW.stab _ _ _)) HS9d.out), (Done.at_ (C := fun X => Star (Star (Star (CellW gt #[.int .i64 R, .int .i64 sz, .bool true, .pointer (some ao), .pointer (some ai)] 92) (OutW (.pointer (some ao)) (o.ack nr))) (InW (.pointer (some ai)) i)) X) (Fr.r (((CellW.stab _ _ _).star (OutW.stab _ _)).star (InW.stab _ _)) Fr.id_) HS9d.out)⟩
  refine rests_begin (fun U => U.heap[gt]? = some (.cells #[.int .i64 R, .int .i64 sz, .bool true, .pointer (some ao), .pointer (some ai)] 92 (0, 0)) ∧ U.heap[w.heap.size]? = some (.cells #[.int .i64 seat, .int .i64 count, .bool cmd, .int .i64 1, .int .i64 sort, .int .i64 nr, .int .i64 ns, .bool pf, .string body] 37 (0, 0))) (by kernel_rfl) ?_
  refine rests_take 0 (oi := _) (v := ?_) (by simp only [List.getElem?_toArray, List.getElem?_cons_zero]; rfl) (by kernel_rfl) (by kernel_rfl) (by kernel_rfl) (by exact fun _ _ _ h => h) (HE9d.out) (by rfl) ?_ ?_; rotate_left; (· intro W HW; go_simp; try with_reducible rfl)
  simp only [Act.put, List.setIfInBounds_toArray, List.set_cons_zero, List.set_cons_succ]
  refine rests_take 1 (oi := _) (v := ?_) (by simp only [List.getElem?_toArray, List.getElem?_cons_succ, List.getElem?_cons_zero]; rfl) (by kernel_rfl) (by kernel_rfl) (by kernel_rfl) (by exact fun _ _ _ h => h) (HE9d.out) (by rfl) ?_ ?_; rotate_left; (· intro W HW; go_simp; try with_reducible rfl)
  simp only [Act.put, List.setIfInBounds_toArray, List.set_cons_zero, List.set_cons_succ]
  refine rests_take 2 (oi := _) (v := ?_) (by simp only [List.getElem?_toArray, List.getElem?_cons_succ, List.getElem?_cons_zero]; rfl) (by kernel_rfl) (by kernel_rfl) (by kernel_rfl) (by exact fun _ _ _ h => h) (HE9d.out) (by rfl) ?_ ?_; rotate_left; (· intro W HW; go_simp; try with_reducible rfl)
  simp only [Act.put, List.setIfInBounds_toArray, List.set_cons_zero, List.set_cons_succ]
  refine rests_take 3 (oi := _) (v := ?_) (by simp only [List.getElem?_toArray, List.getElem?_cons_succ, List.getElem?_cons_zero]; rfl) (by kernel_rfl) (by kernel_rfl) (by kernel_rfl) (by exact fun _ _ _ h => h) (HE9d.out) (by rfl) ?_ ?_; rotate_left; (· intro W HW; have z4 : W.cell? ⟨gt, 4, none⟩ = some (.pointer (some ai)) := cell_at HW.1 4 _ rfl; go_simp; try with_reducible rfl)
  simp only [Act.put, List.setIfInBounds_toArray, List.set_cons_zero, List.set_cons_succ]
  refine rests_take 4 (oi := _) (v := ?_) (by simp only [List.getElem?_toArray, List.getElem?_cons_succ, List.getElem?_cons_zero]; rfl) (by kernel_rfl) (by kernel_rfl) (by kernel_rfl) (by exact fun _ _ _ h => h) (HE9d.out) (by rfl) ?_ ?_; rotate_left; (· intro W HW; go_simp; try with_reducible rfl)
  simp only [Act.put, List.setIfInBounds_toArray, List.set_cons_zero, List.set_cons_succ]
  refine rests_take 5 (oi := _) (v := ?_) (by simp only [List.getElem?_toArray, List.getElem?_cons_succ, List.getElem?_cons_zero]; rfl) (by kernel_rfl) (by kernel_rfl) (by kernel_rfl) (by exact fun _ _ _ h => h) (HE9d.out) (by rfl) ?_ ?_; rotate_left; (· intro W HW; have z6 : W.cell? ⟨w.heap.size, 6, none⟩ = some (.int .i64 ns) := cell_at HW.2 6 _ rfl; go_simp; try with_reducible rfl)
  simp only [Act.put, List.setIfInBounds_toArray, List.set_cons_zero, List.set_cons_succ]
  refine rests_take 6 (oi := _) (v := ?_) (by simp only [List.getElem?_toArray, List.getElem?_cons_succ, List.getElem?_cons_zero]; rfl) (by kernel_rfl) (by kernel_rfl) (by kernel_rfl) (by exact fun _ _ _ h => h) (HE9d.out) (by rfl) ?_ ?_; rotate_left; (· intro W HW; go_simp; try with_reducible rfl)
  simp only [Act.put, List.setIfInBounds_toArray, List.set_cons_zero, List.set_cons_succ]
  refine rests_take 7 (oi := _) (v := ?_) (by simp only [List.getElem?_toArray, List.getElem?_cons_succ, List.getElem?_cons_zero]; rfl) (by kernel_rfl) (by kernel_rfl) (by kernel_rfl) (by exact fun _ _ _ h => h) (HE9d.out) (by rfl) ?_ ?_; rotate_left; (· intro W HW; have z8 : W.cell? ⟨w.heap.size, 8, none⟩ = some (.string body) := cell_at HW.2 8 _ rfl; go_simp; try with_reducible rfl)
  simp only [Act.put, List.setIfInBounds_toArray, List.set_cons_zero, List.set_cons_succ]
  refine rests_call 8 (oi := _) (by simp only [List.getElem?_toArray, List.getElem?_cons_succ, List.getElem?_cons_zero]; rfl) 24 #[.pointer (some ai), .int .i64 ns, .string body] _ (by kernel_rfl) (by rfl) (by go_simp) (dcalls_at (C := fun X => Star (Star (Star (CellW gt #[.int .i64 R, .int .i64 sz, .bool true, .pointer (some ao), .pointer (some ai)] 92) (OutW (.pointer (some ao)) (o.ack nr))) X) (CellW w.heap.size #[.int .i64 seat, .int .i64 count, .bool cmd, .int .i64 1, .int .i64 sort, .int .i64 nr, .int .i64 ns, .bool pf, .string body] 37)) (Fr.l (Fr.r ((CellW.stab _ _ _).star (OutW.stab _ _)) Fr.id_) (CellW.stab _ _ _)) HS9d.out (fun F hF => ITake_any (.pointer (some ai)) i F ns body _ hF HNS.out HSZ.out)) ?_
  rintro e w10 ⟨rfl, hs⟩; have HS10 := Lib.hid hs; have HE10 : Hid ((fun U => U.heap[gt]? = some (.cells #[.int .i64 R, .int .i64 sz, .bool true, .pointer (some ao), .pointer (some ai)] 92 (0, 0)) ∧ U.heap[w.heap.size]? = some (.cells #[.int .i64 seat, .int .i64 count, .bool cmd, .int .i64 1, .int .i64 sort, .int .i64 nr, .int .i64 ns, .bool pf, .string body] 37 (0, 0))) w10) := ⟨(Done.at_ (C := fun X => Star (Star (Star (X) (OutW (.pointer (some ao)) (o.ack nr))) (InW (.pointer (some ai)) (i.take ns))) (CellW w.heap.size #[.int .i64 seat, .int .i64 count, .bool cmd, .int .i64 1, .int .i64 sort, .int .i64 nr, .int .i64 ns, .bool pf, .string body] 37)) (Fr.l (Fr.l (Fr.l Fr.id_ (OutW.stab _ _)) (InW.stab _ _)) (CellW.stab _ _ _)) hs), (Done.at_ (C := fun X => Star (Star (Star (CellW gt #[.int .i64 R, .int .i64 sz, .bool true, .pointer (some ao), .pointer (some ai)] 92) (OutW (.pointer (some ao)) (o.ack nr))) (InW (.pointer (some ai)) (i.take ns))) X) (Fr.r (((CellW.stab _ _ _).star (OutW.stab _ _)).star (InW.stab _ _)) Fr.id_) hs)⟩; refine ⟨_, rfl, HE10.out, ?_⟩; clear hs
  simp only [Act.put, List.setIfInBounds_toArray, List.set_cons_zero, List.set_cons_succ]
  refine rests_take 9 (oi := _) (v := ?_) (by simp only [List.getElem?_toArray, List.getElem?_cons_succ, List.getElem?_cons_zero]; rfl) (by kernel_rfl) (by kernel_rfl) (by kernel_rfl) (by exact fun _ _ _ h => h) (HE10.out) (by rfl) ?_ ?_; rotate_left; (· intro W HW; go_simp; try with_reducible rfl)
  simp only [Act.put, List.setIfInBounds_toArray, List.set_cons_zero, List.set_cons_succ]
  refine rests_take 10 (oi := _) (v := ?_) (by simp only [List.getElem?_toArray, List.getElem?_cons_succ, List.getElem?_cons_zero]; rfl) (by kernel_rfl) (by kernel_rfl) (by kernel_rfl) (by exact fun _ _ _ h => h) (HE10.out) (by rfl) ?_ ?_; rotate_left; (· intro W HW; go_simp; try with_reducible rfl)
  simp only [Act.put, List.setIfInBounds_toArray, List.set_cons_zero, List.set_cons_succ]
  refine rests_take 11 (oi := _) (v := ?_) (by simp only [List.getElem?_toArray, List.getElem?_cons_succ, List.getElem?_cons_zero]; rfl) (by kernel_rfl) (by kernel_rfl) (by kernel_rfl) (by exact fun _ _ _ h => h) (HE10.out) (by rfl) ?_ ?_; rotate_left; (· intro W HW; go_simp; try with_reducible rfl)
  simp only [Act.put, List.setIfInBounds_toArray, List.set_cons_zero, List.set_cons_succ]
  refine rests_take 12 (oi := _) (v := ?_) (by simp only [List.getElem?_toArray, List.getElem?_cons_succ, List.getElem?_cons_zero]; rfl) (by kernel_rfl) (by kernel_rfl) (by kernel_rfl) (by exact fun _ _ _ h => h) (HE10.out) (by rfl) ?_ ?_; rotate_left; (· intro W HW; go_simp; try with_reducible rfl)
  simp only [Act.put, List.setIfInBounds_toArray, List.set_cons_zero, List.set_cons_succ]
  refine rests_done (by kernel_rfl) ?_
  go_wp2
  go_ret2
  exact ⟨rfl, HS10.out.drop⟩
set_option maxRecDepth 100000 in
set_option maxHeartbeats 16000000 in
theorem TnTake_1f (gt : Nat) (ao ai : Addr) (R sz : Int) (o : OutM) (i : InM) (seat count : Int) (cmd : Bool) (sort nr ns : Int) (pf : Bool) (body : ByteArray) (w : World) (F : List Nat) (hr : R = 1 ∨ R = 2) (hf : fitsM R ⟨seat, count, cmd, 1, sort, nr, ns, pf, body⟩ = true) (hnr : (Lit.int .i64 nr).wf = true) (hns : (Lit.int .i64 ns).wf = true) (hsz : i.hit ns = true → body.size ≤ 281474976710656) (h : TurnO gt ao ai ⟨R, sz, false, o, i⟩ w F) : Calls Tryz.prog 37 #[.pointer (some ⟨gt, 0, none⟩), .agg #[.int .i64 seat, .int .i64 count, .bool cmd, .int .i64 1, .int .i64 sort, .int .i64 nr, .int .i64 ns, .bool pf, .string body]] w fun e w' => e = .returned (.tuple #[.string (i.told ns body), .bool (i.hit ns)]) ∧ Done w F (TurnO gt ao ai ⟨R, sz, pf, o.ack nr, (i.take ns)⟩) w' := by
  have hS : Done w F (Star (Star (CellW gt #[.int .i64 R, .int .i64 sz, .bool false, .pointer (some ao), .pointer (some ai)] 92) (OutW (.pointer (some ao)) o)) (InW (.pointer (some ai)) i)) w := Done.start h
  have hq := (Done.at_ (C := fun X => Star (Star (X) (OutW (.pointer (some ao)) o)) (InW (.pointer (some ai)) i)) (Fr.l (Fr.l Fr.id_ (OutW.stab _ _)) (InW.stab _ _)) hS)
  have q0 : w.cell? ⟨gt, 0, none⟩ = some (.int .i64 R) := cell_at hq 0 _ rfl
  have hb1 : Below w.heap.size w ((w.alloc (.cells #[.int .i64 seat, .int .i64 count, .bool cmd, .int .i64 1, .int .i64 sort, .int .i64 nr, .int .i64 ns, .bool pf, .string body] 37))) := (Below.refl _ _).alloc (Nat.le_refl _) _
  have hS1 : Done w F (Star (Star (Star (CellW gt #[.int .i64 R, .int .i64 sz, .bool false, .pointer (some ao), .pointer (some ai)] 92) (OutW (.pointer (some ao)) o)) (InW (.pointer (some ai)) i)) (CellW w.heap.size #[.int .i64 seat, .int .i64 count, .bool cmd, .int .i64 1, .int .i64 sort, .int .i64 nr, .int .i64 ns, .bool pf, .string body] 37)) ((w.alloc (.cells #[.int .i64 seat, .int .i64 count, .bool cmd, .int .i64 1, .int .i64 sort, .int .i64 nr, .int .i64 ns, .bool pf, .string body] 37))) := hS.add (((CellW.stab _ _ _).star (OutW.stab _ _)).star (InW.stab _ _)) (CellW.new w _ _)
  have hbx := (Done.at_ (C := fun X => Star (Star (Star (CellW gt #[.int .i64 R, .int .i64 sz, .bool false, .pointer (some ao), .pointer (some ai)] 92) (OutW (.pointer (some ao)) o)) (InW (.pointer (some ai)) i)) X) (Fr.r (((CellW.stab _ _ _).star (OutW.stab _ _)).star (InW.stab _ _)) Fr.id_) hS1)
  have z0 : ((w.alloc (.cells #[.int .i64 seat, .int .i64 count, .bool cmd, .int .i64 1, .int .i64 sort, .int .i64 nr, .int .i64 ns, .bool pf, .string body] 37))).cell? ⟨w.heap.size, 0, none⟩ = some (.int .i64 seat) := cell_at hbx 0 _ rfl
  have z1 : ((w.alloc (.cells #[.int .i64 seat, .int .i64 count, .bool cmd, .int .i64 1, .int .i64 sort, .int .i64 nr, .int .i64 ns, .bool pf, .string body] 37))).cell? ⟨w.heap.size, 1, none⟩ = some (.int .i64 count) := cell_at hbx 1 _ rfl
  have z2 : ((w.alloc (.cells #[.int .i64 seat, .int .i64 count, .bool cmd, .int .i64 1, .int .i64 sort, .int .i64 nr, .int .i64 ns, .bool pf, .string body] 37))).cell? ⟨w.heap.size, 2, none⟩ = some (.bool cmd) := cell_at hbx 2 _ rfl
  have z3 : ((w.alloc (.cells #[.int .i64 seat, .int .i64 count, .bool cmd, .int .i64 1, .int .i64 sort, .int .i64 nr, .int .i64 ns, .bool pf, .string body] 37))).cell? ⟨w.heap.size, 3, none⟩ = some (.int .i64 1) := cell_at hbx 3 _ rfl
  have z4 : ((w.alloc (.cells #[.int .i64 seat, .int .i64 count, .bool cmd, .int .i64 1, .int .i64 sort, .int .i64 nr, .int .i64 ns, .bool pf, .string body] 37))).cell? ⟨w.heap.size, 4, none⟩ = some (.int .i64 sort) := cell_at hbx 4 _ rfl
  have z5 : ((w.alloc (.cells #[.int .i64 seat, .int .i64 count, .bool cmd, .int .i64 1, .int .i64 sort, .int .i64 nr, .int .i64 ns, .bool pf, .string body] 37))).cell? ⟨w.heap.size, 5, none⟩ = some (.int .i64 nr) := cell_at hbx 5 _ rfl
  have z6 : ((w.alloc (.cells #[.int .i64 seat, .int .i64 count, .bool cmd, .int .i64 1, .int .i64 sort, .int .i64 nr, .int .i64 ns, .bool pf, .string body] 37))).cell? ⟨w.heap.size, 6, none⟩ = some (.int .i64 ns) := cell_at hbx 6 _ rfl
  have z7 : ((w.alloc (.cells #[.int .i64 seat, .int .i64 count, .bool cmd, .int .i64 1, .int .i64 sort, .int .i64 nr, .int .i64 ns, .bool pf, .string body] 37))).cell? ⟨w.heap.size, 7, none⟩ = some (.bool pf) := cell_at hbx 7 _ rfl
  have z8 : ((w.alloc (.cells #[.int .i64 seat, .int .i64 count, .bool cmd, .int .i64 1, .int .i64 sort, .int .i64 nr, .int .i64 ns, .bool pf, .string body] 37))).cell? ⟨w.heap.size, 8, none⟩ = some (.string body) := cell_at hbx 8 _ rfl
  have HF := Lib.hid (fun W (hb : Below ((w.alloc (.cells #[.int .i64 seat, .int .i64 count, .bool cmd, .int .i64 1, .int .i64 sort, .int .i64 nr, .int .i64 ns, .bool pf, .string body] 37))).heap.size ((w.alloc (.cells #[.int .i64 seat, .int .i64 count, .bool cmd, .int .i64 1, .int .i64 sort, .int .i64 nr, .int .i64 ns, .bool pf, .string body] 37))) W) => hS1.keep ((((CellW.stab _ _ _).star (OutW.stab _ _)).star (InW.stab _ _)).star (CellW.stab _ _ _)) hb)
  have HT := Lib.hid (TnFits_any gt R ⟨seat, count, cmd, 1, sort, nr, ns, pf, body⟩ ((w.alloc (.cells #[.int .i64 seat, .int .i64 count, .bool cmd, .int .i64 1, .int .i64 sort, .int .i64 nr, .int .i64 ns, .bool pf, .string body] 37))) hr (bel_cell q0 hb1))
  rw [hf] at HT
  have HNR := Lib.hid hnr
  have HNS := Lib.hid hns
  have HSZ := Lib.hid hsz
  clear h hS hq q0 hb1 hS1 hbx hr hf hnr hns hsz
  go_enter Tryz.func37, Tryz.ntmps37
  go_wp2_with (go_at_call 63; ((with_reducible refine (HT.out).mono ?_); rintro e w2 ⟨rfl, hb⟩; have HS2 := Lib.hid (HF.out _ hb); clear hb))
  have HS2d := Lib.hid (HS2.out.drewD ((((CellW.stab _ _ _).star (OutW.stab _ _)).star (InW.stab _ _)).star (CellW.stab _ _ _)))
  have HE2d : Hid ((fun U => U.heap[gt]? = some (.cells #[.int .i64 R, .int .i64 sz, .bool false, .pointer (some ao), .pointer (some ai)] 92 (0, 0)) ∧ U.heap[w.heap.size]? = some (.cells #[.int .i64 seat, .int .i64 count, .bool cmd, .int .i64 1, .int .i64 sort, .int .i64 nr, .int .i64 ns, .bool pf, .string body] 37 (0, 0))) w2.drew) := ⟨(Done.at_ (C := fun X => Star (Star (Star (X) (OutW (.pointer (some ao)) o)) (InW (.pointer (some ai)) i)) (CellW w.heap.size #[.int .i64 seat, .int .i64 count, .bool cmd, .int .i64 1, .int .i64 sort, .int .i64 nr, .int .i64 ns, .bool pf, .string body] 37)) (Fr.l (Fr.l (Fr.l Fr.id_ (OutW.stab _ _)) (InW.stab _ _)) (CellW.stab _ _ _)) HS2d.out), (Done.at_ (C := fun X => Star (Star (Star (CellW gt #[.int .i64 R, .int .i64 sz, .bool false, .pointer (some ao), .pointer (some ai)] 92) (OutW (.pointer (some ao)) o)) (InW (.pointer (some ai)) i)) X) (Fr.r (((CellW.stab _ _ _).star (OutW.stab _ _)).star (InW.stab _ _)) Fr.id_) HS2d.out)⟩
  refine rests_begin (fun U => U.heap[gt]? = some (.cells #[.int .i64 R, .int .i64 sz, .bool false, .pointer (some ao), .pointer (some ai)] 92 (0, 0)) ∧ U.heap[w.heap.size]? = some (.cells #[.int .i64 seat, .int .i64 count, .bool cmd, .int .i64 1, .int .i64 sort, .int .i64 nr, .int .i64 ns, .bool pf, .string body] 37 (0, 0))) (by kernel_rfl) ?_
  refine rests_take 0 (oi := _) (v := ?_) (by simp only [List.getElem?_toArray, List.getElem?_cons_zero]; rfl) (by kernel_rfl) (by kernel_rfl) (by kernel_rfl) (by exact fun _ _ _ h => h) (HE2d.out) (by rfl) ?_ ?_; rotate_left; (· intro W HW; go_simp; try with_reducible rfl)
  simp only [Act.put, List.setIfInBounds_toArray, List.set_cons_zero, List.set_cons_succ]
  refine rests_take 1 (oi := _) (v := ?_) (by simp only [List.getElem?_toArray, List.getElem?_cons_succ, List.getElem?_cons_zero]; rfl) (by kernel_rfl) (by kernel_rfl) (by kernel_rfl) (by exact fun _ _ _ h => h) (HE2d.out) (by rfl) ?_ ?_; rotate_left; (· intro W HW; go_simp; try with_reducible rfl)
  simp only [Act.put, List.setIfInBounds_toArray, List.set_cons_zero, List.set_cons_succ]
  refine rests_take 2 (oi := _) (v := ?_) (by simp only [List.getElem?_toArray, List.getElem?_cons_succ, List.getElem?_cons_zero]; rfl) (by kernel_rfl) (by kernel_rfl) (by kernel_rfl) (by exact fun _ _ _ h => h) (HE2d.out) (by rfl) ?_ ?_; rotate_left; (· intro W HW; go_simp; try with_reducible rfl)
  simp only [Act.put, List.setIfInBounds_toArray, List.set_cons_zero, List.set_cons_succ]
  refine rests_take 3 (oi := _) (v := ?_) (by simp only [List.getElem?_toArray, List.getElem?_cons_succ, List.getElem?_cons_zero]; rfl) (by kernel_rfl) (by kernel_rfl) (by kernel_rfl) (by exact fun _ _ _ h => h) (HE2d.out) (by rfl) ?_ ?_; rotate_left; (· intro W HW; have z3 : W.cell? ⟨gt, 3, none⟩ = some (.pointer (some ao)) := cell_at HW.1 3 _ rfl; go_simp; try with_reducible rfl)
  simp only [Act.put, List.setIfInBounds_toArray, List.set_cons_zero, List.set_cons_succ]
  refine rests_take 4 (oi := _) (v := ?_) (by simp only [List.getElem?_toArray, List.getElem?_cons_succ, List.getElem?_cons_zero]; rfl) (by kernel_rfl) (by kernel_rfl) (by kernel_rfl) (by exact fun _ _ _ h => h) (HE2d.out) (by rfl) ?_ ?_; rotate_left; (· intro W HW; go_simp; try with_reducible rfl)
  simp only [Act.put, List.setIfInBounds_toArray, List.set_cons_zero, List.set_cons_succ]
  refine rests_take 5 (oi := _) (v := ?_) (by simp only [List.getElem?_toArray, List.getElem?_cons_succ, List.getElem?_cons_zero]; rfl) (by kernel_rfl) (by kernel_rfl) (by kernel_rfl) (by exact fun _ _ _ h => h) (HE2d.out) (by rfl) ?_ ?_; rotate_left; (· intro W HW; have z5 : W.cell? ⟨w.heap.size, 5, none⟩ = some (.int .i64 nr) := cell_at HW.2 5 _ rfl; go_simp; try with_reducible rfl)
  simp only [Act.put, List.setIfInBounds_toArray, List.set_cons_zero, List.set_cons_succ]
  refine rests_call 6 (oi := _) (by simp only [List.getElem?_toArray, List.getElem?_cons_succ, List.getElem?_cons_zero]; rfl) 48 #[.pointer (some ao), .int .i64 nr] _ (by kernel_rfl) (by rfl) (by go_simp) (dcalls_at (C := fun X => Star (Star (Star (CellW gt #[.int .i64 R, .int .i64 sz, .bool false, .pointer (some ao), .pointer (some ai)] 92) X) (InW (.pointer (some ai)) i)) (CellW w.heap.size #[.int .i64 seat, .int .i64 count, .bool cmd, .int .i64 1, .int .i64 sort, .int .i64 nr, .int .i64 ns, .bool pf, .string body] 37)) (Fr.l (Fr.l (Fr.r (CellW.stab _ _ _) Fr.id_) (InW.stab _ _)) (CellW.stab _ _ _)) HS2d.out (fun F hF => OAck_any (.pointer (some ao)) o F nr _ hF HNR.out)) ?_
  rintro e w3 ⟨rfl, hs⟩; have HS3 := Lib.hid hs; have HE3 : Hid ((fun U => U.heap[gt]? = some (.cells #[.int .i64 R, .int .i64 sz, .bool false, .pointer (some ao), .pointer (some ai)] 92 (0, 0)) ∧ U.heap[w.heap.size]? = some (.cells #[.int .i64 seat, .int .i64 count, .bool cmd, .int .i64 1, .int .i64 sort, .int .i64 nr, .int .i64 ns, .bool pf, .string body] 37 (0, 0))) w3) := ⟨(Done.at_ (C := fun X => Star (Star (Star (X) (OutW (.pointer (some ao)) (o.ack nr))) (InW (.pointer (some ai)) i)) (CellW w.heap.size #[.int .i64 seat, .int .i64 count, .bool cmd, .int .i64 1, .int .i64 sort, .int .i64 nr, .int .i64 ns, .bool pf, .string body] 37)) (Fr.l (Fr.l (Fr.l Fr.id_ (OutW.stab _ _)) (InW.stab _ _)) (CellW.stab _ _ _)) hs), (Done.at_ (C := fun X => Star (Star (Star (CellW gt #[.int .i64 R, .int .i64 sz, .bool false, .pointer (some ao), .pointer (some ai)] 92) (OutW (.pointer (some ao)) (o.ack nr))) (InW (.pointer (some ai)) i)) X) (Fr.r (((CellW.stab _ _ _).star (OutW.stab _ _)).star (InW.stab _ _)) Fr.id_) hs)⟩; refine ⟨_, rfl, HE3.out, ?_⟩; clear hs
  simp only [Act.put, List.setIfInBounds_toArray, List.set_cons_zero, List.set_cons_succ]
  refine rests_done (by kernel_rfl) ?_
  have hq := (Done.at_ (C := fun X => Star (Star (Star (X) (OutW (.pointer (some ao)) (o.ack nr))) (InW (.pointer (some ai)) i)) (CellW w.heap.size #[.int .i64 seat, .int .i64 count, .bool cmd, .int .i64 1, .int .i64 sort, .int .i64 nr, .int .i64 ns, .bool pf, .string body] 37)) (Fr.l (Fr.l (Fr.l Fr.id_ (OutW.stab _ _)) (InW.stab _ _)) (CellW.stab _ _ _)) HS3.out)
  have q2 : w3.cell? ⟨gt, 2, none⟩ = some (.bool false) := cell_at hq 2 _ rfl
  have hbx := (Done.at_ (C := fun X => Star (Star (Star (CellW gt #[.int .i64 R, .int .i64 sz, .bool false, .pointer (some ao), .pointer (some ai)] 92) (OutW (.pointer (some ao)) (o.ack nr))) (InW (.pointer (some ai)) i)) X) (Fr.r (((CellW.stab _ _ _).star (OutW.stab _ _)).star (InW.stab _ _)) Fr.id_) HS3.out)
  have y7 : w3.cell? ⟨w.heap.size, 7, none⟩ = some (.bool pf) := cell_at hbx 7 _ rfl
  clear hq hbx
  go_wp2_with ((with_reducible refine wpList_storeD (C := fun X => Star (Star (Star (X) (OutW (.pointer (some ao)) (o.ack nr))) (InW (.pointer (some ai)) i)) (CellW w.heap.size #[.int .i64 seat, .int .i64 count, .bool cmd, .int .i64 1, .int .i64 sort, .int .i64 nr, .int .i64 ns, .bool pf, .string body] 37)) (Fr.l (Fr.l (Fr.l Fr.id_ (OutW.stab _ _)) (InW.stab _ _)) (CellW.stab _ _ _)) HS3.out rfl 4 (.tmp 31) (.tmp 29) rfl 2 (.bool pf) rfl rfl (by simp) (run_storeBo _ _ _) ?_); intro w9 hs; have HS9 : Hid (Done w F (Star (Star (Star (CellW gt #[.int .i64 R, .int .i64 sz, .bool pf, .pointer (some ao), .pointer (some ai)] 92) (OutW (.pointer (some ao)) (o.ack nr))) (InW (.pointer (some ai)) i)) (CellW w.heap.size #[.int .i64 seat, .int .i64 count, .bool cmd, .int .i64 1, .int .i64 sort, .int .i64 nr, .int .i64 ns, .bool pf, .string body] 37)) w9) := (by show Done _ _ _ _; exact hs); have y3 : w9.cell? ⟨w.heap.size, 3, none⟩ = some (.int .i64 1) := cell_at (Done.at_ (C := fun X => Star (Star (Star (CellW gt #[.int .i64 R, .int .i64 sz, .bool pf, .pointer (some ao), .pointer (some ai)] 92) (OutW (.pointer (some ao)) (o.ack nr))) (InW (.pointer (some ai)) i)) X) (Fr.r (((CellW.stab _ _ _).star (OutW.stab _ _)).star (InW.stab _ _)) Fr.id_) HS9.out) 3 _ rfl; clear hs)
  have HS9d := Lib.hid (HS9.out.drewD ((((CellW.stab _ _ _).star (OutW.stab _ _)).star (InW.stab _ _)).star (CellW.stab _ _ _)))
  have HE9d : Hid ((fun U => U.heap[gt]? = some (.cells #[.int .i64 R, .int .i64 sz, .bool pf, .pointer (some ao), .pointer (some ai)] 92 (0, 0)) ∧ U.heap[w.heap.size]? = some (.cells #[.int .i64 seat, .int .i64 count, .bool cmd, .int .i64 1, .int .i64 sort, .int .i64 nr, .int .i64 ns, .bool pf, .string body] 37 (0, 0))) w9.drew) := ⟨(Done.at_ (C := fun X => Star (Star (Star (X) (OutW (.pointer (some ao)) (o.ack nr))) (InW (.pointer (some ai)) i)) (CellW w.heap.size #[.int .i64 seat, .int .i64 count, .bool cmd, .int .i64 1, .int .i64 sort, .int .i64 nr, .int .i64 ns, .bool pf, .string body] 37)) (Fr.l (Fr.l (Fr.l Fr.id_ (OutW.stab _ _)) (InW.stab _ _)) (CellW.stab _ _ _)) HS9d.out), (Done.at_ (C := fun X => Star (Star (Star (CellW gt #[.int .i64 R, .int .i64 sz, .bool pf, .pointer (some ao), .pointer (some ai)] 92) (OutW (.pointer (some ao)) (o.ack nr))) (InW (.pointer (some ai)) i)) X) (Fr.r (((CellW.stab _ _ _).star (OutW.stab _ _)).star (InW.stab _ _)) Fr.id_) HS9d.out)⟩
  refine rests_begin (fun U => U.heap[gt]? = some (.cells #[.int .i64 R, .int .i64 sz, .bool pf, .pointer (some ao), .pointer (some ai)] 92 (0, 0)) ∧ U.heap[w.heap.size]? = some (.cells #[.int .i64 seat, .int .i64 count, .bool cmd, .int .i64 1, .int .i64 sort, .int .i64 nr, .int .i64 ns, .bool pf, .string body] 37 (0, 0))) (by kernel_rfl) ?_
  refine rests_take 0 (oi := _) (v := ?_) (by simp only [List.getElem?_toArray, List.getElem?_cons_zero]; rfl) (by kernel_rfl) (by kernel_rfl) (by kernel_rfl) (by exact fun _ _ _ h => h) (HE9d.out) (by rfl) ?_ ?_; rotate_left; (· intro W HW; go_simp; try with_reducible rfl)
  simp only [Act.put, List.setIfInBounds_toArray, List.set_cons_zero, List.set_cons_succ]
  refine rests_take 1 (oi := _) (v := ?_) (by simp only [List.getElem?_toArray, List.getElem?_cons_succ, List.getElem?_cons_zero]; rfl) (by kernel_rfl) (by kernel_rfl) (by kernel_rfl) (by exact fun _ _ _ h => h) (HE9d.out) (by rfl) ?_ ?_; rotate_left; (· intro W HW; go_simp; try with_reducible rfl)
  simp only [Act.put, List.setIfInBounds_toArray, List.set_cons_zero, List.set_cons_succ]
  refine rests_take 2 (oi := _) (v := ?_) (by simp only [List.getElem?_toArray, List.getElem?_cons_succ, List.getElem?_cons_zero]; rfl) (by kernel_rfl) (by kernel_rfl) (by kernel_rfl) (by exact fun _ _ _ h => h) (HE9d.out) (by rfl) ?_ ?_; rotate_left; (· intro W HW; go_simp; try with_reducible rfl)
  simp only [Act.put, List.setIfInBounds_toArray, List.set_cons_zero, List.set_cons_succ]
  refine rests_take 3 (oi := _) (v := ?_) (by simp only [List.getElem?_toArray, List.getElem?_cons_succ, List.getElem?_cons_zero]; rfl) (by kernel_rfl) (by kernel_rfl) (by kernel_rfl) (by exact fun _ _ _ h => h) (HE9d.out) (by rfl) ?_ ?_; rotate_left; (· intro W HW; have z4 : W.cell? ⟨gt, 4, none⟩ = some (.pointer (some ai)) := cell_at HW.1 4 _ rfl; go_simp; try with_reducible rfl)
  simp only [Act.put, List.setIfInBounds_toArray, List.set_cons_zero, List.set_cons_succ]
  refine rests_take 4 (oi := _) (v := ?_) (by simp only [List.getElem?_toArray, List.getElem?_cons_succ, List.getElem?_cons_zero]; rfl) (by kernel_rfl) (by kernel_rfl) (by kernel_rfl) (by exact fun _ _ _ h => h) (HE9d.out) (by rfl) ?_ ?_; rotate_left; (· intro W HW; go_simp; try with_reducible rfl)
  simp only [Act.put, List.setIfInBounds_toArray, List.set_cons_zero, List.set_cons_succ]
  refine rests_take 5 (oi := _) (v := ?_) (by simp only [List.getElem?_toArray, List.getElem?_cons_succ, List.getElem?_cons_zero]; rfl) (by kernel_rfl) (by kernel_rfl) (by kernel_rfl) (by exact fun _ _ _ h => h) (HE9d.out) (by rfl) ?_ ?_; rotate_left; (· intro W HW; have z6 : W.cell? ⟨w.heap.size, 6, none⟩ = some (.int .i64 ns) := cell_at HW.2 6 _ rfl; go_simp; try with_reducible rfl)
  simp only [Act.put, List.setIfInBounds_toArray, List.set_cons_zero, List.set_cons_succ]
  refine rests_take 6 (oi := _) (v := ?_) (by simp only [List.getElem?_toArray, List.getElem?_cons_succ, List.getElem?_cons_zero]; rfl) (by kernel_rfl) (by kernel_rfl) (by kernel_rfl) (by exact fun _ _ _ h => h) (HE9d.out) (by rfl) ?_ ?_; rotate_left; (· intro W HW; go_simp; try with_reducible rfl)
  simp only [Act.put, List.setIfInBounds_toArray, List.set_cons_zero, List.set_cons_succ]
  refine rests_take 7 (oi := _) (v := ?_) (by simp only [List.getElem?_toArray, List.getElem?_cons_succ, List.getElem?_cons_zero]; rfl) (by kernel_rfl) (by kernel_rfl) (by kernel_rfl) (by exact fun _ _ _ h => h) (HE9d.out) (by rfl) ?_ ?_; rotate_left; (· intro W HW; have z8 : W.cell? ⟨w.heap.size, 8, none⟩ = some (.string body) := cell_at HW.2 8 _ rfl; go_simp; try with_reducible rfl)
  simp only [Act.put, List.setIfInBounds_toArray, List.set_cons_zero, List.set_cons_succ]
  refine rests_call 8 (oi := _) (by simp only [List.getElem?_toArray, List.getElem?_cons_succ, List.getElem?_cons_zero]; rfl) 24 #[.pointer (some ai), .int .i64 ns, .string body] _ (by kernel_rfl) (by rfl) (by go_simp) (dcalls_at (C := fun X => Star (Star (Star (CellW gt #[.int .i64 R, .int .i64 sz, .bool pf, .pointer (some ao), .pointer (some ai)] 92) (OutW (.pointer (some ao)) (o.ack nr))) X) (CellW w.heap.size #[.int .i64 seat, .int .i64 count, .bool cmd, .int .i64 1, .int .i64 sort, .int .i64 nr, .int .i64 ns, .bool pf, .string body] 37)) (Fr.l (Fr.r ((CellW.stab _ _ _).star (OutW.stab _ _)) Fr.id_) (CellW.stab _ _ _)) HS9d.out (fun F hF => ITake_any (.pointer (some ai)) i F ns body _ hF HNS.out HSZ.out)) ?_
  rintro e w10 ⟨rfl, hs⟩; have HS10 := Lib.hid hs; have HE10 : Hid ((fun U => U.heap[gt]? = some (.cells #[.int .i64 R, .int .i64 sz, .bool pf, .pointer (some ao), .pointer (some ai)] 92 (0, 0)) ∧ U.heap[w.heap.size]? = some (.cells #[.int .i64 seat, .int .i64 count, .bool cmd, .int .i64 1, .int .i64 sort, .int .i64 nr, .int .i64 ns, .bool pf, .string body] 37 (0, 0))) w10) := ⟨(Done.at_ (C := fun X => Star (Star (Star (X) (OutW (.pointer (some ao)) (o.ack nr))) (InW (.pointer (some ai)) (i.take ns))) (CellW w.heap.size #[.int .i64 seat, .int .i64 count, .bool cmd, .int .i64 1, .int .i64 sort, .int .i64 nr, .int .i64 ns, .bool pf, .string body] 37)) (Fr.l (Fr.l (Fr.l Fr.id_ (OutW.stab _ _)) (InW.stab _ _)) (CellW.stab _ _ _)) hs), (Done.at_ (C := fun X => Star (Star (Star (CellW gt #[.int .i64 R, .int .i64 sz, .bool pf, .pointer (some ao), .pointer (some ai)] 92) (OutW (.pointer (some ao)) (o.ack nr))) (InW (.pointer (some ai)) (i.take ns))) X) (Fr.r (((CellW.stab _ _ _).star (OutW.stab _ _)).star (InW.stab _ _)) Fr.id_) hs)⟩; refine ⟨_, rfl, HE10.out, ?_⟩; clear hs
  simp only [Act.put, List.setIfInBounds_toArray, List.set_cons_zero, List.set_cons_succ]
  refine rests_take 9 (oi := _) (v := ?_) (by simp only [List.getElem?_toArray, List.getElem?_cons_succ, List.getElem?_cons_zero]; rfl) (by kernel_rfl) (by kernel_rfl) (by kernel_rfl) (by exact fun _ _ _ h => h) (HE10.out) (by rfl) ?_ ?_; rotate_left; (· intro W HW; go_simp; try with_reducible rfl)
  simp only [Act.put, List.setIfInBounds_toArray, List.set_cons_zero, List.set_cons_succ]
  refine rests_take 10 (oi := _) (v := ?_) (by simp only [List.getElem?_toArray, List.getElem?_cons_succ, List.getElem?_cons_zero]; rfl) (by kernel_rfl) (by kernel_rfl) (by kernel_rfl) (by exact fun _ _ _ h => h) (HE10.out) (by rfl) ?_ ?_; rotate_left; (· intro W HW; go_simp; try with_reducible rfl)
  simp only [Act.put, List.setIfInBounds_toArray, List.set_cons_zero, List.set_cons_succ]
  refine rests_take 11 (oi := _) (v := ?_) (by simp only [List.getElem?_toArray, List.getElem?_cons_succ, List.getElem?_cons_zero]; rfl) (by kernel_rfl) (by kernel_rfl) (by kernel_rfl) (by exact fun _ _ _ h => h) (HE10.out) (by rfl) ?_ ?_; rotate_left; (· intro W HW; go_simp; try with_reducible rfl)
  simp only [Act.put, List.setIfInBounds_toArray, List.set_cons_zero, List.set_cons_succ]
  refine rests_take 12 (oi := _) (v := ?_) (by simp only [List.getElem?_toArray, List.getElem?_cons_succ, List.getElem?_cons_zero]; rfl) (by kernel_rfl) (by kernel_rfl) (by kernel_rfl) (by exact fun _ _ _ h => h) (HE10.out) (by rfl) ?_ ?_; rotate_left; (· intro W HW; go_simp; try with_reducible rfl)
  simp only [Act.put, List.setIfInBounds_toArray, List.set_cons_zero, List.set_cons_succ]
  refine rests_done (by kernel_rfl) ?_
  go_wp2
  go_ret2
  exact ⟨rfl, HS10.out.drop⟩
set_option maxRecDepth 100000 in
set_option maxHeartbeats 16000000 in
theorem TnTake_2t (gt : Nat) (ao ai : Addr) (R sz : Int) (o : OutM) (i : InM) (seat count : Int) (cmd : Bool) (sort nr ns : Int) (pf : Bool) (body : ByteArray) (w : World) (F : List Nat) (hr : R = 1 ∨ R = 2) (hf : fitsM R ⟨seat, count, cmd, 2, sort, nr, ns, pf, body⟩ = true) (hnr : (Lit.int .i64 nr).wf = true) (hns : (Lit.int .i64 ns).wf = true) (h : TurnO gt ao ai ⟨R, sz, true, o, i⟩ w F) : Calls Tryz.prog 37 #[.pointer (some ⟨gt, 0, none⟩), .agg #[.int .i64 seat, .int .i64 count, .bool cmd, .int .i64 2, .int .i64 sort, .int .i64 nr, .int .i64 ns, .bool pf, .string body]] w fun e w' => e = .returned (.tuple #[.string (⟨#[]⟩), .bool (false)]) ∧ Done w F (TurnO gt ao ai ⟨R, sz, true, o.ack nr, i⟩) w' := by
  have hS : Done w F (Star (Star (CellW gt #[.int .i64 R, .int .i64 sz, .bool true, .pointer (some ao), .pointer (some ai)] 92) (OutW (.pointer (some ao)) o)) (InW (.pointer (some ai)) i)) w := Done.start h
  have hq := (Done.at_ (C := fun X => Star (Star (X) (OutW (.pointer (some ao)) o)) (InW (.pointer (some ai)) i)) (Fr.l (Fr.l Fr.id_ (OutW.stab _ _)) (InW.stab _ _)) hS)
  have q0 : w.cell? ⟨gt, 0, none⟩ = some (.int .i64 R) := cell_at hq 0 _ rfl
  have hb1 : Below w.heap.size w ((w.alloc (.cells #[.int .i64 seat, .int .i64 count, .bool cmd, .int .i64 2, .int .i64 sort, .int .i64 nr, .int .i64 ns, .bool pf, .string body] 37))) := (Below.refl _ _).alloc (Nat.le_refl _) _
  have hS1 : Done w F (Star (Star (Star (CellW gt #[.int .i64 R, .int .i64 sz, .bool true, .pointer (some ao), .pointer (some ai)] 92) (OutW (.pointer (some ao)) o)) (InW (.pointer (some ai)) i)) (CellW w.heap.size #[.int .i64 seat, .int .i64 count, .bool cmd, .int .i64 2, .int .i64 sort, .int .i64 nr, .int .i64 ns, .bool pf, .string body] 37)) ((w.alloc (.cells #[.int .i64 seat, .int .i64 count, .bool cmd, .int .i64 2, .int .i64 sort, .int .i64 nr, .int .i64 ns, .bool pf, .string body] 37))) := hS.add (((CellW.stab _ _ _).star (OutW.stab _ _)).star (InW.stab _ _)) (CellW.new w _ _)
  have hbx := (Done.at_ (C := fun X => Star (Star (Star (CellW gt #[.int .i64 R, .int .i64 sz, .bool true, .pointer (some ao), .pointer (some ai)] 92) (OutW (.pointer (some ao)) o)) (InW (.pointer (some ai)) i)) X) (Fr.r (((CellW.stab _ _ _).star (OutW.stab _ _)).star (InW.stab _ _)) Fr.id_) hS1)
  have z0 : ((w.alloc (.cells #[.int .i64 seat, .int .i64 count, .bool cmd, .int .i64 2, .int .i64 sort, .int .i64 nr, .int .i64 ns, .bool pf, .string body] 37))).cell? ⟨w.heap.size, 0, none⟩ = some (.int .i64 seat) := cell_at hbx 0 _ rfl
  have z1 : ((w.alloc (.cells #[.int .i64 seat, .int .i64 count, .bool cmd, .int .i64 2, .int .i64 sort, .int .i64 nr, .int .i64 ns, .bool pf, .string body] 37))).cell? ⟨w.heap.size, 1, none⟩ = some (.int .i64 count) := cell_at hbx 1 _ rfl
  have z2 : ((w.alloc (.cells #[.int .i64 seat, .int .i64 count, .bool cmd, .int .i64 2, .int .i64 sort, .int .i64 nr, .int .i64 ns, .bool pf, .string body] 37))).cell? ⟨w.heap.size, 2, none⟩ = some (.bool cmd) := cell_at hbx 2 _ rfl
  have z3 : ((w.alloc (.cells #[.int .i64 seat, .int .i64 count, .bool cmd, .int .i64 2, .int .i64 sort, .int .i64 nr, .int .i64 ns, .bool pf, .string body] 37))).cell? ⟨w.heap.size, 3, none⟩ = some (.int .i64 2) := cell_at hbx 3 _ rfl
  have z4 : ((w.alloc (.cells #[.int .i64 seat, .int .i64 count, .bool cmd, .int .i64 2, .int .i64 sort, .int .i64 nr, .int .i64 ns, .bool pf, .string body] 37))).cell? ⟨w.heap.size, 4, none⟩ = some (.int .i64 sort) := cell_at hbx 4 _ rfl
  have z5 : ((w.alloc (.cells #[.int .i64 seat, .int .i64 count, .bool cmd, .int .i64 2, .int .i64 sort, .int .i64 nr, .int .i64 ns, .bool pf, .string body] 37))).cell? ⟨w.heap.size, 5, none⟩ = some (.int .i64 nr) := cell_at hbx 5 _ rfl
  have z6 : ((w.alloc (.cells #[.int .i64 seat, .int .i64 count, .bool cmd, .int .i64 2, .int .i64 sort, .int .i64 nr, .int .i64 ns, .bool pf, .string body] 37))).cell? ⟨w.heap.size, 6, none⟩ = some (.int .i64 ns) := cell_at hbx 6 _ rfl
  have z7 : ((w.alloc (.cells #[.int .i64 seat, .int .i64 count, .bool cmd, .int .i64 2, .int .i64 sort, .int .i64 nr, .int .i64 ns, .bool pf, .string body] 37))).cell? ⟨w.heap.size, 7, none⟩ = some (.bool pf) := cell_at hbx 7 _ rfl
  have z8 : ((w.alloc (.cells #[.int .i64 seat, .int .i64 count, .bool cmd, .int .i64 2, .int .i64 sort, .int .i64 nr, .int .i64 ns, .bool pf, .string body] 37))).cell? ⟨w.heap.size, 8, none⟩ = some (.string body) := cell_at hbx 8 _ rfl
  have HF := Lib.hid (fun W (hb : Below ((w.alloc (.cells #[.int .i64 seat, .int .i64 count, .bool cmd, .int .i64 2, .int .i64 sort, .int .i64 nr, .int .i64 ns, .bool pf, .string body] 37))).heap.size ((w.alloc (.cells #[.int .i64 seat, .int .i64 count, .bool cmd, .int .i64 2, .int .i64 sort, .int .i64 nr, .int .i64 ns, .bool pf, .string body] 37))) W) => hS1.keep ((((CellW.stab _ _ _).star (OutW.stab _ _)).star (InW.stab _ _)).star (CellW.stab _ _ _)) hb)
  have HT := Lib.hid (TnFits_any gt R ⟨seat, count, cmd, 2, sort, nr, ns, pf, body⟩ ((w.alloc (.cells #[.int .i64 seat, .int .i64 count, .bool cmd, .int .i64 2, .int .i64 sort, .int .i64 nr, .int .i64 ns, .bool pf, .string body] 37))) hr (bel_cell q0 hb1))
  rw [hf] at HT
  have HNR := Lib.hid hnr
  have HNS := Lib.hid hns
  skip
  clear h hS hq q0 hb1 hS1 hbx hr hf hnr hns 
  go_enter Tryz.func37, Tryz.ntmps37
  go_wp2_with (go_at_call 63; ((with_reducible refine (HT.out).mono ?_); rintro e w2 ⟨rfl, hb⟩; have HS2 := Lib.hid (HF.out _ hb); clear hb))
  have HS2d := Lib.hid (HS2.out.drewD ((((CellW.stab _ _ _).star (OutW.stab _ _)).star (InW.stab _ _)).star (CellW.stab _ _ _)))
  have HE2d : Hid ((fun U => U.heap[gt]? = some (.cells #[.int .i64 R, .int .i64 sz, .bool true, .pointer (some ao), .pointer (some ai)] 92 (0, 0)) ∧ U.heap[w.heap.size]? = some (.cells #[.int .i64 seat, .int .i64 count, .bool cmd, .int .i64 2, .int .i64 sort, .int .i64 nr, .int .i64 ns, .bool pf, .string body] 37 (0, 0))) w2.drew) := ⟨(Done.at_ (C := fun X => Star (Star (Star (X) (OutW (.pointer (some ao)) o)) (InW (.pointer (some ai)) i)) (CellW w.heap.size #[.int .i64 seat, .int .i64 count, .bool cmd, .int .i64 2, .int .i64 sort, .int .i64 nr, .int .i64 ns, .bool pf, .string body] 37)) (Fr.l (Fr.l (Fr.l Fr.id_ (OutW.stab _ _)) (InW.stab _ _)) (CellW.stab _ _ _)) HS2d.out), (Done.at_ (C := fun X => Star (Star (Star (CellW gt #[.int .i64 R, .int .i64 sz, .bool true, .pointer (some ao), .pointer (some ai)] 92) (OutW (.pointer (some ao)) o)) (InW (.pointer (some ai)) i)) X) (Fr.r (((CellW.stab _ _ _).star (OutW.stab _ _)).star (InW.stab _ _)) Fr.id_) HS2d.out)⟩
  refine rests_begin (fun U => U.heap[gt]? = some (.cells #[.int .i64 R, .int .i64 sz, .bool true, .pointer (some ao), .pointer (some ai)] 92 (0, 0)) ∧ U.heap[w.heap.size]? = some (.cells #[.int .i64 seat, .int .i64 count, .bool cmd, .int .i64 2, .int .i64 sort, .int .i64 nr, .int .i64 ns, .bool pf, .string body] 37 (0, 0))) (by kernel_rfl) ?_
  refine rests_take 0 (oi := _) (v := ?_) (by simp only [List.getElem?_toArray, List.getElem?_cons_zero]; rfl) (by kernel_rfl) (by kernel_rfl) (by kernel_rfl) (by exact fun _ _ _ h => h) (HE2d.out) (by rfl) ?_ ?_; rotate_left; (· intro W HW; go_simp; try with_reducible rfl)
  simp only [Act.put, List.setIfInBounds_toArray, List.set_cons_zero, List.set_cons_succ]
  refine rests_take 1 (oi := _) (v := ?_) (by simp only [List.getElem?_toArray, List.getElem?_cons_succ, List.getElem?_cons_zero]; rfl) (by kernel_rfl) (by kernel_rfl) (by kernel_rfl) (by exact fun _ _ _ h => h) (HE2d.out) (by rfl) ?_ ?_; rotate_left; (· intro W HW; go_simp; try with_reducible rfl)
  simp only [Act.put, List.setIfInBounds_toArray, List.set_cons_zero, List.set_cons_succ]
  refine rests_take 2 (oi := _) (v := ?_) (by simp only [List.getElem?_toArray, List.getElem?_cons_succ, List.getElem?_cons_zero]; rfl) (by kernel_rfl) (by kernel_rfl) (by kernel_rfl) (by exact fun _ _ _ h => h) (HE2d.out) (by rfl) ?_ ?_; rotate_left; (· intro W HW; go_simp; try with_reducible rfl)
  simp only [Act.put, List.setIfInBounds_toArray, List.set_cons_zero, List.set_cons_succ]
  refine rests_take 3 (oi := _) (v := ?_) (by simp only [List.getElem?_toArray, List.getElem?_cons_succ, List.getElem?_cons_zero]; rfl) (by kernel_rfl) (by kernel_rfl) (by kernel_rfl) (by exact fun _ _ _ h => h) (HE2d.out) (by rfl) ?_ ?_; rotate_left; (· intro W HW; have z3 : W.cell? ⟨gt, 3, none⟩ = some (.pointer (some ao)) := cell_at HW.1 3 _ rfl; go_simp; try with_reducible rfl)
  simp only [Act.put, List.setIfInBounds_toArray, List.set_cons_zero, List.set_cons_succ]
  refine rests_take 4 (oi := _) (v := ?_) (by simp only [List.getElem?_toArray, List.getElem?_cons_succ, List.getElem?_cons_zero]; rfl) (by kernel_rfl) (by kernel_rfl) (by kernel_rfl) (by exact fun _ _ _ h => h) (HE2d.out) (by rfl) ?_ ?_; rotate_left; (· intro W HW; go_simp; try with_reducible rfl)
  simp only [Act.put, List.setIfInBounds_toArray, List.set_cons_zero, List.set_cons_succ]
  refine rests_take 5 (oi := _) (v := ?_) (by simp only [List.getElem?_toArray, List.getElem?_cons_succ, List.getElem?_cons_zero]; rfl) (by kernel_rfl) (by kernel_rfl) (by kernel_rfl) (by exact fun _ _ _ h => h) (HE2d.out) (by rfl) ?_ ?_; rotate_left; (· intro W HW; have z5 : W.cell? ⟨w.heap.size, 5, none⟩ = some (.int .i64 nr) := cell_at HW.2 5 _ rfl; go_simp; try with_reducible rfl)
  simp only [Act.put, List.setIfInBounds_toArray, List.set_cons_zero, List.set_cons_succ]
  refine rests_call 6 (oi := _) (by simp only [List.getElem?_toArray, List.getElem?_cons_succ, List.getElem?_cons_zero]; rfl) 48 #[.pointer (some ao), .int .i64 nr] _ (by kernel_rfl) (by rfl) (by go_simp) (dcalls_at (C := fun X => Star (Star (Star (CellW gt #[.int .i64 R, .int .i64 sz, .bool true, .pointer (some ao), .pointer (some ai)] 92) X) (InW (.pointer (some ai)) i)) (CellW w.heap.size #[.int .i64 seat, .int .i64 count, .bool cmd, .int .i64 2, .int .i64 sort, .int .i64 nr, .int .i64 ns, .bool pf, .string body] 37)) (Fr.l (Fr.l (Fr.r (CellW.stab _ _ _) Fr.id_) (InW.stab _ _)) (CellW.stab _ _ _)) HS2d.out (fun F hF => OAck_any (.pointer (some ao)) o F nr _ hF HNR.out)) ?_
  rintro e w3 ⟨rfl, hs⟩; have HS3 := Lib.hid hs; have HE3 : Hid ((fun U => U.heap[gt]? = some (.cells #[.int .i64 R, .int .i64 sz, .bool true, .pointer (some ao), .pointer (some ai)] 92 (0, 0)) ∧ U.heap[w.heap.size]? = some (.cells #[.int .i64 seat, .int .i64 count, .bool cmd, .int .i64 2, .int .i64 sort, .int .i64 nr, .int .i64 ns, .bool pf, .string body] 37 (0, 0))) w3) := ⟨(Done.at_ (C := fun X => Star (Star (Star (X) (OutW (.pointer (some ao)) (o.ack nr))) (InW (.pointer (some ai)) i)) (CellW w.heap.size #[.int .i64 seat, .int .i64 count, .bool cmd, .int .i64 2, .int .i64 sort, .int .i64 nr, .int .i64 ns, .bool pf, .string body] 37)) (Fr.l (Fr.l (Fr.l Fr.id_ (OutW.stab _ _)) (InW.stab _ _)) (CellW.stab _ _ _)) hs), (Done.at_ (C := fun X => Star (Star (Star (CellW gt #[.int .i64 R, .int .i64 sz, .bool true, .pointer (some ao), .pointer (some ai)] 92) (OutW (.pointer (some ao)) (o.ack nr))) (InW (.pointer (some ai)) i)) X) (Fr.r (((CellW.stab _ _ _).star (OutW.stab _ _)).star (InW.stab _ _)) Fr.id_) hs)⟩; refine ⟨_, rfl, HE3.out, ?_⟩; clear hs
  simp only [Act.put, List.setIfInBounds_toArray, List.set_cons_zero, List.set_cons_succ]
  refine rests_done (by kernel_rfl) ?_
  have hq := (Done.at_ (C := fun X => Star (Star (Star (X) (OutW (.pointer (some ao)) (o.ack nr))) (InW (.pointer (some ai)) i)) (CellW w.heap.size #[.int .i64 seat, .int .i64 count, .bool cmd, .int .i64 2, .int .i64 sort, .int .i64 nr, .int .i64 ns, .bool pf, .string body] 37)) (Fr.l (Fr.l (Fr.l Fr.id_ (OutW.stab _ _)) (InW.stab _ _)) (CellW.stab _ _ _)) HS3.out)
  have q2 : w3.cell? ⟨gt, 2, none⟩ = some (.bool true) := cell_at hq 2 _ rfl
  have hbx := (Done.at_ (C := fun X => Star (Star (Star (CellW gt #[.int .i64 R, .int .i64 sz, .bool true, .pointer (some ao), .pointer (some ai)] 92) (OutW (.pointer (some ao)) (o.ack nr))) (InW (.pointer (some ai)) i)) X) (Fr.r (((CellW.stab _ _ _).star (OutW.stab _ _)).star (InW.stab _ _)) Fr.id_) HS3.out)
  have y7 : w3.cell? ⟨w.heap.size, 7, none⟩ = some (.bool pf) := cell_at hbx 7 _ rfl
  clear hq hbx
  go_wp2_with ((with_reducible refine wpList_storeD (C := fun X => Star (Star (Star (X) (OutW (.pointer (some ao)) (o.ack nr))) (InW (.pointer (some ai)) i)) (CellW w.heap.size #[.int .i64 seat, .int .i64 count, .bool cmd, .int .i64 2, .int .i64 sort, .int .i64 nr, .int .i64 ns, .bool pf, .string body] 37)) (Fr.l (Fr.l (Fr.l Fr.id_ (OutW.stab _ _)) (InW.stab _ _)) (CellW.stab _ _ _)) HS3.out rfl 4 (.tmp 31) (.tmp 29) rfl 2 (.bool true) rfl rfl (by simp) (run_storeBo _ _ _) ?_); intro w9 hs; have HS9 : Hid (Done w F (Star (Star (Star (CellW gt #[.int .i64 R, .int .i64 sz, .bool true, .pointer (some ao), .pointer (some ai)] 92) (OutW (.pointer (some ao)) (o.ack nr))) (InW (.pointer (some ai)) i)) (CellW w.heap.size #[.int .i64 seat, .int .i64 count, .bool cmd, .int .i64 2, .int .i64 sort, .int .i64 nr, .int .i64 ns, .bool pf, .string body] 37)) w9) := (by show Done _ _ _ _; exact hs); have y3 : w9.cell? ⟨w.heap.size, 3, none⟩ = some (.int .i64 2) := cell_at (Done.at_ (C := fun X => Star (Star (Star (CellW gt #[.int .i64 R, .int .i64 sz, .bool true, .pointer (some ao), .pointer (some ai)] 92) (OutW (.pointer (some ao)) (o.ack nr))) (InW (.pointer (some ai)) i)) X) (Fr.r (((CellW.stab _ _ _).star (OutW.stab _ _)).star (InW.stab _ _)) Fr.id_) HS9.out) 3 _ rfl; clear hs)
  go_ret2
  exact ⟨rfl, HS9.out.drop⟩
set_option maxRecDepth 100000 in
set_option maxHeartbeats 16000000 in
theorem TnTake_2f (gt : Nat) (ao ai : Addr) (R sz : Int) (o : OutM) (i : InM) (seat count : Int) (cmd : Bool) (sort nr ns : Int) (pf : Bool) (body : ByteArray) (w : World) (F : List Nat) (hr : R = 1 ∨ R = 2) (hf : fitsM R ⟨seat, count, cmd, 2, sort, nr, ns, pf, body⟩ = true) (hnr : (Lit.int .i64 nr).wf = true) (hns : (Lit.int .i64 ns).wf = true) (h : TurnO gt ao ai ⟨R, sz, false, o, i⟩ w F) : Calls Tryz.prog 37 #[.pointer (some ⟨gt, 0, none⟩), .agg #[.int .i64 seat, .int .i64 count, .bool cmd, .int .i64 2, .int .i64 sort, .int .i64 nr, .int .i64 ns, .bool pf, .string body]] w fun e w' => e = .returned (.tuple #[.string (⟨#[]⟩), .bool (false)]) ∧ Done w F (TurnO gt ao ai ⟨R, sz, pf, o.ack nr, i⟩) w' := by
  have hS : Done w F (Star (Star (CellW gt #[.int .i64 R, .int .i64 sz, .bool false, .pointer (some ao), .pointer (some ai)] 92) (OutW (.pointer (some ao)) o)) (InW (.pointer (some ai)) i)) w := Done.start h
  have hq := (Done.at_ (C := fun X => Star (Star (X) (OutW (.pointer (some ao)) o)) (InW (.pointer (some ai)) i)) (Fr.l (Fr.l Fr.id_ (OutW.stab _ _)) (InW.stab _ _)) hS)
  have q0 : w.cell? ⟨gt, 0, none⟩ = some (.int .i64 R) := cell_at hq 0 _ rfl
  have hb1 : Below w.heap.size w ((w.alloc (.cells #[.int .i64 seat, .int .i64 count, .bool cmd, .int .i64 2, .int .i64 sort, .int .i64 nr, .int .i64 ns, .bool pf, .string body] 37))) := (Below.refl _ _).alloc (Nat.le_refl _) _
  have hS1 : Done w F (Star (Star (Star (CellW gt #[.int .i64 R, .int .i64 sz, .bool false, .pointer (some ao), .pointer (some ai)] 92) (OutW (.pointer (some ao)) o)) (InW (.pointer (some ai)) i)) (CellW w.heap.size #[.int .i64 seat, .int .i64 count, .bool cmd, .int .i64 2, .int .i64 sort, .int .i64 nr, .int .i64 ns, .bool pf, .string body] 37)) ((w.alloc (.cells #[.int .i64 seat, .int .i64 count, .bool cmd, .int .i64 2, .int .i64 sort, .int .i64 nr, .int .i64 ns, .bool pf, .string body] 37))) := hS.add (((CellW.stab _ _ _).star (OutW.stab _ _)).star (InW.stab _ _)) (CellW.new w _ _)
  have hbx := (Done.at_ (C := fun X => Star (Star (Star (CellW gt #[.int .i64 R, .int .i64 sz, .bool false, .pointer (some ao), .pointer (some ai)] 92) (OutW (.pointer (some ao)) o)) (InW (.pointer (some ai)) i)) X) (Fr.r (((CellW.stab _ _ _).star (OutW.stab _ _)).star (InW.stab _ _)) Fr.id_) hS1)
  have z0 : ((w.alloc (.cells #[.int .i64 seat, .int .i64 count, .bool cmd, .int .i64 2, .int .i64 sort, .int .i64 nr, .int .i64 ns, .bool pf, .string body] 37))).cell? ⟨w.heap.size, 0, none⟩ = some (.int .i64 seat) := cell_at hbx 0 _ rfl
  have z1 : ((w.alloc (.cells #[.int .i64 seat, .int .i64 count, .bool cmd, .int .i64 2, .int .i64 sort, .int .i64 nr, .int .i64 ns, .bool pf, .string body] 37))).cell? ⟨w.heap.size, 1, none⟩ = some (.int .i64 count) := cell_at hbx 1 _ rfl
  have z2 : ((w.alloc (.cells #[.int .i64 seat, .int .i64 count, .bool cmd, .int .i64 2, .int .i64 sort, .int .i64 nr, .int .i64 ns, .bool pf, .string body] 37))).cell? ⟨w.heap.size, 2, none⟩ = some (.bool cmd) := cell_at hbx 2 _ rfl
  have z3 : ((w.alloc (.cells #[.int .i64 seat, .int .i64 count, .bool cmd, .int .i64 2, .int .i64 sort, .int .i64 nr, .int .i64 ns, .bool pf, .string body] 37))).cell? ⟨w.heap.size, 3, none⟩ = some (.int .i64 2) := cell_at hbx 3 _ rfl
  have z4 : ((w.alloc (.cells #[.int .i64 seat, .int .i64 count, .bool cmd, .int .i64 2, .int .i64 sort, .int .i64 nr, .int .i64 ns, .bool pf, .string body] 37))).cell? ⟨w.heap.size, 4, none⟩ = some (.int .i64 sort) := cell_at hbx 4 _ rfl
  have z5 : ((w.alloc (.cells #[.int .i64 seat, .int .i64 count, .bool cmd, .int .i64 2, .int .i64 sort, .int .i64 nr, .int .i64 ns, .bool pf, .string body] 37))).cell? ⟨w.heap.size, 5, none⟩ = some (.int .i64 nr) := cell_at hbx 5 _ rfl
  have z6 : ((w.alloc (.cells #[.int .i64 seat, .int .i64 count, .bool cmd, .int .i64 2, .int .i64 sort, .int .i64 nr, .int .i64 ns, .bool pf, .string body] 37))).cell? ⟨w.heap.size, 6, none⟩ = some (.int .i64 ns) := cell_at hbx 6 _ rfl
  have z7 : ((w.alloc (.cells #[.int .i64 seat, .int .i64 count, .bool cmd, .int .i64 2, .int .i64 sort, .int .i64 nr, .int .i64 ns, .bool pf, .string body] 37))).cell? ⟨w.heap.size, 7, none⟩ = some (.bool pf) := cell_at hbx 7 _ rfl
  have z8 : ((w.alloc (.cells #[.int .i64 seat, .int .i64 count, .bool cmd, .int .i64 2, .int .i64 sort, .int .i64 nr, .int .i64 ns, .bool pf, .string body] 37))).cell? ⟨w.heap.size, 8, none⟩ = some (.string body) := cell_at hbx 8 _ rfl
  have HF := Lib.hid (fun W (hb : Below ((w.alloc (.cells #[.int .i64 seat, .int .i64 count, .bool cmd, .int .i64 2, .int .i64 sort, .int .i64 nr, .int .i64 ns, .bool pf, .string body] 37))).heap.size ((w.alloc (.cells #[.int .i64 seat, .int .i64 count, .bool cmd, .int .i64 2, .int .i64 sort, .int .i64 nr, .int .i64 ns, .bool pf, .string body] 37))) W) => hS1.keep ((((CellW.stab _ _ _).star (OutW.stab _ _)).star (InW.stab _ _)).star (CellW.stab _ _ _)) hb)
  have HT := Lib.hid (TnFits_any gt R ⟨seat, count, cmd, 2, sort, nr, ns, pf, body⟩ ((w.alloc (.cells #[.int .i64 seat, .int .i64 count, .bool cmd, .int .i64 2, .int .i64 sort, .int .i64 nr, .int .i64 ns, .bool pf, .string body] 37))) hr (bel_cell q0 hb1))
  rw [hf] at HT
  have HNR := Lib.hid hnr
  have HNS := Lib.hid hns
  skip
  clear h hS hq q0 hb1 hS1 hbx hr hf hnr hns 
  go_enter Tryz.func37, Tryz.ntmps37
  go_wp2_with (go_at_call 63; ((with_reducible refine (HT.out).mono ?_); rintro e w2 ⟨rfl, hb⟩; have HS2 := Lib.hid (HF.out _ hb); clear hb))
  have HS2d := Lib.hid (HS2.out.drewD ((((CellW.stab _ _ _).star (OutW.stab _ _)).star (InW.stab _ _)).star (CellW.stab _ _ _)))
  have HE2d : Hid ((fun U => U.heap[gt]? = some (.cells #[.int .i64 R, .int .i64 sz, .bool false, .pointer (some ao), .pointer (some ai)] 92 (0, 0)) ∧ U.heap[w.heap.size]? = some (.cells #[.int .i64 seat, .int .i64 count, .bool cmd, .int .i64 2, .int .i64 sort, .int .i64 nr, .int .i64 ns, .bool pf, .string body] 37 (0, 0))) w2.drew) := ⟨(Done.at_ (C := fun X => Star (Star (Star (X) (OutW (.pointer (some ao)) o)) (InW (.pointer (some ai)) i)) (CellW w.heap.size #[.int .i64 seat, .int .i64 count, .bool cmd, .int .i64 2, .int .i64 sort, .int .i64 nr, .int .i64 ns, .bool pf, .string body] 37)) (Fr.l (Fr.l (Fr.l Fr.id_ (OutW.stab _ _)) (InW.stab _ _)) (CellW.stab _ _ _)) HS2d.out), (Done.at_ (C := fun X => Star (Star (Star (CellW gt #[.int .i64 R, .int .i64 sz, .bool false, .pointer (some ao), .pointer (some ai)] 92) (OutW (.pointer (some ao)) o)) (InW (.pointer (some ai)) i)) X) (Fr.r (((CellW.stab _ _ _).star (OutW.stab _ _)).star (InW.stab _ _)) Fr.id_) HS2d.out)⟩
  refine rests_begin (fun U => U.heap[gt]? = some (.cells #[.int .i64 R, .int .i64 sz, .bool false, .pointer (some ao), .pointer (some ai)] 92 (0, 0)) ∧ U.heap[w.heap.size]? = some (.cells #[.int .i64 seat, .int .i64 count, .bool cmd, .int .i64 2, .int .i64 sort, .int .i64 nr, .int .i64 ns, .bool pf, .string body] 37 (0, 0))) (by kernel_rfl) ?_
  refine rests_take 0 (oi := _) (v := ?_) (by simp only [List.getElem?_toArray, List.getElem?_cons_zero]; rfl) (by kernel_rfl) (by kernel_rfl) (by kernel_rfl) (by exact fun _ _ _ h => h) (HE2d.out) (by rfl) ?_ ?_; rotate_left; (· intro W HW; go_simp; try with_reducible rfl)
  simp only [Act.put, List.setIfInBounds_toArray, List.set_cons_zero, List.set_cons_succ]
  refine rests_take 1 (oi := _) (v := ?_) (by simp only [List.getElem?_toArray, List.getElem?_cons_succ, List.getElem?_cons_zero]; rfl) (by kernel_rfl) (by kernel_rfl) (by kernel_rfl) (by exact fun _ _ _ h => h) (HE2d.out) (by rfl) ?_ ?_; rotate_left; (· intro W HW; go_simp; try with_reducible rfl)
  simp only [Act.put, List.setIfInBounds_toArray, List.set_cons_zero, List.set_cons_succ]
  refine rests_take 2 (oi := _) (v := ?_) (by simp only [List.getElem?_toArray, List.getElem?_cons_succ, List.getElem?_cons_zero]; rfl) (by kernel_rfl) (by kernel_rfl) (by kernel_rfl) (by exact fun _ _ _ h => h) (HE2d.out) (by rfl) ?_ ?_; rotate_left; (· intro W HW; go_simp; try with_reducible rfl)
  simp only [Act.put, List.setIfInBounds_toArray, List.set_cons_zero, List.set_cons_succ]
  refine rests_take 3 (oi := _) (v := ?_) (by simp only [List.getElem?_toArray, List.getElem?_cons_succ, List.getElem?_cons_zero]; rfl) (by kernel_rfl) (by kernel_rfl) (by kernel_rfl) (by exact fun _ _ _ h => h) (HE2d.out) (by rfl) ?_ ?_; rotate_left; (· intro W HW; have z3 : W.cell? ⟨gt, 3, none⟩ = some (.pointer (some ao)) := cell_at HW.1 3 _ rfl; go_simp; try with_reducible rfl)
  simp only [Act.put, List.setIfInBounds_toArray, List.set_cons_zero, List.set_cons_succ]
  refine rests_take 4 (oi := _) (v := ?_) (by simp only [List.getElem?_toArray, List.getElem?_cons_succ, List.getElem?_cons_zero]; rfl) (by kernel_rfl) (by kernel_rfl) (by kernel_rfl) (by exact fun _ _ _ h => h) (HE2d.out) (by rfl) ?_ ?_; rotate_left; (· intro W HW; go_simp; try with_reducible rfl)
  simp only [Act.put, List.setIfInBounds_toArray, List.set_cons_zero, List.set_cons_succ]
  refine rests_take 5 (oi := _) (v := ?_) (by simp only [List.getElem?_toArray, List.getElem?_cons_succ, List.getElem?_cons_zero]; rfl) (by kernel_rfl) (by kernel_rfl) (by kernel_rfl) (by exact fun _ _ _ h => h) (HE2d.out) (by rfl) ?_ ?_; rotate_left; (· intro W HW; have z5 : W.cell? ⟨w.heap.size, 5, none⟩ = some (.int .i64 nr) := cell_at HW.2 5 _ rfl; go_simp; try with_reducible rfl)
  simp only [Act.put, List.setIfInBounds_toArray, List.set_cons_zero, List.set_cons_succ]
  refine rests_call 6 (oi := _) (by simp only [List.getElem?_toArray, List.getElem?_cons_succ, List.getElem?_cons_zero]; rfl) 48 #[.pointer (some ao), .int .i64 nr] _ (by kernel_rfl) (by rfl) (by go_simp) (dcalls_at (C := fun X => Star (Star (Star (CellW gt #[.int .i64 R, .int .i64 sz, .bool false, .pointer (some ao), .pointer (some ai)] 92) X) (InW (.pointer (some ai)) i)) (CellW w.heap.size #[.int .i64 seat, .int .i64 count, .bool cmd, .int .i64 2, .int .i64 sort, .int .i64 nr, .int .i64 ns, .bool pf, .string body] 37)) (Fr.l (Fr.l (Fr.r (CellW.stab _ _ _) Fr.id_) (InW.stab _ _)) (CellW.stab _ _ _)) HS2d.out (fun F hF => OAck_any (.pointer (some ao)) o F nr _ hF HNR.out)) ?_
  rintro e w3 ⟨rfl, hs⟩; have HS3 := Lib.hid hs; have HE3 : Hid ((fun U => U.heap[gt]? = some (.cells #[.int .i64 R, .int .i64 sz, .bool false, .pointer (some ao), .pointer (some ai)] 92 (0, 0)) ∧ U.heap[w.heap.size]? = some (.cells #[.int .i64 seat, .int .i64 count, .bool cmd, .int .i64 2, .int .i64 sort, .int .i64 nr, .int .i64 ns, .bool pf, .string body] 37 (0, 0))) w3) := ⟨(Done.at_ (C := fun X => Star (Star (Star (X) (OutW (.pointer (some ao)) (o.ack nr))) (InW (.pointer (some ai)) i)) (CellW w.heap.size #[.int .i64 seat, .int .i64 count, .bool cmd, .int .i64 2, .int .i64 sort, .int .i64 nr, .int .i64 ns, .bool pf, .string body] 37)) (Fr.l (Fr.l (Fr.l Fr.id_ (OutW.stab _ _)) (InW.stab _ _)) (CellW.stab _ _ _)) hs), (Done.at_ (C := fun X => Star (Star (Star (CellW gt #[.int .i64 R, .int .i64 sz, .bool false, .pointer (some ao), .pointer (some ai)] 92) (OutW (.pointer (some ao)) (o.ack nr))) (InW (.pointer (some ai)) i)) X) (Fr.r (((CellW.stab _ _ _).star (OutW.stab _ _)).star (InW.stab _ _)) Fr.id_) hs)⟩; refine ⟨_, rfl, HE3.out, ?_⟩; clear hs
  simp only [Act.put, List.setIfInBounds_toArray, List.set_cons_zero, List.set_cons_succ]
  refine rests_done (by kernel_rfl) ?_
  have hq := (Done.at_ (C := fun X => Star (Star (Star (X) (OutW (.pointer (some ao)) (o.ack nr))) (InW (.pointer (some ai)) i)) (CellW w.heap.size #[.int .i64 seat, .int .i64 count, .bool cmd, .int .i64 2, .int .i64 sort, .int .i64 nr, .int .i64 ns, .bool pf, .string body] 37)) (Fr.l (Fr.l (Fr.l Fr.id_ (OutW.stab _ _)) (InW.stab _ _)) (CellW.stab _ _ _)) HS3.out)
  have q2 : w3.cell? ⟨gt, 2, none⟩ = some (.bool false) := cell_at hq 2 _ rfl
  have hbx := (Done.at_ (C := fun X => Star (Star (Star (CellW gt #[.int .i64 R, .int .i64 sz, .bool false, .pointer (some ao), .pointer (some ai)] 92) (OutW (.pointer (some ao)) (o.ack nr))) (InW (.pointer (some ai)) i)) X) (Fr.r (((CellW.stab _ _ _).star (OutW.stab _ _)).star (InW.stab _ _)) Fr.id_) HS3.out)
  have y7 : w3.cell? ⟨w.heap.size, 7, none⟩ = some (.bool pf) := cell_at hbx 7 _ rfl
  clear hq hbx
  go_wp2_with ((with_reducible refine wpList_storeD (C := fun X => Star (Star (Star (X) (OutW (.pointer (some ao)) (o.ack nr))) (InW (.pointer (some ai)) i)) (CellW w.heap.size #[.int .i64 seat, .int .i64 count, .bool cmd, .int .i64 2, .int .i64 sort, .int .i64 nr, .int .i64 ns, .bool pf, .string body] 37)) (Fr.l (Fr.l (Fr.l Fr.id_ (OutW.stab _ _)) (InW.stab _ _)) (CellW.stab _ _ _)) HS3.out rfl 4 (.tmp 31) (.tmp 29) rfl 2 (.bool pf) rfl rfl (by simp) (run_storeBo _ _ _) ?_); intro w9 hs; have HS9 : Hid (Done w F (Star (Star (Star (CellW gt #[.int .i64 R, .int .i64 sz, .bool pf, .pointer (some ao), .pointer (some ai)] 92) (OutW (.pointer (some ao)) (o.ack nr))) (InW (.pointer (some ai)) i)) (CellW w.heap.size #[.int .i64 seat, .int .i64 count, .bool cmd, .int .i64 2, .int .i64 sort, .int .i64 nr, .int .i64 ns, .bool pf, .string body] 37)) w9) := (by show Done _ _ _ _; exact hs); have y3 : w9.cell? ⟨w.heap.size, 3, none⟩ = some (.int .i64 2) := cell_at (Done.at_ (C := fun X => Star (Star (Star (CellW gt #[.int .i64 R, .int .i64 sz, .bool pf, .pointer (some ao), .pointer (some ai)] 92) (OutW (.pointer (some ao)) (o.ack nr))) (InW (.pointer (some ai)) i)) X) (Fr.r (((CellW.stab _ _ _).star (OutW.stab _ _)).star (InW.stab _ _)) Fr.id_) HS9.out) 3 _ rfl; clear hs)
  go_ret2
  exact ⟨rfl, HS9.out.drop⟩
theorem TnTake_any (v : Value) (m : TurnM) (F : List Nat) (p : PIn) (w : World) (h : TurnW v m w F) (hp : p.ok) (hb : m.hears p = true → p.body.size ≤ 281474976710656) : Calls Tryz.prog 37 #[v, p.val] w fun e w' => e = .returned (.tuple #[.string (m.told p), .bool (m.tells p)]) ∧ Done w F (TurnW v (m.take p)) w' := by
  obtain ⟨hok, gt, ao, ai, rfl, h⟩ := h
  have hok2 := hok.take p
  have hr := hok.role
  obtain ⟨R, sz, mi, o, i⟩ := m
  obtain ⟨seat, count, cmd, kind, sort, nr, ns, pf, body⟩ := p
  obtain ⟨_, _, _, _, hnr, hns, _⟩ := hp
  simp only at hr hnr hns
  have hh : TurnM.hears ⟨R, sz, mi, o, i⟩ ⟨seat, count, cmd, kind, sort, nr, ns, pf, body⟩ = fitsM R ⟨seat, count, cmd, kind, sort, nr, ns, pf, body⟩ := rfl
  have e1 : TurnM.tells ⟨R, sz, mi, o, i⟩ ⟨seat, count, cmd, kind, sort, nr, ns, pf, body⟩ = (fitsM R ⟨seat, count, cmd, kind, sort, nr, ns, pf, body⟩ && (decide (kind = 1) && i.hit ns)) := rfl
  have e2 : TurnM.told ⟨R, sz, mi, o, i⟩ ⟨seat, count, cmd, kind, sort, nr, ns, pf, body⟩ = if TurnM.tells ⟨R, sz, mi, o, i⟩ ⟨seat, count, cmd, kind, sort, nr, ns, pf, body⟩ then body else ⟨#[]⟩ := rfl
  have e3 : TurnM.take ⟨R, sz, mi, o, i⟩ ⟨seat, count, cmd, kind, sort, nr, ns, pf, body⟩ = if TurnM.hears ⟨R, sz, mi, o, i⟩ ⟨seat, count, cmd, kind, sort, nr, ns, pf, body⟩ then ⟨R, sz, mi || pf, o.ack nr, if kind = 1 then i.take ns else i⟩ else ⟨R, sz, mi, o, i⟩ := rfl
  rw [hh] at e3 hb
  by_cases hf : fitsM R ⟨seat, count, cmd, kind, sort, nr, ns, pf, body⟩ = true
  · rw [hf] at e1 e3
    rw [if_pos rfl] at e3
    rw [Bool.true_and] at e1
    have hk : kind = 1 ∨ kind = 2 := by
      have h1 := of_decide_eq_true hf
      have h2 := h1.1
      have h3 := h1.2.1
      simp only at h2 h3
      omega
    have hbz := hb hf
    rcases hk with rfl | rfl
    · rw [if_pos rfl] at e3
      have e1 : TurnM.tells ⟨R, sz, mi, o, i⟩ ⟨seat, count, cmd, 1, sort, nr, ns, pf, body⟩ = i.hit ns := e1
      have e4 : TurnM.told ⟨R, sz, mi, o, i⟩ ⟨seat, count, cmd, 1, sort, nr, ns, pf, body⟩ = i.told ns body := by rw [e2, e1]; rfl
      rw [e3] at hok2
      rw [e1, e3, e4]
      cases mi
      · exact (TnTake_1f gt ao ai R sz o i seat count cmd sort nr ns pf body w F hr hf hnr hns (fun _ => hbz) h).mono fun e w' ⟨he, hd⟩ => ⟨he, hd.mono fun F hF => ⟨hok2, gt, ao, ai, rfl, hF⟩⟩
      · exact (TnTake_1t gt ao ai R sz o i seat count cmd sort nr ns pf body w F hr hf hnr hns (fun _ => hbz) h).mono fun e w' ⟨he, hd⟩ => ⟨he, hd.mono fun F hF => ⟨hok2, gt, ao, ai, rfl, hF⟩⟩
    · rw [if_neg (by decide)] at e3
      have e1 : TurnM.tells ⟨R, sz, mi, o, i⟩ ⟨seat, count, cmd, 2, sort, nr, ns, pf, body⟩ = false := e1
      have e4 : TurnM.told ⟨R, sz, mi, o, i⟩ ⟨seat, count, cmd, 2, sort, nr, ns, pf, body⟩ = ⟨#[]⟩ := by rw [e2, e1]; rfl
      rw [e3] at hok2
      rw [e1, e3, e4]
      cases mi
      · exact (TnTake_2f gt ao ai R sz o i seat count cmd sort nr ns pf body w F hr hf hnr hns h).mono fun e w' ⟨he, hd⟩ => ⟨he, hd.mono fun F hF => ⟨hok2, gt, ao, ai, rfl, hF⟩⟩
      · exact (TnTake_2t gt ao ai R sz o i seat count cmd sort nr ns pf body w F hr hf hnr hns h).mono fun e w' ⟨he, hd⟩ => ⟨he, hd.mono fun F hF => ⟨hok2, gt, ao, ai, rfl, hF⟩⟩
  · have hf : fitsM R ⟨seat, count, cmd, kind, sort, nr, ns, pf, body⟩ = false := by simpa using hf
    rw [hf] at e1 e3
    rw [Bool.false_and] at e1
    rw [if_neg (by decide)] at e3
    have e4 : TurnM.told ⟨R, sz, mi, o, i⟩ ⟨seat, count, cmd, kind, sort, nr, ns, pf, body⟩ = ⟨#[]⟩ := by rw [e2, e1]; rfl
    rw [e3] at hok2
    rw [e1, e3, e4]
    exact (TnTake_nof gt ao ai R sz mi o i seat count cmd kind sort nr ns pf body w F hr hf h).mono fun e w' ⟨he, hd⟩ => ⟨he, hd.mono fun F hF => ⟨hok2, gt, ao, ai, rfl, hF⟩⟩
end Go.Proofs.YtocjhpaackccpaaGreatDoor
