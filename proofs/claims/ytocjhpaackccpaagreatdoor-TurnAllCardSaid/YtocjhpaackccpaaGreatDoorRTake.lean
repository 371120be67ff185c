/- The reference of layer 12: one side hears. -/
import Derived.Test.YtocjhpaackccpaaGreatDoorRT
import Derived.Test.YtocjhpaackccpaaGreatDoorN12A

set_option linter.all false

namespace Go.Proofs.YtocjhpaackccpaaGreatDoor
open Go.RowKit M

set_option maxRecDepth 100000 in
set_option maxHeartbeats 16000000 in
theorem RInnT_any (g go : Nat) (m : TurnM) (q : Int) (s : ByteArray) (w : World) (F : List Nat) (hm : m.inn.ok) (h : CellW g (turnc m go) 58 w F) : Calls Tryz.prog 25 #[.pointer (some ⟨g, 4, none⟩), .int .i64 q, .string s] w fun e w' => e = .returned (.tuple #[.string (m.inn.told q s), .bool (m.inn.hit q)]) ∧ Done w F (CellW g (turnc { m with inn := m.inn.take q } go) 58) w' := by
  obtain ⟨rfl, h⟩ := h
  obtain ⟨R, sz, mi, o, ⟨r, od⟩⟩ := m
  unfold turnc at h
  simp only at h
  have hr : r < 8 := hm
  have c0 : w.cell? ⟨g, 4, none⟩ = some (.int .i64 (r : Int)) := cell_at h 4 _ rfl
  have c1 : w.cell? ⟨g, 5, none⟩ = some (.bool od) := cell_at h 5 _ rfl
  have f0 := frz_at h 4
  have f1 := frz_at h 5
  by_cases hq : q = (r : Int)
  · have hh : InM.hit ⟨r, od⟩ q = true := decide_eq_true hq
    have e1 : IntKind.i64.wrap ((r : Int) + 1) = (r : Int) + 1 := IntWalk.i64_in _ (by omega)
    have hmm := fun w => RMod_any ((r : Int) + 1) w
    rw [show m8 ((r : Int) + 1) = (((r + 1) % 8 : Nat) : Int) by unfold m8; omega] at hmm
    unfold InM.told InM.take
    simp only [hh, if_true]
    subst hq
    generalize (r + 1) % 8 = r' at hmm ⊢
    have HM := Lib.hid hmm
    have H := Lib.hid h
    clear h hmm hr hm hh
    go_enter Tryz.func25, Tryz.ntmps25
    go_wp2_with (go_at_call 19; (with_reducible refine (HM.out _).mono ?_); rintro e w' ⟨rfl, hw'⟩; rw [hw']; clear hw')
    go_ret2
    refine ⟨rfl, CellW.put (cs := (turnc ⟨R, sz, mi, o, ⟨r, od⟩⟩ go)) ⟨rfl, H.out⟩ (grown_set (p := ⟨g, 5, none⟩) (grown_set (p := ⟨g, 4, none⟩) (grownBy_refl w (some g)) rfl (.int .i64 (r' : Int))) rfl (.bool false)) ?_⟩
    exact set_block (set_block H.out 4 (.int .i64 (r' : Int))) 5 (.bool false)
  · have hh : InM.hit ⟨r, od⟩ q = false := decide_eq_false hq
    have hb : (q == (r : Int)) = false := beq_eq_false_iff_ne.2 hq
    unfold InM.told InM.take
    simp only [hh, Bool.false_eq_true, if_false]
    have H := Lib.hid h
    clear h hr hm hh hq
    go_enter Tryz.func25, Tryz.ntmps25
    go_wp2
    go_ret2
    refine ⟨rfl, CellW.put (cs := (turnc ⟨R, sz, mi, o, ⟨r, od⟩⟩ go)) ⟨rfl, H.out⟩ (grown_set (p := ⟨g, 5, none⟩) (grownBy_refl w (some g)) rfl (.bool true)) ?_⟩
    exact set_block H.out 5 (.bool true)
theorem takeC {w0 W : World} {F0 : List Nat} {g gp go : Nat} {m : TurnM} {seat count kind sort nr ns : Int} {cmd pf : Bool} {body : ByteArray} {K : Obj} (hK : Stab K) (h : Done w0 F0 (Star (Star (CellW g (turnc m go) 58) K) (CellW gp #[.int .i64 seat, .int .i64 count, .bool cmd, .int .i64 kind, .int .i64 sort, .int .i64 nr, .int .i64 ns, .bool pf, .string body] 37)) W) :
    W.cell? ⟨g, 0, none⟩ = some (.int .i64 m.role) ∧ W.cell? ⟨gp, 2, none⟩ = some (.bool cmd) ∧ W.cell? ⟨gp, 3, none⟩ = some (.int .i64 kind) ∧ W.cell? ⟨gp, 5, none⟩ = some (.int .i64 nr) ∧ W.cell? ⟨gp, 6, none⟩ = some (.int .i64 ns) := by
  have h1 : W.heap[g]? = some (.cells (turnc m go) 58 (0, 0)) := Done.at_ (C := fun X => Star (Star X K) (CellW gp #[.int .i64 seat, .int .i64 count, .bool cmd, .int .i64 kind, .int .i64 sort, .int .i64 nr, .int .i64 ns, .bool pf, .string body] 37)) (Fr.l (Fr.l Fr.id_ hK) (CellW.stab _ _ _)) h
  have h2 := Done.at_ (C := fun X => Star (Star (CellW g (turnc m go) 58) K) X) (Fr.r ((CellW.stab _ _ _).star hK) Fr.id_) h
  exact ⟨cell_at h1 0 _ rfl, cell_at h2 2 _ rfl, cell_at h2 3 _ rfl, cell_at h2 5 _ rfl, cell_at h2 6 _ rfl⟩
set_option maxRecDepth 100000 in
set_option maxHeartbeats 16000000 in
theorem RTake_no1 (g go : Nat) (R : Int) (cmd : Bool) (sz : Int) (mi : Bool) (o : OutM) (i : InM) (F : List Nat) (seat count kind sort nr ns : Int) (pf : Bool) (body : ByteArray) (w : World) (h1 : kind < 1) (h : RTn2 g go ⟨R, sz, mi, o, i⟩ w F) : Calls Tryz.prog 38 #[.pointer (some ⟨g, 0, none⟩), .agg #[.int .i64 seat, .int .i64 count, .bool cmd, .int .i64 kind, .int .i64 sort, .int .i64 nr, .int .i64 ns, .bool pf, .string body]] w fun e w' => e = .returned (.tuple #[.string ⟨#[]⟩, .bool false]) ∧ Done w F (RTn2 g go ⟨R, sz, mi, o, i⟩) w' := by
  have HS : Hid (Done w F (Star (Star (CellW g (turnc ⟨R, sz, mi, o, i⟩ go) 58) (ROut go o)) (CellW w.heap.size #[.int .i64 seat, .int .i64 count, .bool cmd, .int .i64 kind, .int .i64 sort, .int .i64 nr, .int .i64 ns, .bool pf, .string body] 37)) (w.alloc (.cells #[.int .i64 seat, .int .i64 count, .bool cmd, .int .i64 kind, .int .i64 sort, .int .i64 nr, .int .i64 ns, .bool pf, .string body] 37))) := (Done.start h).add ((CellW.stab _ _ _).star (ROut.stab _ _)) (CellW.new w #[.int .i64 seat, .int .i64 count, .bool cmd, .int .i64 kind, .int .i64 sort, .int .i64 nr, .int .i64 ns, .bool pf, .string body] 37)
  clear h
  have t1 : decide (kind < 1) = true := decide_eq_true h1
  clear h1
  go_enter Tryz.func38, Tryz.ntmps38
  go_wp2
  refine regq (fun W => Done w F (Star (Star (CellW g (turnc ⟨R, sz, mi, o, i⟩ go) 58) (ROut go o)) (CellW w.heap.size #[.int .i64 seat, .int .i64 count, .bool cmd, .int .i64 kind, .int .i64 sort, .int .i64 nr, .int .i64 ns, .bool pf, .string body] 37)) W) (by kernel_rfl) (by kernel_rfl) (HS.out.drewD (((CellW.stab _ _ _).star (ROut.stab _ _)).star (CellW.stab _ _ _))) ?_
  iterate 38 (first | (refine q_skip (by rfl) ?_; simp only [Act.put, List.setIfInBounds_toArray, List.set_cons_zero, List.set_cons_succ]) | (refine q_take (v := ?_) (by rfl) ?_ ?_; rotate_left; (· intro W HW; obtain ⟨z0, z2, z3, z5, z6⟩ := takeC (ROut.stab _ _) HW; go_simp; try with_reducible rfl); simp only [Act.put, List.setIfInBounds_toArray, List.set_cons_zero, List.set_cons_succ]))
  refine q_done ?_
  intro w1 hs
  have HS1 := Lib.hid hs
  clear hs
  go_wp2
  go_ret2
  exact ⟨rfl, HS1.out.drop⟩
set_option maxRecDepth 100000 in
set_option maxHeartbeats 16000000 in
theorem RTake_no2 (g go : Nat) (R : Int) (cmd : Bool) (sz : Int) (mi : Bool) (o : OutM) (i : InM) (F : List Nat) (seat count kind sort nr ns : Int) (pf : Bool) (body : ByteArray) (w : World) (h1 : ¬ kind < 1) (h2 : 2 < kind) (h : RTn2 g go ⟨R, sz, mi, o, i⟩ w F) : Calls Tryz.prog 38 #[.pointer (some ⟨g, 0, none⟩), .agg #[.int .i64 seat, .int .i64 count, .bool cmd, .int .i64 kind, .int .i64 sort, .int .i64 nr, .int .i64 ns, .bool pf, .string body]] w fun e w' => e = .returned (.tuple #[.string ⟨#[]⟩, .bool false]) ∧ Done w F (RTn2 g go ⟨R, sz, mi, o, i⟩) w' := by
  have HS : Hid (Done w F (Star (Star (CellW g (turnc ⟨R, sz, mi, o, i⟩ go) 58) (ROut go o)) (CellW w.heap.size #[.int .i64 seat, .int .i64 count, .bool cmd, .int .i64 kind, .int .i64 sort, .int .i64 nr, .int .i64 ns, .bool pf, .string body] 37)) (w.alloc (.cells #[.int .i64 seat, .int .i64 count, .bool cmd, .int .i64 kind, .int .i64 sort, .int .i64 nr, .int .i64 ns, .bool pf, .string body] 37))) := (Done.start h).add ((CellW.stab _ _ _).star (ROut.stab _ _)) (CellW.new w #[.int .i64 seat, .int .i64 count, .bool cmd, .int .i64 kind, .int .i64 sort, .int .i64 nr, .int .i64 ns, .bool pf, .string body] 37)
  clear h
  have t1 : decide (kind < 1) = false := decide_eq_false h1
  have t2 : decide (2 < kind) = true := decide_eq_true h2
  clear h1 h2
  go_enter Tryz.func38, Tryz.ntmps38
  go_wp2
  refine regq (fun W => Done w F (Star (Star (CellW g (turnc ⟨R, sz, mi, o, i⟩ go) 58) (ROut go o)) (CellW w.heap.size #[.int .i64 seat, .int .i64 count, .bool cmd, .int .i64 kind, .int .i64 sort, .int .i64 nr, .int .i64 ns, .bool pf, .string body] 37)) W) (by kernel_rfl) (by kernel_rfl) (HS.out.drewD (((CellW.stab _ _ _).star (ROut.stab _ _)).star (CellW.stab _ _ _))) ?_
  iterate 38 (first | (refine q_skip (by rfl) ?_; simp only [Act.put, List.setIfInBounds_toArray, List.set_cons_zero, List.set_cons_succ]) | (refine q_take (v := ?_) (by rfl) ?_ ?_; rotate_left; (· intro W HW; obtain ⟨z0, z2, z3, z5, z6⟩ := takeC (ROut.stab _ _) HW; go_simp; try with_reducible rfl); simp only [Act.put, List.setIfInBounds_toArray, List.set_cons_zero, List.set_cons_succ]))
  refine q_done ?_
  intro w1 hs
  have HS1 := Lib.hid hs
  clear hs
  go_wp2
  go_ret2
  exact ⟨rfl, HS1.out.drop⟩
set_option maxRecDepth 100000 in
set_option maxHeartbeats 16000000 in
theorem RTake_no3_1 (g go : Nat) (sz : Int) (mi : Bool) (o : OutM) (i : InM) (F : List Nat) (seat count kind sort nr ns : Int) (pf : Bool) (body : ByteArray) (w : World) (h1 : ¬ kind < 1) (h2 : ¬ 2 < kind) (h : RTn2 g go ⟨1, sz, mi, o, i⟩ w F) : Calls Tryz.prog 38 #[.pointer (some ⟨g, 0, none⟩), .agg #[.int .i64 seat, .int .i64 count, .bool true, .int .i64 kind, .int .i64 sort, .int .i64 nr, .int .i64 ns, .bool pf, .string body]] w fun e w' => e = .returned (.tuple #[.string ⟨#[]⟩, .bool false]) ∧ Done w F (RTn2 g go ⟨1, sz, mi, o, i⟩) w' := by
  have HS : Hid (Done w F (Star (Star (CellW g (turnc ⟨1, sz, mi, o, i⟩ go) 58) (ROut go o)) (CellW w.heap.size #[.int .i64 seat, .int .i64 count, .bool true, .int .i64 kind, .int .i64 sort, .int .i64 nr, .int .i64 ns, .bool pf, .string body] 37)) (w.alloc (.cells #[.int .i64 seat, .int .i64 count, .bool true, .int .i64 kind, .int .i64 sort, .int .i64 nr, .int .i64 ns, .bool pf, .string body] 37))) := (Done.start h).add ((CellW.stab _ _ _).star (ROut.stab _ _)) (CellW.new w #[.int .i64 seat, .int .i64 count, .bool true, .int .i64 kind, .int .i64 sort, .int .i64 nr, .int .i64 ns, .bool pf, .string body] 37)
  clear h
  have t1 : decide (kind < 1) = false := decide_eq_false h1
  have t2 : decide (2 < kind) = false := decide_eq_false h2
  clear h1 h2
  go_enter Tryz.func38, Tryz.ntmps38
  go_wp2
  refine regq (fun W => Done w F (Star (Star (CellW g (turnc ⟨1, sz, mi, o, i⟩ go) 58) (ROut go o)) (CellW w.heap.size #[.int .i64 seat, .int .i64 count, .bool true, .int .i64 kind, .int .i64 sort, .int .i64 nr, .int .i64 ns, .bool pf, .string body] 37)) W) (by kernel_rfl) (by kernel_rfl) (HS.out.drewD (((CellW.stab _ _ _).star (ROut.stab _ _)).star (CellW.stab _ _ _))) ?_
  iterate 38 (first | (refine q_skip (by rfl) ?_; simp only [Act.put, List.setIfInBounds_toArray, List.set_cons_zero, List.set_cons_succ]) | (refine q_take (v := ?_) (by rfl) ?_ ?_; rotate_left; (· intro W HW; obtain ⟨z0, z2, z3, z5, z6⟩ := takeC (ROut.stab _ _) HW; go_simp; try with_reducible rfl); simp only [Act.put, List.setIfInBounds_toArray, List.set_cons_zero, List.set_cons_succ]))
  refine q_done ?_
  intro w1 hs
  have HS1 := Lib.hid hs
  clear hs
  go_wp2
  go_ret2
  exact ⟨rfl, HS1.out.drop⟩
set_option maxRecDepth 100000 in
set_option maxHeartbeats 16000000 in
theorem RTake_no3_2 (g go : Nat) (sz : Int) (mi : Bool) (o : OutM) (i : InM) (F : List Nat) (seat count kind sort nr ns : Int) (pf : Bool) (body : ByteArray) (w : World) (h1 : ¬ kind < 1) (h2 : ¬ 2 < kind) (h : RTn2 g go ⟨2, sz, mi, o, i⟩ w F) : Calls Tryz.prog 38 #[.pointer (some ⟨g, 0, none⟩), .agg #[.int .i64 seat, .int .i64 count, .bool false, .int .i64 kind, .int .i64 sort, .int .i64 nr, .int .i64 ns, .bool pf, .string body]] w fun e w' => e = .returned (.tuple #[.string ⟨#[]⟩, .bool false]) ∧ Done w F (RTn2 g go ⟨2, sz, mi, o, i⟩) w' := by
  have HS : Hid (Done w F (Star (Star (CellW g (turnc ⟨2, sz, mi, o, i⟩ go) 58) (ROut go o)) (CellW w.heap.size #[.int .i64 seat, .int .i64 count, .bool false, .int .i64 kind, .int .i64 sort, .int .i64 nr, .int .i64 ns, .bool pf, .string body] 37)) (w.alloc (.cells #[.int .i64 seat, .int .i64 count, .bool false, .int .i64 kind, .int .i64 sort, .int .i64 nr, .int .i64 ns, .bool pf, .string body] 37))) := (Done.start h).add ((CellW.stab _ _ _).star (ROut.stab _ _)) (CellW.new w #[.int .i64 seat, .int .i64 count, .bool false, .int .i64 kind, .int .i64 sort, .int .i64 nr, .int .i64 ns, .bool pf, .string body] 37)
  clear h
  have t1 : decide (kind < 1) = false := decide_eq_false h1
  have t2 : decide (2 < kind) = false := decide_eq_false h2
  clear h1 h2
  go_enter Tryz.func38, Tryz.ntmps38
  go_wp2
  refine regq (fun W => Done w F (Star (Star (CellW g (turnc ⟨2, sz, mi, o, i⟩ go) 58) (ROut go o)) (CellW w.heap.size #[.int .i64 seat, .int .i64 count, .bool false, .int .i64 kind, .int .i64 sort, .int .i64 nr, .int .i64 ns, .bool pf, .string body] 37)) W) (by kernel_rfl) (by kernel_rfl) (HS.out.drewD (((CellW.stab _ _ _).star (ROut.stab _ _)).star (CellW.stab _ _ _))) ?_
  iterate 38 (first | (refine q_skip (by rfl) ?_; simp only [Act.put, List.setIfInBounds_toArray, List.set_cons_zero, List.set_cons_succ]) | (refine q_take (v := ?_) (by rfl) ?_ ?_; rotate_left; (· intro W HW; obtain ⟨z0, z2, z3, z5, z6⟩ := takeC (ROut.stab _ _) HW; go_simp; try with_reducible rfl); simp only [Act.put, List.setIfInBounds_toArray, List.set_cons_zero, List.set_cons_succ]))
  refine q_done ?_
  intro w1 hs
  have HS1 := Lib.hid hs
  clear hs
  go_wp2
  go_ret2
  exact ⟨rfl, HS1.out.drop⟩
set_option maxRecDepth 100000 in
set_option maxHeartbeats 16000000 in
theorem RTake_no4_1 (g go : Nat) (sz : Int) (mi : Bool) (o : OutM) (i : InM) (F : List Nat) (seat count kind sort nr ns : Int) (pf : Bool) (body : ByteArray) (w : World) (h1 : ¬ kind < 1) (h2 : ¬ 2 < kind) (h4 : nr < 0) (h : RTn2 g go ⟨1, sz, mi, o, i⟩ w F) : Calls Tryz.prog 38 #[.pointer (some ⟨g, 0, none⟩), .agg #[.int .i64 seat, .int .i64 count, .bool false, .int .i64 kind, .int .i64 sort, .int .i64 nr, .int .i64 ns, .bool pf, .string body]] w fun e w' => e = .returned (.tuple #[.string ⟨#[]⟩, .bool false]) ∧ Done w F (RTn2 g go ⟨1, sz, mi, o, i⟩) w' := by
  have HS : Hid (Done w F (Star (Star (CellW g (turnc ⟨1, sz, mi, o, i⟩ go) 58) (ROut go o)) (CellW w.heap.size #[.int .i64 seat, .int .i64 count, .bool false, .int .i64 kind, .int .i64 sort, .int .i64 nr, .int .i64 ns, .bool pf, .string body] 37)) (w.alloc (.cells #[.int .i64 seat, .int .i64 count, .bool false, .int .i64 kind, .int .i64 sort, .int .i64 nr, .int .i64 ns, .bool pf, .string body] 37))) := (Done.start h).add ((CellW.stab _ _ _).star (ROut.stab _ _)) (CellW.new w #[.int .i64 seat, .int .i64 count, .bool false, .int .i64 kind, .int .i64 sort, .int .i64 nr, .int .i64 ns, .bool pf, .string body] 37)
  clear h
  have t1 : decide (kind < 1) = false := decide_eq_false h1
  have t2 : decide (2 < kind) = false := decide_eq_false h2
  have t4 : decide (nr < 0) = true := decide_eq_true h4
  clear h1 h2 h4
  go_enter Tryz.func38, Tryz.ntmps38
  go_wp2
  refine regq (fun W => Done w F (Star (Star (CellW g (turnc ⟨1, sz, mi, o, i⟩ go) 58) (ROut go o)) (CellW w.heap.size #[.int .i64 seat, .int .i64 count, .bool false, .int .i64 kind, .int .i64 sort, .int .i64 nr, .int .i64 ns, .bool pf, .string body] 37)) W) (by kernel_rfl) (by kernel_rfl) (HS.out.drewD (((CellW.stab _ _ _).star (ROut.stab _ _)).star (CellW.stab _ _ _))) ?_
  iterate 38 (first | (refine q_skip (by rfl) ?_; simp only [Act.put, List.setIfInBounds_toArray, List.set_cons_zero, List.set_cons_succ]) | (refine q_take (v := ?_) (by rfl) ?_ ?_; rotate_left; (· intro W HW; obtain ⟨z0, z2, z3, z5, z6⟩ := takeC (ROut.stab _ _) HW; go_simp; try with_reducible rfl); simp only [Act.put, List.setIfInBounds_toArray, List.set_cons_zero, List.set_cons_succ]))
  refine q_done ?_
  intro w1 hs
  have HS1 := Lib.hid hs
  clear hs
  go_wp2
  go_ret2
  exact ⟨rfl, HS1.out.drop⟩
set_option maxRecDepth 100000 in
set_option maxHeartbeats 16000000 in
theorem RTake_no5_1 (g go : Nat) (sz : Int) (mi : Bool) (o : OutM) (i : InM) (F : List Nat) (seat count kind sort nr ns : Int) (pf : Bool) (body : ByteArray) (w : World) (h1 : ¬ kind < 1) (h2 : ¬ 2 < kind) (h4 : ¬ nr < 0) (h5 : 7 < nr) (h : RTn2 g go ⟨1, sz, mi, o, i⟩ w F) : Calls Tryz.prog 38 #[.pointer (some ⟨g, 0, none⟩), .agg #[.int .i64 seat, .int .i64 count, .bool false, .int .i64 kind, .int .i64 sort, .int .i64 nr, .int .i64 ns, .bool pf, .string body]] w fun e w' => e = .returned (.tuple #[.string ⟨#[]⟩, .bool false]) ∧ Done w F (RTn2 g go ⟨1, sz, mi, o, i⟩) w' := by
  have HS : Hid (Done w F (Star (Star (CellW g (turnc ⟨1, sz, mi, o, i⟩ go) 58) (ROut go o)) (CellW w.heap.size #[.int .i64 seat, .int .i64 count, .bool false, .int .i64 kind, .int .i64 sort, .int .i64 nr, .int .i64 ns, .bool pf, .string body] 37)) (w.alloc (.cells #[.int .i64 seat, .int .i64 count, .bool false, .int .i64 kind, .int .i64 sort, .int .i64 nr, .int .i64 ns, .bool pf, .string body] 37))) := (Done.start h).add ((CellW.stab _ _ _).star (ROut.stab _ _)) (CellW.new w #[.int .i64 seat, .int .i64 count, .bool false, .int .i64 kind, .int .i64 sort, .int .i64 nr, .int .i64 ns, .bool pf, .string body] 37)
  clear h
  have t1 : decide (kind < 1) = false := decide_eq_false h1
  have t2 : decide (2 < kind) = false := decide_eq_false h2
  have t4 : decide (nr < 0) = false := decide_eq_false h4
  have t5 : decide (7 < nr) = true := decide_eq_true h5
  clear h1 h2 h4 h5
  go_enter Tryz.func38, Tryz.ntmps38
  go_wp2
  refine regq (fun W => Done w F (Star (Star (CellW g (turnc ⟨1, sz, mi, o, i⟩ go) 58) (ROut go o)) (CellW w.heap.size #[.int .i64 seat, .int .i64 count, .bool false, .int .i64 kind, .int .i64 sort, .int .i64 nr, .int .i64 ns, .bool pf, .string body] 37)) W) (by kernel_rfl) (by kernel_rfl) (HS.out.drewD (((CellW.stab _ _ _).star (ROut.stab _ _)).star (CellW.stab _ _ _))) ?_
  iterate 38 (first | (refine q_skip (by rfl) ?_; simp only [Act.put, List.setIfInBounds_toArray, List.set_cons_zero, List.set_cons_succ]) | (refine q_take (v := ?_) (by rfl) ?_ ?_; rotate_left; (· intro W HW; obtain ⟨z0, z2, z3, z5, z6⟩ := takeC (ROut.stab _ _) HW; go_simp; try with_reducible rfl); simp only [Act.put, List.setIfInBounds_toArray, List.set_cons_zero, List.set_cons_succ]))
  refine q_done ?_
  intro w1 hs
  have HS1 := Lib.hid hs
  clear hs
  go_wp2
  go_ret2
  exact ⟨rfl, HS1.out.drop⟩
set_option maxRecDepth 100000 in
set_option maxHeartbeats 16000000 in
theorem RTake_no6_1 (g go : Nat) (sz : Int) (mi : Bool) (o : OutM) (i : InM) (F : List Nat) (seat count kind sort nr ns : Int) (pf : Bool) (body : ByteArray) (w : World) (h1 : ¬ kind < 1) (h2 : ¬ 2 < kind) (h4 : ¬ nr < 0) (h5 : ¬ 7 < nr) (h6 : ns < 0) (h : RTn2 g go ⟨1, sz, mi, o, i⟩ w F) : Calls Tryz.prog 38 #[.pointer (some ⟨g, 0, none⟩), .agg #[.int .i64 seat, .int .i64 count, .bool false, .int .i64 kind, .int .i64 sort, .int .i64 nr, .int .i64 ns, .bool pf, .string body]] w fun e w' => e = .returned (.tuple #[.string ⟨#[]⟩, .bool false]) ∧ Done w F (RTn2 g go ⟨1, sz, mi, o, i⟩) w' := by
  have HS : Hid (Done w F (Star (Star (CellW g (turnc ⟨1, sz, mi, o, i⟩ go) 58) (ROut go o)) (CellW w.heap.size #[.int .i64 seat, .int .i64 count, .bool false, .int .i64 kind, .int .i64 sort, .int .i64 nr, .int .i64 ns, .bool pf, .string body] 37)) (w.alloc (.cells #[.int .i64 seat, .int .i64 count, .bool false, .int .i64 kind, .int .i64 sort, .int .i64 nr, .int .i64 ns, .bool pf, .string body] 37))) := (Done.start h).add ((CellW.stab _ _ _).star (ROut.stab _ _)) (CellW.new w #[.int .i64 seat, .int .i64 count, .bool false, .int .i64 kind, .int .i64 sort, .int .i64 nr, .int .i64 ns, .bool pf, .string body] 37)
  clear h
  have t1 : decide (kind < 1) = false := decide_eq_false h1
  have t2 : decide (2 < kind) = false := decide_eq_false h2
  have t4 : decide (nr < 0) = false := decide_eq_false h4
  have t5 : decide (7 < nr) = false := decide_eq_false h5
  have t6 : decide (ns < 0) = true := decide_eq_true h6
  clear h1 h2 h4 h5 h6
  go_enter Tryz.func38, Tryz.ntmps38
  go_wp2
  refine regq (fun W => Done w F (Star (Star (CellW g (turnc ⟨1, sz, mi, o, i⟩ go) 58) (ROut go o)) (CellW w.heap.size #[.int .i64 seat, .int .i64 count, .bool false, .int .i64 kind, .int .i64 sort, .int .i64 nr, .int .i64 ns, .bool pf, .string body] 37)) W) (by kernel_rfl) (by kernel_rfl) (HS.out.drewD (((CellW.stab _ _ _).star (ROut.stab _ _)).star (CellW.stab _ _ _))) ?_
  iterate 38 (first | (refine q_skip (by rfl) ?_; simp only [Act.put, List.setIfInBounds_toArray, List.set_cons_zero, List.set_cons_succ]) | (refine q_take (v := ?_) (by rfl) ?_ ?_; rotate_left; (· intro W HW; obtain ⟨z0, z2, z3, z5, z6⟩ := takeC (ROut.stab _ _) HW; go_simp; try with_reducible rfl); simp only [Act.put, List.setIfInBounds_toArray, List.set_cons_zero, List.set_cons_succ]))
  refine q_done ?_
  intro w1 hs
  have HS1 := Lib.hid hs
  clear hs
  go_wp2
  go_ret2
  exact ⟨rfl, HS1.out.drop⟩
set_option maxRecDepth 100000 in
set_option maxHeartbeats 16000000 in
theorem RTake_no7_1 (g go : Nat) (sz : Int) (mi : Bool) (o : OutM) (i : InM) (F : List Nat) (seat count kind sort nr ns : Int) (pf : Bool) (body : ByteArray) (w : World) (h1 : ¬ kind < 1) (h2 : ¬ 2 < kind) (h4 : ¬ nr < 0) (h5 : ¬ 7 < nr) (h6 : ¬ ns < 0) (h7 : 7 < ns) (h : RTn2 g go ⟨1, sz, mi, o, i⟩ w F) : Calls Tryz.prog 38 #[.pointer (some ⟨g, 0, none⟩), .agg #[.int .i64 seat, .int .i64 count, .bool false, .int .i64 kind, .int .i64 sort, .int .i64 nr, .int .i64 ns, .bool pf, .string body]] w fun e w' => e = .returned (.tuple #[.string ⟨#[]⟩, .bool false]) ∧ Done w F (RTn2 g go ⟨1, sz, mi, o, i⟩) w' := by
  have HS : Hid (Done w F (Star (Star (CellW g (turnc ⟨1, sz, mi, o, i⟩ go) 58) (ROut go o)) (CellW w.heap.size #[.int .i64 seat, .int .i64 count, .bool false, .int .i64 kind, .int .i64 sort, .int .i64 nr, .int .i64 ns, .bool pf, .string body] 37)) (w.alloc (.cells #[.int .i64 seat, .int .i64 count, .bool false, .int .i64 kind, .int .i64 sort, .int .i64 nr, .int .i64 ns, .bool pf, .string body] 37))) := (Done.start h).add ((CellW.stab _ _ _).star (ROut.stab _ _)) (CellW.new w #[.int .i64 seat, .int .i64 count, .bool false, .int .i64 kind, .int .i64 sort, .int .i64 nr, .int .i64 ns, .bool pf, .string body] 37)
  clear h
  have t1 : decide (kind < 1) = false := decide_eq_false h1
  have t2 : decide (2 < kind) = false := decide_eq_false h2
  have t4 : decide (nr < 0) = false := decide_eq_false h4
  have t5 : decide (7 < nr) = false := decide_eq_false h5
  have t6 : decide (ns < 0) = false := decide_eq_false h6
  have t7 : decide (7 < ns) = true := decide_eq_true h7
  clear h1 h2 h4 h5 h6 h7
  go_enter Tryz.func38, Tryz.ntmps38
  go_wp2
  refine regq (fun W => Done w F (Star (Star (CellW g (turnc ⟨1, sz, mi, o, i⟩ go) 58) (ROut go o)) (CellW w.heap.size #[.int .i64 seat, .int .i64 count, .bool false, .int .i64 kind, .int .i64 sort, .int .i64 nr, .int .i64 ns, .bool pf, .string body] 37)) W) (by kernel_rfl) (by kernel_rfl) (HS.out.drewD (((CellW.stab _ _ _).star (ROut.stab _ _)).star (CellW.stab _ _ _))) ?_
  iterate 38 (first | (refine q_skip (by rfl) ?_; simp only [Act.put, List.setIfInBounds_toArray, List.set_cons_zero, List.set_cons_succ]) | (refine q_take (v := ?_) (by rfl) ?_ ?_; rotate_left; (· intro W HW; obtain ⟨z0, z2, z3, z5, z6⟩ := takeC (ROut.stab _ _) HW; go_simp; try with_reducible rfl); simp only [Act.put, List.setIfInBounds_toArray, List.set_cons_zero, List.set_cons_succ]))
  refine q_done ?_
  intro w1 hs
  have HS1 := Lib.hid hs
  clear hs
  go_wp2
  go_ret2
  exact ⟨rfl, HS1.out.drop⟩
set_option maxRecDepth 100000 in
set_option maxHeartbeats 16000000 in
theorem RTake_no4_2 (g go : Nat) (sz : Int) (mi : Bool) (o : OutM) (i : InM) (F : List Nat) (seat count kind sort nr ns : Int) (pf : Bool) (body : ByteArray) (w : World) (h1 : ¬ kind < 1) (h2 : ¬ 2 < kind) (h4 : nr < 0) (h : RTn2 g go ⟨2, sz, mi, o, i⟩ w F) : Calls Tryz.prog 38 #[.pointer (some ⟨g, 0, none⟩), .agg #[.int .i64 seat, .int .i64 count, .bool true, .int .i64 kind, .int .i64 sort, .int .i64 nr, .int .i64 ns, .bool pf, .string body]] w fun e w' => e = .returned (.tuple #[.string ⟨#[]⟩, .bool false]) ∧ Done w F (RTn2 g go ⟨2, sz, mi, o, i⟩) w' := by
  have HS : Hid (Done w F (Star (Star (CellW g (turnc ⟨2, sz, mi, o, i⟩ go) 58) (ROut go o)) (CellW w.heap.size #[.int .i64 seat, .int .i64 count, .bool true, .int .i64 kind, .int .i64 sort, .int .i64 nr, .int .i64 ns, .bool pf, .string body] 37)) (w.alloc (.cells #[.int .i64 seat, .int .i64 count, .bool true, .int .i64 kind, .int .i64 sort, .int .i64 nr, .int .i64 ns, .bool pf, .string body] 37))) := (Done.start h).add ((CellW.stab _ _ _).star (ROut.stab _ _)) (CellW.new w #[.int .i64 seat, .int .i64 count, .bool true, .int .i64 kind, .int .i64 sort, .int .i64 nr, .int .i64 ns, .bool pf, .string body] 37)
  clear h
  have t1 : decide (kind < 1) = false := decide_eq_false h1
  have t2 : decide (2 < kind) = false := decide_eq_false h2
  have t4 : decide (nr < 0) = true := decide_eq_true h4
  clear h1 h2 h4
  go_enter Tryz.func38, Tryz.ntmps38
  go_wp2
  refine regq (fun W => Done w F (Star (Star (CellW g (turnc ⟨2, sz, mi, o, i⟩ go) 58) (ROut go o)) (CellW w.heap.size #[.int .i64 seat, .int .i64 count, .bool true, .int .i64 kind, .int .i64 sort, .int .i64 nr, .int .i64 ns, .bool pf, .string body] 37)) W) (by kernel_rfl) (by kernel_rfl) (HS.out.drewD (((CellW.stab _ _ _).star (ROut.stab _ _)).star (CellW.stab _ _ _))) ?_
  iterate 38 (first | (refine q_skip (by rfl) ?_; simp only [Act.put, List.setIfInBounds_toArray, List.set_cons_zero, List.set_cons_succ]) | (refine q_take (v := ?_) (by rfl) ?_ ?_; rotate_left; (· intro W HW; obtain ⟨z0, z2, z3, z5, z6⟩ := takeC (ROut.stab _ _) HW; go_simp; try with_reducible rfl); simp only [Act.put, List.setIfInBounds_toArray, List.set_cons_zero, List.set_cons_succ]))
  refine q_done ?_
  intro w1 hs
  have HS1 := Lib.hid hs
  clear hs
  go_wp2
  go_ret2
  exact ⟨rfl, HS1.out.drop⟩
set_option maxRecDepth 100000 in
set_option maxHeartbeats 16000000 in
theorem RTake_no5_2 (g go : Nat) (sz : Int) (mi : Bool) (o : OutM) (i : InM) (F : List Nat) (seat count kind sort nr ns : Int) (pf : Bool) (body : ByteArray) (w : World) (h1 : ¬ kind < 1) (h2 : ¬ 2 < kind) (h4 : ¬ nr < 0) (h5 : 7 < nr) (h : RTn2 g go ⟨2, sz, mi, o, i⟩ w F) : Calls Tryz.prog 38 #[.pointer (some ⟨g, 0, none⟩), .agg #[.int .i64 seat, .int .i64 count, .bool true, .int .i64 kind, .int .i64 sort, .int .i64 nr, .int .i64 ns, .bool pf, .string body]] w fun e w' => e = .returned (.tuple #[.string ⟨#[]⟩, .bool false]) ∧ Done w F (RTn2 g go ⟨2, sz, mi, o, i⟩) w' := by
  have HS : Hid (Done w F (Star (Star (CellW g (turnc ⟨2, sz, mi, o, i⟩ go) 58) (ROut go o)) (CellW w.heap.size #[.int .i64 seat, .int .i64 count, .bool true, .int .i64 kind, .int .i64 sort, .int .i64 nr, .int .i64 ns, .bool pf, .string body] 37)) (w.alloc (.cells #[.int .i64 seat, .int .i64 count, .bool true, .int .i64 kind, .int .i64 sort, .int .i64 nr, .int .i64 ns, .bool pf, .string body] 37))) := (Done.start h).add ((CellW.stab _ _ _).star (ROut.stab _ _)) (CellW.new w #[.int .i64 seat, .int .i64 count, .bool true, .int .i64 kind, .int .i64 sort, .int .i64 nr, .int .i64 ns, .bool pf, .string body] 37)
  clear h
  have t1 : decide (kind < 1) = false := decide_eq_false h1
  have t2 : decide (2 < kind) = false := decide_eq_false h2
  have t4 : decide (nr < 0) = false := decide_eq_false h4
  have t5 : decide (7 < nr) = true := decide_eq_true h5
  clear h1 h2 h4 h5
  go_enter Tryz.func38, Tryz.ntmps38
  go_wp2
  refine regq (fun W => Done w F (Star (Star (CellW g (turnc ⟨2, sz, mi, o, i⟩ go) 58) (ROut go o)) (CellW w.heap.size #[.int .i64 seat, .int .i64 count, .bool true, .int .i64 kind, .int .i64 sort, .int .i64 nr, .int .i64 ns, .bool pf, .string body] 37)) W) (by kernel_rfl) (by kernel_rfl) (HS.out.drewD (((CellW.stab _ _ _).star (ROut.stab _ _)).star (CellW.stab _ _ _))) ?_
  iterate 38 (first | (refine q_skip (by rfl) ?_; simp only [Act.put, List.setIfInBounds_toArray, List.set_cons_zero, List.set_cons_succ]) | (refine q_take (v := ?_) (by rfl) ?_ ?_; rotate_left; (· intro W HW; obtain ⟨z0, z2, z3, z5, z6⟩ := takeC (ROut.stab _ _) HW; go_simp; try with_reducible rfl); simp only [Act.put, List.setIfInBounds_toArray, List.set_cons_zero, List.set_cons_succ]))
  refine q_done ?_
  intro w1 hs
  have HS1 := Lib.hid hs
  clear hs
  go_wp2
  go_ret2
  exact ⟨rfl, HS1.out.drop⟩
set_option maxRecDepth 100000 in
set_option maxHeartbeats 16000000 in
theorem RTake_no6_2 (g go : Nat) (sz : Int) (mi : Bool) (o : OutM) (i : InM) (F : List Nat) (seat count kind sort nr ns : Int) (pf : Bool) (body : ByteArray) (w : World) (h1 : ¬ kind < 1) (h2 : ¬ 2 < kind) (h4 : ¬ nr < 0) (h5 : ¬ 7 < nr) (h6 : ns < 0) (h : RTn2 g go ⟨2, sz, mi, o, i⟩ w F) : Calls Tryz.prog 38 #[.pointer (some ⟨g, 0, none⟩), .agg #[.int .i64 seat, .int .i64 count, .bool true, .int .i64 kind, .int .i64 sort, .int .i64 nr, .int .i64 ns, .bool pf, .string body]] w fun e w' => e = .returned (.tuple #[.string ⟨#[]⟩, .bool false]) ∧ Done w F (RTn2 g go ⟨2, sz, mi, o, i⟩) w' := by
  have HS : Hid (Done w F (Star (Star (CellW g (turnc ⟨2, sz, mi, o, i⟩ go) 58) (ROut go o)) (CellW w.heap.size #[.int .i64 seat, .int .i64 count, .bool true, .int .i64 kind, .int .i64 sort, .int .i64 nr, .int .i64 ns, .bool pf, .string body] 37)) (w.alloc (.cells #[.int .i64 seat, .int .i64 count, .bool true, .int .i64 kind, .int .i64 sort, .int .i64 nr, .int .i64 ns, .bool pf, .string body] 37))) := (Done.start h).add ((CellW.stab _ _ _).star (ROut.stab _ _)) (CellW.new w #[.int .i64 seat, .int .i64 count, .bool true, .int .i64 kind, .int .i64 sort, .int .i64 nr, .int .i64 ns, .bool pf, .string body] 37)
  clear h
  have t1 : decide (kind < 1) = false := decide_eq_false h1
  have t2 : decide (2 < kind) = false := decide_eq_false h2
  have t4 : decide (nr < 0) = false := decide_eq_false h4
  have t5 : decide (7 < nr) = false := decide_eq_false h5
  have t6 : decide (ns < 0) = true := decide_eq_true h6
  clear h1 h2 h4 h5 h6
  go_enter Tryz.func38, Tryz.ntmps38
  go_wp2
  refine regq (fun W => Done w F (Star (Star (CellW g (turnc ⟨2, sz, mi, o, i⟩ go) 58) (ROut go o)) (CellW w.heap.size #[.int .i64 seat, .int .i64 count, .bool true, .int .i64 kind, .int .i64 sort, .int .i64 nr, .int .i64 ns, .bool pf, .string body] 37)) W) (by kernel_rfl) (by kernel_rfl) (HS.out.drewD (((CellW.stab _ _ _).star (ROut.stab _ _)).star (CellW.stab _ _ _))) ?_
  iterate 38 (first | (refine q_skip (by rfl) ?_; simp only [Act.put, List.setIfInBounds_toArray, List.set_cons_zero, List.set_cons_succ]) | (refine q_take (v := ?_) (by rfl) ?_ ?_; rotate_left; (· intro W HW; obtain ⟨z0, z2, z3, z5, z6⟩ := takeC (ROut.stab _ _) HW; go_simp; try with_reducible rfl); simp only [Act.put, List.setIfInBounds_toArray, List.set_cons_zero, List.set_cons_succ]))
  refine q_done ?_
  intro w1 hs
  have HS1 := Lib.hid hs
  clear hs
  go_wp2
  go_ret2
  exact ⟨rfl, HS1.out.drop⟩
set_option maxRecDepth 100000 in
set_option maxHeartbeats 16000000 in
theorem RTake_no7_2 (g go : Nat) (sz : Int) (mi : Bool) (o : OutM) (i : InM) (F : List Nat) (seat count kind sort nr ns : Int) (pf : Bool) (body : ByteArray) (w : World) (h1 : ¬ kind < 1) (h2 : ¬ 2 < kind) (h4 : ¬ nr < 0) (h5 : ¬ 7 < nr) (h6 : ¬ ns < 0) (h7 : 7 < ns) (h : RTn2 g go ⟨2, sz, mi, o, i⟩ w F) : Calls Tryz.prog 38 #[.pointer (some ⟨g, 0, none⟩), .agg #[.int .i64 seat, .int .i64 count, .bool true, .int .i64 kind, .int .i64 sort, .int .i64 nr, .int .i64 ns, .bool pf, .string body]] w fun e w' => e = .returned (.tuple #[.string ⟨#[]⟩, .bool false]) ∧ Done w F (RTn2 g go ⟨2, sz, mi, o, i⟩) w' := by
  have HS : Hid (Done w F (Star (Star (CellW g (turnc ⟨2, sz, mi, o, i⟩ go) 58) (ROut go o)) (CellW w.heap.size #[.int .i64 seat, .int .i64 count, .bool true, .int .i64 kind, .int .i64 sort, .int .i64 nr, .int .i64 ns, .bool pf, .string body] 37)) (w.alloc (.cells #[.int .i64 seat, .int .i64 count, .bool true, .int .i64 kind, .int .i64 sort, .int .i64 nr, .int .i64 ns, .bool pf, .string body] 37))) := (Done.start h).add ((CellW.stab _ _ _).star (ROut.stab _ _)) (CellW.new w #[.int .i64 seat, .int .i64 count, .bool true, .int .i64 kind, .int .i64 sort, .int .i64 nr, .int .i64 ns, .bool pf, .string body] 37)
  clear h
  have t1 : decide (kind < 1) = false := decide_eq_false h1
  have t2 : decide (2 < kind) = false := decide_eq_false h2
  have t4 : decide (nr < 0) = false := decide_eq_false h4
  have t5 : decide (7 < nr) = false := decide_eq_false h5
  have t6 : decide (ns < 0) = false := decide_eq_false h6
  have t7 : decide (7 < ns) = true := decide_eq_true h7
  clear h1 h2 h4 h5 h6 h7
  go_enter Tryz.func38, Tryz.ntmps38
  go_wp2
  refine regq (fun W => Done w F (Star (Star (CellW g (turnc ⟨2, sz, mi, o, i⟩ go) 58) (ROut go o)) (CellW w.heap.size #[.int .i64 seat, .int .i64 count, .bool true, .int .i64 kind, .int .i64 sort, .int .i64 nr, .int .i64 ns, .bool pf, .string body] 37)) W) (by kernel_rfl) (by kernel_rfl) (HS.out.drewD (((CellW.stab _ _ _).star (ROut.stab _ _)).star (CellW.stab _ _ _))) ?_
  iterate 38 (first | (refine q_skip (by rfl) ?_; simp only [Act.put, List.setIfInBounds_toArray, List.set_cons_zero, List.set_cons_succ]) | (refine q_take (v := ?_) (by rfl) ?_ ?_; rotate_left; (· intro W HW; obtain ⟨z0, z2, z3, z5, z6⟩ := takeC (ROut.stab _ _) HW; go_simp; try with_reducible rfl); simp only [Act.put, List.setIfInBounds_toArray, List.set_cons_zero, List.set_cons_succ]))
  refine q_done ?_
  intro w1 hs
  have HS1 := Lib.hid hs
  clear hs
  go_wp2
  go_ret2
  exact ⟨rfl, HS1.out.drop⟩
end Go.Proofs.YtocjhpaackccpaaGreatDoor
