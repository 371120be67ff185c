/- The reference of layer 12: one side, as a thing: its own cells, those of what it sends, the texts that wait. -/
import Derived.Test.YtocjhpaackccpaaGreatDoorROA
import Derived.Test.YtocjhpaackccpaaGreatDoorROB
import Derived.Test.YtocjhpaackccpaaGreatDoorN12C

set_option linter.all false

namespace Go.Proofs.YtocjhpaackccpaaGreatDoor
open Go.RowKit M

def turnc (m : TurnM) (go : Nat) : Array Value := #[.int .i64 m.role, .int .i64 m.size, .bool m.mine, .pointer (some ⟨go, 0, none⟩), .int .i64 (m.inn.next : Int), .bool m.inn.odd]
def RTn2 (g go : Nat) (m : TurnM) : Obj := Star (CellW g (turnc m go) 58) (ROut go m.out)
/-- The reference's Turn at g. -/
def RTn (g : Nat) (m : TurnM) : Obj := fun w F => m.ok ∧ ∃ go, RTn2 g go m w F
theorem RTn2.stab (g go : Nat) (m : TurnM) : Stab (RTn2 g go m) := (CellW.stab _ _ _).star (ROut.stab _ _)
theorem RTn.stab (g : Nat) (m : TurnM) : Stab (RTn g m) where
  in_ := fun ⟨_, go, h⟩ => (RTn2.stab g go m).in_ h
  tch := fun ⟨h1, go, h⟩ ht hd => ⟨h1, go, (RTn2.stab g go m).tch h ht hd⟩
theorem RTn.ok {g : Nat} {m : TurnM} {w : World} {F : List Nat} (h : RTn g m w F) : m.ok := h.1
theorem RTn.cells {g : Nat} {m : TurnM} {w : World} {F : List Nat} (h : RTn g m w F) : ∃ go A c, w.heap[g]? = some (.cells (turnc m go) 58 (0, 0)) ∧ w.heap[go]? = some (.cells (outc m.out (.slice A m.out.l.length c)) 61 (0, 0)) := by
  obtain ⟨_, go, F1, F2, _, k1, k2, _⟩ := h
  obtain ⟨A, c, k3⟩ := k2.cells
  exact ⟨go, A, c, k1.2, k3⟩
theorem rnew_add {w0 w : World} {F0 : List Nat} {H : Obj} {n : Int} (hH : Stab H) (h : Done w0 F0 H w) : Calls Tryz.prog 59 #[.int .i64 n] w fun e w' => ∃ go, e = .returned (.pointer (some ⟨go, 0, none⟩)) ∧ Done w0 F0 (Star H (ROut go (OutM.new n))) w' := by
  refine (RONew_any n w).mono ?_
  rintro e w' ⟨go, rfl, hd⟩
  exact ⟨go, rfl, h.add hH hd⟩
set_option maxRecDepth 100000 in
set_option maxHeartbeats 16000000 in
theorem RTnNew_any (role b s wi z wa : Int) (w : World) (hr : role = 1 ∨ role = 2) : Calls Tryz.prog 29 #[.int .i64 role, .agg #[.int .i64 b, .int .i64 s, .int .i64 wi, .int .i64 z, .int .i64 wa]] w fun e w' => ∃ g, e = .returned (.pointer (some ⟨g, 0, none⟩)) ∧ Done w [] (RTn g (TurnM.new role wi z)) w' := by
  have HS := Lib.hid (CellW.new w #[.int .i64 b, .int .i64 s, .int .i64 wi, .int .i64 z, .int .i64 wa] 43)
  have HSd := Lib.hid (HS.out.drewD (CellW.stab _ _ _))
  have HEd : Hid ((fun W => W.heap[w.heap.size]? = some (.cells #[.int .i64 b, .int .i64 s, .int .i64 wi, .int .i64 z, .int .i64 wa] 43 (0, 0))) (w.alloc (.cells #[.int .i64 b, .int .i64 s, .int .i64 wi, .int .i64 z, .int .i64 wa] 43)).drew) := (Done.at_ (C := fun X => X) Fr.id_ HSd.out)
  clear HS
  rcases hr with rfl | rfl
  · skip
    go_enter Tryz.func29, Tryz.ntmps29
    go_wp2
    refine rests_begin (fun W => W.heap[w.heap.size]? = some (.cells #[.int .i64 b, .int .i64 s, .int .i64 wi, .int .i64 z, .int .i64 wa] 43 (0, 0))) (by kernel_rfl) ?_
    refine rests_take 0 (oi := _) (v := ?_) (by simp only [List.getElem?_toArray, List.getElem?_cons_zero]; rfl) (by kernel_rfl) (by kernel_rfl) (by kernel_rfl) (by exact fun _ _ _ h => h) (HEd.out) (by rfl) ?_ ?_; rotate_left; (· intro W HW; go_simp; try with_reducible rfl)
    simp only [Act.put, List.setIfInBounds_toArray, List.set_cons_zero, List.set_cons_succ]
    refine rests_take 1 (oi := _) (v := ?_) (by simp only [List.getElem?_toArray, List.getElem?_cons_succ, List.getElem?_cons_zero]; rfl) (by kernel_rfl) (by kernel_rfl) (by kernel_rfl) (by exact fun _ _ _ h => h) (HEd.out) (by rfl) ?_ ?_; rotate_left; (· intro W HW; go_simp; try with_reducible rfl)
    simp only [Act.put, List.setIfInBounds_toArray, List.set_cons_zero, List.set_cons_succ]
    refine rests_take 2 (oi := _) (v := ?_) (by simp only [List.getElem?_toArray, List.getElem?_cons_succ, List.getElem?_cons_zero]; rfl) (by kernel_rfl) (by kernel_rfl) (by kernel_rfl) (by exact fun _ _ _ h => h) (HEd.out) (by rfl) ?_ ?_; rotate_left; (· intro W HW; have cw3 : W.cell? ⟨w.heap.size, 3, none⟩ = some (.int .i64 z) := cell_at HW 3 _ rfl; go_simp; try with_reducible rfl)
    simp only [Act.put, List.setIfInBounds_toArray, List.set_cons_zero, List.set_cons_succ]
    refine rests_take 3 (oi := _) (v := ?_) (by simp only [List.getElem?_toArray, List.getElem?_cons_succ, List.getElem?_cons_zero]; rfl) (by kernel_rfl) (by kernel_rfl) (by kernel_rfl) (by exact fun _ _ _ h => h) (HEd.out) (by rfl) ?_ ?_; rotate_left; (· intro W HW; go_simp; try with_reducible rfl)
    simp only [Act.put, List.setIfInBounds_toArray, List.set_cons_zero, List.set_cons_succ]
    refine rests_take 4 (oi := _) (v := ?_) (by simp only [List.getElem?_toArray, List.getElem?_cons_succ, List.getElem?_cons_zero]; rfl) (by kernel_rfl) (by kernel_rfl) (by kernel_rfl) (by exact fun _ _ _ h => h) (HEd.out) (by rfl) ?_ ?_; rotate_left; (· intro W HW; go_simp; try with_reducible rfl)
    simp only [Act.put, List.setIfInBounds_toArray, List.set_cons_zero, List.set_cons_succ]
    refine rests_take 5 (oi := _) (v := ?_) (by simp only [List.getElem?_toArray, List.getElem?_cons_succ, List.getElem?_cons_zero]; rfl) (by kernel_rfl) (by kernel_rfl) (by kernel_rfl) (by exact fun _ _ _ h => h) (HEd.out) (by rfl) ?_ ?_; rotate_left; (· intro W HW; go_simp; try with_reducible rfl)
    simp only [Act.put, List.setIfInBounds_toArray, List.set_cons_zero, List.set_cons_succ]
    refine rests_take 6 (oi := _) (v := ?_) (by simp only [List.getElem?_toArray, List.getElem?_cons_succ, List.getElem?_cons_zero]; rfl) (by kernel_rfl) (by kernel_rfl) (by kernel_rfl) (by exact fun _ _ _ h => h) (HEd.out) (by rfl) ?_ ?_; rotate_left; (· intro W HW; go_simp; try with_reducible rfl)
    simp only [Act.put, List.setIfInBounds_toArray, List.set_cons_zero, List.set_cons_succ]
    refine rests_take 7 (oi := _) (v := ?_) (by simp only [List.getElem?_toArray, List.getElem?_cons_succ, List.getElem?_cons_zero]; rfl) (by kernel_rfl) (by kernel_rfl) (by kernel_rfl) (by exact fun _ _ _ h => h) (HEd.out) (by rfl) ?_ ?_; rotate_left; (· intro W HW; have cw2 : W.cell? ⟨w.heap.size, 2, none⟩ = some (.int .i64 wi) := cell_at HW 2 _ rfl; go_simp; try with_reducible rfl)
    simp only [Act.put, List.setIfInBounds_toArray, List.set_cons_zero, List.set_cons_succ]
    refine rests_call 8 (oi := _) (by simp only [List.getElem?_toArray, List.getElem?_cons_succ, List.getElem?_cons_zero]; rfl) 59 #[.int .i64 wi] _ (by kernel_rfl) (by rfl) (by go_simp) (rnew_add (CellW.stab _ _ _) HSd.out) ?_
    rintro e w1 ⟨go, rfl, hs⟩; have HS1 := Lib.hid hs; have HE1 : Hid ((fun W => W.heap[w.heap.size]? = some (.cells #[.int .i64 b, .int .i64 s, .int .i64 wi, .int .i64 z, .int .i64 wa] 43 (0, 0))) w1) := (Done.at_ (C := fun X => Star (X) (ROut go (OutM.new wi))) (Fr.l Fr.id_ (ROut.stab _ _)) hs); refine ⟨_, rfl, HE1.out, ?_⟩; clear hs
    simp only [Act.put, List.setIfInBounds_toArray, List.set_cons_zero, List.set_cons_succ]
    refine rests_take 9 (oi := _) (v := ?_) (by simp only [List.getElem?_toArray, List.getElem?_cons_succ, List.getElem?_cons_zero]; rfl) (by kernel_rfl) (by kernel_rfl) (by kernel_rfl) (by exact fun _ _ _ h => h) (HE1.out) (by rfl) ?_ ?_; rotate_left; (· intro W HW; go_simp; try with_reducible rfl)
    simp only [Act.put, List.setIfInBounds_toArray, List.set_cons_zero, List.set_cons_succ]
    obtain ⟨g2, hg2⟩ : ∃ g, g = (w1).heap.size := ⟨_, rfl⟩
    have hal2 := CellW.new (w1) #[.int .i64 1, .int .i64 (min z 64), .bool true, .pointer (some ⟨go, 0, none⟩), .int .i64 0, .bool false] 58
    rw [← hg2] at hal2
    obtain ⟨w2, hw2⟩ : ∃ wz, wz = (w1).alloc (.cells #[.int .i64 1, .int .i64 (min z 64), .bool true, .pointer (some ⟨go, 0, none⟩), .int .i64 0, .bool false] 58) := ⟨_, rfl⟩
    rw [← hw2] at hal2
    have HS2 := Lib.hid (HS1.out.add ((CellW.stab _ _ _).star (ROut.stab _ _)) hal2)
    have HE2 : Hid ((fun W => W.heap[w.heap.size]? = some (.cells #[.int .i64 b, .int .i64 s, .int .i64 wi, .int .i64 z, .int .i64 wa] 43 (0, 0))) w2) := (Done.at_ (C := fun X => Star (Star (X) (ROut go (OutM.new wi))) (CellW g2 #[.int .i64 1, .int .i64 (min z 64), .bool true, .pointer (some ⟨go, 0, none⟩), .int .i64 0, .bool false] 58)) (Fr.l (Fr.l Fr.id_ (ROut.stab _ _)) (CellW.stab _ _ _)) HS2.out)
    refine rests_run 10 (oi := _) (by simp only [List.getElem?_toArray, List.getElem?_cons_succ, List.getElem?_cons_zero]; rfl) (by kernel_rfl) (by rfl) (.pointer (some ⟨g2, 0, none⟩)) w2 (by rw [hg2, hw2]; go_simp) ⟨HE2.out, ?_⟩
    clear hg2 hal2 hw2
    simp only [Act.put, List.setIfInBounds_toArray, List.set_cons_zero, List.set_cons_succ]
    refine rests_take 11 (oi := _) (v := ?_) (by simp only [List.getElem?_toArray, List.getElem?_cons_succ, List.getElem?_cons_zero]; rfl) (by kernel_rfl) (by kernel_rfl) (by kernel_rfl) (by exact fun _ _ _ h => h) (HE2.out) (by rfl) ?_ ?_; rotate_left; (· intro W HW; go_simp; try with_reducible rfl)
    simp only [Act.put, List.setIfInBounds_toArray, List.set_cons_zero, List.set_cons_succ]
    refine rests_done (by kernel_rfl) ?_
    go_wp2
    go_ret
    refine ⟨g2, rfl, ?_⟩
    have h1 := Done.comm_at (C := fun X => Star X (CellW g2 #[.int .i64 1, .int .i64 (min z 64), .bool true, .pointer (some ⟨go, 0, none⟩), .int .i64 0, .bool false] 58)) (Fr.l Fr.id_ (CellW.stab _ _ _)) HS2.out
    have h2 := Done.comm_at (C := fun X => X) Fr.id_ h1.drop_mid
    refine h2.mono fun F hF => ⟨TurnM.ok_new (.inl rfl), go, ?_⟩
    show Star (CellW g2 #[.int .i64 1, .int .i64 (min z 64), .bool true, .pointer (some ⟨go, 0, none⟩), .int .i64 0, .bool false] 58) (ROut go (OutM.new wi)) _ _
    exact hF
  · skip
    go_enter Tryz.func29, Tryz.ntmps29
    go_wp2
    refine rests_begin (fun W => W.heap[w.heap.size]? = some (.cells #[.int .i64 b, .int .i64 s, .int .i64 wi, .int .i64 z, .int .i64 wa] 43 (0, 0))) (by kernel_rfl) ?_
    refine rests_take 0 (oi := _) (v := ?_) (by simp only [List.getElem?_toArray, List.getElem?_cons_zero]; rfl) (by kernel_rfl) (by kernel_rfl) (by kernel_rfl) (by exact fun _ _ _ h => h) (HEd.out) (by rfl) ?_ ?_; rotate_left; (· intro W HW; go_simp; try with_reducible rfl)
    simp only [Act.put, List.setIfInBounds_toArray, List.set_cons_zero, List.set_cons_succ]
    refine rests_take 1 (oi := _) (v := ?_) (by simp only [List.getElem?_toArray, List.getElem?_cons_succ, List.getElem?_cons_zero]; rfl) (by kernel_rfl) (by kernel_rfl) (by kernel_rfl) (by exact fun _ _ _ h => h) (HEd.out) (by rfl) ?_ ?_; rotate_left; (· intro W HW; go_simp; try with_reducible rfl)
    simp only [Act.put, List.setIfInBounds_toArray, List.set_cons_zero, List.set_cons_succ]
    refine rests_take 2 (oi := _) (v := ?_) (by simp only [List.getElem?_toArray, List.getElem?_cons_succ, List.getElem?_cons_zero]; rfl) (by kernel_rfl) (by kernel_rfl) (by kernel_rfl) (by exact fun _ _ _ h => h) (HEd.out) (by rfl) ?_ ?_; rotate_left; (· intro W HW; have cw3 : W.cell? ⟨w.heap.size, 3, none⟩ = some (.int .i64 z) := cell_at HW 3 _ rfl; go_simp; try with_reducible rfl)
    simp only [Act.put, List.setIfInBounds_toArray, List.set_cons_zero, List.set_cons_succ]
    refine rests_take 3 (oi := _) (v := ?_) (by simp only [List.getElem?_toArray, List.getElem?_cons_succ, List.getElem?_cons_zero]; rfl) (by kernel_rfl) (by kernel_rfl) (by kernel_rfl) (by exact fun _ _ _ h => h) (HEd.out) (by rfl) ?_ ?_; rotate_left; (· intro W HW; go_simp; try with_reducible rfl)
    simp only [Act.put, List.setIfInBounds_toArray, List.set_cons_zero, List.set_cons_succ]
    refine rests_take 4 (oi := _) (v := ?_) (by simp only [List.getElem?_toArray, List.getElem?_cons_succ, List.getElem?_cons_zero]; rfl) (by kernel_rfl) (by kernel_rfl) (by kernel_rfl) (by exact fun _ _ _ h => h) (HEd.out) (by rfl) ?_ ?_; rotate_left; (· intro W HW; go_simp; try with_reducible rfl)
    simp only [Act.put, List.setIfInBounds_toArray, List.set_cons_zero, List.set_cons_succ]
    refine rests_take 5 (oi := _) (v := ?_) (by simp only [List.getElem?_toArray, List.getElem?_cons_succ, List.getElem?_cons_zero]; rfl) (by kernel_rfl) (by kernel_rfl) (by kernel_rfl) (by exact fun _ _ _ h => h) (HEd.out) (by rfl) ?_ ?_; rotate_left; (· intro W HW; go_simp; try with_reducible rfl)
    simp only [Act.put, List.setIfInBounds_toArray, List.set_cons_zero, List.set_cons_succ]
    refine rests_take 6 (oi := _) (v := ?_) (by simp only [List.getElem?_toArray, List.getElem?_cons_succ, List.getElem?_cons_zero]; rfl) (by kernel_rfl) (by kernel_rfl) (by kernel_rfl) (by exact fun _ _ _ h => h) (HEd.out) (by rfl) ?_ ?_; rotate_left; (· intro W HW; go_simp; try with_reducible rfl)
    simp only [Act.put, List.setIfInBounds_toArray, List.set_cons_zero, List.set_cons_succ]
    refine rests_take 7 (oi := _) (v := ?_) (by simp only [List.getElem?_toArray, List.getElem?_cons_succ, List.getElem?_cons_zero]; rfl) (by kernel_rfl) (by kernel_rfl) (by kernel_rfl) (by exact fun _ _ _ h => h) (HEd.out) (by rfl) ?_ ?_; rotate_left; (· intro W HW; have cw2 : W.cell? ⟨w.heap.size, 2, none⟩ = some (.int .i64 wi) := cell_at HW 2 _ rfl; go_simp; try with_reducible rfl)
    simp only [Act.put, List.setIfInBounds_toArray, List.set_cons_zero, List.set_cons_succ]
    refine rests_call 8 (oi := _) (by simp only [List.getElem?_toArray, List.getElem?_cons_succ, List.getElem?_cons_zero]; rfl) 59 #[.int .i64 wi] _ (by kernel_rfl) (by rfl) (by go_simp) (rnew_add (CellW.stab _ _ _) HSd.out) ?_
    rintro e w1 ⟨go, rfl, hs⟩; have HS1 := Lib.hid hs; have HE1 : Hid ((fun W => W.heap[w.heap.size]? = some (.cells #[.int .i64 b, .int .i64 s, .int .i64 wi, .int .i64 z, .int .i64 wa] 43 (0, 0))) w1) := (Done.at_ (C := fun X => Star (X) (ROut go (OutM.new wi))) (Fr.l Fr.id_ (ROut.stab _ _)) hs); refine ⟨_, rfl, HE1.out, ?_⟩; clear hs
    simp only [Act.put, List.setIfInBounds_toArray, List.set_cons_zero, List.set_cons_succ]
    refine rests_take 9 (oi := _) (v := ?_) (by simp only [List.getElem?_toArray, List.getElem?_cons_succ, List.getElem?_cons_zero]; rfl) (by kernel_rfl) (by kernel_rfl) (by kernel_rfl) (by exact fun _ _ _ h => h) (HE1.out) (by rfl) ?_ ?_; rotate_left; (· intro W HW; go_simp; try with_reducible rfl)
    simp only [Act.put, List.setIfInBounds_toArray, List.set_cons_zero, List.set_cons_succ]
    obtain ⟨g2, hg2⟩ : ∃ g, g = (w1).heap.size := ⟨_, rfl⟩
    have hal2 := CellW.new (w1) #[.int .i64 2, .int .i64 (min z 64), .bool false, .pointer (some ⟨go, 0, none⟩), .int .i64 0, .bool false] 58
    rw [← hg2] at hal2
    obtain ⟨w2, hw2⟩ : ∃ wz, wz = (w1).alloc (.cells #[.int .i64 2, .int .i64 (min z 64), .bool false, .pointer (some ⟨go, 0, none⟩), .int .i64 0, .bool false] 58) := ⟨_, rfl⟩
    rw [← hw2] at hal2
    have HS2 := Lib.hid (HS1.out.add ((CellW.stab _ _ _).star (ROut.stab _ _)) hal2)
    have HE2 : Hid ((fun W => W.heap[w.heap.size]? = some (.cells #[.int .i64 b, .int .i64 s, .int .i64 wi, .int .i64 z, .int .i64 wa] 43 (0, 0))) w2) := (Done.at_ (C := fun X => Star (Star (X) (ROut go (OutM.new wi))) (CellW g2 #[.int .i64 2, .int .i64 (min z 64), .bool false, .pointer (some ⟨go, 0, none⟩), .int .i64 0, .bool false] 58)) (Fr.l (Fr.l Fr.id_ (ROut.stab _ _)) (CellW.stab _ _ _)) HS2.out)
    refine rests_run 10 (oi := _) (by simp only [List.getElem?_toArray, List.getElem?_cons_succ, List.getElem?_cons_zero]; rfl) (by kernel_rfl) (by rfl) (.pointer (some ⟨g2, 0, none⟩)) w2 (by rw [hg2, hw2]; go_simp) ⟨HE2.out, ?_⟩
    clear hg2 hal2 hw2
    simp only [Act.put, List.setIfInBounds_toArray, List.set_cons_zero, List.set_cons_succ]
    refine rests_take 11 (oi := _) (v := ?_) (by simp only [List.getElem?_toArray, List.getElem?_cons_succ, List.getElem?_cons_zero]; rfl) (by kernel_rfl) (by kernel_rfl) (by kernel_rfl) (by exact fun _ _ _ h => h) (HE2.out) (by rfl) ?_ ?_; rotate_left; (· intro W HW; go_simp; try with_reducible rfl)
    simp only [Act.put, List.setIfInBounds_toArray, List.set_cons_zero, List.set_cons_succ]
    refine rests_done (by kernel_rfl) ?_
    go_wp2
    go_ret
    refine ⟨g2, rfl, ?_⟩
    have h1 := Done.comm_at (C := fun X => Star X (CellW g2 #[.int .i64 2, .int .i64 (min z 64), .bool false, .pointer (some ⟨go, 0, none⟩), .int .i64 0, .bool false] 58)) (Fr.l Fr.id_ (CellW.stab _ _ _)) HS2.out
    have h2 := Done.comm_at (C := fun X => X) Fr.id_ h1.drop_mid
    refine h2.mono fun F hF => ⟨TurnM.ok_new (.inr rfl), go, ?_⟩
    show Star (CellW g2 #[.int .i64 2, .int .i64 (min z 64), .bool false, .pointer (some ⟨go, 0, none⟩), .int .i64 0, .bool false] 58) (ROut go (OutM.new wi)) _ _
    exact hF
set_option maxRecDepth 100000 in
set_option maxHeartbeats 16000000 in
theorem RTnPut_any (g : Nat) (m : TurnM) (F : List Nat) (s : ByteArray) (w : World) (h : RTn g m w F) : Calls Tryz.prog 32 #[.pointer (some ⟨g, 0, none⟩), .string s] w fun e w' => e = .returned (.int .i64 (m.putE s)) ∧ Done w F (RTn g (m.put s)) w' := by
  obtain ⟨hok, go, h⟩ := h
  have hS := Done.start h
  have hg : w.heap[g]? = some (.cells (turnc m go) 58 (0, 0)) := (Done.at_ (C := fun X => Star (X) (ROut go m.out)) (Fr.l Fr.id_ (ROut.stab _ _)) hS)
  have q1 : w.cell? ⟨g, 1, none⟩ = some (.int .i64 m.size) := cell_at hg 1 _ rfl
  have q3 : w.cell? ⟨g, 3, none⟩ = some (.pointer (some ⟨go, 0, none⟩)) := cell_at hg 3 _ rfl
  have hok2 := hok.put s
  unfold TurnM.put at hok2
  unfold TurnM.putE TurnM.put
  have HS := Lib.hid hS
  have HOK2 := Lib.hid hok2
  clear hok hok2 h hS hg
  by_cases hz : m.size < (s.size : Int)
  · have t1 : decide (m.size < (s.size : Int)) = true := decide_eq_true hz
    have HOK3 := Lib.hid (by have := HOK2.out; rw [if_pos hz] at this; exact this)
    rw [if_pos hz, if_pos hz]
    clear hz HOK2
    go_enter Tryz.func32, Tryz.ntmps32
    go_wp2
    go_ret
    exact ⟨rfl, HS.out.mono fun F hF => ⟨HOK3.out, go, hF⟩⟩
  · have t1 : decide (m.size < (s.size : Int)) = false := decide_eq_false hz
    have HOK3 := Lib.hid (by have := HOK2.out; rw [if_neg hz] at this; exact this)
    rw [if_neg hz, if_neg hz]
    have hp := dcalls_at (C := fun X => Star (CellW g (turnc m go) 58) X) (Fr.r (CellW.stab _ _ _) Fr.id_) HS.out (fun F hF => ROPut_any go m.out F s w hF)
    generalize (if m.out.full = true then (3 : Int) else 0) = rr at hp ⊢
    have HP := Lib.hid hp
    clear hz HOK2 hp
    go_enter Tryz.func32, Tryz.ntmps32
    go_wp2_with (go_at_call 60; ((with_reducible refine (HP.out).mono ?_); rintro e w1 ⟨rfl, hs⟩; have HS1 := Lib.hid hs; clear hs))
    go_ret
    exact ⟨rfl, HS1.out.mono fun F hF => ⟨HOK3.out, go, hF⟩⟩
set_option maxRecDepth 100000 in
set_option maxHeartbeats 4000000 in
theorem RLate_any (g go : Nat) (m : TurnM) (w : World) (F : List Nat) (h : CellW g (turnc m go) 58 w F) : Calls Tryz.prog 40 #[.pointer (some ⟨g, 0, none⟩)] w fun e w' => e = .returned (.bool m.lates) ∧ Done w F (CellW g (turnc m.late go) 58) w' := by
  have h' := h
  obtain ⟨rfl, hh⟩ := h'
  obtain ⟨R, sz, mi, o, ⟨nx, od⟩⟩ := m
  unfold turnc at hh
  simp only at hh
  have c0 : w.cell? ⟨g, 0, none⟩ = some (.int .i64 R) := cell_at hh 0 _ rfl
  have c2 : w.cell? ⟨g, 2, none⟩ = some (.bool mi) := cell_at hh 2 _ rfl
  have f2 := frz_at hh 2
  have H := Lib.hid hh
  have HC := Lib.hid h
  clear h hh
  by_cases hR : R = 1
  · rcases mi with _ | _
    · have e1 : TurnM.lates ⟨R, sz, false, o, ⟨nx, od⟩⟩ = true := by subst hR; rfl
      have e2 : TurnM.late ⟨R, sz, false, o, ⟨nx, od⟩⟩ = ⟨R, sz, true, o, ⟨nx, od⟩⟩ := by subst hR; rfl
      rw [e1, e2]
      have t1 : (R == 1) = true := by rw [hR]; rfl
      have HR := Lib.hid hR
      clear e1 e2
      go_enter Tryz.func40, Tryz.ntmps40
      go_wp2
      go_ret
      refine ⟨rfl, CellW.put HC.out (grown_set (p := ⟨g, 2, none⟩) (grownBy_refl w (some g)) rfl (.bool true)) ?_⟩
      exact set_block H.out 2 (.bool true)
    · have e1 : TurnM.lates ⟨R, sz, true, o, ⟨nx, od⟩⟩ = false := by subst hR; rfl
      have e2 : TurnM.late ⟨R, sz, true, o, ⟨nx, od⟩⟩ = ⟨R, sz, true, o, ⟨nx, od⟩⟩ := rfl
      rw [e1, e2]
      clear e1 e2
      go_enter Tryz.func40, Tryz.ntmps40
      go_wp2
      go_ret
      exact ⟨rfl, Done.of_below (Below.refl _ _) HC.out⟩
  · have e1 : TurnM.lates ⟨R, sz, mi, o, ⟨nx, od⟩⟩ = false := by unfold TurnM.lates; rw [decide_eq_false hR]; rfl
    have e2 : TurnM.late ⟨R, sz, mi, o, ⟨nx, od⟩⟩ = ⟨R, sz, mi, o, ⟨nx, od⟩⟩ := by unfold TurnM.late; rw [decide_eq_false hR, Bool.or_false]
    rw [e1, e2]
    clear e1 e2
    go_enter Tryz.func40, Tryz.ntmps40
    go_wp2
    go_ret
    exact ⟨rfl, Done.of_below (Below.refl _ _) HC.out⟩
set_option maxRecDepth 100000 in
set_option maxHeartbeats 4000000 in
theorem RSwap_any (g go : Nat) (m : TurnM) (w : World) (F : List Nat) (hm : m.role = 1 ∨ m.role = 2) (h : CellW g (turnc m go) 58 w F) : Calls Tryz.prog 42 #[.pointer (some ⟨g, 0, none⟩)] w fun e w' => e = .returned (.tuple #[]) ∧ Done w F (CellW g (turnc m.swap go) 58) w' := by
  have h' := h
  obtain ⟨rfl, hh⟩ := h'
  obtain ⟨R, sz, mi, o, ⟨nx, od⟩⟩ := m
  simp only at hm
  unfold turnc at hh
  simp only at hh
  have c0 : w.cell? ⟨g, 0, none⟩ = some (.int .i64 R) := cell_at hh 0 _ rfl
  have c2 : w.cell? ⟨g, 2, none⟩ = some (.bool mi) := cell_at hh 2 _ rfl
  have f0 := frz_at hh 0
  have f2 := frz_at hh 2
  have H := Lib.hid hh
  have HC := Lib.hid h
  clear h hh
  rcases hm with rfl | rfl
  · go_enter Tryz.func42, Tryz.ntmps42
    go_wp2
    go_end0
    refine ⟨rfl, CellW.put HC.out (grown_set (p := ⟨g, 2, none⟩) (grown_set (p := ⟨g, 0, none⟩) (grownBy_refl w (some g)) rfl (.int .i64 2)) rfl (.bool false)) ?_⟩
    exact set_block (set_block H.out 0 (.int .i64 2)) 2 (.bool false)
  · go_enter Tryz.func42, Tryz.ntmps42
    go_wp2
    go_end0
    refine ⟨rfl, CellW.put HC.out (grown_set (p := ⟨g, 2, none⟩) (grown_set (p := ⟨g, 0, none⟩) (grownBy_refl w (some g)) rfl (.int .i64 1)) rfl (.bool true)) ?_⟩
    exact set_block (set_block H.out 0 (.int .i64 1)) 2 (.bool true)
theorem RTnLate_any (g : Nat) (m : TurnM) (F : List Nat) (w : World) (h : RTn g m w F) : Calls Tryz.prog 40 #[.pointer (some ⟨g, 0, none⟩)] w fun e w' => e = .returned (.bool m.lates) ∧ Done w F (RTn g m.late) w' := by
  obtain ⟨hok, go, h⟩ := h
  refine (dcalls_at (C := fun X => Star X (ROut go m.out)) (Fr.l Fr.id_ (ROut.stab _ _)) (Done.start h) (fun F hF => RLate_any g go m w F hF)).mono ?_
  rintro e w' ⟨rfl, hs⟩
  exact ⟨rfl, hs.mono fun F hF => ⟨hok.late, go, hF⟩⟩
theorem RTnSwap_any (g : Nat) (m : TurnM) (F : List Nat) (w : World) (h : RTn g m w F) : Calls Tryz.prog 42 #[.pointer (some ⟨g, 0, none⟩)] w fun e w' => e = .returned (.tuple #[]) ∧ Done w F (RTn g m.swap) w' := by
  obtain ⟨hok, go, h⟩ := h
  refine (dcalls_at (C := fun X => Star X (ROut go m.out)) (Fr.l Fr.id_ (ROut.stab _ _)) (Done.start h) (fun F hF => RSwap_any g go m w F hok.role hF)).mono ?_
  rintro e w' ⟨rfl, hs⟩
  exact ⟨rfl, hs.mono fun F hF => ⟨hok.swap, go, hF⟩⟩
end Go.Proofs.YtocjhpaackccpaaGreatDoor
