/- Of layer 12: TurnA, TurnA3, OfM, DealM, BitM, TickM, MeetM, Ref8a, XidM, OpenOffer, RowU, Q8W, Ref8b, Ref8c. -/
import Derived.Test.YtocjhpaackccpaaGreatDoorN12A
import Derived.Test.YtocjhpaackccpaaGreatDoorM4C
import Derived.Test.YtocjhpaackccpaaGreatDoorM4H
import Derived.Test.YtocjhpaackccpaaGreatDoorM4I
import Derived.Test.YtocjhpaackccpaaGreatDoorM4A
import Derived.Test.YtocjhpaackccpaaGreatDoorM4E
import Derived.Test.YtocjhpaackccpaaGreatDoorM4D
import Derived.Test.YtocjhpaackccpaaGreatDoorM4G
import Derived.Deep.MidRow
import Derived.Laws.BitsAllLaws
import Derived.Laws.BitsLemmas

set_option linter.all false

namespace Go.Proofs.YtocjhpaackccpaaGreatDoor
open Go.RowKit M

def TurnO (gt : Nat) (ao ai : Addr) (m : TurnM) : Obj := Star (Star (CellW gt #[.int .i64 m.role, .int .i64 m.size, .bool m.mine, .pointer (some ao), .pointer (some ai)] 92) (OutW (.pointer (some ao)) m.out)) (InW (.pointer (some ai)) m.inn)
/-- The landed Turn at v. -/
def TurnW (v : Value) (m : TurnM) : Obj := fun w F => m.ok ∧ ∃ gt ao ai, v = .pointer (some ⟨gt, 0, none⟩) ∧ TurnO gt ao ai m w F
theorem TurnO.stab (gt : Nat) (ao ai : Addr) (m : TurnM) : Stab (TurnO gt ao ai m) := ((CellW.stab _ _ _).star (OutW.stab _ _)).star (InW.stab _ _)
theorem TurnW.stab (v : Value) (m : TurnM) : Stab (TurnW v m) where
  in_ := fun ⟨_, gt, ao, ai, _, h⟩ => (TurnO.stab gt ao ai m).in_ h
  tch := fun ⟨h1, gt, ao, ai, e, h⟩ ht hd => ⟨h1, gt, ao, ai, e, (TurnO.stab gt ao ai m).tch h ht hd⟩
section
variable {w : World} {v : Value} {F : List Nat}
theorem TurnW.ptr {m : TurnM} (h : TurnW v m w F) : ∃ a : Addr, v = .pointer (some a) := by
  obtain ⟨_, gt, ao, ai, rfl, _⟩ := h
  exact ⟨_, rfl⟩
theorem TurnW.ok {m : TurnM} (h : TurnW v m w F) : m.ok := h.1
theorem TurnO.cells {gt : Nat} {ao ai : Addr} {m : TurnM} (h : TurnO gt ao ai m w F) : w.heap[gt]? = some (.cells #[.int .i64 m.role, .int .i64 m.size, .bool m.mine, .pointer (some ao), .pointer (some ai)] 92 (0, 0)) := by
  obtain ⟨F1, F2, _, ⟨F3, F4, _, k1, _, _⟩, _, _⟩ := h
  exact k1.2
theorem TurnO.outw {gt : Nat} {ao ai : Addr} {m : TurnM} (h : TurnO gt ao ai m w F) : ∃ F1, OutW (.pointer (some ao)) m.out w F1 := by
  obtain ⟨F1, F2, _, ⟨F3, F4, _, _, k2, _⟩, _, _⟩ := h
  exact ⟨_, k2⟩
end
theorem tcalls_look {P : Program} {f : FuncId} {args : Array Value} {ret : Value} {w0 w : World} {F0 : List Nat} {C : Obj → Obj} {R : Obj} (hC : Fr C) (hH : Stab (C R)) (h : Done w0 F0 (C R) w)
    (hc : ∀ F, R w F → Calls P f args w fun e w' => e = .returned ret ∧ Below w.heap.size w w') : Calls P f args w fun e w' => e = .returned ret ∧ Done w0 F0 (C R) w' := by
  obtain ⟨F1, h1⟩ := h.get hC
  exact dcalls_keep hH h (hc F1 h1)
theorem Done.last_first {w0 w : World} {F0 : List Nat} {A B K D : Obj} (h : Done w0 F0 (Star (Star (Star A B) K) D) w) : Done w0 F0 (Star (Star D B) K) w := by
  obtain ⟨F, ⟨F1, F2, rfl, ⟨F3, F4, rfl, ⟨F5, F6, rfl, h5, h6, h56⟩, h4, h34⟩, h2, h12⟩, ht, hs⟩ := h
  refine ⟨(F2 ++ F6) ++ F4, ⟨F2 ++ F6, F4, rfl, ⟨F2, F6, rfl, h2, h6, h12.l.r.symm⟩, h4, (h12.r.symm).app h34.r⟩, ht, fun g hg => hs g ?_⟩
  rcases List.mem_append.1 hg with h1 | h1
  · rcases List.mem_append.1 h1 with h3 | h3
    · exact List.mem_append_right _ h3
    · exact List.mem_append_left _ (List.mem_append_left _ (List.mem_append_right _ h3))
  · exact List.mem_append_left _ (List.mem_append_right _ h1)
theorem Done.swap2 {w0 w : World} {F0 : List Nat} {A B K : Obj} (hA : Stab A) (h : Done w0 F0 (Star (Star A B) K) w) : Done w0 F0 (Star (Star A K) B) w :=
  Done.unassoc_at (C := fun X => X) Fr.id_ (Done.comm_at (C := fun X => Star A X) (Fr.r hA Fr.id_) (Done.assoc_at (C := fun X => X) Fr.id_ h))

theorem TnPrim_at (gt : Nat) (R : Int) (c : Bool) (w : World) (hr : R = 1 ∨ R = 2) (hc : decide (R = 1) = c) (q : w.cell? ⟨gt, 0, none⟩ = some (.int .i64 R)) : Calls Tryz.prog 65 #[.pointer (some ⟨gt, 0, none⟩)] w fun e w' => e = .returned (.bool c) ∧ w' = w := by
  subst hc
  rcases hr with rfl | rfl
  · go_enter Tryz.func65, Tryz.ntmps65
    go_wp2
    go_ret
    exact ⟨rfl, rfl⟩
  · go_enter Tryz.func65, Tryz.ntmps65
    go_wp2
    go_ret
    exact ⟨rfl, rfl⟩
theorem TnMine_at (gt : Nat) (b : Bool) (w : World) (q : w.cell? ⟨gt, 2, none⟩ = some (.bool b)) : Calls Tryz.prog 43 #[.pointer (some ⟨gt, 0, none⟩)] w fun e w' => e = .returned (.bool b) ∧ w' = w := by
  go_enter Tryz.func43, Tryz.ntmps43
  go_wp2
  go_ret
  exact ⟨rfl, rfl⟩
theorem TnMine_any (v : Value) (m : TurnM) (F : List Nat) (w : World) (h : TurnW v m w F) : Calls Tryz.prog 43 #[v] w fun e w' => e = .returned (.bool m.mine) ∧ Below w.heap.size w w' := by
  obtain ⟨_, gt, ao, ai, rfl, h⟩ := h
  refine (TnMine_at gt m.mine w (cell_at h.cells 2 _ rfl)).mono ?_
  rintro e w' ⟨rfl, rfl⟩
  exact ⟨rfl, Below.refl _ _⟩
theorem TnRole_any (v : Value) (m : TurnM) (F : List Nat) (w : World) (h : TurnW v m w F) : Calls Tryz.prog 44 #[v] w fun e w' => e = .returned (.int .i64 m.role) ∧ Below w.heap.size w w' := by
  obtain ⟨_, gt, ao, ai, rfl, h⟩ := h
  have q := cell_at h.cells 0 _ rfl
  generalize m.role = R at q ⊢
  clear h
  go_enter Tryz.func44, Tryz.ntmps44
  go_wp2
  go_ret
  exact ⟨rfl, Below.refl _ _⟩
theorem TnLeft_any (v : Value) (m : TurnM) (F : List Nat) (w : World) (h : TurnW v m w F) : Calls Tryz.prog 45 #[v] w fun e w' => e = .returned (.int .i64 (m.left : Int)) ∧ Below w.heap.size w w' := by
  obtain ⟨_, gt, ao, ai, rfl, h⟩ := h
  have q := cell_at h.cells 3 _ rfl
  obtain ⟨F1, h1⟩ := h.outw
  have hl := OLen_any _ _ _ w h1
  unfold TurnM.left
  generalize (m.out.l.length : Int) = n at hl ⊢
  have HL := Lib.hid hl
  clear h h1 hl
  go_enter Tryz.func45, Tryz.ntmps45
  go_wp2_with (go_at_call 50; ((with_reducible refine HL.out.mono ?_); rintro e w1 ⟨rfl, hb⟩; have HB := Lib.hid hb; clear hb))
  go_ret
  exact ⟨rfl, HB.out⟩
theorem onew_add {w0 w : World} {F0 : List Nat} {H : Obj} {n : Int} (hH : Stab H) (h : Done w0 F0 H w) (hn : (Lit.int .i64 n).wf = true) : Calls Tryz.prog 53 #[.int .i64 n] w fun e w' => ∃ a : Addr, e = .returned (.pointer (some a)) ∧ Done w0 F0 (Star H (OutW (.pointer (some a)) (OutM.new n))) w' := by
  refine (ONew_any n w hn).mono ?_
  rintro e w' ⟨v, rfl, hd⟩
  have hs := h.add hH hd
  obtain ⟨_, h0⟩ := hs.get (C := fun X => Star H X) (Fr.r hH Fr.id_)
  obtain ⟨a, rfl⟩ := h0.ptr
  exact ⟨a, rfl, hs⟩
theorem inew_add {w0 w : World} {F0 : List Nat} {H : Obj} (hH : Stab H) (h : Done w0 F0 H w) : Calls Tryz.prog 23 #[] w fun e w' => ∃ a : Addr, e = .returned (.pointer (some a)) ∧ Done w0 F0 (Star H (InW (.pointer (some a)) InM.new)) w' := by
  refine (INew_any w).mono ?_
  rintro e w' ⟨v, rfl, hd⟩
  have hs := h.add hH hd
  obtain ⟨_, h0⟩ := hs.get (C := fun X => Star H X) (Fr.r hH Fr.id_)
  obtain ⟨a, rfl⟩ := h0.ptr
  exact ⟨a, rfl, hs⟩
set_option maxRecDepth 100000 in
set_option maxHeartbeats 16000000 in
theorem TnNew_any (role b s wi z wa : Int) (w : World) (hr : role = 1 ∨ role = 2) (hwi : (Lit.int .i64 wi).wf = true) (_hz : (Lit.int .i64 z).wf = true) : Calls Tryz.prog 28 #[.int .i64 role, .agg #[.int .i64 b, .int .i64 s, .int .i64 wi, .int .i64 z, .int .i64 wa]] w fun e w' => ∃ v, e = .returned v ∧ Done w [] (TurnW v (TurnM.new role wi z)) w' := by
  have HWI := Lib.hid hwi
  have HS := Lib.hid (CellW.new w #[.int .i64 b, .int .i64 s, .int .i64 wi, .int .i64 z, .int .i64 wa] 43)
  have HSd := Lib.hid (HS.out.drewD (CellW.stab _ _ _))
  have HEd : Hid ((fun W => W.heap[w.heap.size]? = some (.cells #[.int .i64 b, .int .i64 s, .int .i64 wi, .int .i64 z, .int .i64 wa] 43 (0, 0))) (w.alloc (.cells #[.int .i64 b, .int .i64 s, .int .i64 wi, .int .i64 z, .int .i64 wa] 43)).drew) := (Done.at_ (C := fun X => X) Fr.id_ HSd.out)
  clear HS hwi _hz
  rcases hr with rfl | rfl
  · skip
    go_enter Tryz.func28, Tryz.ntmps28
    go_wp2
    refine rests_begin (fun W => W.heap[w.heap.size]? = some (.cells #[.int .i64 b, .int .i64 s, .int .i64 wi, .int .i64 z, .int .i64 wa] 43 (0, 0))) (by kernel_rfl) ?_
    refine rests_take 0 (oi := _) (v := ?_) (by simp only [List.getElem?_toArray, List.getElem?_cons_zero]; rfl) (by kernel_rfl) (by kernel_rfl) (by kernel_rfl) (by exact fun _ _ _ h => h) (HEd.out) (by rfl) ?_ ?_; rotate_left; (· intro W HW; go_simp; try with_reducible rfl)
    simp only [Act.put, List.setIfInBounds_toArray, List.set_cons_zero, List.set_cons_succ]
    refine rests_take 1 (oi := _) (v := ?_) (by simp only [List.getElem?_toArray, List.getElem?_cons_succ, List.getElem?_cons_zero]; rfl) (by kernel_rfl) (by kernel_rfl) (by kernel_rfl) (by exact fun _ _ _ h => h) (HEd.out) (by rfl) ?_ ?_; rotate_left; (· intro W HW; go_simp; try with_reducible rfl)
    simp only [Act.put, List.setIfInBounds_toArray, List.set_cons_zero, List.set_cons_succ]
    refine rests_take 2 (oi := _) (v := ?_) (by simp only [List.getElem?_toArray, List.getElem?_cons_succ, List.getElem?_cons_zero]; rfl) (by kernel_rfl) (by kernel_rfl) (by kernel_rfl) (by exact fun _ _ _ h => h) (HEd.out) (by rfl) ?_ ?_; rotate_left; (· intro W HW; have cw3 : W.cell? ⟨w.heap.size, 3, none⟩ = some (.int .i64 z) := cell_at HW 3 _ rfl; go_simp; try with_reducible rfl)
    simp only [Act.put, List.setIfInBounds_toArray, List.set_cons_zero, List.set_cons_succ]
    refine rests_take 3 (oi := _) (v := ?_) (by simp only [List.getElem?_toArray, List.getElem?_cons_succ, List.getElem?_cons_zero]; rfl) (by kernel_rfl) (by kernel_rfl) (by kernel_rfl) (by exact fun _ _ _ h => h) (HEd.out) (by rfl) ?_ ?_; rotate_left; (· intro W HW; go_simp; try with_reducible rfl)
    simp only [Act.put, List.setIfInBounds_toArray, List.set_cons_zero, List.set_cons_succ]
    refine rests_take 4 (oi := _) (v := ?_) (by simp only [List.getElem?_toArray, List.getElem?_cons_succ, List.getElem?_cons_zero]; rfl) (by kernel_rfl) (by kernel_rfl) (by kernel_rfl) (by exact fun _ _ _ h => h) (HEd.out) (by rfl) ?_ ?_; rotate_left; (· intro W HW; go_simp; try with_reducible rfl)
    simp only [Act.put, List.setIfInBounds_toArray, List.set_cons_zero, List.set_cons_succ]
    refine rests_take 5 (oi := _) (v := ?_) (by simp only [List.getElem?_toArray, List.getElem?_cons_succ, List.getElem?_cons_zero]; rfl) (by kernel_rfl) (by kernel_rfl) (by kernel_rfl) (by exact fun _ _ _ h => h) (HEd.out) (by rfl) ?_ ?_; rotate_left; (· intro W HW; go_simp; try with_reducible rfl)
    simp only [Act.put, List.setIfInBounds_toArray, List.set_cons_zero, List.set_cons_succ]
    refine rests_take 6 (oi := _) (v := ?_) (by simp only [List.getElem?_toArray, List.getElem?_cons_succ, List.getElem?_cons_zero]; rfl) (by kernel_rfl) (by kernel_rfl) (by kernel_rfl) (by exact fun _ _ _ h => h) (HEd.out) (by rfl) ?_ ?_; rotate_left; (· intro W HW; go_simp; try with_reducible rfl)
    simp only [Act.put, List.setIfInBounds_toArray, List.set_cons_zero, List.set_cons_succ]
    refine rests_take 7 (oi := _) (v := ?_) (by simp only [List.getElem?_toArray, List.getElem?_cons_succ, List.getElem?_cons_zero]; rfl) (by kernel_rfl) (by kernel_rfl) (by kernel_rfl) (by exact fun _ _ _ h => h) (HEd.out) (by rfl) ?_ ?_; rotate_left; (· intro W HW; have cw2 : W.cell? ⟨w.heap.size, 2, none⟩ = some (.int .i64 wi) := cell_at HW 2 _ rfl; go_simp; try with_reducible rfl)
    simp only [Act.put, List.setIfInBounds_toArray, List.set_cons_zero, List.set_cons_succ]
    refine rests_call 8 (oi := _) (by simp only [List.getElem?_toArray, List.getElem?_cons_succ, List.getElem?_cons_zero]; rfl) 53 #[.int .i64 wi] _ (by kernel_rfl) (by rfl) (by go_simp) (onew_add (CellW.stab _ _ _) HSd.out HWI.out) ?_
    rintro e w1 ⟨ao, rfl, hs⟩; have HS1 := Lib.hid hs; have HE1 : Hid ((fun W => W.heap[w.heap.size]? = some (.cells #[.int .i64 b, .int .i64 s, .int .i64 wi, .int .i64 z, .int .i64 wa] 43 (0, 0))) w1) := (Done.at_ (C := fun X => Star (X) (OutW (.pointer (some ao)) (OutM.new wi))) (Fr.l Fr.id_ (OutW.stab _ _)) hs); refine ⟨_, rfl, HE1.out, ?_⟩; clear hs
    simp only [Act.put, List.setIfInBounds_toArray, List.set_cons_zero, List.set_cons_succ]
    refine rests_call 9 (oi := _) (by simp only [List.getElem?_toArray, List.getElem?_cons_succ, List.getElem?_cons_zero]; rfl) 23 #[] _ (by kernel_rfl) (by rfl) (by go_simp) (inew_add ((CellW.stab _ _ _).star (OutW.stab _ _)) HS1.out) ?_
    rintro e w2 ⟨ai, rfl, hs⟩; have HS2 := Lib.hid hs; have HE2 : Hid ((fun W => W.heap[w.heap.size]? = some (.cells #[.int .i64 b, .int .i64 s, .int .i64 wi, .int .i64 z, .int .i64 wa] 43 (0, 0))) w2) := (Done.at_ (C := fun X => Star (Star (X) (OutW (.pointer (some ao)) (OutM.new wi))) (InW (.pointer (some ai)) InM.new)) (Fr.l (Fr.l Fr.id_ (OutW.stab _ _)) (InW.stab _ _)) hs); refine ⟨_, rfl, HE2.out, ?_⟩; clear hs
    simp only [Act.put, List.setIfInBounds_toArray, List.set_cons_zero, List.set_cons_succ]
    refine rests_take 10 (oi := _) (v := ?_) (by simp only [List.getElem?_toArray, List.getElem?_cons_succ, List.getElem?_cons_zero]; rfl) (by kernel_rfl) (by kernel_rfl) (by kernel_rfl) (by exact fun _ _ _ h => h) (HE2.out) (by rfl) ?_ ?_; rotate_left; (· intro W HW; go_simp; try with_reducible rfl)
    simp only [Act.put, List.setIfInBounds_toArray, List.set_cons_zero, List.set_cons_succ]
    obtain ⟨g3, hg3⟩ : ∃ g, g = (w2).heap.size := ⟨_, rfl⟩
    have hal3 := CellW.new (w2) #[.int .i64 1, .int .i64 (min z 64), .bool true, .pointer (some ao), .pointer (some ai)] 92
    rw [← hg3] at hal3
    obtain ⟨w3, hw3⟩ : ∃ wz, wz = (w2).alloc (.cells #[.int .i64 1, .int .i64 (min z 64), .bool true, .pointer (some ao), .pointer (some ai)] 92) := ⟨_, rfl⟩
    rw [← hw3] at hal3
    have HS3 := Lib.hid (HS2.out.add (((CellW.stab _ _ _).star (OutW.stab _ _)).star (InW.stab _ _)) hal3)
    have HE3 : Hid ((fun W => W.heap[w.heap.size]? = some (.cells #[.int .i64 b, .int .i64 s, .int .i64 wi, .int .i64 z, .int .i64 wa] 43 (0, 0))) w3) := (Done.at_ (C := fun X => Star (Star (Star (X) (OutW (.pointer (some ao)) (OutM.new wi))) (InW (.pointer (some ai)) InM.new)) (CellW g3 #[.int .i64 1, .int .i64 (min z 64), .bool true, .pointer (some ao), .pointer (some ai)] 92)) (Fr.l (Fr.l (Fr.l Fr.id_ (OutW.stab _ _)) (InW.stab _ _)) (CellW.stab _ _ _)) HS3.out)
    refine rests_run 11 (oi := _) (by simp only [List.getElem?_toArray, List.getElem?_cons_succ, List.getElem?_cons_zero]; rfl) (by kernel_rfl) (by rfl) (.pointer (some ⟨g3, 0, none⟩)) w3 (by rw [hg3, hw3]; go_simp) ⟨HE3.out, ?_⟩
    clear hg3 hal3 hw3
    simp only [Act.put, List.setIfInBounds_toArray, List.set_cons_zero, List.set_cons_succ]
    refine rests_take 12 (oi := _) (v := ?_) (by simp only [List.getElem?_toArray, List.getElem?_cons_succ, List.getElem?_cons_zero]; rfl) (by kernel_rfl) (by kernel_rfl) (by kernel_rfl) (by exact fun _ _ _ h => h) (HE3.out) (by rfl) ?_ ?_; rotate_left; (· intro W HW; go_simp; try with_reducible rfl)
    simp only [Act.put, List.setIfInBounds_toArray, List.set_cons_zero, List.set_cons_succ]
    refine rests_done (by kernel_rfl) ?_
    go_wp2
    go_ret
    refine ⟨_, rfl, HS3.out.last_first.mono fun F hF => ⟨TurnM.ok_new (.inl rfl), g3, ao, ai, rfl, ?_⟩⟩
    show Star (Star (CellW g3 #[.int .i64 1, .int .i64 (min z 64), .bool true, .pointer (some ao), .pointer (some ai)] 92) (OutW (.pointer (some ao)) (OutM.new wi))) (InW (.pointer (some ai)) InM.new) _ _
    exact hF
  · skip
    go_enter Tryz.func28, Tryz.ntmps28
    go_wp2
    refine rests_begin (fun W => W.heap[w.heap.size]? = some (.cells #[.int .i64 b, .int .i64 s, .int .i64 wi, .int .i64 z, .int .i64 wa] 43 (0, 0))) (by kernel_rfl) ?_
    refine rests_take 0 (oi := _) (v := ?_) (by simp only [List.getElem?_toArray, List.getElem?_cons_zero]; rfl) (by kernel_rfl) (by kernel_rfl) (by kernel_rfl) (by exact fun _ _ _ h => h) (HEd.out) (by rfl) ?_ ?_; rotate_left; (· intro W HW; go_simp; try with_reducible rfl)
    simp only [Act.put, List.setIfInBounds_toArray, List.set_cons_zero, List.set_cons_succ]
    refine rests_take 1 (oi := _) (v := ?_) (by simp only [List.getElem?_toArray, List.getElem?_cons_succ, List.getElem?_cons_zero]; rfl) (by kernel_rfl) (by kernel_rfl) (by kernel_rfl) (by exact fun _ _ _ h => h) (HEd.out) (by rfl) ?_ ?_; rotate_left; (· intro W HW; go_simp; try with_reducible rfl)
    simp only [Act.put, List.setIfInBounds_toArray, List.set_cons_zero, List.set_cons_succ]
    refine rests_take 2 (oi := _) (v := ?_) (by simp only [List.getElem?_toArray, List.getElem?_cons_succ, List.getElem?_cons_zero]; rfl) (by kernel_rfl) (by kernel_rfl) (by kernel_rfl) (by exact fun _ _ _ h => h) (HEd.out) (by rfl) ?_ ?_; rotate_left; (· intro W HW; have cw3 : W.cell? ⟨w.heap.size, 3, none⟩ = some (.int .i64 z) := cell_at HW 3 _ rfl; go_simp; try with_reducible rfl)
    simp only [Act.put, List.setIfInBounds_toArray, List.set_cons_zero, List.set_cons_succ]
    refine rests_take 3 (oi := _) (v := ?_) (by simp only [List.getElem?_toArray, List.getElem?_cons_succ, List.getElem?_cons_zero]; rfl) (by kernel_rfl) (by kernel_rfl) (by kernel_rfl) (by exact fun _ _ _ h => h) (HEd.out) (by rfl) ?_ ?_; rotate_left; (· intro W HW; go_simp; try with_reducible rfl)
    simp only [Act.put, List.setIfInBounds_toArray, List.set_cons_zero, List.set_cons_succ]
    refine rests_take 4 (oi := _) (v := ?_) (by simp only [List.getElem?_toArray, List.getElem?_cons_succ, List.getElem?_cons_zero]; rfl) (by kernel_rfl) (by kernel_rfl) (by kernel_rfl) (by exact fun _ _ _ h => h) (HEd.out) (by rfl) ?_ ?_; rotate_left; (· intro W HW; go_simp; try with_reducible rfl)
    simp only [Act.put, List.setIfInBounds_toArray, List.set_cons_zero, List.set_cons_succ]
    refine rests_take 5 (oi := _) (v := ?_) (by simp only [List.getElem?_toArray, List.getElem?_cons_succ, List.getElem?_cons_zero]; rfl) (by kernel_rfl) (by kernel_rfl) (by kernel_rfl) (by exact fun _ _ _ h => h) (HEd.out) (by rfl) ?_ ?_; rotate_left; (· intro W HW; go_simp; try with_reducible rfl)
    simp only [Act.put, List.setIfInBounds_toArray, List.set_cons_zero, List.set_cons_succ]
    refine rests_take 6 (oi := _) (v := ?_) (by simp only [List.getElem?_toArray, List.getElem?_cons_succ, List.getElem?_cons_zero]; rfl) (by kernel_rfl) (by kernel_rfl) (by kernel_rfl) (by exact fun _ _ _ h => h) (HEd.out) (by rfl) ?_ ?_; rotate_left; (· intro W HW; go_simp; try with_reducible rfl)
    simp only [Act.put, List.setIfInBounds_toArray, List.set_cons_zero, List.set_cons_succ]
    refine rests_take 7 (oi := _) (v := ?_) (by simp only [List.getElem?_toArray, List.getElem?_cons_succ, List.getElem?_cons_zero]; rfl) (by kernel_rfl) (by kernel_rfl) (by kernel_rfl) (by exact fun _ _ _ h => h) (HEd.out) (by rfl) ?_ ?_; rotate_left; (· intro W HW; have cw2 : W.cell? ⟨w.heap.size, 2, none⟩ = some (.int .i64 wi) := cell_at HW 2 _ rfl; go_simp; try with_reducible rfl)
    simp only [Act.put, List.setIfInBounds_toArray, List.set_cons_zero, List.set_cons_succ]
    refine rests_call 8 (oi := _) (by simp only [List.getElem?_toArray, List.getElem?_cons_succ, List.getElem?_cons_zero]; rfl) 53 #[.int .i64 wi] _ (by kernel_rfl) (by rfl) (by go_simp) (onew_add (CellW.stab _ _ _) HSd.out HWI.out) ?_
    rintro e w1 ⟨ao, rfl, hs⟩; have HS1 := Lib.hid hs; have HE1 : Hid ((fun W => W.heap[w.heap.size]? = some (.cells #[.int .i64 b, .int .i64 s, .int .i64 wi, .int .i64 z, .int .i64 wa] 43 (0, 0))) w1) := (Done.at_ (C := fun X => Star (X) (OutW (.pointer (some ao)) (OutM.new wi))) (Fr.l Fr.id_ (OutW.stab _ _)) hs); refine ⟨_, rfl, HE1.out, ?_⟩; clear hs
    simp only [Act.put, List.setIfInBounds_toArray, List.set_cons_zero, List.set_cons_succ]
    refine rests_call 9 (oi := _) (by simp only [List.getElem?_toArray, List.getElem?_cons_succ, List.getElem?_cons_zero]; rfl) 23 #[] _ (by kernel_rfl) (by rfl) (by go_simp) (inew_add ((CellW.stab _ _ _).star (OutW.stab _ _)) HS1.out) ?_
    rintro e w2 ⟨ai, rfl, hs⟩; have HS2 := Lib.hid hs; have HE2 : Hid ((fun W => W.heap[w.heap.size]? = some (.cells #[.int .i64 b, .int .i64 s, .int .i64 wi, .int .i64 z, .int .i64 wa] 43 (0, 0))) w2) := (Done.at_ (C := fun X => Star (Star (X) (OutW (.pointer (some ao)) (OutM.new wi))) (InW (.pointer (some ai)) InM.new)) (Fr.l (Fr.l Fr.id_ (OutW.stab _ _)) (InW.stab _ _)) hs); refine ⟨_, rfl, HE2.out, ?_⟩; clear hs
    simp only [Act.put, List.setIfInBounds_toArray, List.set_cons_zero, List.set_cons_succ]
    refine rests_take 10 (oi := _) (v := ?_) (by simp only [List.getElem?_toArray, List.getElem?_cons_succ, List.getElem?_cons_zero]; rfl) (by kernel_rfl) (by kernel_rfl) (by kernel_rfl) (by exact fun _ _ _ h => h) (HE2.out) (by rfl) ?_ ?_; rotate_left; (· intro W HW; go_simp; try with_reducible rfl)
    simp only [Act.put, List.setIfInBounds_toArray, List.set_cons_zero, List.set_cons_succ]
    obtain ⟨g3, hg3⟩ : ∃ g, g = (w2).heap.size := ⟨_, rfl⟩
    have hal3 := CellW.new (w2) #[.int .i64 2, .int .i64 (min z 64), .bool false, .pointer (some ao), .pointer (some ai)] 92
    rw [← hg3] at hal3
    obtain ⟨w3, hw3⟩ : ∃ wz, wz = (w2).alloc (.cells #[.int .i64 2, .int .i64 (min z 64), .bool false, .pointer (some ao), .pointer (some ai)] 92) := ⟨_, rfl⟩
    rw [← hw3] at hal3
    have HS3 := Lib.hid (HS2.out.add (((CellW.stab _ _ _).star (OutW.stab _ _)).star (InW.stab _ _)) hal3)
    have HE3 : Hid ((fun W => W.heap[w.heap.size]? = some (.cells #[.int .i64 b, .int .i64 s, .int .i64 wi, .int .i64 z, .int .i64 wa] 43 (0, 0))) w3) := (Done.at_ (C := fun X => Star (Star (Star (X) (OutW (.pointer (some ao)) (OutM.new wi))) (InW (.pointer (some ai)) InM.new)) (CellW g3 #[.int .i64 2, .int .i64 (min z 64), .bool false, .pointer (some ao), .pointer (some ai)] 92)) (Fr.l (Fr.l (Fr.l Fr.id_ (OutW.stab _ _)) (InW.stab _ _)) (CellW.stab _ _ _)) HS3.out)
    refine rests_run 11 (oi := _) (by simp only [List.getElem?_toArray, List.getElem?_cons_succ, List.getElem?_cons_zero]; rfl) (by kernel_rfl) (by rfl) (.pointer (some ⟨g3, 0, none⟩)) w3 (by rw [hg3, hw3]; go_simp) ⟨HE3.out, ?_⟩
    clear hg3 hal3 hw3
    simp only [Act.put, List.setIfInBounds_toArray, List.set_cons_zero, List.set_cons_succ]
    refine rests_take 12 (oi := _) (v := ?_) (by simp only [List.getElem?_toArray, List.getElem?_cons_succ, List.getElem?_cons_zero]; rfl) (by kernel_rfl) (by kernel_rfl) (by kernel_rfl) (by exact fun _ _ _ h => h) (HE3.out) (by rfl) ?_ ?_; rotate_left; (· intro W HW; go_simp; try with_reducible rfl)
    simp only [Act.put, List.setIfInBounds_toArray, List.set_cons_zero, List.set_cons_succ]
    refine rests_done (by kernel_rfl) ?_
    go_wp2
    go_ret
    refine ⟨_, rfl, HS3.out.last_first.mono fun F hF => ⟨TurnM.ok_new (.inr rfl), g3, ao, ai, rfl, ?_⟩⟩
    show Star (Star (CellW g3 #[.int .i64 2, .int .i64 (min z 64), .bool false, .pointer (some ao), .pointer (some ai)] 92) (OutW (.pointer (some ao)) (OutM.new wi))) (InW (.pointer (some ai)) InM.new) _ _
    exact hF
set_option maxRecDepth 100000 in
set_option maxHeartbeats 16000000 in
theorem TnNew_none (role b s wi z wa : Int) (w : World) (hr : ¬ (role = 1 ∨ role = 2)) (_hwi : (Lit.int .i64 wi).wf = true) (_hz : (Lit.int .i64 z).wf = true) : Calls Tryz.prog 28 #[.int .i64 role, .agg #[.int .i64 b, .int .i64 s, .int .i64 wi, .int .i64 z, .int .i64 wa]] w fun e w' => e = .returned (.pointer none) ∧ Below w.heap.size w w' := by
  have h1 : (role == 1) = false := beq_eq_false_iff_ne.2 (fun h => hr (.inl h))
  have h2 : (role == 2) = false := beq_eq_false_iff_ne.2 (fun h => hr (.inr h))
  have h3 : (role != 1) = true := by simp [bne, h1]
  have h4 : (role != 2) = true := by simp [bne, h2]
  clear hr _hwi _hz
  go_enter Tryz.func28, Tryz.ntmps28
  go_wp2
  go_ret
  exact ⟨rfl, (Below.refl _ _).alloc (Nat.le_refl _) _⟩
set_option maxRecDepth 100000 in
set_option maxHeartbeats 16000000 in
theorem TnPut_any (v : Value) (m : TurnM) (F : List Nat) (s : ByteArray) (w : World) (h : TurnW v m w F) (_hs : s.size ≤ maxLen) : Calls Tryz.prog 31 #[v, .string s] w fun e w' => e = .returned (.int .i64 (m.putE s)) ∧ Done w F (TurnW v (m.put s)) w' := by
  obtain ⟨hok, gt, ao, ai, rfl, h⟩ := h
  have hok2 := hok.put s
  have hsz := hok.size
  obtain ⟨R, sz, mi, o, i⟩ := m
  simp only at hsz
  have hS : Done w F (Star (Star (CellW gt #[.int .i64 R, .int .i64 sz, .bool mi, .pointer (some ao), .pointer (some ai)] 92) (OutW (.pointer (some ao)) o)) (InW (.pointer (some ai)) i)) w := Done.start h
  have hg := (Done.at_ (C := fun X => Star (Star (X) (OutW (.pointer (some ao)) o)) (InW (.pointer (some ai)) i)) (Fr.l (Fr.l Fr.id_ (OutW.stab _ _)) (InW.stab _ _)) hS)
  have q1 : w.cell? ⟨gt, 1, none⟩ = some (.int .i64 sz) := cell_at hg 1 _ rfl
  have q3 : w.cell? ⟨gt, 3, none⟩ = some (.pointer (some ao)) := cell_at hg 3 _ rfl
  unfold TurnM.put at hok2
  unfold TurnM.putE TurnM.put
  simp only at hok2 ⊢
  have HS := Lib.hid hS
  have HOK2 := Lib.hid hok2
  clear hok hok2 h hS hg
  by_cases hz : sz < (s.size : Int)
  · have t1 : decide (sz < (s.size : Int)) = true := decide_eq_true hz
    have HOK3 := Lib.hid (by have := HOK2.out; rw [if_pos hz] at this; exact this)
    rw [if_pos hz, if_pos hz]
    clear hz HOK2
    go_enter Tryz.func31, Tryz.ntmps31
    go_wp2
    go_ret
    exact ⟨rfl, HS.out.mono fun F hF => ⟨HOK3.out, gt, ao, ai, rfl, hF⟩⟩
  · have t1 : decide (sz < (s.size : Int)) = false := decide_eq_false hz
    have HOK3 := Lib.hid (by have := HOK2.out; rw [if_neg hz] at this; exact this)
    rw [if_neg hz, if_neg hz]
    have hp := dcalls_at (C := fun X => Star (Star (CellW gt #[.int .i64 R, .int .i64 sz, .bool mi, .pointer (some ao), .pointer (some ai)] 92) X) (InW (.pointer (some ai)) i)) (Fr.l (Fr.r (CellW.stab _ _ _) Fr.id_) (InW.stab _ _)) HS.out (fun F hF => OPut_any (.pointer (some ao)) o F s w hF (by omega))
    generalize (if o.full = true then (3 : Int) else 0) = rr at hp ⊢
    have HP := Lib.hid hp
    clear hz HOK2 hp
    go_enter Tryz.func31, Tryz.ntmps31
    go_wp2_with (go_at_call 49; ((with_reducible refine (HP.out).mono ?_); rintro e w1 ⟨rfl, hs⟩; have HS1 := Lib.hid hs; clear hs))
    go_ret
    exact ⟨rfl, HS1.out.mono fun F hF => ⟨HOK3.out, gt, ao, ai, rfl, hF⟩⟩
set_option maxRecDepth 100000 in
set_option maxHeartbeats 16000000 in
theorem TnLate_1t (gt : Nat) (ao ai : Addr) (sz : Int) (o : OutM) (i : InM) (w : World) (F : List Nat) (h : TurnO gt ao ai ⟨1, sz, true, o, i⟩ w F) : Calls Tryz.prog 39 #[.pointer (some ⟨gt, 0, none⟩)] w fun e w' => e = .returned (.bool false) ∧ Done w F (TurnO gt ao ai ⟨1, sz, true, o, i⟩) w' := by
  have hS : Done w F (Star (Star (CellW gt #[.int .i64 1, .int .i64 sz, .bool true, .pointer (some ao), .pointer (some ai)] 92) (OutW (.pointer (some ao)) o)) (InW (.pointer (some ai)) i)) w := Done.start h
  have hg := (Done.at_ (C := fun X => Star (Star (X) (OutW (.pointer (some ao)) o)) (InW (.pointer (some ai)) i)) (Fr.l (Fr.l Fr.id_ (OutW.stab _ _)) (InW.stab _ _)) hS)
  have q0 : w.cell? ⟨gt, 0, none⟩ = some (.int .i64 1) := cell_at hg 0 _ rfl
  have q2 : w.cell? ⟨gt, 2, none⟩ = some (.bool true) := cell_at hg 2 _ rfl
  have HP := Lib.hid (fun w q => TnPrim_at gt 1 true w (.inl rfl) (by decide) q)
  have HS := Lib.hid hS
  clear h hS hg
  go_enter Tryz.func39, Tryz.ntmps39
  go_wp2_with first
    | (go_at_call 65; ((with_reducible refine (HP.out _ q0).mono ?_); rintro e w' ⟨rfl, hw'⟩; rw [hw']; clear hw'))
  go_ret
  exact ⟨rfl, HS.out⟩
set_option maxRecDepth 100000 in
set_option maxHeartbeats 16000000 in
theorem TnLate_1f (gt : Nat) (ao ai : Addr) (sz : Int) (o : OutM) (i : InM) (w : World) (F : List Nat) (h : TurnO gt ao ai ⟨1, sz, false, o, i⟩ w F) : Calls Tryz.prog 39 #[.pointer (some ⟨gt, 0, none⟩)] w fun e w' => e = .returned (.bool true) ∧ Done w F (TurnO gt ao ai ⟨1, sz, true, o, i⟩) w' := by
  have hS : Done w F (Star (Star (CellW gt #[.int .i64 1, .int .i64 sz, .bool false, .pointer (some ao), .pointer (some ai)] 92) (OutW (.pointer (some ao)) o)) (InW (.pointer (some ai)) i)) w := Done.start h
  have hg := (Done.at_ (C := fun X => Star (Star (X) (OutW (.pointer (some ao)) o)) (InW (.pointer (some ai)) i)) (Fr.l (Fr.l Fr.id_ (OutW.stab _ _)) (InW.stab _ _)) hS)
  have q0 : w.cell? ⟨gt, 0, none⟩ = some (.int .i64 1) := cell_at hg 0 _ rfl
  have q2 : w.cell? ⟨gt, 2, none⟩ = some (.bool false) := cell_at hg 2 _ rfl
  have HP := Lib.hid (fun w q => TnPrim_at gt 1 true w (.inl rfl) (by decide) q)
  have HS := Lib.hid hS
  clear h hS hg
  go_enter Tryz.func39, Tryz.ntmps39
  go_wp2_with first
    | (go_at_call 65; ((with_reducible refine (HP.out _ q0).mono ?_); rintro e w' ⟨rfl, hw'⟩; rw [hw']; clear hw'))
    | ((with_reducible refine wpList_storeD (C := fun X => Star (Star (X) (OutW (.pointer (some ao)) o)) (InW (.pointer (some ai)) i)) (Fr.l (Fr.l Fr.id_ (OutW.stab _ _)) (InW.stab _ _)) HS.out rfl 4 (.tmp 14) (.const (.bool true)) rfl 2 (.bool true) rfl rfl (by simp) (run_storeBo _ _ _) ?_); intro w1 hs; have HS1 : Hid (Done w F (Star (Star (CellW gt #[.int .i64 1, .int .i64 sz, .bool true, .pointer (some ao), .pointer (some ai)] 92) (OutW (.pointer (some ao)) o)) (InW (.pointer (some ai)) i)) w1) := (by show Done _ _ _ _; exact hs); clear hs)
  go_ret
  exact ⟨rfl, HS1.out⟩
set_option maxRecDepth 100000 in
set_option maxHeartbeats 16000000 in
theorem TnLate_2t (gt : Nat) (ao ai : Addr) (sz : Int) (o : OutM) (i : InM) (w : World) (F : List Nat) (h : TurnO gt ao ai ⟨2, sz, true, o, i⟩ w F) : Calls Tryz.prog 39 #[.pointer (some ⟨gt, 0, none⟩)] w fun e w' => e = .returned (.bool false) ∧ Done w F (TurnO gt ao ai ⟨2, sz, true, o, i⟩) w' := by
  have hS : Done w F (Star (Star (CellW gt #[.int .i64 2, .int .i64 sz, .bool true, .pointer (some ao), .pointer (some ai)] 92) (OutW (.pointer (some ao)) o)) (InW (.pointer (some ai)) i)) w := Done.start h
  have hg := (Done.at_ (C := fun X => Star (Star (X) (OutW (.pointer (some ao)) o)) (InW (.pointer (some ai)) i)) (Fr.l (Fr.l Fr.id_ (OutW.stab _ _)) (InW.stab _ _)) hS)
  have q0 : w.cell? ⟨gt, 0, none⟩ = some (.int .i64 2) := cell_at hg 0 _ rfl
  have q2 : w.cell? ⟨gt, 2, none⟩ = some (.bool true) := cell_at hg 2 _ rfl
  have HP := Lib.hid (fun w q => TnPrim_at gt 2 false w (.inr rfl) (by decide) q)
  have HS := Lib.hid hS
  clear h hS hg
  go_enter Tryz.func39, Tryz.ntmps39
  go_wp2_with first
    | (go_at_call 65; ((with_reducible refine (HP.out _ q0).mono ?_); rintro e w' ⟨rfl, hw'⟩; rw [hw']; clear hw'))
  go_ret
  exact ⟨rfl, HS.out⟩
set_option maxRecDepth 100000 in
set_option maxHeartbeats 16000000 in
theorem TnLate_2f (gt : Nat) (ao ai : Addr) (sz : Int) (o : OutM) (i : InM) (w : World) (F : List Nat) (h : TurnO gt ao ai ⟨2, sz, false, o, i⟩ w F) : Calls Tryz.prog 39 #[.pointer (some ⟨gt, 0, none⟩)] w fun e w' => e = .returned (.bool false) ∧ Done w F (TurnO gt ao ai ⟨2, sz, false, o, i⟩) w' := by
  have hS : Done w F (Star (Star (CellW gt #[.int .i64 2, .int .i64 sz, .bool false, .pointer (some ao), .pointer (some ai)] 92) (OutW (.pointer (some ao)) o)) (InW (.pointer (some ai)) i)) w := Done.start h
  have hg := (Done.at_ (C := fun X => Star (Star (X) (OutW (.pointer (some ao)) o)) (InW (.pointer (some ai)) i)) (Fr.l (Fr.l Fr.id_ (OutW.stab _ _)) (InW.stab _ _)) hS)
  have q0 : w.cell? ⟨gt, 0, none⟩ = some (.int .i64 2) := cell_at hg 0 _ rfl
  have q2 : w.cell? ⟨gt, 2, none⟩ = some (.bool false) := cell_at hg 2 _ rfl
  have HP := Lib.hid (fun w q => TnPrim_at gt 2 false w (.inr rfl) (by decide) q)
  have HS := Lib.hid hS
  clear h hS hg
  go_enter Tryz.func39, Tryz.ntmps39
  go_wp2_with first
    | (go_at_call 65; ((with_reducible refine (HP.out _ q0).mono ?_); rintro e w' ⟨rfl, hw'⟩; rw [hw']; clear hw'))
  go_ret
  exact ⟨rfl, HS.out⟩
theorem TnLate_any (v : Value) (m : TurnM) (F : List Nat) (w : World) (h : TurnW v m w F) : Calls Tryz.prog 39 #[v] w fun e w' => e = .returned (.bool m.lates) ∧ Done w F (TurnW v m.late) w' := by
  obtain ⟨hok, gt, ao, ai, rfl, h⟩ := h
  have hok2 := hok.late
  obtain ⟨R, sz, mi, o, i⟩ := m
  rcases hok.role with hr | hr <;> simp only at hr <;> subst hr <;> cases mi
  · exact (TnLate_1f gt ao ai sz o i w F h).mono fun e w' ⟨he, hd⟩ => ⟨he, hd.mono fun F hF => ⟨hok2, gt, ao, ai, rfl, hF⟩⟩
  · exact (TnLate_1t gt ao ai sz o i w F h).mono fun e w' ⟨he, hd⟩ => ⟨he, hd.mono fun F hF => ⟨hok2, gt, ao, ai, rfl, hF⟩⟩
  · exact (TnLate_2f gt ao ai sz o i w F h).mono fun e w' ⟨he, hd⟩ => ⟨he, hd.mono fun F hF => ⟨hok2, gt, ao, ai, rfl, hF⟩⟩
  · exact (TnLate_2t gt ao ai sz o i w F h).mono fun e w' ⟨he, hd⟩ => ⟨he, hd.mono fun F hF => ⟨hok2, gt, ao, ai, rfl, hF⟩⟩
set_option maxRecDepth 100000 in
set_option maxHeartbeats 16000000 in
theorem TnSwap_1 (gt : Nat) (ao ai : Addr) (sz : Int) (mi : Bool) (o : OutM) (i : InM) (w : World) (F : List Nat) (h : TurnO gt ao ai ⟨1, sz, mi, o, i⟩ w F) : Calls Tryz.prog 41 #[.pointer (some ⟨gt, 0, none⟩)] w fun e w' => e = .returned (.tuple #[]) ∧ Done w F (TurnO gt ao ai ⟨2, sz, false, o, i⟩) w' := by
  have hS : Done w F (Star (Star (CellW gt #[.int .i64 1, .int .i64 sz, .bool mi, .pointer (some ao), .pointer (some ai)] 92) (OutW (.pointer (some ao)) o)) (InW (.pointer (some ai)) i)) w := Done.start h
  have hg := (Done.at_ (C := fun X => Star (Star (X) (OutW (.pointer (some ao)) o)) (InW (.pointer (some ai)) i)) (Fr.l (Fr.l Fr.id_ (OutW.stab _ _)) (InW.stab _ _)) hS)
  have q0 : w.cell? ⟨gt, 0, none⟩ = some (.int .i64 1) := cell_at hg 0 _ rfl
  have HP1 := Lib.hid (fun w q => TnPrim_at gt 1 true w (.inl rfl) (by decide) q)
  have HP2 := Lib.hid (fun w q => TnPrim_at gt 2 false w (.inr rfl) (by decide) q)
  have HS := Lib.hid hS
  clear h hS hg
  go_enter Tryz.func41, Tryz.ntmps41
  go_wp2_with first
    | (go_at_call 65; ((with_reducible refine (HP1.out _ q0).mono ?_); rintro e w' ⟨rfl, hw'⟩; rw [hw']; clear hw' q0))
    | ((with_reducible refine wpList_storeD (C := fun X => Star (Star (X) (OutW (.pointer (some ao)) o)) (InW (.pointer (some ai)) i)) (Fr.l (Fr.l Fr.id_ (OutW.stab _ _)) (InW.stab _ _)) HS.out rfl 3 (.tmp 8) (.const (.int .i64 2)) rfl 0 (.int .i64 2) rfl rfl (by simp) (run_storeI _ _ _) ?_); intro w1 hs; have HS1 : Hid (Done w F (Star (Star (CellW gt #[.int .i64 2, .int .i64 sz, .bool mi, .pointer (some ao), .pointer (some ai)] 92) (OutW (.pointer (some ao)) o)) (InW (.pointer (some ai)) i)) w1) := (by show Done _ _ _ _; exact hs); have q1 : w1.cell? ⟨gt, 0, none⟩ = some (.int .i64 2) := cell_at (Done.at_ (C := fun X => Star (Star (X) (OutW (.pointer (some ao)) o)) (InW (.pointer (some ai)) i)) (Fr.l (Fr.l Fr.id_ (OutW.stab _ _)) (InW.stab _ _)) HS1.out) 0 _ rfl; clear hs)
    | (go_at_call 65; ((with_reducible refine (HP2.out _ q1).mono ?_); rintro e w' ⟨rfl, hw'⟩; rw [hw']; clear hw'))
    | ((with_reducible refine wpList_storeD (C := fun X => Star (Star (X) (OutW (.pointer (some ao)) o)) (InW (.pointer (some ai)) i)) (Fr.l (Fr.l Fr.id_ (OutW.stab _ _)) (InW.stab _ _)) HS1.out rfl 4 (.tmp 16) (.tmp 14) rfl 2 (.bool false) rfl rfl (by simp) (run_storeBo _ _ _) ?_); intro w2 hs; have HS2 : Hid (Done w F (Star (Star (CellW gt #[.int .i64 2, .int .i64 sz, .bool false, .pointer (some ao), .pointer (some ai)] 92) (OutW (.pointer (some ao)) o)) (InW (.pointer (some ai)) i)) w2) := (by show Done _ _ _ _; exact hs); clear hs)
  go_end0
  exact ⟨rfl, HS2.out⟩
set_option maxRecDepth 100000 in
set_option maxHeartbeats 16000000 in
theorem TnSwap_2 (gt : Nat) (ao ai : Addr) (sz : Int) (mi : Bool) (o : OutM) (i : InM) (w : World) (F : List Nat) (h : TurnO gt ao ai ⟨2, sz, mi, o, i⟩ w F) : Calls Tryz.prog 41 #[.pointer (some ⟨gt, 0, none⟩)] w fun e w' => e = .returned (.tuple #[]) ∧ Done w F (TurnO gt ao ai ⟨1, sz, true, o, i⟩) w' := by
  have hS : Done w F (Star (Star (CellW gt #[.int .i64 2, .int .i64 sz, .bool mi, .pointer (some ao), .pointer (some ai)] 92) (OutW (.pointer (some ao)) o)) (InW (.pointer (some ai)) i)) w := Done.start h
  have hg := (Done.at_ (C := fun X => Star (Star (X) (OutW (.pointer (some ao)) o)) (InW (.pointer (some ai)) i)) (Fr.l (Fr.l Fr.id_ (OutW.stab _ _)) (InW.stab _ _)) hS)
  have q0 : w.cell? ⟨gt, 0, none⟩ = some (.int .i64 2) := cell_at hg 0 _ rfl
  have HP1 := Lib.hid (fun w q => TnPrim_at gt 2 false w (.inr rfl) (by decide) q)
  have HP2 := Lib.hid (fun w q => TnPrim_at gt 1 true w (.inl rfl) (by decide) q)
  have HS := Lib.hid hS
  clear h hS hg
  go_enter Tryz.func41, Tryz.ntmps41
  go_wp2_with first
    | (go_at_call 65; ((with_reducible refine (HP1.out _ q0).mono ?_); rintro e w' ⟨rfl, hw'⟩; rw [hw']; clear hw' q0))
    | ((with_reducible refine wpList_storeD (C := fun X => Star (Star (X) (OutW (.pointer (some ao)) o)) (InW (.pointer (some ai)) i)) (Fr.l (Fr.l Fr.id_ (OutW.stab _ _)) (InW.stab _ _)) HS.out rfl 3 (.tmp 11) (.const (.int .i64 1)) rfl 0 (.int .i64 1) rfl rfl (by simp) (run_storeI _ _ _) ?_); intro w1 hs; have HS1 : Hid (Done w F (Star (Star (CellW gt #[.int .i64 1, .int .i64 sz, .bool mi, .pointer (some ao), .pointer (some ai)] 92) (OutW (.pointer (some ao)) o)) (InW (.pointer (some ai)) i)) w1) := (by show Done _ _ _ _; exact hs); have q1 : w1.cell? ⟨gt, 0, none⟩ = some (.int .i64 1) := cell_at (Done.at_ (C := fun X => Star (Star (X) (OutW (.pointer (some ao)) o)) (InW (.pointer (some ai)) i)) (Fr.l (Fr.l Fr.id_ (OutW.stab _ _)) (InW.stab _ _)) HS1.out) 0 _ rfl; clear hs)
    | (go_at_call 65; ((with_reducible refine (HP2.out _ q1).mono ?_); rintro e w' ⟨rfl, hw'⟩; rw [hw']; clear hw'))
    | ((with_reducible refine wpList_storeD (C := fun X => Star (Star (X) (OutW (.pointer (some ao)) o)) (InW (.pointer (some ai)) i)) (Fr.l (Fr.l Fr.id_ (OutW.stab _ _)) (InW.stab _ _)) HS1.out rfl 4 (.tmp 16) (.tmp 14) rfl 2 (.bool true) rfl rfl (by simp) (run_storeBo _ _ _) ?_); intro w2 hs; have HS2 : Hid (Done w F (Star (Star (CellW gt #[.int .i64 1, .int .i64 sz, .bool true, .pointer (some ao), .pointer (some ai)] 92) (OutW (.pointer (some ao)) o)) (InW (.pointer (some ai)) i)) w2) := (by show Done _ _ _ _; exact hs); clear hs)
  go_end0
  exact ⟨rfl, HS2.out⟩
theorem TnSwap_any (v : Value) (m : TurnM) (F : List Nat) (w : World) (h : TurnW v m w F) : Calls Tryz.prog 41 #[v] w fun e w' => e = .returned (.tuple #[]) ∧ Done w F (TurnW v m.swap) w' := by
  obtain ⟨hok, gt, ao, ai, rfl, h⟩ := h
  have hok2 := hok.swap
  obtain ⟨R, sz, mi, o, i⟩ := m
  rcases hok.role with hr | hr <;> simp only at hr <;> subst hr
  · exact (TnSwap_1 gt ao ai sz mi o i w F h).mono fun e w' ⟨he, hd⟩ => ⟨he, hd.mono fun F hF => ⟨hok2, gt, ao, ai, rfl, hF⟩⟩
  · exact (TnSwap_2 gt ao ai sz mi o i w F h).mono fun e w' ⟨he, hd⟩ => ⟨he, hd.mono fun F hF => ⟨hok2, gt, ao, ai, rfl, hF⟩⟩
end Go.Proofs.YtocjhpaackccpaaGreatDoor

namespace Go.Proofs.YtocjhpaackccpaaGreatDoor
open Go.RowKit M

section
variable {α : Type} {f : α → List Value} {k : Nat}
theorem flatLen (hf : ∀ x, (f x).length = k) : ∀ l : List α, (l.flatMap f).length = l.length * k
  | [] => by simp
  | x :: l => by rw [List.flatMap_cons, List.length_append, hf, flatLen hf l, List.length_cons, Nat.succ_mul]; omega
theorem flatAt (hf : ∀ x, (f x).length = k) : ∀ (l : List α) (i r : Nat) (h : i < l.length), r < k → (l.flatMap f)[i * k + r]? = (f l[i])[r]?
  | [], i, r, h, _ => by simp at h
  | x :: l, 0, r, _, hr => by
    rw [List.flatMap_cons, Nat.zero_mul, Nat.zero_add, List.getElem?_append_left (by rw [hf]; exact hr)]
    rfl
  | x :: l, i + 1, r, h, hr => by
    rw [List.flatMap_cons, List.getElem?_append_right (by rw [hf, Nat.succ_mul]; omega), hf, show (i + 1) * k + r - k = i * k + r by rw [Nat.succ_mul]; omega, flatAt hf l i r (by simpa using h) hr]
    rfl
end
theorem setL_app : ∀ (vs l1 l2 : List Value) (o : Nat), setL (l1 ++ l2) (l1.length + o) vs = l1 ++ setL l2 o vs
  | [], _, _, _ => rfl
  | v :: r, l1, l2, o => by
    rw [setL, setL, List.set_append_right _ _ (by omega), show l1.length + o - l1.length = o by omega, Nat.add_assoc]
    exact setL_app r l1 _ (o + 1)
theorem setL_take (m : Nat) : ∀ (vs l : List Value) (o : Nat), (setL l o vs).take m = setL (l.take m) o vs
  | [], _, _ => rfl
  | v :: r, l, o => by
    rw [setL, setL, setL_take m r, List.take_set]
theorem setL_len : ∀ (vs l : List Value) (o : Nat), (setL l o vs).length = l.length
  | [], _, _ => rfl
  | v :: r, l, o => by rw [setL, setL_len r, List.length_set]
/-- Some cells of it set. -/
theorem OwnK.sets {e : TypeId} {k g n c : Nat} {xs : List Value} {w : World} {F : List Nat} (h : OwnK e k (.slice (some ⟨g, 0, none⟩) n c) n xs w F) (hn : 0 < n) (o : Nat) (vs : List Value) : Done w F (OwnK e k (.slice (some ⟨g, 0, none⟩) n c) n (setL xs o vs)) (w.setCells g o vs) := by
  have hl := h.2.1
  obtain ⟨g', e1, rfl, cur, h1, h2, h3, h4, h5⟩ := h.whole hn
  injection e1 with e1
  injection e1 with e1
  subst e1
  have h6 := heap_sets (b := g) (t := e) vs o w cur.toList (by rw [Array.toArray_toList]; exact h1)
  refine ⟨[g], ⟨rfl, by rw [setL_len]; exact hl, .inr ⟨g, c, _, rfl, Nat.zero_le _, h6, h4, h5, ?_, ?_⟩⟩, tch_sets g vs o w, Sub.refl _ _⟩
  · rw [List.size_toArray, setL_len, Array.length_toList]; exact h2
  · show (setL cur.toList o vs).take (n * k) = _
    rw [setL_take, h3]
theorem rests_storeKs {ops : Array Oper} {Q : Exit → Act → World → Prop} {S : World → Prop} {fuel : Nat} {listed : Array Bool} {a : Act} {w0 w : World} {F0 : List Nat} {C : Obj → Obj} {e : TypeId} {k g n c : Nat} {xs : List Value} (i : Nat) {oi : Oper} (hi : ops[i]? = some oi)
    (hr : Region.ready .any ops listed = [i]) (hw : Region.wanted oi (yielded ops a.tmps) = true) (hC : Fr C) (h : Done w0 F0 (C (OwnK e k (.slice (some ⟨g, 0, none⟩) n c) n xs)) w) (hn0 : 0 < n) (ty : TypeId) (x y : Operand) (ho : oi.op = .store ty x y)
    (o : Nat) (vs : List Value) (hx : a.eval x = .pointer (some ⟨g, o, none⟩)) (hy : a.eval y = .agg vs.toArray) (hi' : (Tryz.prog.info? ty).map (·.size) = some vs.length) (h1 : ∀ v ∈ vs, v.oneCell' = true) (hlen : o + vs.length ≤ xs.length)
    (hn : ∀ w', Done w0 F0 (C (OwnK e k (.slice (some ⟨g, 0, none⟩) n c) n (setL xs o vs))) w' → S w' ∧ RestS S Tryz.prog ops Q fuel (listed.setIfInBounds i true) (a.put oi.dst undef) w') : RestS S Tryz.prog ops Q (fuel + 1) listed a w := by
  obtain ⟨F, hF, hu⟩ := h.upd hC
  refine rests_step i hi hr hw (wp_store_mid ty x y ho g o vs.toArray hx hy (fun j hj => ?_) (by rw [List.size_toArray]; exact hi') (all_oneCell_toArray h1) (hn _ (hu (hF.sets hn0 o vs))))
  rw [List.size_toArray] at hj
  have hj2 : o + j < xs.length := by omega
  refine ⟨?_, ?_⟩
  · rw [hF.cell (i := o + j) (List.getElem?_eq_getElem hj2)]
    rfl
  · obtain ⟨g', e1, _, cur, h1, _⟩ := hF.whole hn0
    obtain rfl : g = g' := congrArg Addr.block (Option.some.inj e1)
    exact frz_at h1 _
/-- What is said of the i-th text, before the last one is marked. -/
def sayT (c : Bool) (nx f : Nat) (l : List ByteArray) (i : Nat) : PIn := ⟨0, 0, c, 1, 0, (nx : Int), (((f + i) % 8 : Nat) : Int), false, l.getD i ⟨#[]⟩⟩
def zPl : PIn := ⟨0, 0, false, 0, 0, 0, 0, false, ⟨#[]⟩⟩
/-- i of K are said. -/
def plT (c : Bool) (nx f : Nat) (l : List ByteArray) (K i : Nat) : List PIn := (List.range K).map fun j => if j < i then sayT c nx f l j else zPl
theorem plT_len (c : Bool) (nx f : Nat) (l : List ByteArray) (K i : Nat) : (plT c nx f l K i).length = K := by simp [plT]
theorem plT_zero (c : Bool) (nx f : Nat) (l : List ByteArray) (K : Nat) : plT c nx f l K 0 = List.replicate K zPl := by
  unfold plT
  apply List.ext_getElem
  · simp
  · intro i h1 h2
    simp
theorem plT_set (c : Bool) (nx f : Nat) (l : List ByteArray) (K i : Nat) : (plT c nx f l K i).set i (sayT c nx f l i) = plT c nx f l K (i + 1) := by
  unfold plT
  apply List.ext_getElem
  · simp
  · intro j h1 h2
    rw [List.getElem_set]
    split
    · rename_i e
      subst e
      simp
    · rename_i e
      simp only [List.getElem_map, List.getElem_range]
      by_cases hj : j < i
      · rw [if_pos hj, if_pos (by omega)]
      · rw [if_neg hj, if_neg (by omega)]
theorem plcsL : ∀ l : List PIn, (plcs l).length = l.length * 9 := fun l => flatLen (f := pcs) (k := 9) (fun _ => rfl) l
theorem setL_plcs (p : PIn) : ∀ (L : List PIn) (i : Nat), i < L.length → setL (plcs L) (i * 9) (pcs p) = plcs (L.set i p)
  | [], _, h => absurd h (Nat.not_lt_zero _)
  | a :: R, 0, _ => by
    show setL (pcs a ++ plcs R) (0 * 9) (pcs p) = pcs p ++ plcs R
    rw [Nat.zero_mul, setL_eq _ _ 0 (by rw [List.length_append]; show 0 + 9 ≤ 9 + _; omega), List.take_zero, List.nil_append]
    rfl
  | a :: R, i + 1, h => by
    show setL (pcs a ++ plcs R) ((i + 1) * 9) (pcs p) = pcs a ++ plcs (R.set i p)
    rw [show (i + 1) * 9 = (pcs a).length + i * 9 by show _ = 9 + _; omega, setL_app, setL_plcs p R i (by simpa using h)]
theorem plcs_pf : ∀ (L : List PIn) (j : Nat) (p : PIn), L[j]? = some p → (plcs L).set (j * 9 + 7) (.bool true) = plcs (L.set j { p with pf := true })
  | [], _, _, h => by simp at h
  | a :: R, 0, p, h => by
    simp only [List.getElem?_cons_zero, Option.some.injEq] at h
    subst h
    rfl
  | a :: R, j + 1, p, h => by
    show (pcs a ++ plcs R).set ((j + 1) * 9 + 7) (.bool true) = pcs a ++ plcs (R.set j { p with pf := true })
    rw [List.set_append_right _ _ (by show 9 ≤ _; omega), show (j + 1) * 9 + 7 - (pcs a).length = j * 9 + 7 by show _ - 9 = _; omega, plcs_pf R j p (by simpa using h)]
/-- The last one is marked. -/
theorem plT_says {R sz : Int} {o : OutM} {nx k : Nat} {od : Bool} {c : Bool} (hc : decide (R = 1) = c) (hk : o.k = k + 1) : (plcs (plT c nx o.first o.l (k + 1) (k + 1))).set (k * 9 + 7) (.bool true) = plcs (TurnM.says ⟨R, sz, true, o, ⟨nx, od⟩⟩) ∧ (TurnM.says ⟨R, sz, true, o, ⟨nx, od⟩⟩).length = k + 1 := by
  have h1 : TurnM.says ⟨R, sz, true, o, ⟨nx, od⟩⟩ = (List.range (k + 1)).map (TurnM.sayI ⟨R, sz, true, o, ⟨nx, od⟩⟩) := by
    show (if o.k = 0 then _ else (List.range o.k).map _) = _
    rw [hk, if_neg (by omega)]
  rw [h1]
  refine ⟨?_, by simp⟩
  have hg : (plT c nx o.first o.l (k + 1) (k + 1))[k]? = some (sayT c nx o.first o.l k) := by
    unfold plT
    simp
  rw [plcs_pf _ k _ hg]
  congr 1
  apply List.ext_getElem
  · rw [List.length_set, plT_len]; simp
  · intro j h2 h3
    have hj : j < k + 1 := by rw [List.length_set, plT_len] at h2; exact h2
    have e0 : TurnM.sayI ⟨R, sz, true, o, ⟨nx, od⟩⟩ j = ⟨0, 0, decide (R = 1), 1, 0, (nx : Int), (((o.first + j) % 8 : Nat) : Int), decide (j + 1 = o.k), o.l.getD j ⟨#[]⟩⟩ := rfl
    rw [List.getElem_set, List.getElem_map, List.getElem_range, e0, hc]
    split
    · rename_i e
      subst e
      rw [decide_eq_true (show k + 1 = o.k by omega)]
      rfl
    · rename_i e
      rw [decide_eq_false (show ¬ j + 1 = o.k by omega)]
      unfold plT
      rw [List.getElem_map, List.getElem_range, if_pos hj]
      rfl
theorem says_ack {R sz : Int} {o : OutM} {nx : Nat} {od : Bool} {c : Bool} (hc : decide (R = 1) = c) (hk : o.k = 0) : TurnM.says ⟨R, sz, true, o, ⟨nx, od⟩⟩ = [⟨0, 0, c, 2, if od then 2 else 0, (nx : Int), 0, true, ⟨#[]⟩⟩] := by
  show (if o.k = 0 then [TurnM.sayS ⟨R, sz, true, o, ⟨nx, od⟩⟩] else _) = _
  rw [if_pos hk, ← hc]
  rfl
theorem CellW.ownS {g n k : Nat} {cs : Array Value} {e : TypeId} {w : World} {F : List Nat} (h : CellW g cs e w F) (hn : cs.size = n * k) (hm : n ≤ maxLen) : OwnK e k (.slice (some ⟨g, 0, none⟩) n n) n cs.toList w F := by
  obtain ⟨rfl, h⟩ := h
  exact ⟨rfl, by rw [Array.length_toList, hn], .inr ⟨g, n, cs, rfl, Nat.zero_le _, h, Nat.le_refl _, hm, hn, by rw [← hn, List.take_of_length_le (by rw [Array.length_toList]; omega)]⟩⟩
theorem plain_info : (Tryz.prog.info? 37).map (fun i => (i.zero, i.size, i.bytes)) = some (some (.agg #[.int .i64 0, .int .i64 0, .bool false, .int .i64 0, .int .i64 0, .int .i64 0, .int .i64 0, .bool false, .string ⟨#[]⟩]), 9, 80) := by kernel_rfl
theorem zeros_plain (n : Nat) : madeCells (Value.agg #[.int .i64 0, .int .i64 0, .bool false, .int .i64 0, .int .i64 0, .int .i64 0, .int .i64 0, .bool false, .string ⟨#[]⟩]).cells (n * 9) = (plcs (List.replicate n zPl)).toArray := by
  apply Array.ext
  · rw [size_madeCells, List.size_toArray, plcsL, List.length_replicate]
  · intro i h1 h2
    rw [size_madeCells] at h1
    have hq : i = (i / 9) * 9 + i % 9 := by omega
    have hr : i % 9 < 9 := by omega
    have e1 : (plcs (List.replicate n zPl))[i]? = (pcs zPl)[i % 9]? := by
      have hl : i / 9 < (List.replicate n zPl).length := by rw [List.length_replicate]; omega
      have := flatAt (f := pcs) (k := 9) (fun _ => rfl) (List.replicate n zPl) (i / 9) (i % 9) hl hr
      rw [← hq, List.getElem_replicate] at this
      exact this
    have e2 : (madeCells (Value.agg #[.int .i64 0, .int .i64 0, .bool false, .int .i64 0, .int .i64 0, .int .i64 0, .int .i64 0, .bool false, .string ⟨#[]⟩]).cells (n * 9))[i]? = (pcs zPl)[i % 9]? := by
      rw [Array.getElem?_eq_getElem (by rw [size_madeCells]; exact h1)]
      simp only [madeCells, Value.cells, Array.getElem_map, Array.getElem_range]
      generalize i % 9 = r at hr
      have : r = 0 ∨ r = 1 ∨ r = 2 ∨ r = 3 ∨ r = 4 ∨ r = 5 ∨ r = 6 ∨ r = 7 ∨ r = 8 := by omega
      rcases this with h | h | h | h | h | h | h | h | h <;> subst h <;> rfl
    have e3 := e2.trans e1.symm
    rw [Array.getElem?_eq_getElem (by rw [size_madeCells]; exact h1)] at e3
    rw [List.getElem_toArray]
    have h3 : i < (plcs (List.replicate n zPl)).length := by rw [plcsL, List.length_replicate]; exact h1
    rw [List.getElem?_eq_getElem h3] at e3
    exact Option.some.inj e3
theorem wpList_makeP {w : World} {ops : Array Oper} {rest : List Oper} {o : Oper} {a : Act} {Q : Exit → Act → World → Prop} (hgd : o.guard = none) (x y : Operand) (ho : o.op = .makeSlice 52 x y)
    (n : Nat) (hx : a.eval x = .int .i64 (n : Int)) (hy : a.eval y = .int .i64 (n : Int)) (hn : n ≤ 1000000)
    (h : ∀ g w', Done w [] (OwnK 37 9 (.slice (some ⟨g, 0, none⟩) n n) n (plcs (List.replicate n zPl))) w' → wpList Tryz.prog ops Q rest (a.put o.dst (.slice (some ⟨g, 0, none⟩) n n)) w') : wpList Tryz.prog ops Q (o :: rest) a w := by
  obtain ⟨i0, hi, hz0, hz1, hz2⟩ := info_parts plain_info
  have hm := run_make (P := Tryz.prog) w 52 37 i0 _ Tryz.underlying52 hi hz0 .i64 .i64 (n : Int) (n : Int) (by omega) (by omega) (by rw [hz2]; omega) (by omega)
  rw [hz1] at hm
  refine wpList_plain hgd fun K hK => ?_
  have hr : (execOp a.eval o).run Tryz.prog w = .ok (.value (.slice (some ⟨w.heap.size, 0, none⟩) n n)) (w.alloc (.cells (plcs (List.replicate n zPl)).toArray 37)) := by
    rw [← zeros_plain]
    simp only [execOp, ho, hx, hy, Sem.run_bind, hm, Result.andThen_ok, Sem.run_pure, Int.toNat_natCast]
  unfold Oper.wp
  rw [hr, Oper.upon_value]
  exact hK _ _ (h _ _ ((CellW.new w _ 37).mono fun F hF => hF.ownS (by rw [List.size_toArray, plcsL, List.length_replicate]) (by simp only [maxLen]; omega)))
theorem tburst_at {w0 w : World} {F0 : List Nat} {K I : Obj} {v : Value} {o : OutM} (hK : Stab K) (hI : Stab I) (h : Done w0 F0 (Star (Star K (OutW v o)) I) w) {k : Nat} (hk : o.k = k) : Calls Tryz.prog 47 #[v] w fun e w' => ∃ A c B d, e = .returned (.tuple #[.slice A k c, .slice B k d]) ∧ ((k ≤ c ∧ c ≤ maxLen) ∧ (k ≤ d ∧ d ≤ maxLen)) ∧ Done w0 F0 (Star (Star (Star (Star K (OutW v o.burst)) I) (SlW 1 (.slice A k c) k (ints o.ns))) (SlW 1 (.slice B k d) k (strg o.bs))) w' := by
  subst hk
  obtain ⟨F, hF, hu⟩ := h.upd (C := fun X => Star (Star K X) I) (Fr.l (Fr.r hK Fr.id_) hI)
  refine (OBurst_any v o F w hF).mono ?_
  rintro e w' ⟨a, b, rfl, hd⟩
  have hd' := hd
  obtain ⟨F', ⟨F2, F3, rfl, _, ⟨F4, F5, rfl, k4, k5, _⟩, _⟩, _⟩ := hd'
  obtain ⟨A, c, rfl, ec⟩ := k4.shape
  obtain ⟨B, d, rfl, ed⟩ := k5.shape
  refine ⟨A, c, B, d, rfl, ⟨ec, ed⟩, ?_⟩
  have h1 := hu hd
  have h2 := Done.unassoc_at (C := fun X => Star X I) (Fr.l Fr.id_ hI) h1
  have h3 := Done.swap2 (hK.star (OutW.stab _ _)) h2
  exact Done.unassoc_at (C := fun X => X) Fr.id_ h3
set_option maxRecDepth 100000 in
set_option maxHeartbeats 16000000 in
theorem TnAckn_f (gt : Nat) (ao ai : Addr) (R sz : Int) (mi c : Bool) (o : OutM) (nx : Nat) (w : World) (F : List Nat) (hr : R = 1 ∨ R = 2) (hc : decide (R = 1) = c) (h : TurnO gt ao ai ⟨R, sz, mi, o, ⟨nx, false⟩⟩ w F) : Calls Tryz.prog 71 #[.pointer (some ⟨gt, 0, none⟩)] w fun e w' => e = .returned (.agg #[.int .i64 0, .int .i64 0, .bool c, .int .i64 2, .int .i64 0, .int .i64 (nx : Int), .int .i64 0, .bool false, .string ⟨#[]⟩]) ∧ Done w F (TurnO gt ao ai ⟨R, sz, mi, o, ⟨nx, false⟩⟩) w' := by
  have hS : Done w F (Star (Star (CellW gt #[.int .i64 R, .int .i64 sz, .bool mi, .pointer (some ao), .pointer (some ai)] 92) (OutW (.pointer (some ao)) o)) (InW (.pointer (some ai)) ⟨nx, false⟩)) w := Done.start h
  have HS1 : Hid (Done w F (Star (Star (Star (CellW gt #[.int .i64 R, .int .i64 sz, .bool mi, .pointer (some ao), .pointer (some ai)] 92) (OutW (.pointer (some ao)) o)) (InW (.pointer (some ai)) ⟨nx, false⟩)) (CellW w.heap.size #[.int .i64 0, .int .i64 0, .bool false, .int .i64 0, .int .i64 0, .int .i64 0, .int .i64 0, .bool false, .string ⟨#[]⟩] 37)) (w.alloc (.cells #[.int .i64 0, .int .i64 0, .bool false, .int .i64 0, .int .i64 0, .int .i64 0, .int .i64 0, .bool false, .string ⟨#[]⟩] 37))) := hS.add (((CellW.stab _ _ _).star (OutW.stab _ _)).star (InW.stab _ _)) (CellW.new w _ _)
  have q4 : (w.alloc (.cells #[.int .i64 0, .int .i64 0, .bool false, .int .i64 0, .int .i64 0, .int .i64 0, .int .i64 0, .bool false, .string ⟨#[]⟩] 37)).cell? ⟨gt, 4, none⟩ = some (.pointer (some ai)) := cell_at (Done.at_ (C := fun X => Star (Star (Star (X) (OutW (.pointer (some ao)) o)) (InW (.pointer (some ai)) ⟨nx, false⟩)) (CellW w.heap.size #[.int .i64 0, .int .i64 0, .bool false, .int .i64 0, .int .i64 0, .int .i64 0, .int .i64 0, .bool false, .string ⟨#[]⟩] 37)) (Fr.l (Fr.l (Fr.l Fr.id_ (OutW.stab _ _)) (InW.stab _ _)) (CellW.stab _ _ _)) HS1.out) 4 _ rfl
  have HP := Lib.hid (fun w q => TnPrim_at gt R c w hr hc q)
  clear h hS hr hc
  go_enter Tryz.func71, Tryz.ntmps71
  go_wp2_with (go_at_call 27; ((with_reducible refine (tcalls_look (C := fun X => Star (Star (Star (CellW gt #[.int .i64 R, .int .i64 sz, .bool mi, .pointer (some ao), .pointer (some ai)] 92) (OutW (.pointer (some ao)) o)) X) (CellW w.heap.size #[.int .i64 0, .int .i64 0, .bool false, .int .i64 0, .int .i64 0, .int .i64 0, .int .i64 0, .bool false, .string ⟨#[]⟩] 37)) (Fr.l (Fr.r ((CellW.stab _ _ _).star (OutW.stab _ _)) Fr.id_) (CellW.stab _ _ _)) ((((CellW.stab _ _ _).star (OutW.stab _ _)).star (InW.stab _ _)).star (CellW.stab _ _ _)) HS1.out (fun F hF => IOdd_any (.pointer (some ai)) ⟨nx, false⟩ F _ hF)).mono ?_); rintro e w2 ⟨rfl, hs⟩; have HS2 := Lib.hid hs; clear hs))
  have HS2d := Lib.hid (HS2.out.drewD ((((CellW.stab _ _ _).star (OutW.stab _ _)).star (InW.stab _ _)).star (CellW.stab _ _ _)))
  have HE2d : Hid ((fun U => U.cell? ⟨gt, 0, none⟩ = some (.int .i64 R) ∧ U.cell? ⟨gt, 4, none⟩ = some (.pointer (some ai))) w2.drew) := ⟨cell_at (Done.at_ (C := fun X => Star (Star (Star (X) (OutW (.pointer (some ao)) o)) (InW (.pointer (some ai)) ⟨nx, false⟩)) (CellW w.heap.size #[.int .i64 0, .int .i64 0, .bool false, .int .i64 0, .int .i64 0, .int .i64 0, .int .i64 0, .bool false, .string ⟨#[]⟩] 37)) (Fr.l (Fr.l (Fr.l Fr.id_ (OutW.stab _ _)) (InW.stab _ _)) (CellW.stab _ _ _)) HS2d.out) 0 _ rfl, cell_at (Done.at_ (C := fun X => Star (Star (Star (X) (OutW (.pointer (some ao)) o)) (InW (.pointer (some ai)) ⟨nx, false⟩)) (CellW w.heap.size #[.int .i64 0, .int .i64 0, .bool false, .int .i64 0, .int .i64 0, .int .i64 0, .int .i64 0, .bool false, .string ⟨#[]⟩] 37)) (Fr.l (Fr.l (Fr.l Fr.id_ (OutW.stab _ _)) (InW.stab _ _)) (CellW.stab _ _ _)) HS2d.out) 4 _ rfl⟩
  refine rests_begin (fun U => U.cell? ⟨gt, 0, none⟩ = some (.int .i64 R) ∧ U.cell? ⟨gt, 4, none⟩ = some (.pointer (some ai))) (by kernel_rfl) ?_
  refine rests_take 0 (oi := _) (v := ?_) (by simp only [List.getElem?_toArray, List.getElem?_cons_zero]; rfl) (by kernel_rfl) (by kernel_rfl) (by kernel_rfl) (by exact fun _ _ _ h => h) (HE2d.out) (by rfl) ?_ ?_; rotate_left; (· intro W HW; go_simp; try with_reducible rfl)
  simp only [Act.put, List.setIfInBounds_toArray, List.set_cons_zero, List.set_cons_succ]
  refine rests_take 2 (oi := _) (v := ?_) (by simp only [List.getElem?_toArray, List.getElem?_cons_succ, List.getElem?_cons_zero]; rfl) (by kernel_rfl) (by kernel_rfl) (by kernel_rfl) (by exact fun _ _ _ h => h) (HE2d.out) (by rfl) ?_ ?_; rotate_left; (· intro W HW; go_simp; try with_reducible rfl)
  simp only [Act.put, List.setIfInBounds_toArray, List.set_cons_zero, List.set_cons_succ]
  refine rests_take 3 (oi := _) (v := ?_) (by simp only [List.getElem?_toArray, List.getElem?_cons_succ, List.getElem?_cons_zero]; rfl) (by kernel_rfl) (by kernel_rfl) (by kernel_rfl) (by exact fun _ _ _ h => h) (HE2d.out) (by rfl) ?_ ?_; rotate_left; (· intro W HW; go_simp; try with_reducible rfl)
  simp only [Act.put, List.setIfInBounds_toArray, List.set_cons_zero, List.set_cons_succ]
  refine rests_take 4 (oi := _) (v := ?_) (by simp only [List.getElem?_toArray, List.getElem?_cons_succ, List.getElem?_cons_zero]; rfl) (by kernel_rfl) (by kernel_rfl) (by kernel_rfl) (by exact fun _ _ _ h => h) (HE2d.out) (by rfl) ?_ ?_; rotate_left; (· intro W HW; go_simp; try with_reducible rfl)
  simp only [Act.put, List.setIfInBounds_toArray, List.set_cons_zero, List.set_cons_succ]
  refine rests_take 5 (oi := _) (v := ?_) (by simp only [List.getElem?_toArray, List.getElem?_cons_succ, List.getElem?_cons_zero]; rfl) (by kernel_rfl) (by kernel_rfl) (by kernel_rfl) (by exact fun _ _ _ h => h) (HE2d.out) (by rfl) ?_ ?_; rotate_left; (· intro W HW; go_simp; try with_reducible rfl)
  simp only [Act.put, List.setIfInBounds_toArray, List.set_cons_zero, List.set_cons_succ]
  refine rests_take 6 (oi := _) (v := ?_) (by simp only [List.getElem?_toArray, List.getElem?_cons_succ, List.getElem?_cons_zero]; rfl) (by kernel_rfl) (by kernel_rfl) (by kernel_rfl) (by exact fun _ _ _ h => h) (HE2d.out) (by rfl) ?_ ?_; rotate_left; (· intro W HW; obtain ⟨z0, z4⟩ := HW; go_simp; try with_reducible rfl)
  simp only [Act.put, List.setIfInBounds_toArray, List.set_cons_zero, List.set_cons_succ]
  refine rests_call 1 (oi := _) (by simp only [List.getElem?_toArray, List.getElem?_cons_succ, List.getElem?_cons_zero]; rfl) 65 #[.pointer (some ⟨gt, 0, none⟩)] _ (by kernel_rfl) (by rfl) (by go_simp) (HP.out _ HE2d.out.1) ?_
  rintro e w' ⟨rfl, hw'⟩; rw [hw']; clear hw'; refine ⟨_, rfl, HE2d.out, ?_⟩
  simp only [Act.put, List.setIfInBounds_toArray, List.set_cons_zero, List.set_cons_succ]
  refine rests_call 7 (oi := _) (by simp only [List.getElem?_toArray, List.getElem?_cons_succ, List.getElem?_cons_zero]; rfl) 26 #[.pointer (some ai)] _ (by kernel_rfl) (by rfl) (by go_simp) (tcalls_look (C := fun X => Star (Star (Star (CellW gt #[.int .i64 R, .int .i64 sz, .bool mi, .pointer (some ao), .pointer (some ai)] 92) (OutW (.pointer (some ao)) o)) X) (CellW w.heap.size #[.int .i64 0, .int .i64 0, .bool false, .int .i64 0, .int .i64 0, .int .i64 0, .int .i64 0, .bool false, .string ⟨#[]⟩] 37)) (Fr.l (Fr.r ((CellW.stab _ _ _).star (OutW.stab _ _)) Fr.id_) (CellW.stab _ _ _)) ((((CellW.stab _ _ _).star (OutW.stab _ _)).star (InW.stab _ _)).star (CellW.stab _ _ _)) HS2d.out (fun F hF => INext_any (.pointer (some ai)) ⟨nx, false⟩ F _ hF)) ?_
  rintro e w3 ⟨rfl, hs⟩; have HS3 := Lib.hid hs; have HE3 : Hid ((fun U => U.cell? ⟨gt, 0, none⟩ = some (.int .i64 R) ∧ U.cell? ⟨gt, 4, none⟩ = some (.pointer (some ai))) w3) := ⟨cell_at (Done.at_ (C := fun X => Star (Star (Star (X) (OutW (.pointer (some ao)) o)) (InW (.pointer (some ai)) ⟨nx, false⟩)) (CellW w.heap.size #[.int .i64 0, .int .i64 0, .bool false, .int .i64 0, .int .i64 0, .int .i64 0, .int .i64 0, .bool false, .string ⟨#[]⟩] 37)) (Fr.l (Fr.l (Fr.l Fr.id_ (OutW.stab _ _)) (InW.stab _ _)) (CellW.stab _ _ _)) hs) 0 _ rfl, cell_at (Done.at_ (C := fun X => Star (Star (Star (X) (OutW (.pointer (some ao)) o)) (InW (.pointer (some ai)) ⟨nx, false⟩)) (CellW w.heap.size #[.int .i64 0, .int .i64 0, .bool false, .int .i64 0, .int .i64 0, .int .i64 0, .int .i64 0, .bool false, .string ⟨#[]⟩] 37)) (Fr.l (Fr.l (Fr.l Fr.id_ (OutW.stab _ _)) (InW.stab _ _)) (CellW.stab _ _ _)) hs) 4 _ rfl⟩; refine ⟨_, rfl, HE3.out, ?_⟩; clear hs
  simp only [Act.put, List.setIfInBounds_toArray, List.set_cons_zero, List.set_cons_succ]
  refine rests_take 8 (oi := _) (v := ?_) (by simp only [List.getElem?_toArray, List.getElem?_cons_succ, List.getElem?_cons_zero]; rfl) (by kernel_rfl) (by kernel_rfl) (by kernel_rfl) (by exact fun _ _ _ h => h) (HE3.out) (by rfl) ?_ ?_; rotate_left; (· intro W HW; go_simp; try with_reducible rfl)
  simp only [Act.put, List.setIfInBounds_toArray, List.set_cons_zero, List.set_cons_succ]
  refine rests_storeB 9 (oi := _) (by simp only [List.getElem?_toArray, List.getElem?_cons_succ, List.getElem?_cons_zero]; rfl) (by kernel_rfl) (by rfl) 37 (.tmp 2) (.tmp 17) rfl w.heap.size #[.int .i64 0, .int .i64 0, .bool c, .int .i64 2, .int .i64 0, .int .i64 (nx : Int), .int .i64 0, .bool false, .string ⟨#[]⟩] rfl rfl 37 _ (Done.at_ (C := fun X => Star (Star (Star (CellW gt #[.int .i64 R, .int .i64 sz, .bool mi, .pointer (some ao), .pointer (some ai)] 92) (OutW (.pointer (some ao)) o)) (InW (.pointer (some ai)) ⟨nx, false⟩)) X) (Fr.r (((CellW.stab _ _ _).star (OutW.stab _ _)).star (InW.stab _ _)) Fr.id_) HS3.out) (by kernel_rfl) (by rfl) (by simp [Value.oneCell']) ?_
  intro w4 hg _ hh; have HS4 : Hid (Done w F (Star (Star (Star (CellW gt #[.int .i64 R, .int .i64 sz, .bool mi, .pointer (some ao), .pointer (some ai)] 92) (OutW (.pointer (some ao)) o)) (InW (.pointer (some ai)) ⟨nx, false⟩)) (CellW w.heap.size #[.int .i64 0, .int .i64 0, .bool c, .int .i64 2, .int .i64 0, .int .i64 (nx : Int), .int .i64 0, .bool false, .string ⟨#[]⟩] 37)) w4) := Done.put_ (C := fun X => Star (Star (Star (CellW gt #[.int .i64 R, .int .i64 sz, .bool mi, .pointer (some ao), .pointer (some ai)] 92) (OutW (.pointer (some ao)) o)) (InW (.pointer (some ai)) ⟨nx, false⟩)) X) (Fr.r (((CellW.stab _ _ _).star (OutW.stab _ _)).star (InW.stab _ _)) Fr.id_) HS3.out hg hh; have HE4 : Hid ((fun U => U.cell? ⟨gt, 0, none⟩ = some (.int .i64 R) ∧ U.cell? ⟨gt, 4, none⟩ = some (.pointer (some ai))) w4) := ⟨cell_at (Done.at_ (C := fun X => Star (Star (Star (X) (OutW (.pointer (some ao)) o)) (InW (.pointer (some ai)) ⟨nx, false⟩)) (CellW w.heap.size #[.int .i64 0, .int .i64 0, .bool c, .int .i64 2, .int .i64 0, .int .i64 (nx : Int), .int .i64 0, .bool false, .string ⟨#[]⟩] 37)) (Fr.l (Fr.l (Fr.l Fr.id_ (OutW.stab _ _)) (InW.stab _ _)) (CellW.stab _ _ _)) HS4.out) 0 _ rfl, cell_at (Done.at_ (C := fun X => Star (Star (Star (X) (OutW (.pointer (some ao)) o)) (InW (.pointer (some ai)) ⟨nx, false⟩)) (CellW w.heap.size #[.int .i64 0, .int .i64 0, .bool c, .int .i64 2, .int .i64 0, .int .i64 (nx : Int), .int .i64 0, .bool false, .string ⟨#[]⟩] 37)) (Fr.l (Fr.l (Fr.l Fr.id_ (OutW.stab _ _)) (InW.stab _ _)) (CellW.stab _ _ _)) HS4.out) 4 _ rfl⟩; refine ⟨HE4.out, ?_⟩; clear hg hh
  simp only [Act.put, List.setIfInBounds_toArray, List.set_cons_zero, List.set_cons_succ]
  refine rests_done (by kernel_rfl) ?_
  have HH := Lib.hid (Done.at_ (C := fun X => Star (Star (Star (CellW gt #[.int .i64 R, .int .i64 sz, .bool mi, .pointer (some ao), .pointer (some ai)] 92) (OutW (.pointer (some ao)) o)) (InW (.pointer (some ai)) ⟨nx, false⟩)) X) (Fr.r (((CellW.stab _ _ _).star (OutW.stab _ _)).star (InW.stab _ _)) Fr.id_) HS4.out)
  go_wp2
  exact ⟨rfl, _, results_cell_row rfl _ _ w.heap.size _ _ _ _ rfl HH.out Tryz.underlying37 rfl (by kernel_rfl), rfl, HS4.out.drop⟩
set_option maxRecDepth 100000 in
set_option maxHeartbeats 16000000 in
theorem TnAckn_t (gt : Nat) (ao ai : Addr) (R sz : Int) (mi c : Bool) (o : OutM) (nx : Nat) (w : World) (F : List Nat) (hr : R = 1 ∨ R = 2) (hc : decide (R = 1) = c) (h : TurnO gt ao ai ⟨R, sz, mi, o, ⟨nx, true⟩⟩ w F) : Calls Tryz.prog 71 #[.pointer (some ⟨gt, 0, none⟩)] w fun e w' => e = .returned (.agg #[.int .i64 0, .int .i64 0, .bool c, .int .i64 2, .int .i64 2, .int .i64 (nx : Int), .int .i64 0, .bool false, .string ⟨#[]⟩]) ∧ Done w F (TurnO gt ao ai ⟨R, sz, mi, o, ⟨nx, true⟩⟩) w' := by
  have hS : Done w F (Star (Star (CellW gt #[.int .i64 R, .int .i64 sz, .bool mi, .pointer (some ao), .pointer (some ai)] 92) (OutW (.pointer (some ao)) o)) (InW (.pointer (some ai)) ⟨nx, true⟩)) w := Done.start h
  have HS1 : Hid (Done w F (Star (Star (Star (CellW gt #[.int .i64 R, .int .i64 sz, .bool mi, .pointer (some ao), .pointer (some ai)] 92) (OutW (.pointer (some ao)) o)) (InW (.pointer (some ai)) ⟨nx, true⟩)) (CellW w.heap.size #[.int .i64 0, .int .i64 0, .bool false, .int .i64 0, .int .i64 0, .int .i64 0, .int .i64 0, .bool false, .string ⟨#[]⟩] 37)) (w.alloc (.cells #[.int .i64 0, .int .i64 0, .bool false, .int .i64 0, .int .i64 0, .int .i64 0, .int .i64 0, .bool false, .string ⟨#[]⟩] 37))) := hS.add (((CellW.stab _ _ _).star (OutW.stab _ _)).star (InW.stab _ _)) (CellW.new w _ _)
  have q4 : (w.alloc (.cells #[.int .i64 0, .int .i64 0, .bool false, .int .i64 0, .int .i64 0, .int .i64 0, .int .i64 0, .bool false, .string ⟨#[]⟩] 37)).cell? ⟨gt, 4, none⟩ = some (.pointer (some ai)) := cell_at (Done.at_ (C := fun X => Star (Star (Star (X) (OutW (.pointer (some ao)) o)) (InW (.pointer (some ai)) ⟨nx, true⟩)) (CellW w.heap.size #[.int .i64 0, .int .i64 0, .bool false, .int .i64 0, .int .i64 0, .int .i64 0, .int .i64 0, .bool false, .string ⟨#[]⟩] 37)) (Fr.l (Fr.l (Fr.l Fr.id_ (OutW.stab _ _)) (InW.stab _ _)) (CellW.stab _ _ _)) HS1.out) 4 _ rfl
  have HP := Lib.hid (fun w q => TnPrim_at gt R c w hr hc q)
  clear h hS hr hc
  go_enter Tryz.func71, Tryz.ntmps71
  go_wp2_with (go_at_call 27; ((with_reducible refine (tcalls_look (C := fun X => Star (Star (Star (CellW gt #[.int .i64 R, .int .i64 sz, .bool mi, .pointer (some ao), .pointer (some ai)] 92) (OutW (.pointer (some ao)) o)) X) (CellW w.heap.size #[.int .i64 0, .int .i64 0, .bool false, .int .i64 0, .int .i64 0, .int .i64 0, .int .i64 0, .bool false, .string ⟨#[]⟩] 37)) (Fr.l (Fr.r ((CellW.stab _ _ _).star (OutW.stab _ _)) Fr.id_) (CellW.stab _ _ _)) ((((CellW.stab _ _ _).star (OutW.stab _ _)).star (InW.stab _ _)).star (CellW.stab _ _ _)) HS1.out (fun F hF => IOdd_any (.pointer (some ai)) ⟨nx, true⟩ F _ hF)).mono ?_); rintro e w2 ⟨rfl, hs⟩; have HS2 := Lib.hid hs; clear hs))
  have HS2d := Lib.hid (HS2.out.drewD ((((CellW.stab _ _ _).star (OutW.stab _ _)).star (InW.stab _ _)).star (CellW.stab _ _ _)))
  have HE2d : Hid ((fun U => U.cell? ⟨gt, 0, none⟩ = some (.int .i64 R) ∧ U.cell? ⟨gt, 4, none⟩ = some (.pointer (some ai))) w2.drew) := ⟨cell_at (Done.at_ (C := fun X => Star (Star (Star (X) (OutW (.pointer (some ao)) o)) (InW (.pointer (some ai)) ⟨nx, true⟩)) (CellW w.heap.size #[.int .i64 0, .int .i64 0, .bool false, .int .i64 0, .int .i64 0, .int .i64 0, .int .i64 0, .bool false, .string ⟨#[]⟩] 37)) (Fr.l (Fr.l (Fr.l Fr.id_ (OutW.stab _ _)) (InW.stab _ _)) (CellW.stab _ _ _)) HS2d.out) 0 _ rfl, cell_at (Done.at_ (C := fun X => Star (Star (Star (X) (OutW (.pointer (some ao)) o)) (InW (.pointer (some ai)) ⟨nx, true⟩)) (CellW w.heap.size #[.int .i64 0, .int .i64 0, .bool false, .int .i64 0, .int .i64 0, .int .i64 0, .int .i64 0, .bool false, .string ⟨#[]⟩] 37)) (Fr.l (Fr.l (Fr.l Fr.id_ (OutW.stab _ _)) (InW.stab _ _)) (CellW.stab _ _ _)) HS2d.out) 4 _ rfl⟩
  refine rests_begin (fun U => U.cell? ⟨gt, 0, none⟩ = some (.int .i64 R) ∧ U.cell? ⟨gt, 4, none⟩ = some (.pointer (some ai))) (by kernel_rfl) ?_
  refine rests_take 0 (oi := _) (v := ?_) (by simp only [List.getElem?_toArray, List.getElem?_cons_zero]; rfl) (by kernel_rfl) (by kernel_rfl) (by kernel_rfl) (by exact fun _ _ _ h => h) (HE2d.out) (by rfl) ?_ ?_; rotate_left; (· intro W HW; go_simp; try with_reducible rfl)
  simp only [Act.put, List.setIfInBounds_toArray, List.set_cons_zero, List.set_cons_succ]
  refine rests_take 2 (oi := _) (v := ?_) (by simp only [List.getElem?_toArray, List.getElem?_cons_succ, List.getElem?_cons_zero]; rfl) (by kernel_rfl) (by kernel_rfl) (by kernel_rfl) (by exact fun _ _ _ h => h) (HE2d.out) (by rfl) ?_ ?_; rotate_left; (· intro W HW; go_simp; try with_reducible rfl)
  simp only [Act.put, List.setIfInBounds_toArray, List.set_cons_zero, List.set_cons_succ]
  refine rests_take 3 (oi := _) (v := ?_) (by simp only [List.getElem?_toArray, List.getElem?_cons_succ, List.getElem?_cons_zero]; rfl) (by kernel_rfl) (by kernel_rfl) (by kernel_rfl) (by exact fun _ _ _ h => h) (HE2d.out) (by rfl) ?_ ?_; rotate_left; (· intro W HW; go_simp; try with_reducible rfl)
  simp only [Act.put, List.setIfInBounds_toArray, List.set_cons_zero, List.set_cons_succ]
  refine rests_take 4 (oi := _) (v := ?_) (by simp only [List.getElem?_toArray, List.getElem?_cons_succ, List.getElem?_cons_zero]; rfl) (by kernel_rfl) (by kernel_rfl) (by kernel_rfl) (by exact fun _ _ _ h => h) (HE2d.out) (by rfl) ?_ ?_; rotate_left; (· intro W HW; go_simp; try with_reducible rfl)
  simp only [Act.put, List.setIfInBounds_toArray, List.set_cons_zero, List.set_cons_succ]
  refine rests_take 5 (oi := _) (v := ?_) (by simp only [List.getElem?_toArray, List.getElem?_cons_succ, List.getElem?_cons_zero]; rfl) (by kernel_rfl) (by kernel_rfl) (by kernel_rfl) (by exact fun _ _ _ h => h) (HE2d.out) (by rfl) ?_ ?_; rotate_left; (· intro W HW; go_simp; try with_reducible rfl)
  simp only [Act.put, List.setIfInBounds_toArray, List.set_cons_zero, List.set_cons_succ]
  refine rests_take 6 (oi := _) (v := ?_) (by simp only [List.getElem?_toArray, List.getElem?_cons_succ, List.getElem?_cons_zero]; rfl) (by kernel_rfl) (by kernel_rfl) (by kernel_rfl) (by exact fun _ _ _ h => h) (HE2d.out) (by rfl) ?_ ?_; rotate_left; (· intro W HW; obtain ⟨z0, z4⟩ := HW; go_simp; try with_reducible rfl)
  simp only [Act.put, List.setIfInBounds_toArray, List.set_cons_zero, List.set_cons_succ]
  refine rests_call 1 (oi := _) (by simp only [List.getElem?_toArray, List.getElem?_cons_succ, List.getElem?_cons_zero]; rfl) 65 #[.pointer (some ⟨gt, 0, none⟩)] _ (by kernel_rfl) (by rfl) (by go_simp) (HP.out _ HE2d.out.1) ?_
  rintro e w' ⟨rfl, hw'⟩; rw [hw']; clear hw'; refine ⟨_, rfl, HE2d.out, ?_⟩
  simp only [Act.put, List.setIfInBounds_toArray, List.set_cons_zero, List.set_cons_succ]
  refine rests_call 7 (oi := _) (by simp only [List.getElem?_toArray, List.getElem?_cons_succ, List.getElem?_cons_zero]; rfl) 26 #[.pointer (some ai)] _ (by kernel_rfl) (by rfl) (by go_simp) (tcalls_look (C := fun X => Star (Star (Star (CellW gt #[.int .i64 R, .int .i64 sz, .bool mi, .pointer (some ao), .pointer (some ai)] 92) (OutW (.pointer (some ao)) o)) X) (CellW w.heap.size #[.int .i64 0, .int .i64 0, .bool false, .int .i64 0, .int .i64 0, .int .i64 0, .int .i64 0, .bool false, .string ⟨#[]⟩] 37)) (Fr.l (Fr.r ((CellW.stab _ _ _).star (OutW.stab _ _)) Fr.id_) (CellW.stab _ _ _)) ((((CellW.stab _ _ _).star (OutW.stab _ _)).star (InW.stab _ _)).star (CellW.stab _ _ _)) HS2d.out (fun F hF => INext_any (.pointer (some ai)) ⟨nx, true⟩ F _ hF)) ?_
  rintro e w3 ⟨rfl, hs⟩; have HS3 := Lib.hid hs; have HE3 : Hid ((fun U => U.cell? ⟨gt, 0, none⟩ = some (.int .i64 R) ∧ U.cell? ⟨gt, 4, none⟩ = some (.pointer (some ai))) w3) := ⟨cell_at (Done.at_ (C := fun X => Star (Star (Star (X) (OutW (.pointer (some ao)) o)) (InW (.pointer (some ai)) ⟨nx, true⟩)) (CellW w.heap.size #[.int .i64 0, .int .i64 0, .bool false, .int .i64 0, .int .i64 0, .int .i64 0, .int .i64 0, .bool false, .string ⟨#[]⟩] 37)) (Fr.l (Fr.l (Fr.l Fr.id_ (OutW.stab _ _)) (InW.stab _ _)) (CellW.stab _ _ _)) hs) 0 _ rfl, cell_at (Done.at_ (C := fun X => Star (Star (Star (X) (OutW (.pointer (some ao)) o)) (InW (.pointer (some ai)) ⟨nx, true⟩)) (CellW w.heap.size #[.int .i64 0, .int .i64 0, .bool false, .int .i64 0, .int .i64 0, .int .i64 0, .int .i64 0, .bool false, .string ⟨#[]⟩] 37)) (Fr.l (Fr.l (Fr.l Fr.id_ (OutW.stab _ _)) (InW.stab _ _)) (CellW.stab _ _ _)) hs) 4 _ rfl⟩; refine ⟨_, rfl, HE3.out, ?_⟩; clear hs
  simp only [Act.put, List.setIfInBounds_toArray, List.set_cons_zero, List.set_cons_succ]
  refine rests_take 8 (oi := _) (v := ?_) (by simp only [List.getElem?_toArray, List.getElem?_cons_succ, List.getElem?_cons_zero]; rfl) (by kernel_rfl) (by kernel_rfl) (by kernel_rfl) (by exact fun _ _ _ h => h) (HE3.out) (by rfl) ?_ ?_; rotate_left; (· intro W HW; go_simp; try with_reducible rfl)
  simp only [Act.put, List.setIfInBounds_toArray, List.set_cons_zero, List.set_cons_succ]
  refine rests_storeB 9 (oi := _) (by simp only [List.getElem?_toArray, List.getElem?_cons_succ, List.getElem?_cons_zero]; rfl) (by kernel_rfl) (by rfl) 37 (.tmp 2) (.tmp 17) rfl w.heap.size #[.int .i64 0, .int .i64 0, .bool c, .int .i64 2, .int .i64 2, .int .i64 (nx : Int), .int .i64 0, .bool false, .string ⟨#[]⟩] rfl rfl 37 _ (Done.at_ (C := fun X => Star (Star (Star (CellW gt #[.int .i64 R, .int .i64 sz, .bool mi, .pointer (some ao), .pointer (some ai)] 92) (OutW (.pointer (some ao)) o)) (InW (.pointer (some ai)) ⟨nx, true⟩)) X) (Fr.r (((CellW.stab _ _ _).star (OutW.stab _ _)).star (InW.stab _ _)) Fr.id_) HS3.out) (by kernel_rfl) (by rfl) (by simp [Value.oneCell']) ?_
  intro w4 hg _ hh; have HS4 : Hid (Done w F (Star (Star (Star (CellW gt #[.int .i64 R, .int .i64 sz, .bool mi, .pointer (some ao), .pointer (some ai)] 92) (OutW (.pointer (some ao)) o)) (InW (.pointer (some ai)) ⟨nx, true⟩)) (CellW w.heap.size #[.int .i64 0, .int .i64 0, .bool c, .int .i64 2, .int .i64 2, .int .i64 (nx : Int), .int .i64 0, .bool false, .string ⟨#[]⟩] 37)) w4) := Done.put_ (C := fun X => Star (Star (Star (CellW gt #[.int .i64 R, .int .i64 sz, .bool mi, .pointer (some ao), .pointer (some ai)] 92) (OutW (.pointer (some ao)) o)) (InW (.pointer (some ai)) ⟨nx, true⟩)) X) (Fr.r (((CellW.stab _ _ _).star (OutW.stab _ _)).star (InW.stab _ _)) Fr.id_) HS3.out hg hh; have HE4 : Hid ((fun U => U.cell? ⟨gt, 0, none⟩ = some (.int .i64 R) ∧ U.cell? ⟨gt, 4, none⟩ = some (.pointer (some ai))) w4) := ⟨cell_at (Done.at_ (C := fun X => Star (Star (Star (X) (OutW (.pointer (some ao)) o)) (InW (.pointer (some ai)) ⟨nx, true⟩)) (CellW w.heap.size #[.int .i64 0, .int .i64 0, .bool c, .int .i64 2, .int .i64 2, .int .i64 (nx : Int), .int .i64 0, .bool false, .string ⟨#[]⟩] 37)) (Fr.l (Fr.l (Fr.l Fr.id_ (OutW.stab _ _)) (InW.stab _ _)) (CellW.stab _ _ _)) HS4.out) 0 _ rfl, cell_at (Done.at_ (C := fun X => Star (Star (Star (X) (OutW (.pointer (some ao)) o)) (InW (.pointer (some ai)) ⟨nx, true⟩)) (CellW w.heap.size #[.int .i64 0, .int .i64 0, .bool c, .int .i64 2, .int .i64 2, .int .i64 (nx : Int), .int .i64 0, .bool false, .string ⟨#[]⟩] 37)) (Fr.l (Fr.l (Fr.l Fr.id_ (OutW.stab _ _)) (InW.stab _ _)) (CellW.stab _ _ _)) HS4.out) 4 _ rfl⟩; refine ⟨HE4.out, ?_⟩; clear hg hh
  simp only [Act.put, List.setIfInBounds_toArray, List.set_cons_zero, List.set_cons_succ]
  refine rests_done (by kernel_rfl) ?_
  have HH := Lib.hid (Done.at_ (C := fun X => Star (Star (Star (CellW gt #[.int .i64 R, .int .i64 sz, .bool mi, .pointer (some ao), .pointer (some ai)] 92) (OutW (.pointer (some ao)) o)) (InW (.pointer (some ai)) ⟨nx, true⟩)) X) (Fr.r (((CellW.stab _ _ _).star (OutW.stab _ _)).star (InW.stab _ _)) Fr.id_) HS4.out)
  go_wp2
  exact ⟨rfl, _, results_cell_row rfl _ _ w.heap.size _ _ _ _ rfl HH.out Tryz.underlying37 rfl (by kernel_rfl), rfl, HS4.out.drop⟩
theorem TnAckn_any (gt : Nat) (ao ai : Addr) (R sz : Int) (mi c od : Bool) (o : OutM) (nx : Nat) (w : World) (F : List Nat) (hr : R = 1 ∨ R = 2) (hc : decide (R = 1) = c) (h : TurnO gt ao ai ⟨R, sz, mi, o, ⟨nx, od⟩⟩ w F) : Calls Tryz.prog 71 #[.pointer (some ⟨gt, 0, none⟩)] w fun e w' => e = .returned (.agg #[.int .i64 0, .int .i64 0, .bool c, .int .i64 2, .int .i64 (if od then 2 else 0), .int .i64 (nx : Int), .int .i64 0, .bool false, .string ⟨#[]⟩]) ∧ Done w F (TurnO gt ao ai ⟨R, sz, mi, o, ⟨nx, od⟩⟩) w' := by
  cases od
  · exact TnAckn_f gt ao ai R sz mi c o nx w F hr hc h
  · exact TnAckn_t gt ao ai R sz mi c o nx w F hr hc h
set_option maxRecDepth 100000 in
set_option maxHeartbeats 16000000 in
theorem TnBurst_0 (gt : Nat) (ao ai : Addr) (R sz so : Int) (mi c od : Bool) (o : OutM) (nx : Nat) (w : World) (F : List Nat) (hr : R = 1 ∨ R = 2) (hc : decide (R = 1) = c) (hk : o.k = 0) (hso : (if od then (2 : Int) else 0) = so) (h : TurnO gt ao ai ⟨R, sz, mi, o, ⟨nx, od⟩⟩ w F) : Calls Tryz.prog 61 #[.pointer (some ⟨gt, 0, none⟩)] w fun e w' => ∃ g, e = .returned (.slice (some ⟨g, 0, none⟩) 1 1) ∧ Done w F (Star (TurnO gt ao ai ⟨R, sz, mi, o.burst, ⟨nx, od⟩⟩) (OwnK 37 9 (.slice (some ⟨g, 0, none⟩) 1 1) 1 (#[.int .i64 0, .int .i64 0, .bool c, .int .i64 2, .int .i64 so, .int .i64 (nx : Int), .int .i64 0, .bool false, .string ⟨#[]⟩]).toList)) w' := by
  have hS : Done w F (Star (Star (CellW gt #[.int .i64 R, .int .i64 sz, .bool mi, .pointer (some ao), .pointer (some ai)] 92) (OutW (.pointer (some ao)) o)) (InW (.pointer (some ai)) ⟨nx, od⟩)) w := Done.start h
  have hq := (Done.at_ (C := fun X => Star (Star (X) (OutW (.pointer (some ao)) o)) (InW (.pointer (some ai)) ⟨nx, od⟩)) (Fr.l (Fr.l Fr.id_ (OutW.stab _ _)) (InW.stab _ _)) hS)
  have q3 : w.cell? ⟨gt, 3, none⟩ = some (.pointer (some ao)) := cell_at hq 3 _ rfl
  have HB := Lib.hid (tburst_at (CellW.stab _ _ _) (InW.stab _ _) hS hk)
  have HA := Lib.hid (fun w1 (hd : Done w F (TurnO gt ao ai ⟨R, sz, mi, o.burst, ⟨nx, od⟩⟩) w1) => dcalls_at (C := fun X => X) Fr.id_ hd (fun F hF => hso ▸ TnAckn_any gt ao ai R sz mi c od o.burst nx w1 F hr hc hF))
  clear h hS hq hr hc hk hso
  go_enter Tryz.func61, Tryz.ntmps61
  go_wp2_with first
    | (go_at_call 47; ((with_reducible refine (HB.out).mono ?_); rintro e w1 ⟨A1, c1, A2, c2, rfl, hb, hs⟩; have HS1 : Hid (Done w F (TurnO gt ao ai ⟨R, sz, mi, o.burst, ⟨nx, od⟩⟩) w1) := hs.drop.drop; clear hs hb))
    | (go_at_call 71; ((with_reducible refine (HA.out _ HS1.out).mono ?_); rintro e w2 ⟨rfl, hs⟩; have HS2 := Lib.hid hs; clear hs))
  go_ret
  exact ⟨_, rfl, (HS2.out.add (TurnO.stab _ _ _ _) (CellW.new w2 #[.int .i64 0, .int .i64 0, .bool c, .int .i64 2, .int .i64 so, .int .i64 (nx : Int), .int .i64 0, .bool false, .string ⟨#[]⟩] 37)).mono_at (C := fun X => Star (TurnO gt ao ai ⟨R, sz, mi, o.burst, ⟨nx, od⟩⟩) X) (Fr.r (TurnO.stab _ _ _ _) Fr.id_) (fun F hF => hF.own rfl)⟩
set_option maxRecDepth 100000 in
set_option maxHeartbeats 16000000 in
theorem TnBurst_K (gt : Nat) (ao ai : Addr) (R sz : Int) (mi c od : Bool) (o : OutM) (nx K : Nat) (w : World) (F : List Nat) (hok : o.ok) (hr : R = 1 ∨ R = 2) (hc : decide (R = 1) = c) (hk : o.k = K) (hk0 : 0 < K) (h : TurnO gt ao ai ⟨R, sz, mi, o, ⟨nx, od⟩⟩ w F) : Calls Tryz.prog 61 #[.pointer (some ⟨gt, 0, none⟩)] w fun e w' => ∃ g, e = .returned (.slice (some ⟨g, 0, none⟩) K K) ∧ Done w F (Star (TurnO gt ao ai ⟨R, sz, mi, o.burst, ⟨nx, od⟩⟩) (OwnK 37 9 (.slice (some ⟨g, 0, none⟩) K K) K (plcs (plT c nx o.first o.l K K)))) w' := by
  have hS : Done w F (Star (Star (CellW gt #[.int .i64 R, .int .i64 sz, .bool mi, .pointer (some ao), .pointer (some ai)] 92) (OutW (.pointer (some ao)) o)) (InW (.pointer (some ai)) ⟨nx, od⟩)) w := Done.start h
  have hq := (Done.at_ (C := fun X => Star (Star (X) (OutW (.pointer (some ao)) o)) (InW (.pointer (some ai)) ⟨nx, od⟩)) (Fr.l (Fr.l Fr.id_ (OutW.stab _ _)) (InW.stab _ _)) hS)
  have q3 : w.cell? ⟨gt, 3, none⟩ = some (.pointer (some ao)) := cell_at hq 3 _ rfl
  have hk7 := OutM.k_le hok
  rw [hk] at hk7
  have HB := Lib.hid (tburst_at (CellW.stab _ _ _) (InW.stab _ _) hS hk)
  have HNS : Hid (∀ i, i < K → (ints o.ns)[i]? = some (.int .i64 (((o.first + i) % 8 : Nat) : Int))) := fun i hi => by unfold OutM.ns ints; rw [hk]; simp [hi]
  have HBS : Hid (∀ i, i < K → (strg o.bs)[i]? = some (.string (o.l.getD i ⟨#[]⟩))) := fun i hi => by unfold OutM.bs strg; rw [hk]; simp [hi, show i < o.l.length by omega]
  have HP := Lib.hid (fun w q => TnPrim_at gt R c w hr hc q)
  have HK7 : Hid (K ≤ 7) := hk7.1
  have HKM : Hid (K ≤ 1000000) := by show _ ≤ _; omega
  have HK0 := Lib.hid hk0
  have t0 : ((K : Int) == 0) = false := beq_eq_false_iff_ne.2 (by omega)
  clear h hS hq hr hc hk hk7 hok hk0
  go_enter Tryz.func61, Tryz.ntmps61
  go_wp2_with first
    | (go_at_call 47; ((with_reducible refine (HB.out).mono ?_); rintro e w1 ⟨A1, c1, A2, c2, rfl, hb, hs⟩; have HBB := Lib.hid hb; have HS1 := Lib.hid hs; clear hs hb))
    | ((with_reducible refine wpList_makeP rfl (.tmp 23) (.tmp 23) rfl K rfl rfl HKM.out ?_); intro g3 w2 hd; have HS2 := Lib.hid (HS1.out.add (((((CellW.stab _ _ _).star (OutW.stab _ _)).star (InW.stab _ _)).star (SlW.stab _ _ _ _)).star (SlW.stab _ _ _ _)) hd); clear hd)
  have hfa := ((Done.get (C := fun X => Star (Star (Star (Star (Star (CellW gt #[.int .i64 R, .int .i64 sz, .bool mi, .pointer (some ao), .pointer (some ai)] 92) (OutW (.pointer (some ao)) o.burst)) (InW (.pointer (some ai)) ⟨nx, od⟩)) X) (SlW 1 (.slice A2 K c2) K (strg o.bs))) (OwnK 37 9 (.slice (some ⟨g3, 0, none⟩) K K) K (plcs (List.replicate K zPl)))) (Fr.l (Fr.l (Fr.r (((CellW.stab _ _ _).star (OutW.stab _ _)).star (InW.stab _ _)) Fr.id_) (SlW.stab _ _ _ _)) (OwnK.stab _ _ _ _ _)) HS2.out).elim fun _ h => h.addr HK0.out)
  have hfb := ((Done.get (C := fun X => Star (Star (Star (Star (Star (CellW gt #[.int .i64 R, .int .i64 sz, .bool mi, .pointer (some ao), .pointer (some ai)] 92) (OutW (.pointer (some ao)) o.burst)) (InW (.pointer (some ai)) ⟨nx, od⟩)) (SlW 1 (.slice A1 K c1) K (ints o.ns))) X) (OwnK 37 9 (.slice (some ⟨g3, 0, none⟩) K K) K (plcs (List.replicate K zPl)))) (Fr.l (Fr.r ((((CellW.stab _ _ _).star (OutW.stab _ _)).star (InW.stab _ _)).star (SlW.stab _ _ _ _)) Fr.id_) (OwnK.stab _ _ _ _ _)) HS2.out).elim fun _ h => h.addr HK0.out)
  obtain ⟨ba, fa, rfl⟩ : ∃ b f, A1 = some ⟨b, f, none⟩ := by
    obtain ⟨b, f, _, e, _, _⟩ := hfa
    injection e with e
    exact ⟨b, f, e⟩
  obtain ⟨bb, fb, rfl⟩ : ∃ b f, A2 = some ⟨b, f, none⟩ := by
    obtain ⟨b, f, _, e, _, _⟩ := hfb
    injection e with e
    exact ⟨b, f, e⟩
  clear hfa hfb
  have tc1 : (K : Int) ≤ (c1 : Int) := by have := HBB.out.1; omega
  have tc2 : (K : Int) ≤ (c2 : Int) := by have := HBB.out.2; omega
  clear HS1 HB
  go_loopw [27] (fun iv wr => ∃ i : Nat, i ≤ K ∧ iv = .int .i64 (i : Int) ∧ Done w F (Star (Star (Star (Star (Star (CellW gt #[.int .i64 R, .int .i64 sz, .bool mi, .pointer (some ao), .pointer (some ai)] 92) (OutW (.pointer (some ao)) o.burst)) (InW (.pointer (some ai)) ⟨nx, od⟩)) (SlW 1 (.slice (some ⟨ba, fa, none⟩) K c1) K (ints o.ns))) (SlW 1 (.slice (some ⟨bb, fb, none⟩) K c2) K (strg o.bs))) (OwnK 37 9 (.slice (some ⟨g3, 0, none⟩) K K) K (plcs (plT c nx o.first o.l K i)))) wr) (fun iv _ => (9 - intOf iv).toNat)
  case atStart => exact ⟨0, by omega, rfl, by rw [plT_zero]; exact HS2.out⟩
  case round =>
    clear HS2
    obtain ⟨i, hik, rfl, hs⟩ := hrel
    have HSs := Lib.hid hs
    clear hs
    by_cases hlt : i < K
    · have t1 : decide ((i : Int) < (K : Int)) = true := decide_eq_true (by omega)
      have e1 : IntKind.i64.wrap ((i : Int) + 1) = (i : Int) + 1 := IntWalk.i64_in _ (by have := HK7.out; omega)
      have ti : (i : Int) < (K : Int) := by omega
      have HNI := Lib.hid (HNS.out i hlt)
      have HSI := Lib.hid (HBS.out i hlt)
      have HST : Hid (setL (plcs (plT c nx o.first o.l K i)) (i * 9) (pcs (sayT c nx o.first o.l i)) = plcs (plT c nx o.first o.l K (i + 1))) := by show _ = _; rw [setL_plcs _ _ _ (by rw [plT_len]; exact hlt), plT_set]
      have HLN : Hid (i * 9 + (pcs (sayT c nx o.first o.l i)).length ≤ (plcs (plT c nx o.first o.l K i)).length) := by show _ ≤ _; rw [plcsL, plT_len]; show i * 9 + 9 ≤ _; omega
      have qn : wr.cell? ⟨ba, fa + i, none⟩ = some (.int .i64 (((o.first + i) % 8 : Nat) : Int)) := ((Done.get (C := fun X => Star (Star (Star (Star (Star (CellW gt #[.int .i64 R, .int .i64 sz, .bool mi, .pointer (some ao), .pointer (some ai)] 92) (OutW (.pointer (some ao)) o.burst)) (InW (.pointer (some ai)) ⟨nx, od⟩)) X) (SlW 1 (.slice (some ⟨bb, fb, none⟩) K c2) K (strg o.bs))) (OwnK 37 9 (.slice (some ⟨g3, 0, none⟩) K K) K (plcs (plT c nx o.first o.l K i)))) (Fr.l (Fr.l (Fr.r (((CellW.stab _ _ _).star (OutW.stab _ _)).star (InW.stab _ _)) Fr.id_) (SlW.stab _ _ _ _)) (OwnK.stab _ _ _ _ _)) HSs.out).elim fun _ h => h.cell HNI.out)
      have HSd := Lib.hid (HSs.out.drewD ((((((CellW.stab _ _ _).star (OutW.stab _ _)).star (InW.stab _ _)).star (SlW.stab _ _ _ _)).star (SlW.stab _ _ _ _)).star (OwnK.stab _ _ _ _ _)))
      have HEd : Hid ((fun U => U.cell? ⟨gt, 0, none⟩ = some (.int .i64 R) ∧ U.cell? ⟨gt, 4, none⟩ = some (.pointer (some ai)) ∧ U.cell? ⟨bb, fb + i, none⟩ = some (.string (o.l.getD i ⟨#[]⟩))) wr.drew) := ⟨cell_at (Done.at_ (C := fun X => Star (Star (Star (Star (Star (X) (OutW (.pointer (some ao)) o.burst)) (InW (.pointer (some ai)) ⟨nx, od⟩)) (SlW 1 (.slice (some ⟨ba, fa, none⟩) K c1) K (ints o.ns))) (SlW 1 (.slice (some ⟨bb, fb, none⟩) K c2) K (strg o.bs))) (OwnK 37 9 (.slice (some ⟨g3, 0, none⟩) K K) K (plcs (plT c nx o.first o.l K i)))) (Fr.l (Fr.l (Fr.l (Fr.l (Fr.l Fr.id_ (OutW.stab _ _)) (InW.stab _ _)) (SlW.stab _ _ _ _)) (SlW.stab _ _ _ _)) (OwnK.stab _ _ _ _ _)) HSd.out) 0 _ rfl, cell_at (Done.at_ (C := fun X => Star (Star (Star (Star (Star (X) (OutW (.pointer (some ao)) o.burst)) (InW (.pointer (some ai)) ⟨nx, od⟩)) (SlW 1 (.slice (some ⟨ba, fa, none⟩) K c1) K (ints o.ns))) (SlW 1 (.slice (some ⟨bb, fb, none⟩) K c2) K (strg o.bs))) (OwnK 37 9 (.slice (some ⟨g3, 0, none⟩) K K) K (plcs (plT c nx o.first o.l K i)))) (Fr.l (Fr.l (Fr.l (Fr.l (Fr.l Fr.id_ (OutW.stab _ _)) (InW.stab _ _)) (SlW.stab _ _ _ _)) (SlW.stab _ _ _ _)) (OwnK.stab _ _ _ _ _)) HSd.out) 4 _ rfl, ((Done.get (C := fun X => Star (Star (Star (Star (Star (CellW gt #[.int .i64 R, .int .i64 sz, .bool mi, .pointer (some ao), .pointer (some ai)] 92) (OutW (.pointer (some ao)) o.burst)) (InW (.pointer (some ai)) ⟨nx, od⟩)) (SlW 1 (.slice (some ⟨ba, fa, none⟩) K c1) K (ints o.ns))) X) (OwnK 37 9 (.slice (some ⟨g3, 0, none⟩) K K) K (plcs (plT c nx o.first o.l K i)))) (Fr.l (Fr.r ((((CellW.stab _ _ _).star (OutW.stab _ _)).star (InW.stab _ _)).star (SlW.stab _ _ _ _)) Fr.id_) (OwnK.stab _ _ _ _ _)) HSd.out).elim fun _ h => h.cell HSI.out)⟩
      go_wp2
      refine rests_begin (fun U => U.cell? ⟨gt, 0, none⟩ = some (.int .i64 R) ∧ U.cell? ⟨gt, 4, none⟩ = some (.pointer (some ai)) ∧ U.cell? ⟨bb, fb + i, none⟩ = some (.string (o.l.getD i ⟨#[]⟩))) (by kernel_rfl) ?_
      refine rests_take 0 (oi := _) (v := ?_) (by simp only [List.getElem?_toArray, List.getElem?_cons_zero]; rfl) (by kernel_rfl) (by kernel_rfl) (by kernel_rfl) (by exact fun _ _ _ h => h) (HEd.out) (by rfl) ?_ ?_; rotate_left; (· intro W HW; go_simp; try with_reducible rfl)
      simp only [Act.put, List.setIfInBounds_toArray, List.set_cons_zero, List.set_cons_succ]
      refine rests_take 1 (oi := _) (v := ?_) (by simp only [List.getElem?_toArray, List.getElem?_cons_succ, List.getElem?_cons_zero]; rfl) (by kernel_rfl) (by kernel_rfl) (by kernel_rfl) (by exact fun _ _ _ h => h) (HEd.out) (by rfl) ?_ ?_; rotate_left; (· intro W HW; go_simp; try with_reducible rfl)
      simp only [Act.put, List.setIfInBounds_toArray, List.set_cons_zero, List.set_cons_succ]
      refine rests_take 2 (oi := _) (v := ?_) (by simp only [List.getElem?_toArray, List.getElem?_cons_succ, List.getElem?_cons_zero]; rfl) (by kernel_rfl) (by kernel_rfl) (by kernel_rfl) (by exact fun _ _ _ h => h) (HEd.out) (by rfl) ?_ ?_; rotate_left; (· intro W HW; go_simp; try with_reducible rfl)
      simp only [Act.put, List.setIfInBounds_toArray, List.set_cons_zero, List.set_cons_succ]
      refine rests_take 4 (oi := _) (v := ?_) (by simp only [List.getElem?_toArray, List.getElem?_cons_succ, List.getElem?_cons_zero]; rfl) (by kernel_rfl) (by kernel_rfl) (by kernel_rfl) (by exact fun _ _ _ h => h) (HEd.out) (by rfl) ?_ ?_; rotate_left; (· intro W HW; go_simp; try with_reducible rfl)
      simp only [Act.put, List.setIfInBounds_toArray, List.set_cons_zero, List.set_cons_succ]
      refine rests_take 5 (oi := _) (v := ?_) (by simp only [List.getElem?_toArray, List.getElem?_cons_succ, List.getElem?_cons_zero]; rfl) (by kernel_rfl) (by kernel_rfl) (by kernel_rfl) (by exact fun _ _ _ h => h) (HEd.out) (by rfl) ?_ ?_; rotate_left; (· intro W HW; go_simp; try with_reducible rfl)
      simp only [Act.put, List.setIfInBounds_toArray, List.set_cons_zero, List.set_cons_succ]
      refine rests_take 6 (oi := _) (v := ?_) (by simp only [List.getElem?_toArray, List.getElem?_cons_succ, List.getElem?_cons_zero]; rfl) (by kernel_rfl) (by kernel_rfl) (by kernel_rfl) (by exact fun _ _ _ h => h) (HEd.out) (by rfl) ?_ ?_; rotate_left; (· intro W HW; go_simp; try with_reducible rfl)
      simp only [Act.put, List.setIfInBounds_toArray, List.set_cons_zero, List.set_cons_succ]
      refine rests_take 7 (oi := _) (v := ?_) (by simp only [List.getElem?_toArray, List.getElem?_cons_succ, List.getElem?_cons_zero]; rfl) (by kernel_rfl) (by kernel_rfl) (by kernel_rfl) (by exact fun _ _ _ h => h) (HEd.out) (by rfl) ?_ ?_; rotate_left; (· intro W HW; obtain ⟨z0, z4, zb⟩ := HW; go_simp; try with_reducible rfl)
      simp only [Act.put, List.setIfInBounds_toArray, List.set_cons_zero, List.set_cons_succ]
      refine rests_take 9 (oi := _) (v := ?_) (by simp only [List.getElem?_toArray, List.getElem?_cons_succ, List.getElem?_cons_zero]; rfl) (by kernel_rfl) (by kernel_rfl) (by kernel_rfl) (by exact fun _ _ _ h => h) (HEd.out) (by rfl) ?_ ?_; rotate_left; (· intro W HW; go_simp; try with_reducible rfl)
      simp only [Act.put, List.setIfInBounds_toArray, List.set_cons_zero, List.set_cons_succ]
      refine rests_take 10 (oi := _) (v := ?_) (by simp only [List.getElem?_toArray, List.getElem?_cons_succ, List.getElem?_cons_zero]; rfl) (by kernel_rfl) (by kernel_rfl) (by kernel_rfl) (by exact fun _ _ _ h => h) (HEd.out) (by rfl) ?_ ?_; rotate_left; (· intro W HW; go_simp; try with_reducible rfl)
      simp only [Act.put, List.setIfInBounds_toArray, List.set_cons_zero, List.set_cons_succ]
      refine rests_take 11 (oi := _) (v := ?_) (by simp only [List.getElem?_toArray, List.getElem?_cons_succ, List.getElem?_cons_zero]; rfl) (by kernel_rfl) (by kernel_rfl) (by kernel_rfl) (by exact fun _ _ _ h => h) (HEd.out) (by rfl) ?_ ?_; rotate_left; (· intro W HW; go_simp; try with_reducible rfl)
      simp only [Act.put, List.setIfInBounds_toArray, List.set_cons_zero, List.set_cons_succ]
      refine rests_take 12 (oi := _) (v := ?_) (by simp only [List.getElem?_toArray, List.getElem?_cons_succ, List.getElem?_cons_zero]; rfl) (by kernel_rfl) (by kernel_rfl) (by kernel_rfl) (by exact fun _ _ _ h => h) (HEd.out) (by rfl) ?_ ?_; rotate_left; (· intro W HW; go_simp; try with_reducible rfl)
      simp only [Act.put, List.setIfInBounds_toArray, List.set_cons_zero, List.set_cons_succ]
      refine rests_take 13 (oi := _) (v := ?_) (by simp only [List.getElem?_toArray, List.getElem?_cons_succ, List.getElem?_cons_zero]; rfl) (by kernel_rfl) (by kernel_rfl) (by kernel_rfl) (by exact fun _ _ _ h => h) (HEd.out) (by rfl) ?_ ?_; rotate_left; (· intro W HW; obtain ⟨z0, z4, zb⟩ := HW; go_simp; try with_reducible rfl)
      simp only [Act.put, List.setIfInBounds_toArray, List.set_cons_zero, List.set_cons_succ]
      refine rests_call 3 (oi := _) (by simp only [List.getElem?_toArray, List.getElem?_cons_succ, List.getElem?_cons_zero]; rfl) 65 #[.pointer (some ⟨gt, 0, none⟩)] _ (by kernel_rfl) (by rfl) (by go_simp) (HP.out _ HEd.out.1) ?_
      rintro e w' ⟨rfl, hw'⟩; rw [hw']; clear hw'; refine ⟨_, rfl, HEd.out, ?_⟩
      simp only [Act.put, List.setIfInBounds_toArray, List.set_cons_zero, List.set_cons_succ]
      refine rests_call 8 (oi := _) (by simp only [List.getElem?_toArray, List.getElem?_cons_succ, List.getElem?_cons_zero]; rfl) 26 #[.pointer (some ai)] _ (by kernel_rfl) (by rfl) (by go_simp) (tcalls_look (C := fun X => Star (Star (Star (Star (Star (CellW gt #[.int .i64 R, .int .i64 sz, .bool mi, .pointer (some ao), .pointer (some ai)] 92) (OutW (.pointer (some ao)) o.burst)) X) (SlW 1 (.slice (some ⟨ba, fa, none⟩) K c1) K (ints o.ns))) (SlW 1 (.slice (some ⟨bb, fb, none⟩) K c2) K (strg o.bs))) (OwnK 37 9 (.slice (some ⟨g3, 0, none⟩) K K) K (plcs (plT c nx o.first o.l K i)))) (Fr.l (Fr.l (Fr.l (Fr.r ((CellW.stab _ _ _).star (OutW.stab _ _)) Fr.id_) (SlW.stab _ _ _ _)) (SlW.stab _ _ _ _)) (OwnK.stab _ _ _ _ _)) ((((((CellW.stab _ _ _).star (OutW.stab _ _)).star (InW.stab _ _)).star (SlW.stab _ _ _ _)).star (SlW.stab _ _ _ _)).star (OwnK.stab _ _ _ _ _)) HSd.out (fun F hF => INext_any (.pointer (some ai)) ⟨nx, od⟩ F _ hF)) ?_
      rintro e w7 ⟨rfl, hs⟩; have HS7 := Lib.hid hs; have HE7 : Hid ((fun U => U.cell? ⟨gt, 0, none⟩ = some (.int .i64 R) ∧ U.cell? ⟨gt, 4, none⟩ = some (.pointer (some ai)) ∧ U.cell? ⟨bb, fb + i, none⟩ = some (.string (o.l.getD i ⟨#[]⟩))) w7) := ⟨cell_at (Done.at_ (C := fun X => Star (Star (Star (Star (Star (X) (OutW (.pointer (some ao)) o.burst)) (InW (.pointer (some ai)) ⟨nx, od⟩)) (SlW 1 (.slice (some ⟨ba, fa, none⟩) K c1) K (ints o.ns))) (SlW 1 (.slice (some ⟨bb, fb, none⟩) K c2) K (strg o.bs))) (OwnK 37 9 (.slice (some ⟨g3, 0, none⟩) K K) K (plcs (plT c nx o.first o.l K i)))) (Fr.l (Fr.l (Fr.l (Fr.l (Fr.l Fr.id_ (OutW.stab _ _)) (InW.stab _ _)) (SlW.stab _ _ _ _)) (SlW.stab _ _ _ _)) (OwnK.stab _ _ _ _ _)) hs) 0 _ rfl, cell_at (Done.at_ (C := fun X => Star (Star (Star (Star (Star (X) (OutW (.pointer (some ao)) o.burst)) (InW (.pointer (some ai)) ⟨nx, od⟩)) (SlW 1 (.slice (some ⟨ba, fa, none⟩) K c1) K (ints o.ns))) (SlW 1 (.slice (some ⟨bb, fb, none⟩) K c2) K (strg o.bs))) (OwnK 37 9 (.slice (some ⟨g3, 0, none⟩) K K) K (plcs (plT c nx o.first o.l K i)))) (Fr.l (Fr.l (Fr.l (Fr.l (Fr.l Fr.id_ (OutW.stab _ _)) (InW.stab _ _)) (SlW.stab _ _ _ _)) (SlW.stab _ _ _ _)) (OwnK.stab _ _ _ _ _)) hs) 4 _ rfl, ((Done.get (C := fun X => Star (Star (Star (Star (Star (CellW gt #[.int .i64 R, .int .i64 sz, .bool mi, .pointer (some ao), .pointer (some ai)] 92) (OutW (.pointer (some ao)) o.burst)) (InW (.pointer (some ai)) ⟨nx, od⟩)) (SlW 1 (.slice (some ⟨ba, fa, none⟩) K c1) K (ints o.ns))) X) (OwnK 37 9 (.slice (some ⟨g3, 0, none⟩) K K) K (plcs (plT c nx o.first o.l K i)))) (Fr.l (Fr.r ((((CellW.stab _ _ _).star (OutW.stab _ _)).star (InW.stab _ _)).star (SlW.stab _ _ _ _)) Fr.id_) (OwnK.stab _ _ _ _ _)) hs).elim fun _ h => h.cell HSI.out)⟩; refine ⟨_, rfl, HE7.out, ?_⟩; clear hs
      simp only [Act.put, List.setIfInBounds_toArray, List.set_cons_zero, List.set_cons_succ]
      refine rests_take 14 (oi := _) (v := ?_) (by simp only [List.getElem?_toArray, List.getElem?_cons_succ, List.getElem?_cons_zero]; rfl) (by kernel_rfl) (by kernel_rfl) (by kernel_rfl) (by exact fun _ _ _ h => h) (HE7.out) (by rfl) ?_ ?_; rotate_left; (· intro W HW; go_simp; try with_reducible rfl)
      simp only [Act.put, List.setIfInBounds_toArray, List.set_cons_zero, List.set_cons_succ]
      refine rests_take 15 (oi := _) (v := ?_) (by simp only [List.getElem?_toArray, List.getElem?_cons_succ, List.getElem?_cons_zero]; rfl) (by kernel_rfl) (by kernel_rfl) (by kernel_rfl) (by exact fun _ _ _ h => h) (HE7.out) (by rfl) ?_ ?_; rotate_left; (· intro W HW; go_simp; try with_reducible rfl)
      simp only [Act.put, List.setIfInBounds_toArray, List.set_cons_zero, List.set_cons_succ]
      refine rests_storeKs 16 (oi := _) (by simp only [List.getElem?_toArray, List.getElem?_cons_succ, List.getElem?_cons_zero]; rfl) (by kernel_rfl) (by rfl) (C := fun X => Star (Star (Star (Star (Star (CellW gt #[.int .i64 R, .int .i64 sz, .bool mi, .pointer (some ao), .pointer (some ai)] 92) (OutW (.pointer (some ao)) o.burst)) (InW (.pointer (some ai)) ⟨nx, od⟩)) (SlW 1 (.slice (some ⟨ba, fa, none⟩) K c1) K (ints o.ns))) (SlW 1 (.slice (some ⟨bb, fb, none⟩) K c2) K (strg o.bs))) X) (Fr.r (((((CellW.stab _ _ _).star (OutW.stab _ _)).star (InW.stab _ _)).star (SlW.stab _ _ _ _)).star (SlW.stab _ _ _ _)) Fr.id_) HS7.out HK0.out 37 (.tmp 47) (.tmp 46) rfl (i * 9) (pcs (sayT c nx o.first o.l i)) rfl rfl (by kernel_rfl) (by simp [Value.oneCell', pcs]) HLN.out ?_
      intro w8 hs; have HS8 : Hid (Done w F (Star (Star (Star (Star (Star (CellW gt #[.int .i64 R, .int .i64 sz, .bool mi, .pointer (some ao), .pointer (some ai)] 92) (OutW (.pointer (some ao)) o.burst)) (InW (.pointer (some ai)) ⟨nx, od⟩)) (SlW 1 (.slice (some ⟨ba, fa, none⟩) K c1) K (ints o.ns))) (SlW 1 (.slice (some ⟨bb, fb, none⟩) K c2) K (strg o.bs))) (OwnK 37 9 (.slice (some ⟨g3, 0, none⟩) K K) K (plcs (plT c nx o.first o.l K (i + 1))))) w8) := (by show Done _ _ _ _; rw [← HST.out]; exact hs); have HE8 : Hid ((fun U => U.cell? ⟨gt, 0, none⟩ = some (.int .i64 R) ∧ U.cell? ⟨gt, 4, none⟩ = some (.pointer (some ai)) ∧ U.cell? ⟨bb, fb + i, none⟩ = some (.string (o.l.getD i ⟨#[]⟩))) w8) := ⟨cell_at (Done.at_ (C := fun X => Star (Star (Star (Star (Star (X) (OutW (.pointer (some ao)) o.burst)) (InW (.pointer (some ai)) ⟨nx, od⟩)) (SlW 1 (.slice (some ⟨ba, fa, none⟩) K c1) K (ints o.ns))) (SlW 1 (.slice (some ⟨bb, fb, none⟩) K c2) K (strg o.bs))) (OwnK 37 9 (.slice (some ⟨g3, 0, none⟩) K K) K (plcs (plT c nx o.first o.l K (i + 1))))) (Fr.l (Fr.l (Fr.l (Fr.l (Fr.l Fr.id_ (OutW.stab _ _)) (InW.stab _ _)) (SlW.stab _ _ _ _)) (SlW.stab _ _ _ _)) (OwnK.stab _ _ _ _ _)) HS8.out) 0 _ rfl, cell_at (Done.at_ (C := fun X => Star (Star (Star (Star (Star (X) (OutW (.pointer (some ao)) o.burst)) (InW (.pointer (some ai)) ⟨nx, od⟩)) (SlW 1 (.slice (some ⟨ba, fa, none⟩) K c1) K (ints o.ns))) (SlW 1 (.slice (some ⟨bb, fb, none⟩) K c2) K (strg o.bs))) (OwnK 37 9 (.slice (some ⟨g3, 0, none⟩) K K) K (plcs (plT c nx o.first o.l K (i + 1))))) (Fr.l (Fr.l (Fr.l (Fr.l (Fr.l Fr.id_ (OutW.stab _ _)) (InW.stab _ _)) (SlW.stab _ _ _ _)) (SlW.stab _ _ _ _)) (OwnK.stab _ _ _ _ _)) HS8.out) 4 _ rfl, ((Done.get (C := fun X => Star (Star (Star (Star (Star (CellW gt #[.int .i64 R, .int .i64 sz, .bool mi, .pointer (some ao), .pointer (some ai)] 92) (OutW (.pointer (some ao)) o.burst)) (InW (.pointer (some ai)) ⟨nx, od⟩)) (SlW 1 (.slice (some ⟨ba, fa, none⟩) K c1) K (ints o.ns))) X) (OwnK 37 9 (.slice (some ⟨g3, 0, none⟩) K K) K (plcs (plT c nx o.first o.l K (i + 1))))) (Fr.l (Fr.r ((((CellW.stab _ _ _).star (OutW.stab _ _)).star (InW.stab _ _)).star (SlW.stab _ _ _ _)) Fr.id_) (OwnK.stab _ _ _ _ _)) HS8.out).elim fun _ h => h.cell HSI.out)⟩; refine ⟨HE8.out, ?_⟩; clear hs
      simp only [Act.put, List.setIfInBounds_toArray, List.set_cons_zero, List.set_cons_succ]
      refine rests_done (by kernel_rfl) ?_
      have HSn := Lib.hid HS8.out
      go_wp2
      go_roundw
      case rel => exact ⟨i + 1, by omega, by go_num, HSn.out⟩
      case measure => have := HK7.out; simp [intOf] <;> omega
    · obtain rfl : K = i := by omega
      have t1 : decide ((K : Int) < (K : Int)) = false := decide_eq_false (by omega)
      go_wp2
      go_ret
      exact ⟨_, rfl, HSs.out.drop_mid.drop_mid⟩
theorem TnGo_f (gt : Nat) (w : World) (q2 : w.cell? ⟨gt, 2, none⟩ = some (.bool false)) : Calls Tryz.prog 34 #[.pointer (some ⟨gt, 0, none⟩)] w fun e w' => e = .returned (.slice none 0 0) ∧ w' = w := by
  go_enter Tryz.func34, Tryz.ntmps34
  go_wp2_with (go_at_call 43; ((with_reducible refine (TnMine_at gt false _ q2).mono ?_); rintro e w' ⟨rfl, hw'⟩; rw [hw']; clear hw'))
  go_ret
  exact ⟨rfl, rfl⟩
set_option maxRecDepth 100000 in
set_option maxHeartbeats 16000000 in
theorem TnGo_m (gt n : Nat) (ao ai : Addr) (R sz : Int) (o o' : OutM) (i : InM) (xs : List Value) (w : World) (F : List Nat)
    (hb : ∀ w F, TurnO gt ao ai ⟨R, sz, true, o, i⟩ w F → Calls Tryz.prog 61 #[.pointer (some ⟨gt, 0, none⟩)] w fun e w' => ∃ g, e = .returned (.slice (some ⟨g, 0, none⟩) (n + 1) (n + 1)) ∧ Done w F (Star (TurnO gt ao ai ⟨R, sz, true, o', i⟩) (OwnK 37 9 (.slice (some ⟨g, 0, none⟩) (n + 1) (n + 1)) (n + 1) xs)) w')
    (hn : n ≤ 7) (hx : xs.length = (n + 1) * 9) (h : TurnO gt ao ai ⟨R, sz, true, o, i⟩ w F) : Calls Tryz.prog 34 #[.pointer (some ⟨gt, 0, none⟩)] w fun e w' => ∃ g, e = .returned (.slice (some ⟨g, 0, none⟩) (n + 1) (n + 1)) ∧ Done w F (Star (TurnO gt ao ai ⟨R, sz, false, o', i⟩) (OwnK 37 9 (.slice (some ⟨g, 0, none⟩) (n + 1) (n + 1)) (n + 1) (xs.set (n * 9 + 7) (.bool true)))) w' := by
  have q2 : w.cell? ⟨gt, 2, none⟩ = some (.bool true) := cell_at h.cells 2 _ rfl
  have HB := Lib.hid (hb w F h)
  have HLN : Hid (n * 9 + 7 < xs.length) := by show _ < _; omega
  obtain ⟨N, hN⟩ : ∃ N, N = n + 1 := ⟨_, rfl⟩
  rw [← hN] at HB ⊢
  have e6 : IntKind.i64.wrap ((N : Int) - 1) = (n : Int) := by rw [show (N : Int) - 1 = (n : Int) by omega]; exact IntWalk.i64_in _ (by omega)
  have tk : (n : Int) < (N : Int) := by omega
  have tk2 : n < N := by omega
  clear h hb hn hx hN
  go_enter Tryz.func34, Tryz.ntmps34
  go_wp2_with first
    | (go_at_call 43; ((with_reducible refine (TnMine_at gt true _ q2).mono ?_); rintro e w' ⟨rfl, hw'⟩; rw [hw']; clear hw'))
    | (go_at_call 61; ((with_reducible refine (HB.out).mono ?_); rintro e w1 ⟨g, rfl, hs⟩; have HS1 : Hid (Done w F (Star (Star (Star (CellW gt #[.int .i64 R, .int .i64 sz, .bool true, .pointer (some ao), .pointer (some ai)] 92) (OutW (.pointer (some ao)) o')) (InW (.pointer (some ai)) i)) (OwnK 37 9 (.slice (some ⟨g, 0, none⟩) N N) N xs)) w1) := (by show Done _ _ _ _; exact hs); clear hs))
    | ((with_reducible refine wpList_storeKD (C := fun X => Star (Star (Star (CellW gt #[.int .i64 R, .int .i64 sz, .bool true, .pointer (some ao), .pointer (some ai)] 92) (OutW (.pointer (some ao)) o')) (InW (.pointer (some ai)) i)) X) (Fr.r (((CellW.stab _ _ _).star (OutW.stab _ _)).star (InW.stab _ _)) Fr.id_) HS1.out rfl 4 (.tmp 14) (.const (.bool true)) rfl (n * 9 + 7) (.bool true) rfl rfl HLN.out (run_storeBo _ _ _) ?_); intro w2 hs; have HS2 := Lib.hid hs; clear hs)
    | ((with_reducible refine wpList_storeD (C := fun X => Star (Star (Star (X) (OutW (.pointer (some ao)) o')) (InW (.pointer (some ai)) i)) (OwnK 37 9 (.slice (some ⟨g, 0, none⟩) N N) N (xs.set (n * 9 + 7) (.bool true)))) (Fr.l (Fr.l (Fr.l Fr.id_ (OutW.stab _ _)) (InW.stab _ _)) (OwnK.stab _ _ _ _ _)) HS2.out rfl 4 (.tmp 17) (.const (.bool false)) rfl 2 (.bool false) rfl rfl (by simp) (run_storeBo _ _ _) ?_); intro w3 hs; have HS3 : Hid (Done w F (Star (Star (Star (CellW gt #[.int .i64 R, .int .i64 sz, .bool false, .pointer (some ao), .pointer (some ai)] 92) (OutW (.pointer (some ao)) o')) (InW (.pointer (some ai)) i)) (OwnK 37 9 (.slice (some ⟨g, 0, none⟩) N N) N (xs.set (n * 9 + 7) (.bool true)))) w3) := (by show Done _ _ _ _; exact hs); clear hs)
  go_ret
  exact ⟨g, rfl, HS3.out⟩
theorem TnGo_any (v : Value) (m : TurnM) (F : List Nat) (w : World) (h : TurnW v m w F) : Calls Tryz.prog 34 #[v] w fun e w' => ∃ a, e = .returned a ∧ Done w F (Star (TurnW v m.go) (SlW 9 a m.says.length (plcs m.says))) w' := by
  obtain ⟨hok, gt, ao, ai, rfl, h⟩ := h
  have hok2 := hok.go
  have hr := hok.role
  have hko := hok.out
  obtain ⟨R, sz, mi, o, ⟨nx, od⟩⟩ := m
  simp only at hr hko
  cases mi
  · have q2 : w.cell? ⟨gt, 2, none⟩ = some (.bool false) := cell_at h.cells 2 _ rfl
    have e1 : TurnM.says ⟨R, sz, false, o, ⟨nx, od⟩⟩ = [] := rfl
    have e2 : TurnM.go ⟨R, sz, false, o, ⟨nx, od⟩⟩ = ⟨R, sz, false, o, ⟨nx, od⟩⟩ := rfl
    rw [e1, e2]
    refine (TnGo_f gt w q2).mono ?_
    rintro e w' ⟨rfl, rfl⟩
    exact ⟨_, rfl, (Done.start (H := TurnW (.pointer (some ⟨gt, 0, none⟩)) ⟨R, sz, false, o, ⟨nx, od⟩⟩) ⟨hok, gt, ao, ai, rfl, h⟩).add (TurnW.stab _ _) ((OwnK.nilD 37 9 w').mono fun F hF => hF.sl)⟩
  · have e2 : TurnM.go ⟨R, sz, true, o, ⟨nx, od⟩⟩ = ⟨R, sz, false, o.burst, ⟨nx, od⟩⟩ := rfl
    rw [e2] at hok2 ⊢
    by_cases hk : o.k = 0
    · have e1 := says_ack (R := R) (sz := sz) (nx := nx) (od := od) rfl hk
      rw [e1]
      refine (TnGo_m gt 0 ao ai R sz o o.burst ⟨nx, od⟩ _ w F (fun w F hF => TnBurst_0 gt ao ai R sz _ true _ od o nx w F hr rfl hk rfl hF) (by omega) rfl h).mono ?_
      rintro e w' ⟨g, rfl, hd⟩
      refine ⟨_, rfl, ?_⟩
      exact (hd.mono_at (C := fun X => Star X _) (Fr.l Fr.id_ (OwnK.stab _ _ _ _ _)) (fun F hF => ⟨hok2, gt, ao, ai, rfl, hF⟩)).mono_at (C := fun X => Star (TurnW (.pointer (some ⟨gt, 0, none⟩)) ⟨R, sz, false, o.burst, ⟨nx, od⟩⟩) X) (Fr.r (TurnW.stab _ _) Fr.id_) (fun F hF => hF.sl)
    · obtain ⟨k, hk1⟩ : ∃ k, o.k = k + 1 := ⟨o.k - 1, by omega⟩
      obtain ⟨e3, e4⟩ := plT_says (R := R) (sz := sz) (nx := nx) (od := od) rfl hk1
      have hk7 := OutM.k_le hko
      rw [e4, ← e3]
      refine (TnGo_m gt k ao ai R sz o o.burst ⟨nx, od⟩ _ w F (fun w F hF => TnBurst_K gt ao ai R sz true _ od o nx (k + 1) w F hko hr rfl hk1 (by omega) hF) (by omega) (by rw [plcsL, plT_len]) h).mono ?_
      rintro e w' ⟨g, rfl, hd⟩
      refine ⟨_, rfl, ?_⟩
      exact (hd.mono_at (C := fun X => Star X _) (Fr.l Fr.id_ (OwnK.stab _ _ _ _ _)) (fun F hF => ⟨hok2, gt, ao, ai, rfl, hF⟩)).mono_at (C := fun X => Star (TurnW (.pointer (some ⟨gt, 0, none⟩)) ⟨R, sz, false, o.burst, ⟨nx, od⟩⟩) X) (Fr.r (TurnW.stab _ _) Fr.id_) (fun F hF => hF.sl)
end Go.Proofs.YtocjhpaackccpaaGreatDoor

namespace Go.Proofs.YtocjhpaackccpaaGreatDoor

/-- Is a bit set? (Of any number, below 0, too.) -/
def atB (n : Int) (i : Nat) : Bool := n / 2 ^ i % 2 == 1
def baud (i : Int) : Int := if i = 0 then 32 else if i = 1 then 64 else if i = 2 then 128 else if i = 3 then 256 else 0
def silent (i : Int) : Int := if i = 0 then 200 else if i = 1 then 300 else if i = 2 then 500 else 0
/-- Bytes by baud, rounded up. -/
def ticks (b d : Int) : Int := if b < 1 ∨ d < 1 then 0 else (b + d - 1) / d

/-- An offer. -/
structure Of5 where
  baud : Int
  silent : Int
  win : Int
  size : Int
  wait : Int
deriving DecidableEq
end Go.Proofs.YtocjhpaackccpaaGreatDoor

namespace Go.Proofs.YtocjhpaackccpaaGreatDoor

structure De5 where
  baud : Int
  silent : Int
  win : Int
  size : Int
  wait : Int
deriving DecidableEq
/-- The highest below k that both have; the lowest of the last k below m. -/
def both (x y : Int) (i : Nat) : Bool := atB x i && atB y i
def hi2 (x y : Int) : Nat → Int
  | 0 => -1
  | k + 1 => if both x y k then (k : Int) else hi2 x y k
end Go.Proofs.YtocjhpaackccpaaGreatDoor

namespace Go.Proofs.YtocjhpaackccpaaGreatDoor

end Go.Proofs.YtocjhpaackccpaaGreatDoor

namespace Go.Proofs.YtocjhpaackccpaaGreatDoor

end Go.Proofs.YtocjhpaackccpaaGreatDoor

namespace Go.Proofs.YtocjhpaackccpaaGreatDoor

end Go.Proofs.YtocjhpaackccpaaGreatDoor

namespace Go.Proofs.YtocjhpaackccpaaGreatDoor
open Go.RowKit

end Go.Proofs.YtocjhpaackccpaaGreatDoor

namespace Go.Proofs.YtocjhpaackccpaaGreatDoor

/-- May a number be a station's? -/
def ownN (n : Int) : Bool := n != 0 && n != 4294967295
def u32 (n : Int) : Prop := 0 ≤ n ∧ n < 4294967296
/-- What a device says of itself. -/
structure Xd where
  from_ : Int
  to_ : Int
  slot : Int
  slots : Int
  anew : Bool
  nick : List UInt8
deriving DecidableEq
/-- How one begins. -/
structure St where
  from_ : Int
  to_ : Int
  seat : Int
  count : Int
  o : Of5
deriving DecidableEq
/-- The first of draws that may be one's own, and is none of not; how many were looked at. -/
def drawn (nots : List Int) : List Int → Nat → Option (Int × Nat)
  | [], _ => none
  | d :: r, k => if ownN d && !nots.contains d then some (d, k + 1) else drawn nots r (k + 1)
end Go.Proofs.YtocjhpaackccpaaGreatDoor

namespace Go.Proofs.YtocjhpaackccpaaGreatDoor
open Go.ChangeShapes Go.WideShapes Go.ChangeAt Go.RowKit

abbrev Of5.cs (o : Of5) : Array Value := #[.int .i64 o.baud, .int .i64 o.silent, .int .i64 o.win, .int .i64 o.size, .int .i64 o.wait]
abbrev Of5.val (o : Of5) : Value := .agg #[.int .i64 o.baud, .int .i64 o.silent, .int .i64 o.win, .int .i64 o.size, .int .i64 o.wait]
def Of5.ok (o : Of5) : Prop := (Lit.int .i64 o.baud).wf = true ∧ (Lit.int .i64 o.silent).wf = true ∧ (Lit.int .i64 o.win).wf = true ∧ (Lit.int .i64 o.size).wf = true ∧ (Lit.int .i64 o.wait).wf = true
abbrev De5.val (o : De5) : Value := .agg #[.int .i64 o.baud, .int .i64 o.silent, .int .i64 o.win, .int .i64 o.size, .int .i64 o.wait]
/-- A device's word, as a value. -/
structure XIn where
  from_ : Int
  to_ : Int
  slot : Int
  slots : Int
  anew : Bool
  nick : ByteArray
abbrev XIn.val (x : XIn) : Value := .agg #[.int .u32 x.from_, .int .u32 x.to_, .int .i64 x.slot, .int .i64 x.slots, .bool x.anew, .string x.nick]
def XIn.ok (x : XIn) : Prop := (Lit.int .u32 x.from_).wf = true ∧ (Lit.int .u32 x.to_).wf = true ∧ (Lit.int .i64 x.slot).wf = true ∧ (Lit.int .i64 x.slots).wf = true ∧ x.nick.size ≤ maxLen
def XIn.xd (x : XIn) : Xd := ⟨x.from_, x.to_, x.slot, x.slots, x.anew, x.nick.data.toList⟩
abbrev Xd.xin (x : Xd) : XIn := ⟨x.from_, x.to_, x.slot, x.slots, x.anew, ⟨x.nick.toArray⟩⟩
abbrev St.val (s : St) : Value := .agg #[.int .u32 s.from_, .int .u32 s.to_, .int .i64 s.seat, .int .i64 s.count, .int .i64 s.o.baud, .int .i64 s.o.silent, .int .i64 s.o.win, .int .i64 s.o.size, .int .i64 s.o.wait]
def St.ok (s : St) : Prop := (Lit.int .u32 s.from_).wf = true ∧ (Lit.int .u32 s.to_).wf = true ∧ (Lit.int .i64 s.seat).wf = true ∧ (Lit.int .i64 s.count).wf = true ∧ s.o.ok

section
variable {H : Type} {enc : TypeId × Value → H} {W : World}

end
end Go.Proofs.YtocjhpaackccpaaGreatDoor

namespace Go.Proofs.YtocjhpaackccpaaGreatDoor
open Go.RowKit

/-- v is a slice that reads as the numbers l. -/
def RdU (w : World) (v : Value) (l : List Int) : Prop :=
  ∃ A cap, v = .slice A l.length cap ∧ l.length ≤ cap ∧ cap ≤ maxLen ∧ (∀ n ∈ l, u32 n) ∧ (0 < l.length → ∃ b off, A = some ⟨b, off, none⟩ ∧ b < w.heap.size ∧ ∀ j (h : j < l.length), w.cell? ⟨b, off + j, none⟩ = some (.int .u32 l[j]))
theorem RdU.nil_ (w : World) : RdU w (.slice none 0 0) [] := ⟨none, 0, rfl, by simp, by simp [maxLen], by simp, fun h => by simp at h⟩
theorem RdU.below {w w' : World} {v : Value} {l : List Int} (h : RdU w v l) (hb : Below w.heap.size w w') : RdU w' v l := by
  obtain ⟨A, cap, rfl, h1, h2, h3, h4⟩ := h
  refine ⟨A, cap, rfl, h1, h2, h3, fun h0 => ?_⟩
  obtain ⟨b, off, rfl, hlt, hc⟩ := h4 h0
  exact ⟨b, off, rfl, Nat.lt_of_lt_of_le hlt hb.size, fun j hj => (hb.cell (p := ⟨b, off + j, none⟩) hlt).trans (hc j hj)⟩
theorem RdU.at_ {w : World} {A : Option Addr} {n cap : Nat} {l : List Int} (h : RdU w (.slice A n cap) l) {i : Nat} (hi : i < l.length) :
    ∃ b off, A = some ⟨b, off, none⟩ ∧ b < w.heap.size ∧ w.cell? ⟨b, off + i, none⟩ = some (.int .u32 l[i]) := by
  obtain ⟨A', cap', he, _, _, _, h3⟩ := h
  injection he with he
  subst he
  obtain ⟨b, off, rfl, hlt, hc⟩ := h3 (by omega)
  exact ⟨b, off, rfl, hlt, hc i hi⟩
theorem RdU.u {w : World} {v : Value} {l : List Int} (h : RdU w v l) : ∀ n ∈ l, u32 n := by
  obtain ⟨_, _, _, _, _, h3, _⟩ := h
  exact h3
/-- The first k of them. -/
theorem RdU.cut {w : World} {A : Option Addr} {n cap : Nat} {l : List Int} (h : RdU w (.slice A n cap) l) {k : Nat} (hk : k ≤ l.length) : RdU w (.slice A k cap) (l.take k) := by
  obtain ⟨A', cap', he, h1, h2, h3, h4⟩ := h
  injection he with he _ hc
  subst he; subst hc
  have hlen : (l.take k).length = k := by rw [List.length_take]; omega
  refine ⟨A, cap, by rw [hlen], by omega, h2, fun x hx => h3 x (List.mem_of_mem_take hx), fun h0 => ?_⟩
  obtain ⟨b, off, rfl, hlt, hc⟩ := h4 (by omega)
  refine ⟨b, off, rfl, hlt, fun j hj => ?_⟩
  rw [hc j (by omega), List.getElem_take]
end Go.Proofs.YtocjhpaackccpaaGreatDoor

namespace Go.Proofs.YtocjhpaackccpaaGreatDoor
open Go.RowKit

abbrev Of5.zero : Of5 := ⟨0, 0, 0, 0, 0⟩
abbrev De5.zero : De5 := ⟨0, 0, 0, 0, 0⟩
abbrev Xd.zero : Xd := ⟨0, 0, 0, 0, false, []⟩
abbrev St.zero : St := ⟨0, 0, 0, 0, Of5.zero⟩
theorem XIn.u {x : XIn} (h : x.ok) : u32 x.xd.from_ ∧ u32 x.xd.to_ := by
  obtain ⟨h1, h2, _⟩ := h
  have := bounds_u32 h1
  have := bounds_u32 h2
  show u32 x.from_ ∧ u32 x.to_
  unfold u32
  omega
theorem St.u {s : St} (h : s.ok) : u32 s.from_ ∧ u32 s.to_ := by
  obtain ⟨h1, h2, _⟩ := h
  have := bounds_u32 h1
  have := bounds_u32 h2
  unfold u32
  omega
theorem XIn.back (x : XIn) : x.xd.xin.val = x.val := by
  obtain ⟨a, b, c, d, e, ⟨⟨n⟩⟩⟩ := x
  rfl
end Go.Proofs.YtocjhpaackccpaaGreatDoor

namespace Go.Proofs.YtocjhpaackccpaaGreatDoor
open Go.RowKit

end Go.Proofs.YtocjhpaackccpaaGreatDoor

namespace Go.Proofs.YtocjhpaackccpaaGreatDoor
open Go.RowKit

end Go.Proofs.YtocjhpaackccpaaGreatDoor
