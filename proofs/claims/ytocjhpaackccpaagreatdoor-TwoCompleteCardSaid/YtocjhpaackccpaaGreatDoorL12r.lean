/- The law TwoComplete. -/
import Derived.Test.YtocjhpaackccpaaGreatDoorN12D

set_option linter.all false

namespace Go.Proofs.YtocjhpaackccpaaGreatDoor
open Go.RowKit M

theorem two_cells {w0 w : World} {K : Obj} {g gp gt gs : Nat} {a0 a1 : Addr} {T0 T1 : TurnM} {p0 p1 q0 q1 : Nat} {x0 x1 x2 : Int} {x3 : ByteArray} {t : TypeId} (hC : Fr (fun X => Star X (CellW gs #[.int .i64 x0, .int .i64 x1, .int .i64 x2, .string x3] t))) (hK : Stab K) (h : Sd w0 (Star (H2 K g gp gt a0 a1 T0 T1 p0 p1 q0 q1) (CellW gs #[.int .i64 x0, .int .i64 x1, .int .i64 x2, .string x3] t)) w) :
    (w.cell? ⟨g, 0, none⟩ = some (.pointer (some a0)) ∧ w.cell? ⟨g, 1, none⟩ = some (.pointer (some a1))) ∧ (w.cell? ⟨gs, 1, none⟩ = some (.int .i64 x1) ∧ w.cell? ⟨gs, 2, none⟩ = some (.int .i64 x2)) := by
  have h1 := two_heapG (C := fun X => Star X (CellW gs #[.int .i64 x0, .int .i64 x1, .int .i64 x2, .string x3] t)) hC hK h
  have h2 := Sd.at_ (C := fun X => Star (H2 K g gp gt a0 a1 T0 T1 p0 p1 q0 q1) X) (Fr.r (H2.stab hK) Fr.id_) h
  exact ⟨⟨cell_at h1 0 _ rfl, cell_at h1 1 _ rfl⟩, cell_at h2 1 _ rfl, cell_at h2 2 _ rfl⟩
set_option maxRecDepth 100000 in
set_option maxHeartbeats 64000000 in
theorem TwoComplete_law (d e : De5In) (a : Value) (l : List StIn) (w : World) (hd : d.ok) (he : e.ok) (ha : RdG 4 w a l.length (l.flatMap stc)) (hl : ∀ x ∈ l, x.ok) (hC : Codes w) : Calls Tryz.prog 6 #[d.val, e.val, a] w fun e w' => e = .returned (.bool true) ∧ Below w.heap.size w w' := by
  obtain ⟨A, cap, rfl, hcap, hmax⟩ := ha.shape
  have HA := Lib.hid ha
  have HC := Lib.hid hC
  have HOK := Lib.hid hl
  have HDW := Lib.hid hd.2.2.1
  have HEW := Lib.hid he.2.2.1
  obtain ⟨L, hL⟩ : ∃ L, L = l.length := ⟨_, rfl⟩
  rw [← hL] at hcap ⊢
  have HL := Lib.hid hL
  have HCAP := Lib.hid hcap
  have HMAX := Lib.hid hmax
  clear ha hC hl hL hcap hmax hd he
  have HS0 : Hid (Sd w (Star (CellW w.heap.size #[.int .i64 d.b, .int .i64 d.s, .int .i64 d.wi, .int .i64 d.z, .int .i64 d.wa] 43) (CellW (w.heap.size + 1) #[.int .i64 e.b, .int .i64 e.s, .int .i64 e.wi, .int .i64 e.z, .int .i64 e.wa] 43)) ((w.alloc (.cells #[.int .i64 d.b, .int .i64 d.s, .int .i64 d.wi, .int .i64 d.z, .int .i64 d.wa] 43)).alloc (.cells #[.int .i64 e.b, .int .i64 e.s, .int .i64 e.wi, .int .i64 e.z, .int .i64 e.wa] 43))) := by show Sd _ _ _; exact Sd.two_ (CellW.stab _ _ _) (CellW.new w _ _) (by have := CellW.new (w.alloc (.cells #[.int .i64 d.b, .int .i64 d.s, .int .i64 d.wi, .int .i64 d.z, .int .i64 d.wa] 43)) #[.int .i64 e.b, .int .i64 e.s, .int .i64 e.wi, .int .i64 e.z, .int .i64 e.wa] 43; simpa using this)
  go_enter Tryz.func6, Tryz.ntmps6
  go_wp2_with (first
    | ((with_reducible refine wpList_storeSd (C := fun X => Star X (CellW (w.heap.size + 1) #[.int .i64 e.b, .int .i64 e.s, .int .i64 e.wi, .int .i64 e.z, .int .i64 e.wa] 43)) (Fr.l Fr.id_ (CellW.stab _ _ _)) HS1.out rfl 3 (.tmp 17) (.const (.int .i64 40)) rfl 3 (.int .i64 40) rfl rfl (by simp) (run_storeI 40 _ _) ?_); intro w2 hs; have HS2 : Hid (Sd w (Star (CellW w.heap.size #[.int .i64 d.b, .int .i64 d.s, .int .i64 d.wi, .int .i64 40, .int .i64 d.wa] 43) (CellW (w.heap.size + 1) #[.int .i64 e.b, .int .i64 e.s, .int .i64 e.wi, .int .i64 e.z, .int .i64 e.wa] 43)) w2) := (by show Sd _ _ _; exact hs); clear hs)
    | ((with_reducible refine wpList_storeSd (C := fun X => Star (CellW w.heap.size #[.int .i64 d.b, .int .i64 d.s, .int .i64 d.wi, .int .i64 40, .int .i64 d.wa] 43) X) (Fr.r (CellW.stab _ _ _) Fr.id_) HS2.out rfl 3 (.tmp 18) (.const (.int .i64 40)) rfl 3 (.int .i64 40) rfl rfl (by simp) (run_storeI 40 _ _) ?_); intro w3 hs; have HS3 : Hid (Sd w (Star (CellW w.heap.size #[.int .i64 d.b, .int .i64 d.s, .int .i64 d.wi, .int .i64 40, .int .i64 d.wa] 43) (CellW (w.heap.size + 1) #[.int .i64 e.b, .int .i64 e.s, .int .i64 e.wi, .int .i64 40, .int .i64 e.wa] 43)) w3) := (by show Sd _ _ _; exact hs); clear hs)
    | (go_at_call 17; ((with_reducible refine (calls_keep ((CellW.stab _ _ _).star (CellW.stab _ _ _)) HS0.out (begun12_any _ (HC.out.below HS0.out.bel0))).mono ?_); rintro e w1 ⟨rfl, hs⟩; have HS1 := Lib.hid hs; clear hs)))
  have HS3d := Lib.hid (HS3.out.drew ((CellW.stab _ _ _).star (CellW.stab _ _ _)))
  have HE3d : Hid ((fun W => W.heap[w.heap.size]? = some (.cells #[.int .i64 d.b, .int .i64 d.s, .int .i64 d.wi, .int .i64 40, .int .i64 d.wa] 43 (0, 0)) ∧ W.heap[w.heap.size + 1]? = some (.cells #[.int .i64 e.b, .int .i64 e.s, .int .i64 e.wi, .int .i64 40, .int .i64 e.wa] 43 (0, 0))) w3.drew) := ⟨Sd.at_ (C := fun X => Star X (CellW (w.heap.size + 1) #[.int .i64 e.b, .int .i64 e.s, .int .i64 e.wi, .int .i64 40, .int .i64 e.wa] 43)) (Fr.l Fr.id_ (CellW.stab _ _ _)) HS3d.out, Sd.at_ (C := fun X => Star (CellW w.heap.size #[.int .i64 d.b, .int .i64 d.s, .int .i64 d.wi, .int .i64 40, .int .i64 d.wa] 43) X) (Fr.r (CellW.stab _ _ _) Fr.id_) HS3d.out⟩
  refine' region_shared3 (fun g a0 a1 W => ∃ K, Stab K ∧ Sd w (Star (Star K (CellW g #[.pointer (some a0), .pointer (some a1)] 64)) (Star (TurnW (.pointer (some a0)) (TurnM.new 1 d.wi 40)) (TurnW (.pointer (some a1)) (TurnM.new 2 e.wi 40)))) W) _ ?cont ?reg
  case reg =>
    intro hK
    refine rests_begin (fun W => W.heap[w.heap.size]? = some (.cells #[.int .i64 d.b, .int .i64 d.s, .int .i64 d.wi, .int .i64 40, .int .i64 d.wa] 43 (0, 0)) ∧ W.heap[w.heap.size + 1]? = some (.cells #[.int .i64 e.b, .int .i64 e.s, .int .i64 e.wi, .int .i64 40, .int .i64 e.wa] 43 (0, 0))) (by kernel_rfl) ?_
    refine rests_take 0 (oi := _) (v := .agg #[.int .i64 d.b, .int .i64 d.s, .int .i64 d.wi, .int .i64 40, .int .i64 d.wa]) (by simp only [List.getElem?_toArray, List.getElem?_cons_zero]; rfl) (by kernel_rfl) (by kernel_rfl) (by kernel_rfl) (by exact fun _ _ _ h => h) (HE3d.out) (by rfl) (fun W HW => exec_load_mid 43 (.tmp 3) rfl (w.heap.size) 0 rfl [.int .i64 d.b, .int .i64 d.s, .int .i64 d.wi, .int .i64 40, .int .i64 d.wa] _ (range_row HW.1) Tryz.underlying43 rfl (by kernel_rfl)) ?_
    simp only [Act.put, List.setIfInBounds_toArray, List.set_cons_zero, List.set_cons_succ]
    refine rests_take 2 (oi := _) (v := .agg #[.int .i64 e.b, .int .i64 e.s, .int .i64 e.wi, .int .i64 40, .int .i64 e.wa]) (by simp only [List.getElem?_toArray, List.getElem?_cons_succ, List.getElem?_cons_zero]; rfl) (by kernel_rfl) (by kernel_rfl) (by kernel_rfl) (by exact fun _ _ _ h => h) (HE3d.out) (by rfl) (fun W HW => exec_load_mid 43 (.tmp 4) rfl ((w.heap.size + 1)) 0 rfl [.int .i64 e.b, .int .i64 e.s, .int .i64 e.wi, .int .i64 40, .int .i64 e.wa] _ (range_row HW.2) Tryz.underlying43 rfl (by kernel_rfl)) ?_
    simp only [Act.put, List.setIfInBounds_toArray, List.set_cons_zero, List.set_cons_succ]
    refine rests_two 1 5 (oi := _) (oj := _) (by simp only [List.getElem?_toArray, List.getElem?_cons_succ, List.getElem?_cons_zero]; rfl) (by simp only [List.getElem?_toArray, List.getElem?_cons_succ, List.getElem?_cons_zero]; rfl) (by kernel_rfl) (by rfl) (by rfl) ?_ ?_
    · refine wp_enter (f := 28) (args := #[.int .i64 1, .agg #[.int .i64 d.b, .int .i64 d.s, .int .i64 d.wi, .int .i64 40, .int .i64 d.wa]]) (by go_simp) (TnNew_add (m := (TurnM.new 1 d.wi 40)) ((CellW.stab _ _ _).star (CellW.stab _ _ _)) (.inl rfl) HDW.out (by decide) rfl HS3d.out) ?_
      rintro e w4 ⟨a0, rfl, hs⟩; have HS4 := Lib.hid hs; have HE4 : Hid ((fun W => W.heap[w.heap.size]? = some (.cells #[.int .i64 d.b, .int .i64 d.s, .int .i64 d.wi, .int .i64 40, .int .i64 d.wa] 43 (0, 0)) ∧ W.heap[w.heap.size + 1]? = some (.cells #[.int .i64 e.b, .int .i64 e.s, .int .i64 e.wi, .int .i64 40, .int .i64 e.wa] 43 (0, 0))) w4) := ⟨Sd.at_ (C := fun X => Star (Star X (CellW (w.heap.size + 1) #[.int .i64 e.b, .int .i64 e.s, .int .i64 e.wi, .int .i64 40, .int .i64 e.wa] 43)) (TurnW (.pointer (some a0)) (TurnM.new 1 d.wi 40))) (Fr.l (Fr.l Fr.id_ (CellW.stab _ _ _)) (TurnW.stab _ _)) hs, Sd.at_ (C := fun X => Star (Star (CellW w.heap.size #[.int .i64 d.b, .int .i64 d.s, .int .i64 d.wi, .int .i64 40, .int .i64 d.wa] 43) X) (TurnW (.pointer (some a0)) (TurnM.new 1 d.wi 40))) (Fr.l (Fr.r (CellW.stab _ _ _) Fr.id_) (TurnW.stab _ _)) hs⟩; refine ⟨_, rfl, HE4.out, ?_⟩; clear hs
      simp only [Act.put, List.setIfInBounds_toArray, List.set_cons_zero, List.set_cons_succ]
      refine rests_two 3 5 (oi := _) (oj := _) (by simp only [List.getElem?_toArray, List.getElem?_cons_succ, List.getElem?_cons_zero]; rfl) (by simp only [List.getElem?_toArray, List.getElem?_cons_succ, List.getElem?_cons_zero]; rfl) (by kernel_rfl) (by rfl) (by rfl) ?_ ?_
      · refine wp_enter (f := 28) (args := #[.int .i64 2, .agg #[.int .i64 e.b, .int .i64 e.s, .int .i64 e.wi, .int .i64 40, .int .i64 e.wa]]) (by go_simp) (TnNew_add (m := (TurnM.new 2 e.wi 40)) (((CellW.stab _ _ _).star (CellW.stab _ _ _)).star (TurnW.stab _ _)) (.inr rfl) HEW.out (by decide) rfl HS4.out) ?_
        rintro e w5 ⟨a1, rfl, hs⟩; have HS5 := Lib.hid hs; have HE5 : Hid ((fun W => W.heap[w.heap.size]? = some (.cells #[.int .i64 d.b, .int .i64 d.s, .int .i64 d.wi, .int .i64 40, .int .i64 d.wa] 43 (0, 0)) ∧ W.heap[w.heap.size + 1]? = some (.cells #[.int .i64 e.b, .int .i64 e.s, .int .i64 e.wi, .int .i64 40, .int .i64 e.wa] 43 (0, 0))) w5) := ⟨Sd.at_ (C := fun X => Star (Star (Star X (CellW (w.heap.size + 1) #[.int .i64 e.b, .int .i64 e.s, .int .i64 e.wi, .int .i64 40, .int .i64 e.wa] 43)) (TurnW (.pointer (some a0)) (TurnM.new 1 d.wi 40))) (TurnW (.pointer (some a1)) (TurnM.new 2 e.wi 40))) (Fr.l (Fr.l (Fr.l Fr.id_ (CellW.stab _ _ _)) (TurnW.stab _ _)) (TurnW.stab _ _)) hs, Sd.at_ (C := fun X => Star (Star (Star (CellW w.heap.size #[.int .i64 d.b, .int .i64 d.s, .int .i64 d.wi, .int .i64 40, .int .i64 d.wa] 43) X) (TurnW (.pointer (some a0)) (TurnM.new 1 d.wi 40))) (TurnW (.pointer (some a1)) (TurnM.new 2 e.wi 40))) (Fr.l (Fr.l (Fr.r (CellW.stab _ _ _) Fr.id_) (TurnW.stab _ _)) (TurnW.stab _ _)) hs⟩; refine ⟨_, rfl, HE5.out, ?_⟩; clear hs
        simp only [Act.put, List.setIfInBounds_toArray, List.set_cons_zero, List.set_cons_succ]
        refine rests_take 4 (oi := _) (v := ?_) (by simp only [List.getElem?_toArray, List.getElem?_cons_succ, List.getElem?_cons_zero]; rfl) (by kernel_rfl) (by kernel_rfl) (by kernel_rfl) (by exact fun _ _ _ h => h) (HE5.out) (by rfl) ?_ ?_; rotate_left; (· intro W HW; go_simp; try with_reducible rfl)
        simp only [Act.put, List.setIfInBounds_toArray, List.set_cons_zero, List.set_cons_succ]
        have HS6 := Lib.hid (HS5.out.add ((((CellW.stab _ _ _).star (CellW.stab _ _ _)).star (TurnW.stab _ _)).star (TurnW.stab _ _)) (CellW.new (w5) #[.pointer none, .pointer none] 64)); have HE6 : Hid ((fun W => W.heap[w.heap.size]? = some (.cells #[.int .i64 d.b, .int .i64 d.s, .int .i64 d.wi, .int .i64 40, .int .i64 d.wa] 43 (0, 0)) ∧ W.heap[w.heap.size + 1]? = some (.cells #[.int .i64 e.b, .int .i64 e.s, .int .i64 e.wi, .int .i64 40, .int .i64 e.wa] 43 (0, 0))) ((w5).alloc (.cells #[.pointer none, .pointer none] 64))) := ⟨Sd.at_ (C := fun X => Star (Star (Star (Star X (CellW (w.heap.size + 1) #[.int .i64 e.b, .int .i64 e.s, .int .i64 e.wi, .int .i64 40, .int .i64 e.wa] 43)) (TurnW (.pointer (some a0)) (TurnM.new 1 d.wi 40))) (TurnW (.pointer (some a1)) (TurnM.new 2 e.wi 40))) (CellW w5.heap.size #[.pointer none, .pointer none] 64)) (Fr.l (Fr.l (Fr.l (Fr.l Fr.id_ (CellW.stab _ _ _)) (TurnW.stab _ _)) (TurnW.stab _ _)) (CellW.stab _ _ _)) HS6.out, Sd.at_ (C := fun X => Star (Star (Star (Star (CellW w.heap.size #[.int .i64 d.b, .int .i64 d.s, .int .i64 d.wi, .int .i64 40, .int .i64 d.wa] 43) X) (TurnW (.pointer (some a0)) (TurnM.new 1 d.wi 40))) (TurnW (.pointer (some a1)) (TurnM.new 2 e.wi 40))) (CellW w5.heap.size #[.pointer none, .pointer none] 64)) (Fr.l (Fr.l (Fr.l (Fr.r (CellW.stab _ _ _) Fr.id_) (TurnW.stab _ _)) (TurnW.stab _ _)) (CellW.stab _ _ _)) HS6.out⟩
        refine rests_run 5 (oi := _) (by simp only [List.getElem?_toArray, List.getElem?_cons_succ, List.getElem?_cons_zero]; rfl) (by kernel_rfl) (by rfl) (.pointer (some ⟨w5.heap.size, 0, none⟩)) ((w5).alloc (.cells #[.pointer none, .pointer none] 64)) (by go_simp) ⟨HE6.out, ?_⟩
        simp only [Act.put, List.setIfInBounds_toArray, List.set_cons_zero, List.set_cons_succ]
        refine rests_storeB 6 (oi := _) (by simp only [List.getElem?_toArray, List.getElem?_cons_succ, List.getElem?_cons_zero]; rfl) (by kernel_rfl) (by rfl) 64 (.tmp 8) (.tmp 23) rfl (w5.heap.size) #[.pointer (some a0), .pointer (some a1)] rfl rfl 64 #[.pointer none, .pointer none] (Sd.at_ (C := fun X => Star (Star (Star (Star (CellW w.heap.size #[.int .i64 d.b, .int .i64 d.s, .int .i64 d.wi, .int .i64 40, .int .i64 d.wa] 43) (CellW (w.heap.size + 1) #[.int .i64 e.b, .int .i64 e.s, .int .i64 e.wi, .int .i64 40, .int .i64 e.wa] 43)) (TurnW (.pointer (some a0)) (TurnM.new 1 d.wi 40))) (TurnW (.pointer (some a1)) (TurnM.new 2 e.wi 40))) (X)) (Fr.r ((((CellW.stab _ _ _).star (CellW.stab _ _ _)).star (TurnW.stab _ _)).star (TurnW.stab _ _)) Fr.id_) HS6.out) (by kernel_rfl) rfl (by simp [Value.oneCell']) ?_
        intro w7 hg hz hh; have HS7 : Hid (Sd w (Star (Star (Star (Star (CellW w.heap.size #[.int .i64 d.b, .int .i64 d.s, .int .i64 d.wi, .int .i64 40, .int .i64 d.wa] 43) (CellW (w.heap.size + 1) #[.int .i64 e.b, .int .i64 e.s, .int .i64 e.wi, .int .i64 40, .int .i64 e.wa] 43)) (TurnW (.pointer (some a0)) (TurnM.new 1 d.wi 40))) (TurnW (.pointer (some a1)) (TurnM.new 2 e.wi 40))) (CellW w5.heap.size #[.pointer (some a0), .pointer (some a1)] 64)) w7) := (Sd.put_ (C := fun X => Star (Star (Star (Star (CellW w.heap.size #[.int .i64 d.b, .int .i64 d.s, .int .i64 d.wi, .int .i64 40, .int .i64 d.wa] 43) (CellW (w.heap.size + 1) #[.int .i64 e.b, .int .i64 e.s, .int .i64 e.wi, .int .i64 40, .int .i64 e.wa] 43)) (TurnW (.pointer (some a0)) (TurnM.new 1 d.wi 40))) (TurnW (.pointer (some a1)) (TurnM.new 2 e.wi 40))) (X)) (Fr.r ((((CellW.stab _ _ _).star (CellW.stab _ _ _)).star (TurnW.stab _ _)).star (TurnW.stab _ _)) Fr.id_) HS6.out hg hh); have HE7 : Hid ((fun W => W.heap[w.heap.size]? = some (.cells #[.int .i64 d.b, .int .i64 d.s, .int .i64 d.wi, .int .i64 40, .int .i64 d.wa] 43 (0, 0)) ∧ W.heap[w.heap.size + 1]? = some (.cells #[.int .i64 e.b, .int .i64 e.s, .int .i64 e.wi, .int .i64 40, .int .i64 e.wa] 43 (0, 0))) w7) := ⟨Sd.at_ (C := fun X => Star (Star (Star (Star X (CellW (w.heap.size + 1) #[.int .i64 e.b, .int .i64 e.s, .int .i64 e.wi, .int .i64 40, .int .i64 e.wa] 43)) (TurnW (.pointer (some a0)) (TurnM.new 1 d.wi 40))) (TurnW (.pointer (some a1)) (TurnM.new 2 e.wi 40))) (CellW w5.heap.size #[.pointer (some a0), .pointer (some a1)] 64)) (Fr.l (Fr.l (Fr.l (Fr.l Fr.id_ (CellW.stab _ _ _)) (TurnW.stab _ _)) (TurnW.stab _ _)) (CellW.stab _ _ _)) HS7.out, Sd.at_ (C := fun X => Star (Star (Star (Star (CellW w.heap.size #[.int .i64 d.b, .int .i64 d.s, .int .i64 d.wi, .int .i64 40, .int .i64 d.wa] 43) X) (TurnW (.pointer (some a0)) (TurnM.new 1 d.wi 40))) (TurnW (.pointer (some a1)) (TurnM.new 2 e.wi 40))) (CellW w5.heap.size #[.pointer (some a0), .pointer (some a1)] 64)) (Fr.l (Fr.l (Fr.l (Fr.r (CellW.stab _ _ _) Fr.id_) (TurnW.stab _ _)) (TurnW.stab _ _)) (CellW.stab _ _ _)) HS7.out⟩; refine ⟨HE7.out, ?_⟩; clear hg hz hh
        simp only [Act.put, List.setIfInBounds_toArray, List.set_cons_zero, List.set_cons_succ]
        refine rests_done (by kernel_rfl) ?_
        have hF : Sd w (Star (Star (Star (CellW w.heap.size #[.int .i64 d.b, .int .i64 d.s, .int .i64 d.wi, .int .i64 40, .int .i64 d.wa] 43) (CellW (w.heap.size + 1) #[.int .i64 e.b, .int .i64 e.s, .int .i64 e.wi, .int .i64 40, .int .i64 e.wa] 43)) (CellW w5.heap.size #[.pointer (some a0), .pointer (some a1)] 64)) (Star (TurnW (.pointer (some a0)) (TurnM.new 1 d.wi 40)) (TurnW (.pointer (some a1)) (TurnM.new 2 e.wi 40)))) w7 := Sd.permA ((CellW.stab _ _ _).star (CellW.stab _ _ _)) (TurnW.stab _ _) (TurnW.stab _ _) (CellW.stab _ _ _) HS7.out
        revert hF
        generalize w5.heap.size = g
        intro hF
        exact hK g a0 a1 _ ⟨_, ((CellW.stab _ _ _).star (CellW.stab _ _ _)), hF⟩
      · have HS5 := Lib.hid (HS4.out.add (((CellW.stab _ _ _).star (CellW.stab _ _ _)).star (TurnW.stab _ _)) (CellW.new (w4) #[.pointer none, .pointer none] 64)); have HE5 : Hid ((fun W => W.heap[w.heap.size]? = some (.cells #[.int .i64 d.b, .int .i64 d.s, .int .i64 d.wi, .int .i64 40, .int .i64 d.wa] 43 (0, 0)) ∧ W.heap[w.heap.size + 1]? = some (.cells #[.int .i64 e.b, .int .i64 e.s, .int .i64 e.wi, .int .i64 40, .int .i64 e.wa] 43 (0, 0))) ((w4).alloc (.cells #[.pointer none, .pointer none] 64))) := ⟨Sd.at_ (C := fun X => Star (Star (Star X (CellW (w.heap.size + 1) #[.int .i64 e.b, .int .i64 e.s, .int .i64 e.wi, .int .i64 40, .int .i64 e.wa] 43)) (TurnW (.pointer (some a0)) (TurnM.new 1 d.wi 40))) (CellW w4.heap.size #[.pointer none, .pointer none] 64)) (Fr.l (Fr.l (Fr.l Fr.id_ (CellW.stab _ _ _)) (TurnW.stab _ _)) (CellW.stab _ _ _)) HS5.out, Sd.at_ (C := fun X => Star (Star (Star (CellW w.heap.size #[.int .i64 d.b, .int .i64 d.s, .int .i64 d.wi, .int .i64 40, .int .i64 d.wa] 43) X) (TurnW (.pointer (some a0)) (TurnM.new 1 d.wi 40))) (CellW w4.heap.size #[.pointer none, .pointer none] 64)) (Fr.l (Fr.l (Fr.r (CellW.stab _ _ _) Fr.id_) (TurnW.stab _ _)) (CellW.stab _ _ _)) HS5.out⟩
        refine wp_val (v := .pointer (some ⟨w4.heap.size, 0, none⟩)) (w' := (w4).alloc (.cells #[.pointer none, .pointer none] 64)) (by go_simp) ⟨HE5.out, ?_⟩
        simp only [Act.put, List.setIfInBounds_toArray, List.set_cons_zero, List.set_cons_succ]
        refine rests_call 3 (oi := _) (by simp only [List.getElem?_toArray, List.getElem?_cons_succ, List.getElem?_cons_zero]; rfl) 28 #[.int .i64 2, .agg #[.int .i64 e.b, .int .i64 e.s, .int .i64 e.wi, .int .i64 40, .int .i64 e.wa]] _ (by kernel_rfl) (by rfl) (by go_simp) (TnNew_add (m := (TurnM.new 2 e.wi 40)) ((((CellW.stab _ _ _).star (CellW.stab _ _ _)).star (TurnW.stab _ _)).star (CellW.stab _ _ _)) (.inr rfl) HEW.out (by decide) rfl HS5.out) ?_
        rintro e w6 ⟨a1, rfl, hs⟩; have HS6 := Lib.hid hs; have HE6 : Hid ((fun W => W.heap[w.heap.size]? = some (.cells #[.int .i64 d.b, .int .i64 d.s, .int .i64 d.wi, .int .i64 40, .int .i64 d.wa] 43 (0, 0)) ∧ W.heap[w.heap.size + 1]? = some (.cells #[.int .i64 e.b, .int .i64 e.s, .int .i64 e.wi, .int .i64 40, .int .i64 e.wa] 43 (0, 0))) w6) := ⟨Sd.at_ (C := fun X => Star (Star (Star (Star X (CellW (w.heap.size + 1) #[.int .i64 e.b, .int .i64 e.s, .int .i64 e.wi, .int .i64 40, .int .i64 e.wa] 43)) (TurnW (.pointer (some a0)) (TurnM.new 1 d.wi 40))) (CellW w4.heap.size #[.pointer none, .pointer none] 64)) (TurnW (.pointer (some a1)) (TurnM.new 2 e.wi 40))) (Fr.l (Fr.l (Fr.l (Fr.l Fr.id_ (CellW.stab _ _ _)) (TurnW.stab _ _)) (CellW.stab _ _ _)) (TurnW.stab _ _)) hs, Sd.at_ (C := fun X => Star (Star (Star (Star (CellW w.heap.size #[.int .i64 d.b, .int .i64 d.s, .int .i64 d.wi, .int .i64 40, .int .i64 d.wa] 43) X) (TurnW (.pointer (some a0)) (TurnM.new 1 d.wi 40))) (CellW w4.heap.size #[.pointer none, .pointer none] 64)) (TurnW (.pointer (some a1)) (TurnM.new 2 e.wi 40))) (Fr.l (Fr.l (Fr.l (Fr.r (CellW.stab _ _ _) Fr.id_) (TurnW.stab _ _)) (CellW.stab _ _ _)) (TurnW.stab _ _)) hs⟩; refine ⟨_, rfl, HE6.out, ?_⟩; clear hs
        simp only [Act.put, List.setIfInBounds_toArray, List.set_cons_zero, List.set_cons_succ]
        refine rests_take 4 (oi := _) (v := ?_) (by simp only [List.getElem?_toArray, List.getElem?_cons_succ, List.getElem?_cons_zero]; rfl) (by kernel_rfl) (by kernel_rfl) (by kernel_rfl) (by exact fun _ _ _ h => h) (HE6.out) (by rfl) ?_ ?_; rotate_left; (· intro W HW; go_simp; try with_reducible rfl)
        simp only [Act.put, List.setIfInBounds_toArray, List.set_cons_zero, List.set_cons_succ]
        refine rests_storeB 6 (oi := _) (by simp only [List.getElem?_toArray, List.getElem?_cons_succ, List.getElem?_cons_zero]; rfl) (by kernel_rfl) (by rfl) 64 (.tmp 8) (.tmp 23) rfl (w4.heap.size) #[.pointer (some a0), .pointer (some a1)] rfl rfl 64 #[.pointer none, .pointer none] (Sd.at_ (C := fun X => Star (Star (Star (Star (CellW w.heap.size #[.int .i64 d.b, .int .i64 d.s, .int .i64 d.wi, .int .i64 40, .int .i64 d.wa] 43) (CellW (w.heap.size + 1) #[.int .i64 e.b, .int .i64 e.s, .int .i64 e.wi, .int .i64 40, .int .i64 e.wa] 43)) (TurnW (.pointer (some a0)) (TurnM.new 1 d.wi 40))) (X)) (TurnW (.pointer (some a1)) (TurnM.new 2 e.wi 40))) (Fr.l (Fr.r (((CellW.stab _ _ _).star (CellW.stab _ _ _)).star (TurnW.stab _ _)) Fr.id_) (TurnW.stab _ _)) HS6.out) (by kernel_rfl) rfl (by simp [Value.oneCell']) ?_
        intro w7 hg hz hh; have HS7 : Hid (Sd w (Star (Star (Star (Star (CellW w.heap.size #[.int .i64 d.b, .int .i64 d.s, .int .i64 d.wi, .int .i64 40, .int .i64 d.wa] 43) (CellW (w.heap.size + 1) #[.int .i64 e.b, .int .i64 e.s, .int .i64 e.wi, .int .i64 40, .int .i64 e.wa] 43)) (TurnW (.pointer (some a0)) (TurnM.new 1 d.wi 40))) (CellW w4.heap.size #[.pointer (some a0), .pointer (some a1)] 64)) (TurnW (.pointer (some a1)) (TurnM.new 2 e.wi 40))) w7) := (Sd.put_ (C := fun X => Star (Star (Star (Star (CellW w.heap.size #[.int .i64 d.b, .int .i64 d.s, .int .i64 d.wi, .int .i64 40, .int .i64 d.wa] 43) (CellW (w.heap.size + 1) #[.int .i64 e.b, .int .i64 e.s, .int .i64 e.wi, .int .i64 40, .int .i64 e.wa] 43)) (TurnW (.pointer (some a0)) (TurnM.new 1 d.wi 40))) (X)) (TurnW (.pointer (some a1)) (TurnM.new 2 e.wi 40))) (Fr.l (Fr.r (((CellW.stab _ _ _).star (CellW.stab _ _ _)).star (TurnW.stab _ _)) Fr.id_) (TurnW.stab _ _)) HS6.out hg hh); have HE7 : Hid ((fun W => W.heap[w.heap.size]? = some (.cells #[.int .i64 d.b, .int .i64 d.s, .int .i64 d.wi, .int .i64 40, .int .i64 d.wa] 43 (0, 0)) ∧ W.heap[w.heap.size + 1]? = some (.cells #[.int .i64 e.b, .int .i64 e.s, .int .i64 e.wi, .int .i64 40, .int .i64 e.wa] 43 (0, 0))) w7) := ⟨Sd.at_ (C := fun X => Star (Star (Star (Star X (CellW (w.heap.size + 1) #[.int .i64 e.b, .int .i64 e.s, .int .i64 e.wi, .int .i64 40, .int .i64 e.wa] 43)) (TurnW (.pointer (some a0)) (TurnM.new 1 d.wi 40))) (CellW w4.heap.size #[.pointer (some a0), .pointer (some a1)] 64)) (TurnW (.pointer (some a1)) (TurnM.new 2 e.wi 40))) (Fr.l (Fr.l (Fr.l (Fr.l Fr.id_ (CellW.stab _ _ _)) (TurnW.stab _ _)) (CellW.stab _ _ _)) (TurnW.stab _ _)) HS7.out, Sd.at_ (C := fun X => Star (Star (Star (Star (CellW w.heap.size #[.int .i64 d.b, .int .i64 d.s, .int .i64 d.wi, .int .i64 40, .int .i64 d.wa] 43) X) (TurnW (.pointer (some a0)) (TurnM.new 1 d.wi 40))) (CellW w4.heap.size #[.pointer (some a0), .pointer (some a1)] 64)) (TurnW (.pointer (some a1)) (TurnM.new 2 e.wi 40))) (Fr.l (Fr.l (Fr.l (Fr.r (CellW.stab _ _ _) Fr.id_) (TurnW.stab _ _)) (CellW.stab _ _ _)) (TurnW.stab _ _)) HS7.out⟩; refine ⟨HE7.out, ?_⟩; clear hg hz hh
        simp only [Act.put, List.setIfInBounds_toArray, List.set_cons_zero, List.set_cons_succ]
        refine rests_done (by kernel_rfl) ?_
        have hF : Sd w (Star (Star (Star (CellW w.heap.size #[.int .i64 d.b, .int .i64 d.s, .int .i64 d.wi, .int .i64 40, .int .i64 d.wa] 43) (CellW (w.heap.size + 1) #[.int .i64 e.b, .int .i64 e.s, .int .i64 e.wi, .int .i64 40, .int .i64 e.wa] 43)) (CellW w4.heap.size #[.pointer (some a0), .pointer (some a1)] 64)) (Star (TurnW (.pointer (some a0)) (TurnM.new 1 d.wi 40)) (TurnW (.pointer (some a1)) (TurnM.new 2 e.wi 40)))) w7 := Sd.permB ((CellW.stab _ _ _).star (CellW.stab _ _ _)) (TurnW.stab _ _) (TurnW.stab _ _) (CellW.stab _ _ _) HS7.out
        revert hF
        generalize w4.heap.size = g
        intro hF
        exact hK g a0 a1 _ ⟨_, ((CellW.stab _ _ _).star (CellW.stab _ _ _)), hF⟩
    · have HS4 := Lib.hid (HS3d.out.add ((CellW.stab _ _ _).star (CellW.stab _ _ _)) (CellW.new (w3.drew) #[.pointer none, .pointer none] 64)); have HE4 : Hid ((fun W => W.heap[w.heap.size]? = some (.cells #[.int .i64 d.b, .int .i64 d.s, .int .i64 d.wi, .int .i64 40, .int .i64 d.wa] 43 (0, 0)) ∧ W.heap[w.heap.size + 1]? = some (.cells #[.int .i64 e.b, .int .i64 e.s, .int .i64 e.wi, .int .i64 40, .int .i64 e.wa] 43 (0, 0))) ((w3.drew).alloc (.cells #[.pointer none, .pointer none] 64))) := ⟨Sd.at_ (C := fun X => Star (Star X (CellW (w.heap.size + 1) #[.int .i64 e.b, .int .i64 e.s, .int .i64 e.wi, .int .i64 40, .int .i64 e.wa] 43)) (CellW w3.heap.size #[.pointer none, .pointer none] 64)) (Fr.l (Fr.l Fr.id_ (CellW.stab _ _ _)) (CellW.stab _ _ _)) HS4.out, Sd.at_ (C := fun X => Star (Star (CellW w.heap.size #[.int .i64 d.b, .int .i64 d.s, .int .i64 d.wi, .int .i64 40, .int .i64 d.wa] 43) X) (CellW w3.heap.size #[.pointer none, .pointer none] 64)) (Fr.l (Fr.r (CellW.stab _ _ _) Fr.id_) (CellW.stab _ _ _)) HS4.out⟩
      refine wp_val (v := .pointer (some ⟨w3.heap.size, 0, none⟩)) (w' := (w3.drew).alloc (.cells #[.pointer none, .pointer none] 64)) (by go_simp) ⟨HE4.out, ?_⟩
      simp only [Act.put, List.setIfInBounds_toArray, List.set_cons_zero, List.set_cons_succ]
      refine rests_call 1 (oi := _) (by simp only [List.getElem?_toArray, List.getElem?_cons_succ, List.getElem?_cons_zero]; rfl) 28 #[.int .i64 1, .agg #[.int .i64 d.b, .int .i64 d.s, .int .i64 d.wi, .int .i64 40, .int .i64 d.wa]] _ (by kernel_rfl) (by rfl) (by go_simp) (TnNew_add (m := (TurnM.new 1 d.wi 40)) (((CellW.stab _ _ _).star (CellW.stab _ _ _)).star (CellW.stab _ _ _)) (.inl rfl) HDW.out (by decide) rfl HS4.out) ?_
      rintro e w5 ⟨a0, rfl, hs⟩; have HS5 := Lib.hid hs; have HE5 : Hid ((fun W => W.heap[w.heap.size]? = some (.cells #[.int .i64 d.b, .int .i64 d.s, .int .i64 d.wi, .int .i64 40, .int .i64 d.wa] 43 (0, 0)) ∧ W.heap[w.heap.size + 1]? = some (.cells #[.int .i64 e.b, .int .i64 e.s, .int .i64 e.wi, .int .i64 40, .int .i64 e.wa] 43 (0, 0))) w5) := ⟨Sd.at_ (C := fun X => Star (Star (Star X (CellW (w.heap.size + 1) #[.int .i64 e.b, .int .i64 e.s, .int .i64 e.wi, .int .i64 40, .int .i64 e.wa] 43)) (CellW w3.heap.size #[.pointer none, .pointer none] 64)) (TurnW (.pointer (some a0)) (TurnM.new 1 d.wi 40))) (Fr.l (Fr.l (Fr.l Fr.id_ (CellW.stab _ _ _)) (CellW.stab _ _ _)) (TurnW.stab _ _)) hs, Sd.at_ (C := fun X => Star (Star (Star (CellW w.heap.size #[.int .i64 d.b, .int .i64 d.s, .int .i64 d.wi, .int .i64 40, .int .i64 d.wa] 43) X) (CellW w3.heap.size #[.pointer none, .pointer none] 64)) (TurnW (.pointer (some a0)) (TurnM.new 1 d.wi 40))) (Fr.l (Fr.l (Fr.r (CellW.stab _ _ _) Fr.id_) (CellW.stab _ _ _)) (TurnW.stab _ _)) hs⟩; refine ⟨_, rfl, HE5.out, ?_⟩; clear hs
      simp only [Act.put, List.setIfInBounds_toArray, List.set_cons_zero, List.set_cons_succ]
      refine rests_call 3 (oi := _) (by simp only [List.getElem?_toArray, List.getElem?_cons_succ, List.getElem?_cons_zero]; rfl) 28 #[.int .i64 2, .agg #[.int .i64 e.b, .int .i64 e.s, .int .i64 e.wi, .int .i64 40, .int .i64 e.wa]] _ (by kernel_rfl) (by rfl) (by go_simp) (TnNew_add (m := (TurnM.new 2 e.wi 40)) ((((CellW.stab _ _ _).star (CellW.stab _ _ _)).star (CellW.stab _ _ _)).star (TurnW.stab _ _)) (.inr rfl) HEW.out (by decide) rfl HS5.out) ?_
      rintro e w6 ⟨a1, rfl, hs⟩; have HS6 := Lib.hid hs; have HE6 : Hid ((fun W => W.heap[w.heap.size]? = some (.cells #[.int .i64 d.b, .int .i64 d.s, .int .i64 d.wi, .int .i64 40, .int .i64 d.wa] 43 (0, 0)) ∧ W.heap[w.heap.size + 1]? = some (.cells #[.int .i64 e.b, .int .i64 e.s, .int .i64 e.wi, .int .i64 40, .int .i64 e.wa] 43 (0, 0))) w6) := ⟨Sd.at_ (C := fun X => Star (Star (Star (Star X (CellW (w.heap.size + 1) #[.int .i64 e.b, .int .i64 e.s, .int .i64 e.wi, .int .i64 40, .int .i64 e.wa] 43)) (CellW w3.heap.size #[.pointer none, .pointer none] 64)) (TurnW (.pointer (some a0)) (TurnM.new 1 d.wi 40))) (TurnW (.pointer (some a1)) (TurnM.new 2 e.wi 40))) (Fr.l (Fr.l (Fr.l (Fr.l Fr.id_ (CellW.stab _ _ _)) (CellW.stab _ _ _)) (TurnW.stab _ _)) (TurnW.stab _ _)) hs, Sd.at_ (C := fun X => Star (Star (Star (Star (CellW w.heap.size #[.int .i64 d.b, .int .i64 d.s, .int .i64 d.wi, .int .i64 40, .int .i64 d.wa] 43) X) (CellW w3.heap.size #[.pointer none, .pointer none] 64)) (TurnW (.pointer (some a0)) (TurnM.new 1 d.wi 40))) (TurnW (.pointer (some a1)) (TurnM.new 2 e.wi 40))) (Fr.l (Fr.l (Fr.l (Fr.r (CellW.stab _ _ _) Fr.id_) (CellW.stab _ _ _)) (TurnW.stab _ _)) (TurnW.stab _ _)) hs⟩; refine ⟨_, rfl, HE6.out, ?_⟩; clear hs
      simp only [Act.put, List.setIfInBounds_toArray, List.set_cons_zero, List.set_cons_succ]
      refine rests_take 4 (oi := _) (v := ?_) (by simp only [List.getElem?_toArray, List.getElem?_cons_succ, List.getElem?_cons_zero]; rfl) (by kernel_rfl) (by kernel_rfl) (by kernel_rfl) (by exact fun _ _ _ h => h) (HE6.out) (by rfl) ?_ ?_; rotate_left; (· intro W HW; go_simp; try with_reducible rfl)
      simp only [Act.put, List.setIfInBounds_toArray, List.set_cons_zero, List.set_cons_succ]
      refine rests_storeB 6 (oi := _) (by simp only [List.getElem?_toArray, List.getElem?_cons_succ, List.getElem?_cons_zero]; rfl) (by kernel_rfl) (by rfl) 64 (.tmp 8) (.tmp 23) rfl (w3.heap.size) #[.pointer (some a0), .pointer (some a1)] rfl rfl 64 #[.pointer none, .pointer none] (Sd.at_ (C := fun X => Star (Star (Star (Star (CellW w.heap.size #[.int .i64 d.b, .int .i64 d.s, .int .i64 d.wi, .int .i64 40, .int .i64 d.wa] 43) (CellW (w.heap.size + 1) #[.int .i64 e.b, .int .i64 e.s, .int .i64 e.wi, .int .i64 40, .int .i64 e.wa] 43)) (X)) (TurnW (.pointer (some a0)) (TurnM.new 1 d.wi 40))) (TurnW (.pointer (some a1)) (TurnM.new 2 e.wi 40))) (Fr.l (Fr.l (Fr.r ((CellW.stab _ _ _).star (CellW.stab _ _ _)) Fr.id_) (TurnW.stab _ _)) (TurnW.stab _ _)) HS6.out) (by kernel_rfl) rfl (by simp [Value.oneCell']) ?_
      intro w7 hg hz hh; have HS7 : Hid (Sd w (Star (Star (Star (Star (CellW w.heap.size #[.int .i64 d.b, .int .i64 d.s, .int .i64 d.wi, .int .i64 40, .int .i64 d.wa] 43) (CellW (w.heap.size + 1) #[.int .i64 e.b, .int .i64 e.s, .int .i64 e.wi, .int .i64 40, .int .i64 e.wa] 43)) (CellW w3.heap.size #[.pointer (some a0), .pointer (some a1)] 64)) (TurnW (.pointer (some a0)) (TurnM.new 1 d.wi 40))) (TurnW (.pointer (some a1)) (TurnM.new 2 e.wi 40))) w7) := (Sd.put_ (C := fun X => Star (Star (Star (Star (CellW w.heap.size #[.int .i64 d.b, .int .i64 d.s, .int .i64 d.wi, .int .i64 40, .int .i64 d.wa] 43) (CellW (w.heap.size + 1) #[.int .i64 e.b, .int .i64 e.s, .int .i64 e.wi, .int .i64 40, .int .i64 e.wa] 43)) (X)) (TurnW (.pointer (some a0)) (TurnM.new 1 d.wi 40))) (TurnW (.pointer (some a1)) (TurnM.new 2 e.wi 40))) (Fr.l (Fr.l (Fr.r ((CellW.stab _ _ _).star (CellW.stab _ _ _)) Fr.id_) (TurnW.stab _ _)) (TurnW.stab _ _)) HS6.out hg hh); have HE7 : Hid ((fun W => W.heap[w.heap.size]? = some (.cells #[.int .i64 d.b, .int .i64 d.s, .int .i64 d.wi, .int .i64 40, .int .i64 d.wa] 43 (0, 0)) ∧ W.heap[w.heap.size + 1]? = some (.cells #[.int .i64 e.b, .int .i64 e.s, .int .i64 e.wi, .int .i64 40, .int .i64 e.wa] 43 (0, 0))) w7) := ⟨Sd.at_ (C := fun X => Star (Star (Star (Star X (CellW (w.heap.size + 1) #[.int .i64 e.b, .int .i64 e.s, .int .i64 e.wi, .int .i64 40, .int .i64 e.wa] 43)) (CellW w3.heap.size #[.pointer (some a0), .pointer (some a1)] 64)) (TurnW (.pointer (some a0)) (TurnM.new 1 d.wi 40))) (TurnW (.pointer (some a1)) (TurnM.new 2 e.wi 40))) (Fr.l (Fr.l (Fr.l (Fr.l Fr.id_ (CellW.stab _ _ _)) (CellW.stab _ _ _)) (TurnW.stab _ _)) (TurnW.stab _ _)) HS7.out, Sd.at_ (C := fun X => Star (Star (Star (Star (CellW w.heap.size #[.int .i64 d.b, .int .i64 d.s, .int .i64 d.wi, .int .i64 40, .int .i64 d.wa] 43) X) (CellW w3.heap.size #[.pointer (some a0), .pointer (some a1)] 64)) (TurnW (.pointer (some a0)) (TurnM.new 1 d.wi 40))) (TurnW (.pointer (some a1)) (TurnM.new 2 e.wi 40))) (Fr.l (Fr.l (Fr.l (Fr.r (CellW.stab _ _ _) Fr.id_) (CellW.stab _ _ _)) (TurnW.stab _ _)) (TurnW.stab _ _)) HS7.out⟩; refine ⟨HE7.out, ?_⟩; clear hg hz hh
      simp only [Act.put, List.setIfInBounds_toArray, List.set_cons_zero, List.set_cons_succ]
      refine rests_done (by kernel_rfl) ?_
      have hF : Sd w (Star (Star (Star (CellW w.heap.size #[.int .i64 d.b, .int .i64 d.s, .int .i64 d.wi, .int .i64 40, .int .i64 d.wa] 43) (CellW (w.heap.size + 1) #[.int .i64 e.b, .int .i64 e.s, .int .i64 e.wi, .int .i64 40, .int .i64 e.wa] 43)) (CellW w3.heap.size #[.pointer (some a0), .pointer (some a1)] 64)) (Star (TurnW (.pointer (some a0)) (TurnM.new 1 d.wi 40)) (TurnW (.pointer (some a1)) (TurnM.new 2 e.wi 40)))) w7 := Sd.permC HS7.out
      revert hF
      generalize w3.heap.size = g
      intro hF
      exact hK g a0 a1 _ ⟨_, ((CellW.stab _ _ _).star (CellW.stab _ _ _)), hF⟩
  case cont =>
    rintro g a0 a1 w5 ⟨K, hK, hs⟩
    have HK := Lib.hid hK
    have HS5 := Lib.hid hs
    have hg := Sd.at_ (C := fun X => Star (Star K X) (Star (TurnW (.pointer (some a0)) (TurnM.new 1 d.wi 40)) (TurnW (.pointer (some a1)) (TurnM.new 2 e.wi 40)))) (Fr.l (Fr.r hK Fr.id_) ((TurnW.stab _ _).star (TurnW.stab _ _))) hs
    have pp0 := cell_at hg 0 _ rfl
    have pp1 := cell_at hg 1 _ rfl
    clear hs hK hg HS3d HE3d HS0 HS1 HS2 HS3
    go_wp2
    have HS6 : Hid (Sd w (H2 K g w5.heap.size (w5.heap.size + 1) a0 a1 (TurnM.new 1 d.wi 40) (TurnM.new 2 e.wi 40) 0 0 0 0) ((w5.alloc (.cells #[.int .i64 0, .int .i64 0] 65)).alloc (.cells #[.int .i64 0, .int .i64 0] 65))) := by
      show Sd _ _ _
      have k1 := HS5.out.add ((HK.out.star (CellW.stab _ _ _)).star ((TurnW.stab _ _).star (TurnW.stab _ _))) (CellW.new w5 #[.int .i64 0, .int .i64 0] 65)
      have k2 := k1.add (((HK.out.star (CellW.stab _ _ _)).star ((TurnW.stab _ _).star (TurnW.stab _ _))).star (CellW.stab _ _ _)) (CellW.new (w5.alloc (.cells #[.int .i64 0, .int .i64 0] 65)) #[.int .i64 0, .int .i64 0] 65)
      have k3 : Sd w (Star (Star (Star (Star K (CellW g #[.pointer (some a0), .pointer (some a1)] 64)) (Star (TurnW (.pointer (some a0)) (TurnM.new 1 d.wi 40)) (TurnW (.pointer (some a1)) (TurnM.new 2 e.wi 40)))) (CellW w5.heap.size #[.int .i64 0, .int .i64 0] 65)) (CellW (w5.heap.size + 1) #[.int .i64 0, .int .i64 0] 65)) ((w5.alloc (.cells #[.int .i64 0, .int .i64 0] 65)).alloc (.cells #[.int .i64 0, .int .i64 0] 65)) := by simpa using k2
      exact k3
    clear HS5 pp0 pp1
    revert HS6
    generalize w5.heap.size + 1 = gt
    generalize w5.heap.size = gp
    intro HS6
    go_loopw [11] (fun iv wr => ∃ (i : Nat) (T0 T1 : TurnM) (p0 p1 q0 q1 : Nat), i ≤ 60 ∧ i ≤ L ∧ iv = .int .i64 (i : Int) ∧ Two T0 T1 p0 p1 q0 q1 ∧ Short T0 ∧ Short T1 ∧ p0 ≤ i ∧ p1 ≤ i ∧ Sd w (H2 K g gp gt a0 a1 T0 T1 p0 p1 q0 q1) wr) (fun iv _ => (60 - intOf iv).toNat)
    case atStart => exact ⟨0, _, _, 0, 0, 0, 0, by omega, by omega, rfl, two_new, short_new _ _ _, short_new _ _ _, by omega, by omega, HS6.out⟩
    case round =>
      clear HS6
      obtain ⟨i, T0, T1, p0, p1, q0, q1, hi60, hiL, rfl, ht, hs0, hs1, hp0, hp1, hs⟩ := hrel
      have HS2 := Lib.hid hs
      have HT := Lib.hid ht
      have HSH0 := Lib.hid hs0
      have HSH1 := Lib.hid hs1
      clear hs ht hs0 hs1
      by_cases hlt : i < L
      · have t1 : decide ((i : Int) < (L : Int)) = true := decide_eq_true (by omega)
        by_cases h60 : i < 60
        · have t2 : decide ((i : Int) < 60) = true := decide_eq_true (by omega)
          have t3 : (i : Int) < (L : Int) := by omega
          have e5 : IntKind.i64.wrap ((i : Int) + 1) = (i : Int) + 1 := IntWalk.i64_in _ (by omega)
          have hil : i < l.length := by have := HL.out; omega
          obtain ⟨b, off, rfl, hblt, hc⟩ := (HA.out.below HS2.out.bel0).row (f := stc) (fun _ => rfl) hil
          obtain ⟨x, hx⟩ : ∃ x, l[i] = x := ⟨_, rfl⟩
          rw [hx] at hc
          have HRG : Hid (wr.rangeAt b (off + i * 4) (stc x)) := fun j u hu => hc j u (List.getElem?_eq_some_iff.1 hu).1 hu
          have m1 : bits .and .i64 x.n 1 = x.n % 2 := i64_and1 x.n
          obtain ⟨nb, hnb⟩ : ∃ b, x.n % 2 = b := ⟨_, rfl⟩
          have hnb2 : nb = 0 ∨ nb = 1 := by omega
          rw [hnb] at m1
          clear hc hx hil hblt hnb
          by_cases hk0 : x.kind = 0
          · have t4 : (x.kind == 0) = true := by rw [hk0]; rfl
            clear hk0
            rcases hnb2 with rfl | rfl
            · rcases put_one (x := ⟨#[120]⟩) HT.out.sz0 rfl with ⟨k1, k2, k3⟩ | ⟨k1, k2, k3⟩
              · have HSHN := Lib.hid (short_put (x := ⟨#[120]⟩) HSH0.out (by decide))
                have HTW := Lib.hid (HT.out.put0 (x := ⟨#[120]⟩) k1)
                have e6 : IntKind.i64.wrap ((p0 : Int) + 1) = (p0 : Int) + 1 := IntWalk.i64_in _ (by omega)
                have HPE := Lib.hid k2.symm
                have HPM := Lib.hid k3.symm
                clear k1 k2 k3
                go_wp2_with (first
                  | (with_reducible refine wpList_load_mid rfl 67 (.tmp 44) rfl b (off + i * 4) rfl (stc x) _ HRG.out Tryz.underlying67 rfl (by kernel_rfl) ?_)
                  | ((with_reducible refine wpList_storeBSd (C := fun X => Star (H2 K g gp gt a0 a1 T0 T1 p0 p1 q0 q1) X) (Fr.r (H2.stab HK.out) Fr.id_) (HS2.out.add (H2.stab HK.out) (CellW.new wr #[.int .i64 0, .int .i64 0, .int .i64 0, .string ⟨#[]⟩] 67)) rfl 67 (.tmp 12) (.tmp 45) rfl #[.int .i64 x.kind, .int .i64 x.n, .int .i64 x.loss, .string x.body] rfl rfl (by kernel_rfl) rfl (by simp [Value.oneCell']) ?_); intro w4 hs; have HS4 := Lib.hid hs; have c0_4 : w4.cell? ⟨wr.heap.size, 0, none⟩ = some (.int .i64 x.kind) := cell_at (Sd.at_ (C := fun X => Star (H2 K g gp gt a0 a1 T0 T1 p0 p1 q0 q1) X) (Fr.r (H2.stab HK.out) Fr.id_) hs) 0 _ rfl; have c1_4 : w4.cell? ⟨wr.heap.size, 1, none⟩ = some (.int .i64 x.n) := cell_at (Sd.at_ (C := fun X => Star (H2 K g gp gt a0 a1 T0 T1 p0 p1 q0 q1) X) (Fr.r (H2.stab HK.out) Fr.id_) hs) 1 _ rfl; have hg_4 := two_heapG (C := fun X => Star X (CellW wr.heap.size #[.int .i64 x.kind, .int .i64 x.n, .int .i64 x.loss, .string x.body] 67)) (Fr.l Fr.id_ (CellW.stab _ _ _)) HK.out hs; have pp0_4 := cell_at hg_4 0 _ rfl; have pp1_4 := cell_at hg_4 1 _ rfl; have hp_4 := two_heapP (C := fun X => Star X (CellW wr.heap.size #[.int .i64 x.kind, .int .i64 x.n, .int .i64 x.loss, .string x.body] 67)) (Fr.l Fr.id_ (CellW.stab _ _ _)) HK.out hs; have pc0_4 := cell_at hp_4 0 _ rfl; have pc1_4 := cell_at hp_4 1 _ rfl; clear hg_4 hp_4; clear hs)
                  | ((with_reducible refine wpList_store1 rfl 3 (.tmp 76) (.tmp 75) rfl gp 0 (.int .i64 ((p0 : Int) + 1)) rfl rfl 65 _ (two_heapP (C := fun X => Star X (CellW wr.heap.size #[.int .i64 x.kind, .int .i64 x.n, .int .i64 x.loss, .string x.body] 67)) (Fr.l Fr.id_ (CellW.stab _ _ _)) HK.out HS5.out) (by simp) (run_storeI _ _ _) ?_); intro w6 hg hh; have HS6 := Lib.hid (two_setP (C := fun X => Star X (CellW wr.heap.size #[.int .i64 x.kind, .int .i64 x.n, .int .i64 x.loss, .string x.body] 67)) (r0 := p0 + 1) (r1 := p1) (Fr.l Fr.id_ (CellW.stab _ _ _)) HK.out HS5.out hg hh); clear hg hh)
                  | (go_at_call 31; ((with_reducible refine (two_put0 (C := fun X => Star X (CellW wr.heap.size #[.int .i64 x.kind, .int .i64 x.n, .int .i64 x.loss, .string x.body] 67)) (Fr.l Fr.id_ (CellW.stab _ _ _)) HK.out (by decide) HPE.out HPM.out HS4.out).mono ?_); rintro e w5 ⟨rfl, hs⟩; have HS5 := Lib.hid hs; have c0_5 : w5.cell? ⟨wr.heap.size, 0, none⟩ = some (.int .i64 x.kind) := cell_at (Sd.at_ (C := fun X => Star (H2 K g gp gt a0 a1 { T0 with out := T0.out.put ⟨#[120]⟩ } T1 p0 p1 q0 q1) X) (Fr.r (H2.stab HK.out) Fr.id_) hs) 0 _ rfl; have c1_5 : w5.cell? ⟨wr.heap.size, 1, none⟩ = some (.int .i64 x.n) := cell_at (Sd.at_ (C := fun X => Star (H2 K g gp gt a0 a1 { T0 with out := T0.out.put ⟨#[120]⟩ } T1 p0 p1 q0 q1) X) (Fr.r (H2.stab HK.out) Fr.id_) hs) 1 _ rfl; have hg_5 := two_heapG (C := fun X => Star X (CellW wr.heap.size #[.int .i64 x.kind, .int .i64 x.n, .int .i64 x.loss, .string x.body] 67)) (Fr.l Fr.id_ (CellW.stab _ _ _)) HK.out hs; have pp0_5 := cell_at hg_5 0 _ rfl; have pp1_5 := cell_at hg_5 1 _ rfl; have hp_5 := two_heapP (C := fun X => Star X (CellW wr.heap.size #[.int .i64 x.kind, .int .i64 x.n, .int .i64 x.loss, .string x.body] 67)) (Fr.l Fr.id_ (CellW.stab _ _ _)) HK.out hs; have pc0_5 := cell_at hp_5 0 _ rfl; have pc1_5 := cell_at hp_5 1 _ rfl; clear hg_5 hp_5; clear hs)))
                go_roundw
                case rel => exact ⟨i + 1, _, _, _, _, _, _, by omega, by omega, by go_num, HTW.out, HSHN.out, HSH1.out, by omega, by omega, HS6.out.drop⟩
                case measure => simp [intOf] <;> omega
              · have HPE := Lib.hid k2.symm
                have HPM := Lib.hid k3.symm
                clear k1 k2 k3
                go_wp2_with (first
                  | (with_reducible refine wpList_load_mid rfl 67 (.tmp 44) rfl b (off + i * 4) rfl (stc x) _ HRG.out Tryz.underlying67 rfl (by kernel_rfl) ?_)
                  | ((with_reducible refine wpList_storeBSd (C := fun X => Star (H2 K g gp gt a0 a1 T0 T1 p0 p1 q0 q1) X) (Fr.r (H2.stab HK.out) Fr.id_) (HS2.out.add (H2.stab HK.out) (CellW.new wr #[.int .i64 0, .int .i64 0, .int .i64 0, .string ⟨#[]⟩] 67)) rfl 67 (.tmp 12) (.tmp 45) rfl #[.int .i64 x.kind, .int .i64 x.n, .int .i64 x.loss, .string x.body] rfl rfl (by kernel_rfl) rfl (by simp [Value.oneCell']) ?_); intro w4 hs; have HS4 := Lib.hid hs; have c0_4 : w4.cell? ⟨wr.heap.size, 0, none⟩ = some (.int .i64 x.kind) := cell_at (Sd.at_ (C := fun X => Star (H2 K g gp gt a0 a1 T0 T1 p0 p1 q0 q1) X) (Fr.r (H2.stab HK.out) Fr.id_) hs) 0 _ rfl; have c1_4 : w4.cell? ⟨wr.heap.size, 1, none⟩ = some (.int .i64 x.n) := cell_at (Sd.at_ (C := fun X => Star (H2 K g gp gt a0 a1 T0 T1 p0 p1 q0 q1) X) (Fr.r (H2.stab HK.out) Fr.id_) hs) 1 _ rfl; have hg_4 := two_heapG (C := fun X => Star X (CellW wr.heap.size #[.int .i64 x.kind, .int .i64 x.n, .int .i64 x.loss, .string x.body] 67)) (Fr.l Fr.id_ (CellW.stab _ _ _)) HK.out hs; have pp0_4 := cell_at hg_4 0 _ rfl; have pp1_4 := cell_at hg_4 1 _ rfl; have hp_4 := two_heapP (C := fun X => Star X (CellW wr.heap.size #[.int .i64 x.kind, .int .i64 x.n, .int .i64 x.loss, .string x.body] 67)) (Fr.l Fr.id_ (CellW.stab _ _ _)) HK.out hs; have pc0_4 := cell_at hp_4 0 _ rfl; have pc1_4 := cell_at hp_4 1 _ rfl; clear hg_4 hp_4; clear hs)
                  | (go_at_call 31; ((with_reducible refine (two_put0 (C := fun X => Star X (CellW wr.heap.size #[.int .i64 x.kind, .int .i64 x.n, .int .i64 x.loss, .string x.body] 67)) (Fr.l Fr.id_ (CellW.stab _ _ _)) HK.out (by decide) HPE.out HPM.out HS4.out).mono ?_); rintro e w5 ⟨rfl, hs⟩; have HS5 := Lib.hid hs; have c0_5 : w5.cell? ⟨wr.heap.size, 0, none⟩ = some (.int .i64 x.kind) := cell_at (Sd.at_ (C := fun X => Star (H2 K g gp gt a0 a1 T0 T1 p0 p1 q0 q1) X) (Fr.r (H2.stab HK.out) Fr.id_) hs) 0 _ rfl; have c1_5 : w5.cell? ⟨wr.heap.size, 1, none⟩ = some (.int .i64 x.n) := cell_at (Sd.at_ (C := fun X => Star (H2 K g gp gt a0 a1 T0 T1 p0 p1 q0 q1) X) (Fr.r (H2.stab HK.out) Fr.id_) hs) 1 _ rfl; have hg_5 := two_heapG (C := fun X => Star X (CellW wr.heap.size #[.int .i64 x.kind, .int .i64 x.n, .int .i64 x.loss, .string x.body] 67)) (Fr.l Fr.id_ (CellW.stab _ _ _)) HK.out hs; have pp0_5 := cell_at hg_5 0 _ rfl; have pp1_5 := cell_at hg_5 1 _ rfl; have hp_5 := two_heapP (C := fun X => Star X (CellW wr.heap.size #[.int .i64 x.kind, .int .i64 x.n, .int .i64 x.loss, .string x.body] 67)) (Fr.l Fr.id_ (CellW.stab _ _ _)) HK.out hs; have pc0_5 := cell_at hp_5 0 _ rfl; have pc1_5 := cell_at hp_5 1 _ rfl; clear hg_5 hp_5; clear hs)))
                go_roundw
                case rel => exact ⟨i + 1, _, _, _, _, _, _, by omega, by omega, by go_num, HT.out, HSH0.out, HSH1.out, by omega, by omega, HS5.out.drop⟩
                case measure => simp [intOf] <;> omega
            · rcases put_one (x := ⟨#[120]⟩) HT.out.sz1 rfl with ⟨k1, k2, k3⟩ | ⟨k1, k2, k3⟩
              · have HSHN := Lib.hid (short_put (x := ⟨#[120]⟩) HSH1.out (by decide))
                have HTW := Lib.hid (HT.out.put1 (x := ⟨#[120]⟩) k1)
                have e6 : IntKind.i64.wrap ((p1 : Int) + 1) = (p1 : Int) + 1 := IntWalk.i64_in _ (by omega)
                have HPE := Lib.hid k2.symm
                have HPM := Lib.hid k3.symm
                clear k1 k2 k3
                go_wp2_with (first
                  | (with_reducible refine wpList_load_mid rfl 67 (.tmp 44) rfl b (off + i * 4) rfl (stc x) _ HRG.out Tryz.underlying67 rfl (by kernel_rfl) ?_)
                  | ((with_reducible refine wpList_storeBSd (C := fun X => Star (H2 K g gp gt a0 a1 T0 T1 p0 p1 q0 q1) X) (Fr.r (H2.stab HK.out) Fr.id_) (HS2.out.add (H2.stab HK.out) (CellW.new wr #[.int .i64 0, .int .i64 0, .int .i64 0, .string ⟨#[]⟩] 67)) rfl 67 (.tmp 12) (.tmp 45) rfl #[.int .i64 x.kind, .int .i64 x.n, .int .i64 x.loss, .string x.body] rfl rfl (by kernel_rfl) rfl (by simp [Value.oneCell']) ?_); intro w4 hs; have HS4 := Lib.hid hs; have c0_4 : w4.cell? ⟨wr.heap.size, 0, none⟩ = some (.int .i64 x.kind) := cell_at (Sd.at_ (C := fun X => Star (H2 K g gp gt a0 a1 T0 T1 p0 p1 q0 q1) X) (Fr.r (H2.stab HK.out) Fr.id_) hs) 0 _ rfl; have c1_4 : w4.cell? ⟨wr.heap.size, 1, none⟩ = some (.int .i64 x.n) := cell_at (Sd.at_ (C := fun X => Star (H2 K g gp gt a0 a1 T0 T1 p0 p1 q0 q1) X) (Fr.r (H2.stab HK.out) Fr.id_) hs) 1 _ rfl; have hg_4 := two_heapG (C := fun X => Star X (CellW wr.heap.size #[.int .i64 x.kind, .int .i64 x.n, .int .i64 x.loss, .string x.body] 67)) (Fr.l Fr.id_ (CellW.stab _ _ _)) HK.out hs; have pp0_4 := cell_at hg_4 0 _ rfl; have pp1_4 := cell_at hg_4 1 _ rfl; have hp_4 := two_heapP (C := fun X => Star X (CellW wr.heap.size #[.int .i64 x.kind, .int .i64 x.n, .int .i64 x.loss, .string x.body] 67)) (Fr.l Fr.id_ (CellW.stab _ _ _)) HK.out hs; have pc0_4 := cell_at hp_4 0 _ rfl; have pc1_4 := cell_at hp_4 1 _ rfl; clear hg_4 hp_4; clear hs)
                  | ((with_reducible refine wpList_store1 rfl 3 (.tmp 76) (.tmp 75) rfl gp 1 (.int .i64 ((p1 : Int) + 1)) rfl rfl 65 _ (two_heapP (C := fun X => Star X (CellW wr.heap.size #[.int .i64 x.kind, .int .i64 x.n, .int .i64 x.loss, .string x.body] 67)) (Fr.l Fr.id_ (CellW.stab _ _ _)) HK.out HS5.out) (by simp) (run_storeI _ _ _) ?_); intro w6 hg hh; have HS6 := Lib.hid (two_setP (C := fun X => Star X (CellW wr.heap.size #[.int .i64 x.kind, .int .i64 x.n, .int .i64 x.loss, .string x.body] 67)) (r0 := p0) (r1 := p1 + 1) (Fr.l Fr.id_ (CellW.stab _ _ _)) HK.out HS5.out hg hh); clear hg hh)
                  | (go_at_call 31; ((with_reducible refine (two_put1 (C := fun X => Star X (CellW wr.heap.size #[.int .i64 x.kind, .int .i64 x.n, .int .i64 x.loss, .string x.body] 67)) (Fr.l Fr.id_ (CellW.stab _ _ _)) HK.out (by decide) HPE.out HPM.out HS4.out).mono ?_); rintro e w5 ⟨rfl, hs⟩; have HS5 := Lib.hid hs; have c0_5 : w5.cell? ⟨wr.heap.size, 0, none⟩ = some (.int .i64 x.kind) := cell_at (Sd.at_ (C := fun X => Star (H2 K g gp gt a0 a1 T0 { T1 with out := T1.out.put ⟨#[120]⟩ } p0 p1 q0 q1) X) (Fr.r (H2.stab HK.out) Fr.id_) hs) 0 _ rfl; have c1_5 : w5.cell? ⟨wr.heap.size, 1, none⟩ = some (.int .i64 x.n) := cell_at (Sd.at_ (C := fun X => Star (H2 K g gp gt a0 a1 T0 { T1 with out := T1.out.put ⟨#[120]⟩ } p0 p1 q0 q1) X) (Fr.r (H2.stab HK.out) Fr.id_) hs) 1 _ rfl; have hg_5 := two_heapG (C := fun X => Star X (CellW wr.heap.size #[.int .i64 x.kind, .int .i64 x.n, .int .i64 x.loss, .string x.body] 67)) (Fr.l Fr.id_ (CellW.stab _ _ _)) HK.out hs; have pp0_5 := cell_at hg_5 0 _ rfl; have pp1_5 := cell_at hg_5 1 _ rfl; have hp_5 := two_heapP (C := fun X => Star X (CellW wr.heap.size #[.int .i64 x.kind, .int .i64 x.n, .int .i64 x.loss, .string x.body] 67)) (Fr.l Fr.id_ (CellW.stab _ _ _)) HK.out hs; have pc0_5 := cell_at hp_5 0 _ rfl; have pc1_5 := cell_at hp_5 1 _ rfl; clear hg_5 hp_5; clear hs)))
                go_roundw
                case rel => exact ⟨i + 1, _, _, _, _, _, _, by omega, by omega, by go_num, HTW.out, HSH0.out, HSHN.out, by omega, by omega, HS6.out.drop⟩
                case measure => simp [intOf] <;> omega
              · have HPE := Lib.hid k2.symm
                have HPM := Lib.hid k3.symm
                clear k1 k2 k3
                go_wp2_with (first
                  | (with_reducible refine wpList_load_mid rfl 67 (.tmp 44) rfl b (off + i * 4) rfl (stc x) _ HRG.out Tryz.underlying67 rfl (by kernel_rfl) ?_)
                  | ((with_reducible refine wpList_storeBSd (C := fun X => Star (H2 K g gp gt a0 a1 T0 T1 p0 p1 q0 q1) X) (Fr.r (H2.stab HK.out) Fr.id_) (HS2.out.add (H2.stab HK.out) (CellW.new wr #[.int .i64 0, .int .i64 0, .int .i64 0, .string ⟨#[]⟩] 67)) rfl 67 (.tmp 12) (.tmp 45) rfl #[.int .i64 x.kind, .int .i64 x.n, .int .i64 x.loss, .string x.body] rfl rfl (by kernel_rfl) rfl (by simp [Value.oneCell']) ?_); intro w4 hs; have HS4 := Lib.hid hs; have c0_4 : w4.cell? ⟨wr.heap.size, 0, none⟩ = some (.int .i64 x.kind) := cell_at (Sd.at_ (C := fun X => Star (H2 K g gp gt a0 a1 T0 T1 p0 p1 q0 q1) X) (Fr.r (H2.stab HK.out) Fr.id_) hs) 0 _ rfl; have c1_4 : w4.cell? ⟨wr.heap.size, 1, none⟩ = some (.int .i64 x.n) := cell_at (Sd.at_ (C := fun X => Star (H2 K g gp gt a0 a1 T0 T1 p0 p1 q0 q1) X) (Fr.r (H2.stab HK.out) Fr.id_) hs) 1 _ rfl; have hg_4 := two_heapG (C := fun X => Star X (CellW wr.heap.size #[.int .i64 x.kind, .int .i64 x.n, .int .i64 x.loss, .string x.body] 67)) (Fr.l Fr.id_ (CellW.stab _ _ _)) HK.out hs; have pp0_4 := cell_at hg_4 0 _ rfl; have pp1_4 := cell_at hg_4 1 _ rfl; have hp_4 := two_heapP (C := fun X => Star X (CellW wr.heap.size #[.int .i64 x.kind, .int .i64 x.n, .int .i64 x.loss, .string x.body] 67)) (Fr.l Fr.id_ (CellW.stab _ _ _)) HK.out hs; have pc0_4 := cell_at hp_4 0 _ rfl; have pc1_4 := cell_at hp_4 1 _ rfl; clear hg_4 hp_4; clear hs)
                  | (go_at_call 31; ((with_reducible refine (two_put1 (C := fun X => Star X (CellW wr.heap.size #[.int .i64 x.kind, .int .i64 x.n, .int .i64 x.loss, .string x.body] 67)) (Fr.l Fr.id_ (CellW.stab _ _ _)) HK.out (by decide) HPE.out HPM.out HS4.out).mono ?_); rintro e w5 ⟨rfl, hs⟩; have HS5 := Lib.hid hs; have c0_5 : w5.cell? ⟨wr.heap.size, 0, none⟩ = some (.int .i64 x.kind) := cell_at (Sd.at_ (C := fun X => Star (H2 K g gp gt a0 a1 T0 T1 p0 p1 q0 q1) X) (Fr.r (H2.stab HK.out) Fr.id_) hs) 0 _ rfl; have c1_5 : w5.cell? ⟨wr.heap.size, 1, none⟩ = some (.int .i64 x.n) := cell_at (Sd.at_ (C := fun X => Star (H2 K g gp gt a0 a1 T0 T1 p0 p1 q0 q1) X) (Fr.r (H2.stab HK.out) Fr.id_) hs) 1 _ rfl; have hg_5 := two_heapG (C := fun X => Star X (CellW wr.heap.size #[.int .i64 x.kind, .int .i64 x.n, .int .i64 x.loss, .string x.body] 67)) (Fr.l Fr.id_ (CellW.stab _ _ _)) HK.out hs; have pp0_5 := cell_at hg_5 0 _ rfl; have pp1_5 := cell_at hg_5 1 _ rfl; have hp_5 := two_heapP (C := fun X => Star X (CellW wr.heap.size #[.int .i64 x.kind, .int .i64 x.n, .int .i64 x.loss, .string x.body] 67)) (Fr.l Fr.id_ (CellW.stab _ _ _)) HK.out hs; have pc0_5 := cell_at hp_5 0 _ rfl; have pc1_5 := cell_at hp_5 1 _ rfl; clear hg_5 hp_5; clear hs)))
                go_roundw
                case rel => exact ⟨i + 1, _, _, _, _, _, _, by omega, by omega, by go_num, HT.out, HSH0.out, HSH1.out, by omega, by omega, HS5.out.drop⟩
                case measure => simp [intOf] <;> omega
          · have t4 : (x.kind == 0) = false := beq_eq_false_iff_ne.2 hk0
            by_cases hk1 : x.kind = 1
            · have t4b : (x.kind == 1) = true := by rw [hk1]; rfl
              clear hk0 hk1
              rcases hnb2 with rfl | rfl
              · have z1 : IntKind.i64.wrap (1 : Int) = 1 := by decide
                have z0 : IntKind.i64.wrap (0 : Int) = 0 := by decide
                obtain ⟨htw, hle⟩ := HT.out.say0 x.loss
                have hsay := fun W (hs : Sd w (Star (H2 K g gp gt a0 a1 T0 T1 p0 p1 q0 q1) (CellW wr.heap.size #[.int .i64 x.kind, .int .i64 x.n, .int .i64 x.loss, .string x.body] 67)) W) => two_say0 (C := fun X => Star X (CellW wr.heap.size #[.int .i64 x.kind, .int .i64 x.n, .int .i64 x.loss, .string x.body] 67)) (Fr.l Fr.id_ (CellW.stab _ _ _)) (fun R hR => hR.star (CellW.stab _ _ _)) HK.out x.loss HT.out.ok0 HSH0.out hs
                have HSHN := Lib.hid (short_hear x.loss T0.says 0 T1 0 HSH1.out)
                have HSG := Lib.hid (short_go HSH0.out)
                obtain ⟨rb, hrb⟩ : ∃ r, (hearM x.loss T0.says 0 T1 0).1 = r := ⟨_, rfl⟩
                obtain ⟨rn, hrn⟩ : ∃ r, (hearM x.loss T0.says 0 T1 0).2 = r := ⟨_, rfl⟩
                simp only [hrb, hrn] at htw hle hsay HSHN
                have hle0 := HT.out.d0.le HT.out.ok0.out
                have hle1 := HT.out.d1.le HT.out.ok1.out
                have e7 : IntKind.i64.wrap ((q1 : Int) + (rn : Int)) = (q1 : Int) + (rn : Int) := IntWalk.i64_in _ (by omega)
                have HTN := Lib.hid htw
                have HSAY : Hid (∀ W, Sd w (Star (H2 K g gp gt a0 a1 T0 T1 p0 p1 q0 q1) (CellW wr.heap.size #[.int .i64 x.kind, .int .i64 x.n, .int .i64 x.loss, .string x.body] 67)) W → Calls Tryz.prog 46 #[.pointer (some a0), .pointer (some a1), .int .i64 x.loss] W fun e w' => e = .returned (.int .i64 (rn : Int)) ∧ Sd w (Star (H2 K g gp gt a0 a1 T0.go rb p0 p1 q0 q1) (CellW wr.heap.size #[.int .i64 x.kind, .int .i64 x.n, .int .i64 x.loss, .string x.body] 67)) w') := hsay
                clear htw hle hsay hrb hrn hle0 hle1
                go_wp2_with (first
                  | (with_reducible refine wpList_load_mid rfl 67 (.tmp 44) rfl b (off + i * 4) rfl (stc x) _ HRG.out Tryz.underlying67 rfl (by kernel_rfl) ?_)
                  | ((with_reducible refine wpList_storeBSd (C := fun X => Star (H2 K g gp gt a0 a1 T0 T1 p0 p1 q0 q1) X) (Fr.r (H2.stab HK.out) Fr.id_) (HS2.out.add (H2.stab HK.out) (CellW.new wr #[.int .i64 0, .int .i64 0, .int .i64 0, .string ⟨#[]⟩] 67)) rfl 67 (.tmp 12) (.tmp 45) rfl #[.int .i64 x.kind, .int .i64 x.n, .int .i64 x.loss, .string x.body] rfl rfl (by kernel_rfl) rfl (by simp [Value.oneCell']) ?_); intro w4 hs; have HS4 := Lib.hid hs; have c0_4 : w4.cell? ⟨wr.heap.size, 0, none⟩ = some (.int .i64 x.kind) := cell_at (Sd.at_ (C := fun X => Star (H2 K g gp gt a0 a1 T0 T1 p0 p1 q0 q1) X) (Fr.r (H2.stab HK.out) Fr.id_) hs) 0 _ rfl; have c1_4 : w4.cell? ⟨wr.heap.size, 1, none⟩ = some (.int .i64 x.n) := cell_at (Sd.at_ (C := fun X => Star (H2 K g gp gt a0 a1 T0 T1 p0 p1 q0 q1) X) (Fr.r (H2.stab HK.out) Fr.id_) hs) 1 _ rfl; have hg_4 := two_heapG (C := fun X => Star X (CellW wr.heap.size #[.int .i64 x.kind, .int .i64 x.n, .int .i64 x.loss, .string x.body] 67)) (Fr.l Fr.id_ (CellW.stab _ _ _)) HK.out hs; have pp0_4 := cell_at hg_4 0 _ rfl; have pp1_4 := cell_at hg_4 1 _ rfl; have hp_4 := two_heapP (C := fun X => Star X (CellW wr.heap.size #[.int .i64 x.kind, .int .i64 x.n, .int .i64 x.loss, .string x.body] 67)) (Fr.l Fr.id_ (CellW.stab _ _ _)) HK.out hs; have pc0_4 := cell_at hp_4 0 _ rfl; have pc1_4 := cell_at hp_4 1 _ rfl; clear hg_4 hp_4; clear hs))
                have HS4d : Hid (Sd w (Star (H2 K g gp gt a0 a1 T0 T1 p0 p1 q0 q1) (CellW wr.heap.size #[.int .i64 x.kind, .int .i64 x.n, .int .i64 x.loss, .string x.body] 67)) w4.drew) := HS4.out.drew ((H2.stab HK.out).star (CellW.stab _ _ _))
                have HE4d : Hid ((fun W => (W.cell? ⟨g, 0, none⟩ = some (.pointer (some a0)) ∧ W.cell? ⟨g, 1, none⟩ = some (.pointer (some a1))) ∧ (W.cell? ⟨wr.heap.size, 1, none⟩ = some (.int .i64 x.n) ∧ W.cell? ⟨wr.heap.size, 2, none⟩ = some (.int .i64 x.loss))) w4.drew) := two_cells (Fr.l Fr.id_ (CellW.stab _ _ _)) HK.out HS4d.out
                refine rests_begin (fun W => (W.cell? ⟨g, 0, none⟩ = some (.pointer (some a0)) ∧ W.cell? ⟨g, 1, none⟩ = some (.pointer (some a1))) ∧ (W.cell? ⟨wr.heap.size, 1, none⟩ = some (.int .i64 x.n) ∧ W.cell? ⟨wr.heap.size, 2, none⟩ = some (.int .i64 x.loss))) (by kernel_rfl) ?_
                refine rests_take 0 (oi := _) (v := ?_) (by simp only [List.getElem?_toArray, List.getElem?_cons_zero]; rfl) (by kernel_rfl) (by kernel_rfl) (by kernel_rfl) (by exact fun _ _ _ h => h) (HE4d.out) (by rfl) ?_ ?_; rotate_left; (· intro W HW; go_simp; try with_reducible rfl)
                simp only [Act.put, List.setIfInBounds_toArray, List.set_cons_zero, List.set_cons_succ]
                refine rests_take 1 (oi := _) (v := ?_) (by simp only [List.getElem?_toArray, List.getElem?_cons_succ, List.getElem?_cons_zero]; rfl) (by kernel_rfl) (by kernel_rfl) (by kernel_rfl) (by exact fun _ _ _ h => h) (HE4d.out) (by rfl) ?_ ?_; rotate_left; (· intro W HW; obtain ⟨⟨cg0, cg1⟩, cs1, cs2⟩ := HW; go_simp; try with_reducible rfl)
                simp only [Act.put, List.setIfInBounds_toArray, List.set_cons_zero, List.set_cons_succ]
                refine rests_take 2 (oi := _) (v := ?_) (by simp only [List.getElem?_toArray, List.getElem?_cons_succ, List.getElem?_cons_zero]; rfl) (by kernel_rfl) (by kernel_rfl) (by kernel_rfl) (by exact fun _ _ _ h => h) (HE4d.out) (by rfl) ?_ ?_; rotate_left; (· intro W HW; go_simp; try with_reducible rfl)
                simp only [Act.put, List.setIfInBounds_toArray, List.set_cons_zero, List.set_cons_succ]
                refine rests_take 3 (oi := _) (v := ?_) (by simp only [List.getElem?_toArray, List.getElem?_cons_succ, List.getElem?_cons_zero]; rfl) (by kernel_rfl) (by kernel_rfl) (by kernel_rfl) (by exact fun _ _ _ h => h) (HE4d.out) (by rfl) ?_ ?_; rotate_left; (· intro W HW; go_simp; try with_reducible rfl)
                simp only [Act.put, List.setIfInBounds_toArray, List.set_cons_zero, List.set_cons_succ]
                refine rests_take 4 (oi := _) (v := ?_) (by simp only [List.getElem?_toArray, List.getElem?_cons_succ, List.getElem?_cons_zero]; rfl) (by kernel_rfl) (by kernel_rfl) (by kernel_rfl) (by exact fun _ _ _ h => h) (HE4d.out) (by rfl) ?_ ?_; rotate_left; (· intro W HW; go_simp; try with_reducible rfl)
                simp only [Act.put, List.setIfInBounds_toArray, List.set_cons_zero, List.set_cons_succ]
                refine rests_take 6 (oi := _) (v := ?_) (by simp only [List.getElem?_toArray, List.getElem?_cons_succ, List.getElem?_cons_zero]; rfl) (by kernel_rfl) (by kernel_rfl) (by kernel_rfl) (by exact fun _ _ _ h => h) (HE4d.out) (by rfl) ?_ ?_; rotate_left; (· intro W HW; go_simp; try with_reducible rfl)
                simp only [Act.put, List.setIfInBounds_toArray, List.set_cons_zero, List.set_cons_succ]
                refine rests_take 7 (oi := _) (v := ?_) (by simp only [List.getElem?_toArray, List.getElem?_cons_succ, List.getElem?_cons_zero]; rfl) (by kernel_rfl) (by kernel_rfl) (by kernel_rfl) (by exact fun _ _ _ h => h) (HE4d.out) (by rfl) ?_ ?_; rotate_left; (· intro W HW; obtain ⟨⟨cg0, cg1⟩, cs1, cs2⟩ := HW; go_simp; try with_reducible rfl)
                simp only [Act.put, List.setIfInBounds_toArray, List.set_cons_zero, List.set_cons_succ]
                refine rests_take 8 (oi := _) (v := ?_) (by simp only [List.getElem?_toArray, List.getElem?_cons_succ, List.getElem?_cons_zero]; rfl) (by kernel_rfl) (by kernel_rfl) (by kernel_rfl) (by exact fun _ _ _ h => h) (HE4d.out) (by rfl) ?_ ?_; rotate_left; (· intro W HW; go_simp; try with_reducible rfl)
                simp only [Act.put, List.setIfInBounds_toArray, List.set_cons_zero, List.set_cons_succ]
                refine rests_take 9 (oi := _) (v := ?_) (by simp only [List.getElem?_toArray, List.getElem?_cons_succ, List.getElem?_cons_zero]; rfl) (by kernel_rfl) (by kernel_rfl) (by kernel_rfl) (by exact fun _ _ _ h => h) (HE4d.out) (by rfl) ?_ ?_; rotate_left; (· intro W HW; go_simp; try with_reducible rfl)
                simp only [Act.put, List.setIfInBounds_toArray, List.set_cons_zero, List.set_cons_succ]
                refine rests_take 10 (oi := _) (v := ?_) (by simp only [List.getElem?_toArray, List.getElem?_cons_succ, List.getElem?_cons_zero]; rfl) (by kernel_rfl) (by kernel_rfl) (by kernel_rfl) (by exact fun _ _ _ h => h) (HE4d.out) (by rfl) ?_ ?_; rotate_left; (· intro W HW; obtain ⟨⟨cg0, cg1⟩, cs1, cs2⟩ := HW; go_simp; try with_reducible rfl)
                simp only [Act.put, List.setIfInBounds_toArray, List.set_cons_zero, List.set_cons_succ]
                refine rests_take 11 (oi := _) (v := ?_) (by simp only [List.getElem?_toArray, List.getElem?_cons_succ, List.getElem?_cons_zero]; rfl) (by kernel_rfl) (by kernel_rfl) (by kernel_rfl) (by exact fun _ _ _ h => h) (HE4d.out) (by rfl) ?_ ?_; rotate_left; (· intro W HW; go_simp; try with_reducible rfl)
                simp only [Act.put, List.setIfInBounds_toArray, List.set_cons_zero, List.set_cons_succ]
                refine rests_take 12 (oi := _) (v := ?_) (by simp only [List.getElem?_toArray, List.getElem?_cons_succ, List.getElem?_cons_zero]; rfl) (by kernel_rfl) (by kernel_rfl) (by kernel_rfl) (by exact fun _ _ _ h => h) (HE4d.out) (by rfl) ?_ ?_; rotate_left; (· intro W HW; obtain ⟨⟨cg0, cg1⟩, cs1, cs2⟩ := HW; go_simp; try with_reducible rfl)
                simp only [Act.put, List.setIfInBounds_toArray, List.set_cons_zero, List.set_cons_succ]
                refine rests_take 13 (oi := _) (v := ?_) (by simp only [List.getElem?_toArray, List.getElem?_cons_succ, List.getElem?_cons_zero]; rfl) (by kernel_rfl) (by kernel_rfl) (by kernel_rfl) (by exact fun _ _ _ h => h) (HE4d.out) (by rfl) ?_ ?_; rotate_left; (· intro W HW; go_simp; try with_reducible rfl)
                simp only [Act.put, List.setIfInBounds_toArray, List.set_cons_zero, List.set_cons_succ]
                refine rests_take 14 (oi := _) (v := ?_) (by simp only [List.getElem?_toArray, List.getElem?_cons_succ, List.getElem?_cons_zero]; rfl) (by kernel_rfl) (by kernel_rfl) (by kernel_rfl) (by exact fun _ _ _ h => h) (HE4d.out) (by rfl) ?_ ?_; rotate_left; (· intro W HW; go_simp; try with_reducible rfl)
                simp only [Act.put, List.setIfInBounds_toArray, List.set_cons_zero, List.set_cons_succ]
                refine rests_take 15 (oi := _) (v := ?_) (by simp only [List.getElem?_toArray, List.getElem?_cons_succ, List.getElem?_cons_zero]; rfl) (by kernel_rfl) (by kernel_rfl) (by kernel_rfl) (by exact fun _ _ _ h => h) (HE4d.out) (by rfl) ?_ ?_; rotate_left; (· intro W HW; go_simp; try with_reducible rfl)
                simp only [Act.put, List.setIfInBounds_toArray, List.set_cons_zero, List.set_cons_succ]
                refine rests_take 16 (oi := _) (v := ?_) (by simp only [List.getElem?_toArray, List.getElem?_cons_succ, List.getElem?_cons_zero]; rfl) (by kernel_rfl) (by kernel_rfl) (by kernel_rfl) (by exact fun _ _ _ h => h) (HE4d.out) (by rfl) ?_ ?_; rotate_left; (· intro W HW; obtain ⟨⟨cg0, cg1⟩, cs1, cs2⟩ := HW; go_simp; try with_reducible rfl)
                simp only [Act.put, List.setIfInBounds_toArray, List.set_cons_zero, List.set_cons_succ]
                refine rests_take 17 (oi := _) (v := ?_) (by simp only [List.getElem?_toArray, List.getElem?_cons_succ, List.getElem?_cons_zero]; rfl) (by kernel_rfl) (by kernel_rfl) (by kernel_rfl) (by exact fun _ _ _ h => h) (HE4d.out) (by rfl) ?_ ?_; rotate_left; (· intro W HW; go_simp; try with_reducible rfl)
                simp only [Act.put, List.setIfInBounds_toArray, List.set_cons_zero, List.set_cons_succ]
                refine rests_take 18 (oi := _) (v := ?_) (by simp only [List.getElem?_toArray, List.getElem?_cons_succ, List.getElem?_cons_zero]; rfl) (by kernel_rfl) (by kernel_rfl) (by kernel_rfl) (by exact fun _ _ _ h => h) (HE4d.out) (by rfl) ?_ ?_; rotate_left; (· intro W HW; obtain ⟨⟨cg0, cg1⟩, cs1, cs2⟩ := HW; go_simp; try with_reducible rfl)
                simp only [Act.put, List.setIfInBounds_toArray, List.set_cons_zero, List.set_cons_succ]
                refine rests_two 5 19 (oi := _) (oj := _) (by simp only [List.getElem?_toArray, List.getElem?_cons_succ, List.getElem?_cons_zero]; rfl) (by simp only [List.getElem?_toArray, List.getElem?_cons_succ, List.getElem?_cons_zero]; rfl) (by kernel_rfl) (by rfl) (by rfl) ?_ ?_
                · have cq5 : (w4.drew).cell? ⟨gt, 1, none⟩ = some (.int .i64 (q1 : Int)) := cell_at (two_heapQ (C := fun X => Star X (CellW wr.heap.size #[.int .i64 x.kind, .int .i64 x.n, .int .i64 x.loss, .string x.body] 67)) (Fr.l Fr.id_ (CellW.stab _ _ _)) HK.out HS4d.out) 1 _ rfl
                  refine wp_val (v := .int .i64 (q1 : Int)) (w' := w4.drew) (by go_simp) ⟨HE4d.out, ?_⟩
                  simp only [Act.put, List.setIfInBounds_toArray, List.set_cons_zero, List.set_cons_succ]
                  refine rests_call 19 (oi := _) (by simp only [List.getElem?_toArray, List.getElem?_cons_succ, List.getElem?_cons_zero]; rfl) 46 #[.pointer (some a0), .pointer (some a1), .int .i64 x.loss] _ (by kernel_rfl) (by rfl) (by go_simp) ((HSAY.out _) (HS4d.out)) ?_
                  rintro e w6 ⟨rfl, hs⟩; have HS6 := Lib.hid hs; have HE6 : Hid ((fun W => (W.cell? ⟨g, 0, none⟩ = some (.pointer (some a0)) ∧ W.cell? ⟨g, 1, none⟩ = some (.pointer (some a1))) ∧ (W.cell? ⟨wr.heap.size, 1, none⟩ = some (.int .i64 x.n) ∧ W.cell? ⟨wr.heap.size, 2, none⟩ = some (.int .i64 x.loss))) w6) := two_cells (Fr.l Fr.id_ (CellW.stab _ _ _)) HK.out hs; refine ⟨_, rfl, HE6.out, ?_⟩; clear hs
                  simp only [Act.put, List.setIfInBounds_toArray, List.set_cons_zero, List.set_cons_succ]
                  refine rests_take 20 (oi := _) (v := ?_) (by simp only [List.getElem?_toArray, List.getElem?_cons_succ, List.getElem?_cons_zero]; rfl) (by kernel_rfl) (by kernel_rfl) (by kernel_rfl) (by exact fun _ _ _ h => h) (HE6.out) (by rfl) ?_ ?_; rotate_left; (· intro W HW; go_simp; try with_reducible rfl)
                  simp only [Act.put, List.setIfInBounds_toArray, List.set_cons_zero, List.set_cons_succ]
                  refine rests_take 21 (oi := _) (v := ?_) (by simp only [List.getElem?_toArray, List.getElem?_cons_succ, List.getElem?_cons_zero]; rfl) (by kernel_rfl) (by kernel_rfl) (by kernel_rfl) (by exact fun _ _ _ h => h) (HE6.out) (by rfl) ?_ ?_; rotate_left; (· intro W HW; go_simp; try with_reducible rfl)
                  simp only [Act.put, List.setIfInBounds_toArray, List.set_cons_zero, List.set_cons_succ]
                  refine rests_store1 22 (oi := _) (by simp only [List.getElem?_toArray, List.getElem?_cons_succ, List.getElem?_cons_zero]; rfl) (by kernel_rfl) (by rfl) 3 (.tmp 100) (.tmp 99) rfl gt 1 (.int .i64 ((q1 : Int) + (rn : Int))) rfl rfl 65 _ (two_heapQ (C := fun X => Star X (CellW wr.heap.size #[.int .i64 x.kind, .int .i64 x.n, .int .i64 x.loss, .string x.body] 67)) (Fr.l Fr.id_ (CellW.stab _ _ _)) HK.out HS6.out) (by simp) (run_storeI _ _ _) ?_
                  intro w7 hg hh; have HS7 := Lib.hid (two_setQ (C := fun X => Star X (CellW wr.heap.size #[.int .i64 x.kind, .int .i64 x.n, .int .i64 x.loss, .string x.body] 67)) (r0 := q0) (r1 := q1 + rn) (Fr.l Fr.id_ (CellW.stab _ _ _)) HK.out HS6.out hg hh); have HE7 : Hid ((fun W => (W.cell? ⟨g, 0, none⟩ = some (.pointer (some a0)) ∧ W.cell? ⟨g, 1, none⟩ = some (.pointer (some a1))) ∧ (W.cell? ⟨wr.heap.size, 1, none⟩ = some (.int .i64 x.n) ∧ W.cell? ⟨wr.heap.size, 2, none⟩ = some (.int .i64 x.loss))) w7) := two_cells (Fr.l Fr.id_ (CellW.stab _ _ _)) HK.out HS7.out; refine ⟨HE7.out, ?_⟩; clear hg hh
                  simp only [Act.put, List.setIfInBounds_toArray, List.set_cons_zero, List.set_cons_succ]
                  refine rests_done (by kernel_rfl) ?_
                  go_wp2
                  go_roundw
                  case rel => exact ⟨i + 1, _, _, _, _, _, _, by omega, by omega, by go_num, HTN.out, HSG.out, HSHN.out, by omega, by omega, HS7.out.drop⟩
                  case measure => simp [intOf] <;> omega
                · refine wp_enter (f := 46) (args := #[.pointer (some a0), .pointer (some a1), .int .i64 x.loss]) (by go_simp) ((HSAY.out _) (HS4d.out)) ?_
                  rintro e w5 ⟨rfl, hs⟩; have HS5 := Lib.hid hs; have HE5 : Hid ((fun W => (W.cell? ⟨g, 0, none⟩ = some (.pointer (some a0)) ∧ W.cell? ⟨g, 1, none⟩ = some (.pointer (some a1))) ∧ (W.cell? ⟨wr.heap.size, 1, none⟩ = some (.int .i64 x.n) ∧ W.cell? ⟨wr.heap.size, 2, none⟩ = some (.int .i64 x.loss))) w5) := two_cells (Fr.l Fr.id_ (CellW.stab _ _ _)) HK.out hs; refine ⟨_, rfl, HE5.out, ?_⟩; clear hs
                  simp only [Act.put, List.setIfInBounds_toArray, List.set_cons_zero, List.set_cons_succ]
                  have cq6 : (w5).cell? ⟨gt, 1, none⟩ = some (.int .i64 (q1 : Int)) := cell_at (two_heapQ (C := fun X => Star X (CellW wr.heap.size #[.int .i64 x.kind, .int .i64 x.n, .int .i64 x.loss, .string x.body] 67)) (Fr.l Fr.id_ (CellW.stab _ _ _)) HK.out HS5.out) 1 _ rfl
                  refine rests_run 5 (oi := _) (by simp only [List.getElem?_toArray, List.getElem?_cons_succ, List.getElem?_cons_zero]; rfl) (by kernel_rfl) (by rfl) (.int .i64 (q1 : Int)) (w5) (by go_simp) ⟨HE5.out, ?_⟩
                  simp only [Act.put, List.setIfInBounds_toArray, List.set_cons_zero, List.set_cons_succ]
                  refine rests_take 20 (oi := _) (v := ?_) (by simp only [List.getElem?_toArray, List.getElem?_cons_succ, List.getElem?_cons_zero]; rfl) (by kernel_rfl) (by kernel_rfl) (by kernel_rfl) (by exact fun _ _ _ h => h) (HE5.out) (by rfl) ?_ ?_; rotate_left; (· intro W HW; go_simp; try with_reducible rfl)
                  simp only [Act.put, List.setIfInBounds_toArray, List.set_cons_zero, List.set_cons_succ]
                  refine rests_take 21 (oi := _) (v := ?_) (by simp only [List.getElem?_toArray, List.getElem?_cons_succ, List.getElem?_cons_zero]; rfl) (by kernel_rfl) (by kernel_rfl) (by kernel_rfl) (by exact fun _ _ _ h => h) (HE5.out) (by rfl) ?_ ?_; rotate_left; (· intro W HW; go_simp; try with_reducible rfl)
                  simp only [Act.put, List.setIfInBounds_toArray, List.set_cons_zero, List.set_cons_succ]
                  refine rests_store1 22 (oi := _) (by simp only [List.getElem?_toArray, List.getElem?_cons_succ, List.getElem?_cons_zero]; rfl) (by kernel_rfl) (by rfl) 3 (.tmp 100) (.tmp 99) rfl gt 1 (.int .i64 ((q1 : Int) + (rn : Int))) rfl rfl 65 _ (two_heapQ (C := fun X => Star X (CellW wr.heap.size #[.int .i64 x.kind, .int .i64 x.n, .int .i64 x.loss, .string x.body] 67)) (Fr.l Fr.id_ (CellW.stab _ _ _)) HK.out HS5.out) (by simp) (run_storeI _ _ _) ?_
                  intro w7 hg hh; have HS7 := Lib.hid (two_setQ (C := fun X => Star X (CellW wr.heap.size #[.int .i64 x.kind, .int .i64 x.n, .int .i64 x.loss, .string x.body] 67)) (r0 := q0) (r1 := q1 + rn) (Fr.l Fr.id_ (CellW.stab _ _ _)) HK.out HS5.out hg hh); have HE7 : Hid ((fun W => (W.cell? ⟨g, 0, none⟩ = some (.pointer (some a0)) ∧ W.cell? ⟨g, 1, none⟩ = some (.pointer (some a1))) ∧ (W.cell? ⟨wr.heap.size, 1, none⟩ = some (.int .i64 x.n) ∧ W.cell? ⟨wr.heap.size, 2, none⟩ = some (.int .i64 x.loss))) w7) := two_cells (Fr.l Fr.id_ (CellW.stab _ _ _)) HK.out HS7.out; refine ⟨HE7.out, ?_⟩; clear hg hh
                  simp only [Act.put, List.setIfInBounds_toArray, List.set_cons_zero, List.set_cons_succ]
                  refine rests_done (by kernel_rfl) ?_
                  go_wp2
                  go_roundw
                  case rel => exact ⟨i + 1, _, _, _, _, _, _, by omega, by omega, by go_num, HTN.out, HSG.out, HSHN.out, by omega, by omega, HS7.out.drop⟩
                  case measure => simp [intOf] <;> omega
              · have z1 : IntKind.i64.wrap (1 : Int) = 1 := by decide
                have z0 : IntKind.i64.wrap (0 : Int) = 0 := by decide
                obtain ⟨htw, hle⟩ := HT.out.say1 x.loss
                have hsay := fun W (hs : Sd w (Star (H2 K g gp gt a0 a1 T0 T1 p0 p1 q0 q1) (CellW wr.heap.size #[.int .i64 x.kind, .int .i64 x.n, .int .i64 x.loss, .string x.body] 67)) W) => two_say1 (C := fun X => Star X (CellW wr.heap.size #[.int .i64 x.kind, .int .i64 x.n, .int .i64 x.loss, .string x.body] 67)) (Fr.l Fr.id_ (CellW.stab _ _ _)) (fun R hR => hR.star (CellW.stab _ _ _)) HK.out x.loss HT.out.ok1 HSH1.out hs
                have HSHN := Lib.hid (short_hear x.loss T1.says 0 T0 0 HSH0.out)
                have HSG := Lib.hid (short_go HSH1.out)
                obtain ⟨rb, hrb⟩ : ∃ r, (hearM x.loss T1.says 0 T0 0).1 = r := ⟨_, rfl⟩
                obtain ⟨rn, hrn⟩ : ∃ r, (hearM x.loss T1.says 0 T0 0).2 = r := ⟨_, rfl⟩
                simp only [hrb, hrn] at htw hle hsay HSHN
                have hle0 := HT.out.d0.le HT.out.ok0.out
                have hle1 := HT.out.d1.le HT.out.ok1.out
                have e7 : IntKind.i64.wrap ((q0 : Int) + (rn : Int)) = (q0 : Int) + (rn : Int) := IntWalk.i64_in _ (by omega)
                have HTN := Lib.hid htw
                have HSAY : Hid (∀ W, Sd w (Star (H2 K g gp gt a0 a1 T0 T1 p0 p1 q0 q1) (CellW wr.heap.size #[.int .i64 x.kind, .int .i64 x.n, .int .i64 x.loss, .string x.body] 67)) W → Calls Tryz.prog 46 #[.pointer (some a1), .pointer (some a0), .int .i64 x.loss] W fun e w' => e = .returned (.int .i64 (rn : Int)) ∧ Sd w (Star (H2 K g gp gt a0 a1 rb T1.go p0 p1 q0 q1) (CellW wr.heap.size #[.int .i64 x.kind, .int .i64 x.n, .int .i64 x.loss, .string x.body] 67)) w') := hsay
                clear htw hle hsay hrb hrn hle0 hle1
                go_wp2_with (first
                  | (with_reducible refine wpList_load_mid rfl 67 (.tmp 44) rfl b (off + i * 4) rfl (stc x) _ HRG.out Tryz.underlying67 rfl (by kernel_rfl) ?_)
                  | ((with_reducible refine wpList_storeBSd (C := fun X => Star (H2 K g gp gt a0 a1 T0 T1 p0 p1 q0 q1) X) (Fr.r (H2.stab HK.out) Fr.id_) (HS2.out.add (H2.stab HK.out) (CellW.new wr #[.int .i64 0, .int .i64 0, .int .i64 0, .string ⟨#[]⟩] 67)) rfl 67 (.tmp 12) (.tmp 45) rfl #[.int .i64 x.kind, .int .i64 x.n, .int .i64 x.loss, .string x.body] rfl rfl (by kernel_rfl) rfl (by simp [Value.oneCell']) ?_); intro w4 hs; have HS4 := Lib.hid hs; have c0_4 : w4.cell? ⟨wr.heap.size, 0, none⟩ = some (.int .i64 x.kind) := cell_at (Sd.at_ (C := fun X => Star (H2 K g gp gt a0 a1 T0 T1 p0 p1 q0 q1) X) (Fr.r (H2.stab HK.out) Fr.id_) hs) 0 _ rfl; have c1_4 : w4.cell? ⟨wr.heap.size, 1, none⟩ = some (.int .i64 x.n) := cell_at (Sd.at_ (C := fun X => Star (H2 K g gp gt a0 a1 T0 T1 p0 p1 q0 q1) X) (Fr.r (H2.stab HK.out) Fr.id_) hs) 1 _ rfl; have hg_4 := two_heapG (C := fun X => Star X (CellW wr.heap.size #[.int .i64 x.kind, .int .i64 x.n, .int .i64 x.loss, .string x.body] 67)) (Fr.l Fr.id_ (CellW.stab _ _ _)) HK.out hs; have pp0_4 := cell_at hg_4 0 _ rfl; have pp1_4 := cell_at hg_4 1 _ rfl; have hp_4 := two_heapP (C := fun X => Star X (CellW wr.heap.size #[.int .i64 x.kind, .int .i64 x.n, .int .i64 x.loss, .string x.body] 67)) (Fr.l Fr.id_ (CellW.stab _ _ _)) HK.out hs; have pc0_4 := cell_at hp_4 0 _ rfl; have pc1_4 := cell_at hp_4 1 _ rfl; clear hg_4 hp_4; clear hs))
                have HS4d : Hid (Sd w (Star (H2 K g gp gt a0 a1 T0 T1 p0 p1 q0 q1) (CellW wr.heap.size #[.int .i64 x.kind, .int .i64 x.n, .int .i64 x.loss, .string x.body] 67)) w4.drew) := HS4.out.drew ((H2.stab HK.out).star (CellW.stab _ _ _))
                have HE4d : Hid ((fun W => (W.cell? ⟨g, 0, none⟩ = some (.pointer (some a0)) ∧ W.cell? ⟨g, 1, none⟩ = some (.pointer (some a1))) ∧ (W.cell? ⟨wr.heap.size, 1, none⟩ = some (.int .i64 x.n) ∧ W.cell? ⟨wr.heap.size, 2, none⟩ = some (.int .i64 x.loss))) w4.drew) := two_cells (Fr.l Fr.id_ (CellW.stab _ _ _)) HK.out HS4d.out
                refine rests_begin (fun W => (W.cell? ⟨g, 0, none⟩ = some (.pointer (some a0)) ∧ W.cell? ⟨g, 1, none⟩ = some (.pointer (some a1))) ∧ (W.cell? ⟨wr.heap.size, 1, none⟩ = some (.int .i64 x.n) ∧ W.cell? ⟨wr.heap.size, 2, none⟩ = some (.int .i64 x.loss))) (by kernel_rfl) ?_
                refine rests_take 0 (oi := _) (v := ?_) (by simp only [List.getElem?_toArray, List.getElem?_cons_zero]; rfl) (by kernel_rfl) (by kernel_rfl) (by kernel_rfl) (by exact fun _ _ _ h => h) (HE4d.out) (by rfl) ?_ ?_; rotate_left; (· intro W HW; go_simp; try with_reducible rfl)
                simp only [Act.put, List.setIfInBounds_toArray, List.set_cons_zero, List.set_cons_succ]
                refine rests_take 1 (oi := _) (v := ?_) (by simp only [List.getElem?_toArray, List.getElem?_cons_succ, List.getElem?_cons_zero]; rfl) (by kernel_rfl) (by kernel_rfl) (by kernel_rfl) (by exact fun _ _ _ h => h) (HE4d.out) (by rfl) ?_ ?_; rotate_left; (· intro W HW; obtain ⟨⟨cg0, cg1⟩, cs1, cs2⟩ := HW; go_simp; try with_reducible rfl)
                simp only [Act.put, List.setIfInBounds_toArray, List.set_cons_zero, List.set_cons_succ]
                refine rests_take 2 (oi := _) (v := ?_) (by simp only [List.getElem?_toArray, List.getElem?_cons_succ, List.getElem?_cons_zero]; rfl) (by kernel_rfl) (by kernel_rfl) (by kernel_rfl) (by exact fun _ _ _ h => h) (HE4d.out) (by rfl) ?_ ?_; rotate_left; (· intro W HW; go_simp; try with_reducible rfl)
                simp only [Act.put, List.setIfInBounds_toArray, List.set_cons_zero, List.set_cons_succ]
                refine rests_take 3 (oi := _) (v := ?_) (by simp only [List.getElem?_toArray, List.getElem?_cons_succ, List.getElem?_cons_zero]; rfl) (by kernel_rfl) (by kernel_rfl) (by kernel_rfl) (by exact fun _ _ _ h => h) (HE4d.out) (by rfl) ?_ ?_; rotate_left; (· intro W HW; go_simp; try with_reducible rfl)
                simp only [Act.put, List.setIfInBounds_toArray, List.set_cons_zero, List.set_cons_succ]
                refine rests_take 4 (oi := _) (v := ?_) (by simp only [List.getElem?_toArray, List.getElem?_cons_succ, List.getElem?_cons_zero]; rfl) (by kernel_rfl) (by kernel_rfl) (by kernel_rfl) (by exact fun _ _ _ h => h) (HE4d.out) (by rfl) ?_ ?_; rotate_left; (· intro W HW; go_simp; try with_reducible rfl)
                simp only [Act.put, List.setIfInBounds_toArray, List.set_cons_zero, List.set_cons_succ]
                refine rests_take 6 (oi := _) (v := ?_) (by simp only [List.getElem?_toArray, List.getElem?_cons_succ, List.getElem?_cons_zero]; rfl) (by kernel_rfl) (by kernel_rfl) (by kernel_rfl) (by exact fun _ _ _ h => h) (HE4d.out) (by rfl) ?_ ?_; rotate_left; (· intro W HW; go_simp; try with_reducible rfl)
                simp only [Act.put, List.setIfInBounds_toArray, List.set_cons_zero, List.set_cons_succ]
                refine rests_take 7 (oi := _) (v := ?_) (by simp only [List.getElem?_toArray, List.getElem?_cons_succ, List.getElem?_cons_zero]; rfl) (by kernel_rfl) (by kernel_rfl) (by kernel_rfl) (by exact fun _ _ _ h => h) (HE4d.out) (by rfl) ?_ ?_; rotate_left; (· intro W HW; obtain ⟨⟨cg0, cg1⟩, cs1, cs2⟩ := HW; go_simp; try with_reducible rfl)
                simp only [Act.put, List.setIfInBounds_toArray, List.set_cons_zero, List.set_cons_succ]
                refine rests_take 8 (oi := _) (v := ?_) (by simp only [List.getElem?_toArray, List.getElem?_cons_succ, List.getElem?_cons_zero]; rfl) (by kernel_rfl) (by kernel_rfl) (by kernel_rfl) (by exact fun _ _ _ h => h) (HE4d.out) (by rfl) ?_ ?_; rotate_left; (· intro W HW; go_simp; try with_reducible rfl)
                simp only [Act.put, List.setIfInBounds_toArray, List.set_cons_zero, List.set_cons_succ]
                refine rests_take 9 (oi := _) (v := ?_) (by simp only [List.getElem?_toArray, List.getElem?_cons_succ, List.getElem?_cons_zero]; rfl) (by kernel_rfl) (by kernel_rfl) (by kernel_rfl) (by exact fun _ _ _ h => h) (HE4d.out) (by rfl) ?_ ?_; rotate_left; (· intro W HW; go_simp; try with_reducible rfl)
                simp only [Act.put, List.setIfInBounds_toArray, List.set_cons_zero, List.set_cons_succ]
                refine rests_take 10 (oi := _) (v := ?_) (by simp only [List.getElem?_toArray, List.getElem?_cons_succ, List.getElem?_cons_zero]; rfl) (by kernel_rfl) (by kernel_rfl) (by kernel_rfl) (by exact fun _ _ _ h => h) (HE4d.out) (by rfl) ?_ ?_; rotate_left; (· intro W HW; obtain ⟨⟨cg0, cg1⟩, cs1, cs2⟩ := HW; go_simp; try with_reducible rfl)
                simp only [Act.put, List.setIfInBounds_toArray, List.set_cons_zero, List.set_cons_succ]
                refine rests_take 11 (oi := _) (v := ?_) (by simp only [List.getElem?_toArray, List.getElem?_cons_succ, List.getElem?_cons_zero]; rfl) (by kernel_rfl) (by kernel_rfl) (by kernel_rfl) (by exact fun _ _ _ h => h) (HE4d.out) (by rfl) ?_ ?_; rotate_left; (· intro W HW; go_simp; try with_reducible rfl)
                simp only [Act.put, List.setIfInBounds_toArray, List.set_cons_zero, List.set_cons_succ]
                refine rests_take 12 (oi := _) (v := ?_) (by simp only [List.getElem?_toArray, List.getElem?_cons_succ, List.getElem?_cons_zero]; rfl) (by kernel_rfl) (by kernel_rfl) (by kernel_rfl) (by exact fun _ _ _ h => h) (HE4d.out) (by rfl) ?_ ?_; rotate_left; (· intro W HW; obtain ⟨⟨cg0, cg1⟩, cs1, cs2⟩ := HW; go_simp; try with_reducible rfl)
                simp only [Act.put, List.setIfInBounds_toArray, List.set_cons_zero, List.set_cons_succ]
                refine rests_take 13 (oi := _) (v := ?_) (by simp only [List.getElem?_toArray, List.getElem?_cons_succ, List.getElem?_cons_zero]; rfl) (by kernel_rfl) (by kernel_rfl) (by kernel_rfl) (by exact fun _ _ _ h => h) (HE4d.out) (by rfl) ?_ ?_; rotate_left; (· intro W HW; go_simp; try with_reducible rfl)
                simp only [Act.put, List.setIfInBounds_toArray, List.set_cons_zero, List.set_cons_succ]
                refine rests_take 14 (oi := _) (v := ?_) (by simp only [List.getElem?_toArray, List.getElem?_cons_succ, List.getElem?_cons_zero]; rfl) (by kernel_rfl) (by kernel_rfl) (by kernel_rfl) (by exact fun _ _ _ h => h) (HE4d.out) (by rfl) ?_ ?_; rotate_left; (· intro W HW; go_simp; try with_reducible rfl)
                simp only [Act.put, List.setIfInBounds_toArray, List.set_cons_zero, List.set_cons_succ]
                refine rests_take 15 (oi := _) (v := ?_) (by simp only [List.getElem?_toArray, List.getElem?_cons_succ, List.getElem?_cons_zero]; rfl) (by kernel_rfl) (by kernel_rfl) (by kernel_rfl) (by exact fun _ _ _ h => h) (HE4d.out) (by rfl) ?_ ?_; rotate_left; (· intro W HW; go_simp; try with_reducible rfl)
                simp only [Act.put, List.setIfInBounds_toArray, List.set_cons_zero, List.set_cons_succ]
                refine rests_take 16 (oi := _) (v := ?_) (by simp only [List.getElem?_toArray, List.getElem?_cons_succ, List.getElem?_cons_zero]; rfl) (by kernel_rfl) (by kernel_rfl) (by kernel_rfl) (by exact fun _ _ _ h => h) (HE4d.out) (by rfl) ?_ ?_; rotate_left; (· intro W HW; obtain ⟨⟨cg0, cg1⟩, cs1, cs2⟩ := HW; go_simp; try with_reducible rfl)
                simp only [Act.put, List.setIfInBounds_toArray, List.set_cons_zero, List.set_cons_succ]
                refine rests_take 17 (oi := _) (v := ?_) (by simp only [List.getElem?_toArray, List.getElem?_cons_succ, List.getElem?_cons_zero]; rfl) (by kernel_rfl) (by kernel_rfl) (by kernel_rfl) (by exact fun _ _ _ h => h) (HE4d.out) (by rfl) ?_ ?_; rotate_left; (· intro W HW; go_simp; try with_reducible rfl)
                simp only [Act.put, List.setIfInBounds_toArray, List.set_cons_zero, List.set_cons_succ]
                refine rests_take 18 (oi := _) (v := ?_) (by simp only [List.getElem?_toArray, List.getElem?_cons_succ, List.getElem?_cons_zero]; rfl) (by kernel_rfl) (by kernel_rfl) (by kernel_rfl) (by exact fun _ _ _ h => h) (HE4d.out) (by rfl) ?_ ?_; rotate_left; (· intro W HW; obtain ⟨⟨cg0, cg1⟩, cs1, cs2⟩ := HW; go_simp; try with_reducible rfl)
                simp only [Act.put, List.setIfInBounds_toArray, List.set_cons_zero, List.set_cons_succ]
                refine rests_two 5 19 (oi := _) (oj := _) (by simp only [List.getElem?_toArray, List.getElem?_cons_succ, List.getElem?_cons_zero]; rfl) (by simp only [List.getElem?_toArray, List.getElem?_cons_succ, List.getElem?_cons_zero]; rfl) (by kernel_rfl) (by rfl) (by rfl) ?_ ?_
                · have cq5 : (w4.drew).cell? ⟨gt, 0, none⟩ = some (.int .i64 (q0 : Int)) := cell_at (two_heapQ (C := fun X => Star X (CellW wr.heap.size #[.int .i64 x.kind, .int .i64 x.n, .int .i64 x.loss, .string x.body] 67)) (Fr.l Fr.id_ (CellW.stab _ _ _)) HK.out HS4d.out) 0 _ rfl
                  refine wp_val (v := .int .i64 (q0 : Int)) (w' := w4.drew) (by go_simp) ⟨HE4d.out, ?_⟩
                  simp only [Act.put, List.setIfInBounds_toArray, List.set_cons_zero, List.set_cons_succ]
                  refine rests_call 19 (oi := _) (by simp only [List.getElem?_toArray, List.getElem?_cons_succ, List.getElem?_cons_zero]; rfl) 46 #[.pointer (some a1), .pointer (some a0), .int .i64 x.loss] _ (by kernel_rfl) (by rfl) (by go_simp) ((HSAY.out _) (HS4d.out)) ?_
                  rintro e w6 ⟨rfl, hs⟩; have HS6 := Lib.hid hs; have HE6 : Hid ((fun W => (W.cell? ⟨g, 0, none⟩ = some (.pointer (some a0)) ∧ W.cell? ⟨g, 1, none⟩ = some (.pointer (some a1))) ∧ (W.cell? ⟨wr.heap.size, 1, none⟩ = some (.int .i64 x.n) ∧ W.cell? ⟨wr.heap.size, 2, none⟩ = some (.int .i64 x.loss))) w6) := two_cells (Fr.l Fr.id_ (CellW.stab _ _ _)) HK.out hs; refine ⟨_, rfl, HE6.out, ?_⟩; clear hs
                  simp only [Act.put, List.setIfInBounds_toArray, List.set_cons_zero, List.set_cons_succ]
                  refine rests_take 20 (oi := _) (v := ?_) (by simp only [List.getElem?_toArray, List.getElem?_cons_succ, List.getElem?_cons_zero]; rfl) (by kernel_rfl) (by kernel_rfl) (by kernel_rfl) (by exact fun _ _ _ h => h) (HE6.out) (by rfl) ?_ ?_; rotate_left; (· intro W HW; go_simp; try with_reducible rfl)
                  simp only [Act.put, List.setIfInBounds_toArray, List.set_cons_zero, List.set_cons_succ]
                  refine rests_take 21 (oi := _) (v := ?_) (by simp only [List.getElem?_toArray, List.getElem?_cons_succ, List.getElem?_cons_zero]; rfl) (by kernel_rfl) (by kernel_rfl) (by kernel_rfl) (by exact fun _ _ _ h => h) (HE6.out) (by rfl) ?_ ?_; rotate_left; (· intro W HW; go_simp; try with_reducible rfl)
                  simp only [Act.put, List.setIfInBounds_toArray, List.set_cons_zero, List.set_cons_succ]
                  refine rests_store1 22 (oi := _) (by simp only [List.getElem?_toArray, List.getElem?_cons_succ, List.getElem?_cons_zero]; rfl) (by kernel_rfl) (by rfl) 3 (.tmp 100) (.tmp 99) rfl gt 0 (.int .i64 ((q0 : Int) + (rn : Int))) rfl rfl 65 _ (two_heapQ (C := fun X => Star X (CellW wr.heap.size #[.int .i64 x.kind, .int .i64 x.n, .int .i64 x.loss, .string x.body] 67)) (Fr.l Fr.id_ (CellW.stab _ _ _)) HK.out HS6.out) (by simp) (run_storeI _ _ _) ?_
                  intro w7 hg hh; have HS7 := Lib.hid (two_setQ (C := fun X => Star X (CellW wr.heap.size #[.int .i64 x.kind, .int .i64 x.n, .int .i64 x.loss, .string x.body] 67)) (r0 := q0 + rn) (r1 := q1) (Fr.l Fr.id_ (CellW.stab _ _ _)) HK.out HS6.out hg hh); have HE7 : Hid ((fun W => (W.cell? ⟨g, 0, none⟩ = some (.pointer (some a0)) ∧ W.cell? ⟨g, 1, none⟩ = some (.pointer (some a1))) ∧ (W.cell? ⟨wr.heap.size, 1, none⟩ = some (.int .i64 x.n) ∧ W.cell? ⟨wr.heap.size, 2, none⟩ = some (.int .i64 x.loss))) w7) := two_cells (Fr.l Fr.id_ (CellW.stab _ _ _)) HK.out HS7.out; refine ⟨HE7.out, ?_⟩; clear hg hh
                  simp only [Act.put, List.setIfInBounds_toArray, List.set_cons_zero, List.set_cons_succ]
                  refine rests_done (by kernel_rfl) ?_
                  go_wp2
                  go_roundw
                  case rel => exact ⟨i + 1, _, _, _, _, _, _, by omega, by omega, by go_num, HTN.out, HSHN.out, HSG.out, by omega, by omega, HS7.out.drop⟩
                  case measure => simp [intOf] <;> omega
                · refine wp_enter (f := 46) (args := #[.pointer (some a1), .pointer (some a0), .int .i64 x.loss]) (by go_simp) ((HSAY.out _) (HS4d.out)) ?_
                  rintro e w5 ⟨rfl, hs⟩; have HS5 := Lib.hid hs; have HE5 : Hid ((fun W => (W.cell? ⟨g, 0, none⟩ = some (.pointer (some a0)) ∧ W.cell? ⟨g, 1, none⟩ = some (.pointer (some a1))) ∧ (W.cell? ⟨wr.heap.size, 1, none⟩ = some (.int .i64 x.n) ∧ W.cell? ⟨wr.heap.size, 2, none⟩ = some (.int .i64 x.loss))) w5) := two_cells (Fr.l Fr.id_ (CellW.stab _ _ _)) HK.out hs; refine ⟨_, rfl, HE5.out, ?_⟩; clear hs
                  simp only [Act.put, List.setIfInBounds_toArray, List.set_cons_zero, List.set_cons_succ]
                  have cq6 : (w5).cell? ⟨gt, 0, none⟩ = some (.int .i64 (q0 : Int)) := cell_at (two_heapQ (C := fun X => Star X (CellW wr.heap.size #[.int .i64 x.kind, .int .i64 x.n, .int .i64 x.loss, .string x.body] 67)) (Fr.l Fr.id_ (CellW.stab _ _ _)) HK.out HS5.out) 0 _ rfl
                  refine rests_run 5 (oi := _) (by simp only [List.getElem?_toArray, List.getElem?_cons_succ, List.getElem?_cons_zero]; rfl) (by kernel_rfl) (by rfl) (.int .i64 (q0 : Int)) (w5) (by go_simp) ⟨HE5.out, ?_⟩
                  simp only [Act.put, List.setIfInBounds_toArray, List.set_cons_zero, List.set_cons_succ]
                  refine rests_take 20 (oi := _) (v := ?_) (by simp only [List.getElem?_toArray, List.getElem?_cons_succ, List.getElem?_cons_zero]; rfl) (by kernel_rfl) (by kernel_rfl) (by kernel_rfl) (by exact fun _ _ _ h => h) (HE5.out) (by rfl) ?_ ?_; rotate_left; (· intro W HW; go_simp; try with_reducible rfl)
                  simp only [Act.put, List.setIfInBounds_toArray, List.set_cons_zero, List.set_cons_succ]
                  refine rests_take 21 (oi := _) (v := ?_) (by simp only [List.getElem?_toArray, List.getElem?_cons_succ, List.getElem?_cons_zero]; rfl) (by kernel_rfl) (by kernel_rfl) (by kernel_rfl) (by exact fun _ _ _ h => h) (HE5.out) (by rfl) ?_ ?_; rotate_left; (· intro W HW; go_simp; try with_reducible rfl)
                  simp only [Act.put, List.setIfInBounds_toArray, List.set_cons_zero, List.set_cons_succ]
                  refine rests_store1 22 (oi := _) (by simp only [List.getElem?_toArray, List.getElem?_cons_succ, List.getElem?_cons_zero]; rfl) (by kernel_rfl) (by rfl) 3 (.tmp 100) (.tmp 99) rfl gt 0 (.int .i64 ((q0 : Int) + (rn : Int))) rfl rfl 65 _ (two_heapQ (C := fun X => Star X (CellW wr.heap.size #[.int .i64 x.kind, .int .i64 x.n, .int .i64 x.loss, .string x.body] 67)) (Fr.l Fr.id_ (CellW.stab _ _ _)) HK.out HS5.out) (by simp) (run_storeI _ _ _) ?_
                  intro w7 hg hh; have HS7 := Lib.hid (two_setQ (C := fun X => Star X (CellW wr.heap.size #[.int .i64 x.kind, .int .i64 x.n, .int .i64 x.loss, .string x.body] 67)) (r0 := q0 + rn) (r1 := q1) (Fr.l Fr.id_ (CellW.stab _ _ _)) HK.out HS5.out hg hh); have HE7 : Hid ((fun W => (W.cell? ⟨g, 0, none⟩ = some (.pointer (some a0)) ∧ W.cell? ⟨g, 1, none⟩ = some (.pointer (some a1))) ∧ (W.cell? ⟨wr.heap.size, 1, none⟩ = some (.int .i64 x.n) ∧ W.cell? ⟨wr.heap.size, 2, none⟩ = some (.int .i64 x.loss))) w7) := two_cells (Fr.l Fr.id_ (CellW.stab _ _ _)) HK.out HS7.out; refine ⟨HE7.out, ?_⟩; clear hg hh
                  simp only [Act.put, List.setIfInBounds_toArray, List.set_cons_zero, List.set_cons_succ]
                  refine rests_done (by kernel_rfl) ?_
                  go_wp2
                  go_roundw
                  case rel => exact ⟨i + 1, _, _, _, _, _, _, by omega, by omega, by go_num, HTN.out, HSHN.out, HSG.out, by omega, by omega, HS7.out.drop⟩
                  case measure => simp [intOf] <;> omega
            · have t4b : (x.kind == 1) = false := beq_eq_false_iff_ne.2 hk1
              clear hk0 hk1 hnb2
              rcases hm0 : T0.mine with _ | _
              · rcases hm1 : T1.mine with _ | _
                · have HM0 := Lib.hid hm0.symm
                  have HM1 := Lib.hid hm1.symm
                  clear hm0 hm1
                  go_wp2_with (first
                    | (with_reducible refine wpList_load_mid rfl 67 (.tmp 44) rfl b (off + i * 4) rfl (stc x) _ HRG.out Tryz.underlying67 rfl (by kernel_rfl) ?_)
                    | ((with_reducible refine wpList_storeBSd (C := fun X => Star (H2 K g gp gt a0 a1 T0 T1 p0 p1 q0 q1) X) (Fr.r (H2.stab HK.out) Fr.id_) (HS2.out.add (H2.stab HK.out) (CellW.new wr #[.int .i64 0, .int .i64 0, .int .i64 0, .string ⟨#[]⟩] 67)) rfl 67 (.tmp 12) (.tmp 45) rfl #[.int .i64 x.kind, .int .i64 x.n, .int .i64 x.loss, .string x.body] rfl rfl (by kernel_rfl) rfl (by simp [Value.oneCell']) ?_); intro w4 hs; have HS4 := Lib.hid hs; have c0_4 : w4.cell? ⟨wr.heap.size, 0, none⟩ = some (.int .i64 x.kind) := cell_at (Sd.at_ (C := fun X => Star (H2 K g gp gt a0 a1 T0 T1 p0 p1 q0 q1) X) (Fr.r (H2.stab HK.out) Fr.id_) hs) 0 _ rfl; have c1_4 : w4.cell? ⟨wr.heap.size, 1, none⟩ = some (.int .i64 x.n) := cell_at (Sd.at_ (C := fun X => Star (H2 K g gp gt a0 a1 T0 T1 p0 p1 q0 q1) X) (Fr.r (H2.stab HK.out) Fr.id_) hs) 1 _ rfl; have hg_4 := two_heapG (C := fun X => Star X (CellW wr.heap.size #[.int .i64 x.kind, .int .i64 x.n, .int .i64 x.loss, .string x.body] 67)) (Fr.l Fr.id_ (CellW.stab _ _ _)) HK.out hs; have pp0_4 := cell_at hg_4 0 _ rfl; have pp1_4 := cell_at hg_4 1 _ rfl; have hp_4 := two_heapP (C := fun X => Star X (CellW wr.heap.size #[.int .i64 x.kind, .int .i64 x.n, .int .i64 x.loss, .string x.body] 67)) (Fr.l Fr.id_ (CellW.stab _ _ _)) HK.out hs; have pc0_4 := cell_at hp_4 0 _ rfl; have pc1_4 := cell_at hp_4 1 _ rfl; clear hg_4 hp_4; clear hs)
                    | (go_at_call 43; first | ((with_reducible refine (two_mine0 (C := fun X => Star X (CellW wr.heap.size #[.int .i64 x.kind, .int .i64 x.n, .int .i64 x.loss, .string x.body] 67)) (Fr.l Fr.id_ (CellW.stab _ _ _)) (fun R hR => hR.star (CellW.stab _ _ _)) HK.out HM0.out HS4.out).mono ?_); rintro e w5 ⟨rfl, hs⟩; have HS5 := Lib.hid hs; have c0_5 : w5.cell? ⟨wr.heap.size, 0, none⟩ = some (.int .i64 x.kind) := cell_at (Sd.at_ (C := fun X => Star (H2 K g gp gt a0 a1 T0 T1 p0 p1 q0 q1) X) (Fr.r (H2.stab HK.out) Fr.id_) hs) 0 _ rfl; have c1_5 : w5.cell? ⟨wr.heap.size, 1, none⟩ = some (.int .i64 x.n) := cell_at (Sd.at_ (C := fun X => Star (H2 K g gp gt a0 a1 T0 T1 p0 p1 q0 q1) X) (Fr.r (H2.stab HK.out) Fr.id_) hs) 1 _ rfl; have hg_5 := two_heapG (C := fun X => Star X (CellW wr.heap.size #[.int .i64 x.kind, .int .i64 x.n, .int .i64 x.loss, .string x.body] 67)) (Fr.l Fr.id_ (CellW.stab _ _ _)) HK.out hs; have pp0_5 := cell_at hg_5 0 _ rfl; have pp1_5 := cell_at hg_5 1 _ rfl; have hp_5 := two_heapP (C := fun X => Star X (CellW wr.heap.size #[.int .i64 x.kind, .int .i64 x.n, .int .i64 x.loss, .string x.body] 67)) (Fr.l Fr.id_ (CellW.stab _ _ _)) HK.out hs; have pc0_5 := cell_at hp_5 0 _ rfl; have pc1_5 := cell_at hp_5 1 _ rfl; clear hg_5 hp_5; clear hs) | ((with_reducible refine (two_mine1 (C := fun X => Star X (CellW wr.heap.size #[.int .i64 x.kind, .int .i64 x.n, .int .i64 x.loss, .string x.body] 67)) (Fr.l Fr.id_ (CellW.stab _ _ _)) (fun R hR => hR.star (CellW.stab _ _ _)) HK.out HM1.out HS5.out).mono ?_); rintro e w6 ⟨rfl, hs⟩; have HS6 := Lib.hid hs; have c0_6 : w6.cell? ⟨wr.heap.size, 0, none⟩ = some (.int .i64 x.kind) := cell_at (Sd.at_ (C := fun X => Star (H2 K g gp gt a0 a1 T0 T1 p0 p1 q0 q1) X) (Fr.r (H2.stab HK.out) Fr.id_) hs) 0 _ rfl; have c1_6 : w6.cell? ⟨wr.heap.size, 1, none⟩ = some (.int .i64 x.n) := cell_at (Sd.at_ (C := fun X => Star (H2 K g gp gt a0 a1 T0 T1 p0 p1 q0 q1) X) (Fr.r (H2.stab HK.out) Fr.id_) hs) 1 _ rfl; have hg_6 := two_heapG (C := fun X => Star X (CellW wr.heap.size #[.int .i64 x.kind, .int .i64 x.n, .int .i64 x.loss, .string x.body] 67)) (Fr.l Fr.id_ (CellW.stab _ _ _)) HK.out hs; have pp0_6 := cell_at hg_6 0 _ rfl; have pp1_6 := cell_at hg_6 1 _ rfl; have hp_6 := two_heapP (C := fun X => Star X (CellW wr.heap.size #[.int .i64 x.kind, .int .i64 x.n, .int .i64 x.loss, .string x.body] 67)) (Fr.l Fr.id_ (CellW.stab _ _ _)) HK.out hs; have pc0_6 := cell_at hp_6 0 _ rfl; have pc1_6 := cell_at hp_6 1 _ rfl; clear hg_6 hp_6; clear hs))
                    | (go_at_call 39; ((with_reducible refine (two_late (C := fun X => Star X (CellW wr.heap.size #[.int .i64 x.kind, .int .i64 x.n, .int .i64 x.loss, .string x.body] 67)) (Fr.l Fr.id_ (CellW.stab _ _ _)) HK.out rfl HS6.out).mono ?_); rintro e w7 ⟨rfl, hs⟩; have HS7 := Lib.hid hs; clear hs)))
                  go_roundw
                  case rel => exact ⟨i + 1, _, _, _, _, _, _, by omega, by omega, by go_num, HT.out.late, HSH0.out, HSH1.out, by omega, by omega, HS7.out.drop⟩
                  case measure => simp [intOf] <;> omega
                · have HM0 := Lib.hid hm0.symm
                  have HM1 := Lib.hid hm1.symm
                  clear hm0 hm1
                  go_wp2_with (first
                    | (with_reducible refine wpList_load_mid rfl 67 (.tmp 44) rfl b (off + i * 4) rfl (stc x) _ HRG.out Tryz.underlying67 rfl (by kernel_rfl) ?_)
                    | ((with_reducible refine wpList_storeBSd (C := fun X => Star (H2 K g gp gt a0 a1 T0 T1 p0 p1 q0 q1) X) (Fr.r (H2.stab HK.out) Fr.id_) (HS2.out.add (H2.stab HK.out) (CellW.new wr #[.int .i64 0, .int .i64 0, .int .i64 0, .string ⟨#[]⟩] 67)) rfl 67 (.tmp 12) (.tmp 45) rfl #[.int .i64 x.kind, .int .i64 x.n, .int .i64 x.loss, .string x.body] rfl rfl (by kernel_rfl) rfl (by simp [Value.oneCell']) ?_); intro w4 hs; have HS4 := Lib.hid hs; have c0_4 : w4.cell? ⟨wr.heap.size, 0, none⟩ = some (.int .i64 x.kind) := cell_at (Sd.at_ (C := fun X => Star (H2 K g gp gt a0 a1 T0 T1 p0 p1 q0 q1) X) (Fr.r (H2.stab HK.out) Fr.id_) hs) 0 _ rfl; have c1_4 : w4.cell? ⟨wr.heap.size, 1, none⟩ = some (.int .i64 x.n) := cell_at (Sd.at_ (C := fun X => Star (H2 K g gp gt a0 a1 T0 T1 p0 p1 q0 q1) X) (Fr.r (H2.stab HK.out) Fr.id_) hs) 1 _ rfl; have hg_4 := two_heapG (C := fun X => Star X (CellW wr.heap.size #[.int .i64 x.kind, .int .i64 x.n, .int .i64 x.loss, .string x.body] 67)) (Fr.l Fr.id_ (CellW.stab _ _ _)) HK.out hs; have pp0_4 := cell_at hg_4 0 _ rfl; have pp1_4 := cell_at hg_4 1 _ rfl; have hp_4 := two_heapP (C := fun X => Star X (CellW wr.heap.size #[.int .i64 x.kind, .int .i64 x.n, .int .i64 x.loss, .string x.body] 67)) (Fr.l Fr.id_ (CellW.stab _ _ _)) HK.out hs; have pc0_4 := cell_at hp_4 0 _ rfl; have pc1_4 := cell_at hp_4 1 _ rfl; clear hg_4 hp_4; clear hs)
                    | (go_at_call 43; first | ((with_reducible refine (two_mine0 (C := fun X => Star X (CellW wr.heap.size #[.int .i64 x.kind, .int .i64 x.n, .int .i64 x.loss, .string x.body] 67)) (Fr.l Fr.id_ (CellW.stab _ _ _)) (fun R hR => hR.star (CellW.stab _ _ _)) HK.out HM0.out HS4.out).mono ?_); rintro e w5 ⟨rfl, hs⟩; have HS5 := Lib.hid hs; have c0_5 : w5.cell? ⟨wr.heap.size, 0, none⟩ = some (.int .i64 x.kind) := cell_at (Sd.at_ (C := fun X => Star (H2 K g gp gt a0 a1 T0 T1 p0 p1 q0 q1) X) (Fr.r (H2.stab HK.out) Fr.id_) hs) 0 _ rfl; have c1_5 : w5.cell? ⟨wr.heap.size, 1, none⟩ = some (.int .i64 x.n) := cell_at (Sd.at_ (C := fun X => Star (H2 K g gp gt a0 a1 T0 T1 p0 p1 q0 q1) X) (Fr.r (H2.stab HK.out) Fr.id_) hs) 1 _ rfl; have hg_5 := two_heapG (C := fun X => Star X (CellW wr.heap.size #[.int .i64 x.kind, .int .i64 x.n, .int .i64 x.loss, .string x.body] 67)) (Fr.l Fr.id_ (CellW.stab _ _ _)) HK.out hs; have pp0_5 := cell_at hg_5 0 _ rfl; have pp1_5 := cell_at hg_5 1 _ rfl; have hp_5 := two_heapP (C := fun X => Star X (CellW wr.heap.size #[.int .i64 x.kind, .int .i64 x.n, .int .i64 x.loss, .string x.body] 67)) (Fr.l Fr.id_ (CellW.stab _ _ _)) HK.out hs; have pc0_5 := cell_at hp_5 0 _ rfl; have pc1_5 := cell_at hp_5 1 _ rfl; clear hg_5 hp_5; clear hs) | ((with_reducible refine (two_mine1 (C := fun X => Star X (CellW wr.heap.size #[.int .i64 x.kind, .int .i64 x.n, .int .i64 x.loss, .string x.body] 67)) (Fr.l Fr.id_ (CellW.stab _ _ _)) (fun R hR => hR.star (CellW.stab _ _ _)) HK.out HM1.out HS5.out).mono ?_); rintro e w6 ⟨rfl, hs⟩; have HS6 := Lib.hid hs; have c0_6 : w6.cell? ⟨wr.heap.size, 0, none⟩ = some (.int .i64 x.kind) := cell_at (Sd.at_ (C := fun X => Star (H2 K g gp gt a0 a1 T0 T1 p0 p1 q0 q1) X) (Fr.r (H2.stab HK.out) Fr.id_) hs) 0 _ rfl; have c1_6 : w6.cell? ⟨wr.heap.size, 1, none⟩ = some (.int .i64 x.n) := cell_at (Sd.at_ (C := fun X => Star (H2 K g gp gt a0 a1 T0 T1 p0 p1 q0 q1) X) (Fr.r (H2.stab HK.out) Fr.id_) hs) 1 _ rfl; have hg_6 := two_heapG (C := fun X => Star X (CellW wr.heap.size #[.int .i64 x.kind, .int .i64 x.n, .int .i64 x.loss, .string x.body] 67)) (Fr.l Fr.id_ (CellW.stab _ _ _)) HK.out hs; have pp0_6 := cell_at hg_6 0 _ rfl; have pp1_6 := cell_at hg_6 1 _ rfl; have hp_6 := two_heapP (C := fun X => Star X (CellW wr.heap.size #[.int .i64 x.kind, .int .i64 x.n, .int .i64 x.loss, .string x.body] 67)) (Fr.l Fr.id_ (CellW.stab _ _ _)) HK.out hs; have pc0_6 := cell_at hp_6 0 _ rfl; have pc1_6 := cell_at hp_6 1 _ rfl; clear hg_6 hp_6; clear hs))
                    | (go_at_call 39; ((with_reducible refine (two_late (C := fun X => Star X (CellW wr.heap.size #[.int .i64 x.kind, .int .i64 x.n, .int .i64 x.loss, .string x.body] 67)) (Fr.l Fr.id_ (CellW.stab _ _ _)) HK.out rfl HS6.out).mono ?_); rintro e w7 ⟨rfl, hs⟩; have HS7 := Lib.hid hs; clear hs)))
                  go_roundw
                  case rel => exact ⟨i + 1, _, _, _, _, _, _, by omega, by omega, by go_num, HT.out, HSH0.out, HSH1.out, by omega, by omega, HS6.out.drop⟩
                  case measure => simp [intOf] <;> omega
              · have hm1 : T1.mine = T1.mine := rfl
                have HM0 := Lib.hid hm0.symm
                have HM1 := Lib.hid hm1.symm
                clear hm0 hm1
                go_wp2_with (first
                  | (with_reducible refine wpList_load_mid rfl 67 (.tmp 44) rfl b (off + i * 4) rfl (stc x) _ HRG.out Tryz.underlying67 rfl (by kernel_rfl) ?_)
                  | ((with_reducible refine wpList_storeBSd (C := fun X => Star (H2 K g gp gt a0 a1 T0 T1 p0 p1 q0 q1) X) (Fr.r (H2.stab HK.out) Fr.id_) (HS2.out.add (H2.stab HK.out) (CellW.new wr #[.int .i64 0, .int .i64 0, .int .i64 0, .string ⟨#[]⟩] 67)) rfl 67 (.tmp 12) (.tmp 45) rfl #[.int .i64 x.kind, .int .i64 x.n, .int .i64 x.loss, .string x.body] rfl rfl (by kernel_rfl) rfl (by simp [Value.oneCell']) ?_); intro w4 hs; have HS4 := Lib.hid hs; have c0_4 : w4.cell? ⟨wr.heap.size, 0, none⟩ = some (.int .i64 x.kind) := cell_at (Sd.at_ (C := fun X => Star (H2 K g gp gt a0 a1 T0 T1 p0 p1 q0 q1) X) (Fr.r (H2.stab HK.out) Fr.id_) hs) 0 _ rfl; have c1_4 : w4.cell? ⟨wr.heap.size, 1, none⟩ = some (.int .i64 x.n) := cell_at (Sd.at_ (C := fun X => Star (H2 K g gp gt a0 a1 T0 T1 p0 p1 q0 q1) X) (Fr.r (H2.stab HK.out) Fr.id_) hs) 1 _ rfl; have hg_4 := two_heapG (C := fun X => Star X (CellW wr.heap.size #[.int .i64 x.kind, .int .i64 x.n, .int .i64 x.loss, .string x.body] 67)) (Fr.l Fr.id_ (CellW.stab _ _ _)) HK.out hs; have pp0_4 := cell_at hg_4 0 _ rfl; have pp1_4 := cell_at hg_4 1 _ rfl; have hp_4 := two_heapP (C := fun X => Star X (CellW wr.heap.size #[.int .i64 x.kind, .int .i64 x.n, .int .i64 x.loss, .string x.body] 67)) (Fr.l Fr.id_ (CellW.stab _ _ _)) HK.out hs; have pc0_4 := cell_at hp_4 0 _ rfl; have pc1_4 := cell_at hp_4 1 _ rfl; clear hg_4 hp_4; clear hs)
                  | (go_at_call 43; first | ((with_reducible refine (two_mine0 (C := fun X => Star X (CellW wr.heap.size #[.int .i64 x.kind, .int .i64 x.n, .int .i64 x.loss, .string x.body] 67)) (Fr.l Fr.id_ (CellW.stab _ _ _)) (fun R hR => hR.star (CellW.stab _ _ _)) HK.out HM0.out HS4.out).mono ?_); rintro e w5 ⟨rfl, hs⟩; have HS5 := Lib.hid hs; have c0_5 : w5.cell? ⟨wr.heap.size, 0, none⟩ = some (.int .i64 x.kind) := cell_at (Sd.at_ (C := fun X => Star (H2 K g gp gt a0 a1 T0 T1 p0 p1 q0 q1) X) (Fr.r (H2.stab HK.out) Fr.id_) hs) 0 _ rfl; have c1_5 : w5.cell? ⟨wr.heap.size, 1, none⟩ = some (.int .i64 x.n) := cell_at (Sd.at_ (C := fun X => Star (H2 K g gp gt a0 a1 T0 T1 p0 p1 q0 q1) X) (Fr.r (H2.stab HK.out) Fr.id_) hs) 1 _ rfl; have hg_5 := two_heapG (C := fun X => Star X (CellW wr.heap.size #[.int .i64 x.kind, .int .i64 x.n, .int .i64 x.loss, .string x.body] 67)) (Fr.l Fr.id_ (CellW.stab _ _ _)) HK.out hs; have pp0_5 := cell_at hg_5 0 _ rfl; have pp1_5 := cell_at hg_5 1 _ rfl; have hp_5 := two_heapP (C := fun X => Star X (CellW wr.heap.size #[.int .i64 x.kind, .int .i64 x.n, .int .i64 x.loss, .string x.body] 67)) (Fr.l Fr.id_ (CellW.stab _ _ _)) HK.out hs; have pc0_5 := cell_at hp_5 0 _ rfl; have pc1_5 := cell_at hp_5 1 _ rfl; clear hg_5 hp_5; clear hs) | ((with_reducible refine (two_mine1 (C := fun X => Star X (CellW wr.heap.size #[.int .i64 x.kind, .int .i64 x.n, .int .i64 x.loss, .string x.body] 67)) (Fr.l Fr.id_ (CellW.stab _ _ _)) (fun R hR => hR.star (CellW.stab _ _ _)) HK.out HM1.out HS5.out).mono ?_); rintro e w6 ⟨rfl, hs⟩; have HS6 := Lib.hid hs; have c0_6 : w6.cell? ⟨wr.heap.size, 0, none⟩ = some (.int .i64 x.kind) := cell_at (Sd.at_ (C := fun X => Star (H2 K g gp gt a0 a1 T0 T1 p0 p1 q0 q1) X) (Fr.r (H2.stab HK.out) Fr.id_) hs) 0 _ rfl; have c1_6 : w6.cell? ⟨wr.heap.size, 1, none⟩ = some (.int .i64 x.n) := cell_at (Sd.at_ (C := fun X => Star (H2 K g gp gt a0 a1 T0 T1 p0 p1 q0 q1) X) (Fr.r (H2.stab HK.out) Fr.id_) hs) 1 _ rfl; have hg_6 := two_heapG (C := fun X => Star X (CellW wr.heap.size #[.int .i64 x.kind, .int .i64 x.n, .int .i64 x.loss, .string x.body] 67)) (Fr.l Fr.id_ (CellW.stab _ _ _)) HK.out hs; have pp0_6 := cell_at hg_6 0 _ rfl; have pp1_6 := cell_at hg_6 1 _ rfl; have hp_6 := two_heapP (C := fun X => Star X (CellW wr.heap.size #[.int .i64 x.kind, .int .i64 x.n, .int .i64 x.loss, .string x.body] 67)) (Fr.l Fr.id_ (CellW.stab _ _ _)) HK.out hs; have pc0_6 := cell_at hp_6 0 _ rfl; have pc1_6 := cell_at hp_6 1 _ rfl; clear hg_6 hp_6; clear hs))
                  | (go_at_call 39; ((with_reducible refine (two_late (C := fun X => Star X (CellW wr.heap.size #[.int .i64 x.kind, .int .i64 x.n, .int .i64 x.loss, .string x.body] 67)) (Fr.l Fr.id_ (CellW.stab _ _ _)) HK.out rfl HS6.out).mono ?_); rintro e w7 ⟨rfl, hs⟩; have HS7 := Lib.hid hs; clear hs)))
                go_roundw
                case rel => exact ⟨i + 1, _, _, _, _, _, _, by omega, by omega, by go_num, HT.out, HSH0.out, HSH1.out, by omega, by omega, HS5.out.drop⟩
                case measure => simp [intOf] <;> omega
        · have t2 : decide ((i : Int) < 60) = false := decide_eq_false (by omega)
          have HP60 : Hid (p0 ≤ 60 ∧ p1 ≤ 60) := by show _ ∧ _; omega
          have HF0 := Lib.hid (Far.start HT.out)
          clear HT
          go_wp2
          go_loopw [13] (fun jv wr => ∃ (j : Nat) (T0 T1 : TurnM) (q0 q1 : Nat), j ≤ 20 ∧ jv = .int .i64 (j : Int) ∧ Far T0 T1 p0 p1 q0 q1 j ∧ Short T0 ∧ Short T1 ∧ Sd w (H2 K g gp gt a0 a1 T0 T1 p0 p1 q0 q1) wr) (fun jv _ => (20 - intOf jv).toNat)
          case atStart => exact ⟨0, T0, T1, q0, q1, by omega, rfl, HF0.out, HSH0.out, HSH1.out, HS2.out⟩
          case round =>
            clear HS2 HF0 HSH0 HSH1
            obtain ⟨j, T0, T1, q0, q1, hj20, rfl, hf, hs0, hs1, hs⟩ := hrel
            have HS2 := Lib.hid hs
            have HF := Lib.hid hf
            have HSH0 := Lib.hid hs0
            have HSH1 := Lib.hid hs1
            clear hs hf hs0 hs1
            by_cases hlt2 : j < 20
            · have t5 : decide ((j : Int) < 20) = true := decide_eq_true (by omega)
              have e6 : IntKind.i64.wrap ((j : Int) + 1) = (j : Int) + 1 := IntWalk.i64_in _ (by omega)
              obtain ⟨hfn, hle1, hle0⟩ := HF.out.round
              have hsa := fun W hs => two_say0 (C := fun X => X) (K := K) (g := g) (gp := gp) (gt := gt) (a0 := a0) (a1 := a1) (T0 := T0.late) (T1 := T1) (p0 := p0) (p1 := p1) (q0 := q0) (q1 := q1) (w0 := w) (w := W) Fr.id_ (fun R hR => hR) HK.out 0 HF.out.two.late.ok0 HSH0.out hs
              have hok1 := (HF.out.two.late.say0 0).1
              have hshb := short_hear 0 T0.late.says 0 T1 0 HSH1.out
              have hshg : Short T0.late.go := short_go HSH0.out
              have hshx := short_hear 0 (hearM 0 T0.late.says 0 T1 0).1.says 0 T0.late.go 0 hshg
              have hshy := short_go hshb
              obtain ⟨b1, hb1⟩ : ∃ r, (hearM 0 T0.late.says 0 T1 0).1 = r := ⟨_, rfl⟩
              obtain ⟨n1, hn1⟩ : ∃ r, (hearM 0 T0.late.says 0 T1 0).2 = r := ⟨_, rfl⟩
              simp only [hb1, hn1] at hfn hle1 hle0 hsa hok1 hshb hshx hshy
              have hsb := fun W hs => two_say1 (C := fun X => X) (K := K) (g := g) (gp := gp) (gt := gt) (a0 := a0) (a1 := a1) (T0 := T0.late.go) (T1 := b1) (p0 := p0) (p1 := p1) (q0 := q0) (q1 := q1 + n1) (w0 := w) (w := W) Fr.id_ (fun R hR => hR) HK.out 0 hok1.ok1 hshb hs
              obtain ⟨b0, hb0⟩ : ∃ r, (hearM 0 b1.says 0 T0.late.go 0).1 = r := ⟨_, rfl⟩
              obtain ⟨n0, hn0⟩ : ∃ r, (hearM 0 b1.says 0 T0.late.go 0).2 = r := ⟨_, rfl⟩
              simp only [hb0, hn0] at hfn hle0 hsb hshx
              have e7 : IntKind.i64.wrap ((q1 : Int) + (n1 : Int)) = (q1 : Int) + (n1 : Int) := IntWalk.i64_in _ (by have := HP60.out; omega)
              have e8 : IntKind.i64.wrap ((q0 : Int) + (n0 : Int)) = (q0 : Int) + (n0 : Int) := IntWalk.i64_in _ (by have := HP60.out; omega)
              have HSA := Lib.hid hsa
              have HSB := Lib.hid hsb
              have HFN := Lib.hid hfn
              have HSX := Lib.hid hshx
              have HSY := Lib.hid hshy
              clear hfn hle1 hle0 hsa hsb hok1 hshb hshg hshx hshy hb1 hn1 hb0 hn0
              have pp0 := cell_at (two_heapG (C := fun X => X) Fr.id_ HK.out HS2.out) 0 _ rfl
              go_wp2_with (first
                | (go_at_call 39; ((with_reducible refine (two_late (C := fun X => X) Fr.id_ HK.out rfl HS2.out).mono ?_); rintro e w4 ⟨rfl, hs⟩; have HS4 := Lib.hid hs; clear hs)))
              have HS4d := Lib.hid (HS4.out.drew (H2.stab HK.out))
              have HE4d : Hid ((fun W => W.cell? ⟨g, 0, none⟩ = some (.pointer (some a0)) ∧ W.cell? ⟨g, 1, none⟩ = some (.pointer (some a1))) w4.drew) := ⟨cell_at (two_heapG (C := fun X => X) Fr.id_ HK.out HS4d.out) 0 _ rfl, cell_at (two_heapG (C := fun X => X) Fr.id_ HK.out HS4d.out) 1 _ rfl⟩
              refine rests_begin (fun W => W.cell? ⟨g, 0, none⟩ = some (.pointer (some a0)) ∧ W.cell? ⟨g, 1, none⟩ = some (.pointer (some a1))) (by kernel_rfl) ?_
              refine rests_take 0 (oi := _) (v := ?_) (by simp only [List.getElem?_toArray, List.getElem?_cons_zero]; rfl) (by kernel_rfl) (by kernel_rfl) (by kernel_rfl) (by exact fun _ _ _ h => h) (HE4d.out) (by rfl) ?_ ?_; rotate_left; (· intro W HW; go_simp; try with_reducible rfl)
              simp only [Act.put, List.setIfInBounds_toArray, List.set_cons_zero, List.set_cons_succ]
              refine rests_take 2 (oi := _) (v := ?_) (by simp only [List.getElem?_toArray, List.getElem?_cons_succ, List.getElem?_cons_zero]; rfl) (by kernel_rfl) (by kernel_rfl) (by kernel_rfl) (by exact fun _ _ _ h => h) (HE4d.out) (by rfl) ?_ ?_; rotate_left; (· intro W HW; go_simp; try with_reducible rfl)
              simp only [Act.put, List.setIfInBounds_toArray, List.set_cons_zero, List.set_cons_succ]
              refine rests_take 3 (oi := _) (v := ?_) (by simp only [List.getElem?_toArray, List.getElem?_cons_succ, List.getElem?_cons_zero]; rfl) (by kernel_rfl) (by kernel_rfl) (by kernel_rfl) (by exact fun _ _ _ h => h) (HE4d.out) (by rfl) ?_ ?_; rotate_left; (· intro W HW; obtain ⟨cg0, cg1⟩ := HW; go_simp; try with_reducible rfl)
              simp only [Act.put, List.setIfInBounds_toArray, List.set_cons_zero, List.set_cons_succ]
              refine rests_take 4 (oi := _) (v := ?_) (by simp only [List.getElem?_toArray, List.getElem?_cons_succ, List.getElem?_cons_zero]; rfl) (by kernel_rfl) (by kernel_rfl) (by kernel_rfl) (by exact fun _ _ _ h => h) (HE4d.out) (by rfl) ?_ ?_; rotate_left; (· intro W HW; go_simp; try with_reducible rfl)
              simp only [Act.put, List.setIfInBounds_toArray, List.set_cons_zero, List.set_cons_succ]
              refine rests_take 5 (oi := _) (v := ?_) (by simp only [List.getElem?_toArray, List.getElem?_cons_succ, List.getElem?_cons_zero]; rfl) (by kernel_rfl) (by kernel_rfl) (by kernel_rfl) (by exact fun _ _ _ h => h) (HE4d.out) (by rfl) ?_ ?_; rotate_left; (· intro W HW; obtain ⟨cg0, cg1⟩ := HW; go_simp; try with_reducible rfl)
              simp only [Act.put, List.setIfInBounds_toArray, List.set_cons_zero, List.set_cons_succ]
              refine rests_two 1 6 (oi := _) (oj := _) (by simp only [List.getElem?_toArray, List.getElem?_cons_succ, List.getElem?_cons_zero]; rfl) (by simp only [List.getElem?_toArray, List.getElem?_cons_succ, List.getElem?_cons_zero]; rfl) (by kernel_rfl) (by rfl) (by rfl) ?_ ?_
              · have cq5 : (w4.drew).cell? ⟨gt, 1, none⟩ = some (.int .i64 (q1 : Int)) := cell_at (two_heapQ (C := fun X => X) Fr.id_ HK.out HS4d.out) 1 _ rfl
                refine wp_val (v := .int .i64 (q1 : Int)) (w' := w4.drew) (by go_simp) ⟨HE4d.out, ?_⟩
                simp only [Act.put, List.setIfInBounds_toArray, List.set_cons_zero, List.set_cons_succ]
                refine rests_call 6 (oi := _) (by simp only [List.getElem?_toArray, List.getElem?_cons_succ, List.getElem?_cons_zero]; rfl) 46 #[.pointer (some a0), .pointer (some a1), .int .i64 0] _ (by kernel_rfl) (by rfl) (by go_simp) ((HSA.out _) (HS4d.out)) ?_
                rintro e w6 ⟨rfl, hs⟩; have HS6 := Lib.hid hs; have HE6 : Hid ((fun W => W.cell? ⟨g, 0, none⟩ = some (.pointer (some a0)) ∧ W.cell? ⟨g, 1, none⟩ = some (.pointer (some a1))) w6) := ⟨cell_at (two_heapG (C := fun X => X) Fr.id_ HK.out hs) 0 _ rfl, cell_at (two_heapG (C := fun X => X) Fr.id_ HK.out hs) 1 _ rfl⟩; refine ⟨_, rfl, HE6.out, ?_⟩; clear hs
                simp only [Act.put, List.setIfInBounds_toArray, List.set_cons_zero, List.set_cons_succ]
                refine rests_take 7 (oi := _) (v := ?_) (by simp only [List.getElem?_toArray, List.getElem?_cons_succ, List.getElem?_cons_zero]; rfl) (by kernel_rfl) (by kernel_rfl) (by kernel_rfl) (by exact fun _ _ _ h => h) (HE6.out) (by rfl) ?_ ?_; rotate_left; (· intro W HW; go_simp; try with_reducible rfl)
                simp only [Act.put, List.setIfInBounds_toArray, List.set_cons_zero, List.set_cons_succ]
                refine rests_take 8 (oi := _) (v := ?_) (by simp only [List.getElem?_toArray, List.getElem?_cons_succ, List.getElem?_cons_zero]; rfl) (by kernel_rfl) (by kernel_rfl) (by kernel_rfl) (by exact fun _ _ _ h => h) (HE6.out) (by rfl) ?_ ?_; rotate_left; (· intro W HW; go_simp; try with_reducible rfl)
                simp only [Act.put, List.setIfInBounds_toArray, List.set_cons_zero, List.set_cons_succ]
                refine rests_store1 9 (oi := _) (by simp only [List.getElem?_toArray, List.getElem?_cons_succ, List.getElem?_cons_zero]; rfl) (by kernel_rfl) (by rfl) 3 (.tmp 116) (.tmp 115) rfl gt 1 (.int .i64 ((q1 : Int) + (n1 : Int))) rfl rfl 65 _ (two_heapQ (C := fun X => X) Fr.id_ HK.out HS6.out) (by simp) (run_storeI _ _ _) ?_
                intro w7 hg hh; have HS7 := Lib.hid (two_setQ (C := fun X => X) (r0 := q0) (r1 := q1 + n1) Fr.id_ HK.out HS6.out hg hh); have HE7 : Hid ((fun W => W.cell? ⟨g, 0, none⟩ = some (.pointer (some a0)) ∧ W.cell? ⟨g, 1, none⟩ = some (.pointer (some a1))) w7) := ⟨cell_at (two_heapG (C := fun X => X) Fr.id_ HK.out HS7.out) 0 _ rfl, cell_at (two_heapG (C := fun X => X) Fr.id_ HK.out HS7.out) 1 _ rfl⟩; refine ⟨HE7.out, ?_⟩; clear hg hh
                simp only [Act.put, List.setIfInBounds_toArray, List.set_cons_zero, List.set_cons_succ]
                refine rests_done (by kernel_rfl) ?_
                go_wp2
                have HS7d := Lib.hid (HS7.out.drew (H2.stab HK.out))
                have HE7d : Hid ((fun W => W.cell? ⟨g, 0, none⟩ = some (.pointer (some a0)) ∧ W.cell? ⟨g, 1, none⟩ = some (.pointer (some a1))) w7.drew) := ⟨cell_at (two_heapG (C := fun X => X) Fr.id_ HK.out HS7d.out) 0 _ rfl, cell_at (two_heapG (C := fun X => X) Fr.id_ HK.out HS7d.out) 1 _ rfl⟩
                refine rests_begin (fun W => W.cell? ⟨g, 0, none⟩ = some (.pointer (some a0)) ∧ W.cell? ⟨g, 1, none⟩ = some (.pointer (some a1))) (by kernel_rfl) ?_
                refine rests_take 0 (oi := _) (v := ?_) (by simp only [List.getElem?_toArray, List.getElem?_cons_zero]; rfl) (by kernel_rfl) (by kernel_rfl) (by kernel_rfl) (by exact fun _ _ _ h => h) (HE7d.out) (by rfl) ?_ ?_; rotate_left; (· intro W HW; go_simp; try with_reducible rfl)
                simp only [Act.put, List.setIfInBounds_toArray, List.set_cons_zero, List.set_cons_succ]
                refine rests_take 2 (oi := _) (v := ?_) (by simp only [List.getElem?_toArray, List.getElem?_cons_succ, List.getElem?_cons_zero]; rfl) (by kernel_rfl) (by kernel_rfl) (by kernel_rfl) (by exact fun _ _ _ h => h) (HE7d.out) (by rfl) ?_ ?_; rotate_left; (· intro W HW; go_simp; try with_reducible rfl)
                simp only [Act.put, List.setIfInBounds_toArray, List.set_cons_zero, List.set_cons_succ]
                refine rests_take 3 (oi := _) (v := ?_) (by simp only [List.getElem?_toArray, List.getElem?_cons_succ, List.getElem?_cons_zero]; rfl) (by kernel_rfl) (by kernel_rfl) (by kernel_rfl) (by exact fun _ _ _ h => h) (HE7d.out) (by rfl) ?_ ?_; rotate_left; (· intro W HW; obtain ⟨cg0, cg1⟩ := HW; go_simp; try with_reducible rfl)
                simp only [Act.put, List.setIfInBounds_toArray, List.set_cons_zero, List.set_cons_succ]
                refine rests_take 4 (oi := _) (v := ?_) (by simp only [List.getElem?_toArray, List.getElem?_cons_succ, List.getElem?_cons_zero]; rfl) (by kernel_rfl) (by kernel_rfl) (by kernel_rfl) (by exact fun _ _ _ h => h) (HE7d.out) (by rfl) ?_ ?_; rotate_left; (· intro W HW; go_simp; try with_reducible rfl)
                simp only [Act.put, List.setIfInBounds_toArray, List.set_cons_zero, List.set_cons_succ]
                refine rests_take 5 (oi := _) (v := ?_) (by simp only [List.getElem?_toArray, List.getElem?_cons_succ, List.getElem?_cons_zero]; rfl) (by kernel_rfl) (by kernel_rfl) (by kernel_rfl) (by exact fun _ _ _ h => h) (HE7d.out) (by rfl) ?_ ?_; rotate_left; (· intro W HW; obtain ⟨cg0, cg1⟩ := HW; go_simp; try with_reducible rfl)
                simp only [Act.put, List.setIfInBounds_toArray, List.set_cons_zero, List.set_cons_succ]
                refine rests_two 1 6 (oi := _) (oj := _) (by simp only [List.getElem?_toArray, List.getElem?_cons_succ, List.getElem?_cons_zero]; rfl) (by simp only [List.getElem?_toArray, List.getElem?_cons_succ, List.getElem?_cons_zero]; rfl) (by kernel_rfl) (by rfl) (by rfl) ?_ ?_
                · have cq8 : (w7.drew).cell? ⟨gt, 0, none⟩ = some (.int .i64 (q0 : Int)) := cell_at (two_heapQ (C := fun X => X) Fr.id_ HK.out HS7d.out) 0 _ rfl
                  refine wp_val (v := .int .i64 (q0 : Int)) (w' := w7.drew) (by go_simp) ⟨HE7d.out, ?_⟩
                  simp only [Act.put, List.setIfInBounds_toArray, List.set_cons_zero, List.set_cons_succ]
                  refine rests_call 6 (oi := _) (by simp only [List.getElem?_toArray, List.getElem?_cons_succ, List.getElem?_cons_zero]; rfl) 46 #[.pointer (some a1), .pointer (some a0), .int .i64 0] _ (by kernel_rfl) (by rfl) (by go_simp) ((HSB.out _) (HS7d.out)) ?_
                  rintro e w9 ⟨rfl, hs⟩; have HS9 := Lib.hid hs; have HE9 : Hid ((fun W => W.cell? ⟨g, 0, none⟩ = some (.pointer (some a0)) ∧ W.cell? ⟨g, 1, none⟩ = some (.pointer (some a1))) w9) := ⟨cell_at (two_heapG (C := fun X => X) Fr.id_ HK.out hs) 0 _ rfl, cell_at (two_heapG (C := fun X => X) Fr.id_ HK.out hs) 1 _ rfl⟩; refine ⟨_, rfl, HE9.out, ?_⟩; clear hs
                  simp only [Act.put, List.setIfInBounds_toArray, List.set_cons_zero, List.set_cons_succ]
                  refine rests_take 7 (oi := _) (v := ?_) (by simp only [List.getElem?_toArray, List.getElem?_cons_succ, List.getElem?_cons_zero]; rfl) (by kernel_rfl) (by kernel_rfl) (by kernel_rfl) (by exact fun _ _ _ h => h) (HE9.out) (by rfl) ?_ ?_; rotate_left; (· intro W HW; go_simp; try with_reducible rfl)
                  simp only [Act.put, List.setIfInBounds_toArray, List.set_cons_zero, List.set_cons_succ]
                  refine rests_take 8 (oi := _) (v := ?_) (by simp only [List.getElem?_toArray, List.getElem?_cons_succ, List.getElem?_cons_zero]; rfl) (by kernel_rfl) (by kernel_rfl) (by kernel_rfl) (by exact fun _ _ _ h => h) (HE9.out) (by rfl) ?_ ?_; rotate_left; (· intro W HW; go_simp; try with_reducible rfl)
                  simp only [Act.put, List.setIfInBounds_toArray, List.set_cons_zero, List.set_cons_succ]
                  refine rests_store1 9 (oi := _) (by simp only [List.getElem?_toArray, List.getElem?_cons_succ, List.getElem?_cons_zero]; rfl) (by kernel_rfl) (by rfl) 3 (.tmp 125) (.tmp 124) rfl gt 0 (.int .i64 ((q0 : Int) + (n0 : Int))) rfl rfl 65 _ (two_heapQ (C := fun X => X) Fr.id_ HK.out HS9.out) (by simp) (run_storeI _ _ _) ?_
                  intro w10 hg hh; have HS10 := Lib.hid (two_setQ (C := fun X => X) (r0 := q0 + n0) (r1 := (q1 + n1)) Fr.id_ HK.out HS9.out hg hh); have HE10 : Hid ((fun W => W.cell? ⟨g, 0, none⟩ = some (.pointer (some a0)) ∧ W.cell? ⟨g, 1, none⟩ = some (.pointer (some a1))) w10) := ⟨cell_at (two_heapG (C := fun X => X) Fr.id_ HK.out HS10.out) 0 _ rfl, cell_at (two_heapG (C := fun X => X) Fr.id_ HK.out HS10.out) 1 _ rfl⟩; refine ⟨HE10.out, ?_⟩; clear hg hh
                  simp only [Act.put, List.setIfInBounds_toArray, List.set_cons_zero, List.set_cons_succ]
                  refine rests_done (by kernel_rfl) ?_
                  go_wp2
                  go_roundw
                  case rel => exact ⟨j + 1, _, _, _, _, by omega, by go_num, HFN.out, HSX.out, HSY.out, HS10.out⟩
                  case measure => simp [intOf] <;> omega
                · refine wp_enter (f := 46) (args := #[.pointer (some a1), .pointer (some a0), .int .i64 0]) (by go_simp) ((HSB.out _) (HS7d.out)) ?_
                  rintro e w8 ⟨rfl, hs⟩; have HS8 := Lib.hid hs; have HE8 : Hid ((fun W => W.cell? ⟨g, 0, none⟩ = some (.pointer (some a0)) ∧ W.cell? ⟨g, 1, none⟩ = some (.pointer (some a1))) w8) := ⟨cell_at (two_heapG (C := fun X => X) Fr.id_ HK.out hs) 0 _ rfl, cell_at (two_heapG (C := fun X => X) Fr.id_ HK.out hs) 1 _ rfl⟩; refine ⟨_, rfl, HE8.out, ?_⟩; clear hs
                  simp only [Act.put, List.setIfInBounds_toArray, List.set_cons_zero, List.set_cons_succ]
                  have cq9 : (w8).cell? ⟨gt, 0, none⟩ = some (.int .i64 (q0 : Int)) := cell_at (two_heapQ (C := fun X => X) Fr.id_ HK.out HS8.out) 0 _ rfl
                  refine rests_run 1 (oi := _) (by simp only [List.getElem?_toArray, List.getElem?_cons_succ, List.getElem?_cons_zero]; rfl) (by kernel_rfl) (by rfl) (.int .i64 (q0 : Int)) (w8) (by go_simp) ⟨HE8.out, ?_⟩
                  simp only [Act.put, List.setIfInBounds_toArray, List.set_cons_zero, List.set_cons_succ]
                  refine rests_take 7 (oi := _) (v := ?_) (by simp only [List.getElem?_toArray, List.getElem?_cons_succ, List.getElem?_cons_zero]; rfl) (by kernel_rfl) (by kernel_rfl) (by kernel_rfl) (by exact fun _ _ _ h => h) (HE8.out) (by rfl) ?_ ?_; rotate_left; (· intro W HW; go_simp; try with_reducible rfl)
                  simp only [Act.put, List.setIfInBounds_toArray, List.set_cons_zero, List.set_cons_succ]
                  refine rests_take 8 (oi := _) (v := ?_) (by simp only [List.getElem?_toArray, List.getElem?_cons_succ, List.getElem?_cons_zero]; rfl) (by kernel_rfl) (by kernel_rfl) (by kernel_rfl) (by exact fun _ _ _ h => h) (HE8.out) (by rfl) ?_ ?_; rotate_left; (· intro W HW; go_simp; try with_reducible rfl)
                  simp only [Act.put, List.setIfInBounds_toArray, List.set_cons_zero, List.set_cons_succ]
                  refine rests_store1 9 (oi := _) (by simp only [List.getElem?_toArray, List.getElem?_cons_succ, List.getElem?_cons_zero]; rfl) (by kernel_rfl) (by rfl) 3 (.tmp 125) (.tmp 124) rfl gt 0 (.int .i64 ((q0 : Int) + (n0 : Int))) rfl rfl 65 _ (two_heapQ (C := fun X => X) Fr.id_ HK.out HS8.out) (by simp) (run_storeI _ _ _) ?_
                  intro w10 hg hh; have HS10 := Lib.hid (two_setQ (C := fun X => X) (r0 := q0 + n0) (r1 := (q1 + n1)) Fr.id_ HK.out HS8.out hg hh); have HE10 : Hid ((fun W => W.cell? ⟨g, 0, none⟩ = some (.pointer (some a0)) ∧ W.cell? ⟨g, 1, none⟩ = some (.pointer (some a1))) w10) := ⟨cell_at (two_heapG (C := fun X => X) Fr.id_ HK.out HS10.out) 0 _ rfl, cell_at (two_heapG (C := fun X => X) Fr.id_ HK.out HS10.out) 1 _ rfl⟩; refine ⟨HE10.out, ?_⟩; clear hg hh
                  simp only [Act.put, List.setIfInBounds_toArray, List.set_cons_zero, List.set_cons_succ]
                  refine rests_done (by kernel_rfl) ?_
                  go_wp2
                  go_roundw
                  case rel => exact ⟨j + 1, _, _, _, _, by omega, by go_num, HFN.out, HSX.out, HSY.out, HS10.out⟩
                  case measure => simp [intOf] <;> omega
              · refine wp_enter (f := 46) (args := #[.pointer (some a0), .pointer (some a1), .int .i64 0]) (by go_simp) ((HSA.out _) (HS4d.out)) ?_
                rintro e w5 ⟨rfl, hs⟩; have HS5 := Lib.hid hs; have HE5 : Hid ((fun W => W.cell? ⟨g, 0, none⟩ = some (.pointer (some a0)) ∧ W.cell? ⟨g, 1, none⟩ = some (.pointer (some a1))) w5) := ⟨cell_at (two_heapG (C := fun X => X) Fr.id_ HK.out hs) 0 _ rfl, cell_at (two_heapG (C := fun X => X) Fr.id_ HK.out hs) 1 _ rfl⟩; refine ⟨_, rfl, HE5.out, ?_⟩; clear hs
                simp only [Act.put, List.setIfInBounds_toArray, List.set_cons_zero, List.set_cons_succ]
                have cq6 : (w5).cell? ⟨gt, 1, none⟩ = some (.int .i64 (q1 : Int)) := cell_at (two_heapQ (C := fun X => X) Fr.id_ HK.out HS5.out) 1 _ rfl
                refine rests_run 1 (oi := _) (by simp only [List.getElem?_toArray, List.getElem?_cons_succ, List.getElem?_cons_zero]; rfl) (by kernel_rfl) (by rfl) (.int .i64 (q1 : Int)) (w5) (by go_simp) ⟨HE5.out, ?_⟩
                simp only [Act.put, List.setIfInBounds_toArray, List.set_cons_zero, List.set_cons_succ]
                refine rests_take 7 (oi := _) (v := ?_) (by simp only [List.getElem?_toArray, List.getElem?_cons_succ, List.getElem?_cons_zero]; rfl) (by kernel_rfl) (by kernel_rfl) (by kernel_rfl) (by exact fun _ _ _ h => h) (HE5.out) (by rfl) ?_ ?_; rotate_left; (· intro W HW; go_simp; try with_reducible rfl)
                simp only [Act.put, List.setIfInBounds_toArray, List.set_cons_zero, List.set_cons_succ]
                refine rests_take 8 (oi := _) (v := ?_) (by simp only [List.getElem?_toArray, List.getElem?_cons_succ, List.getElem?_cons_zero]; rfl) (by kernel_rfl) (by kernel_rfl) (by kernel_rfl) (by exact fun _ _ _ h => h) (HE5.out) (by rfl) ?_ ?_; rotate_left; (· intro W HW; go_simp; try with_reducible rfl)
                simp only [Act.put, List.setIfInBounds_toArray, List.set_cons_zero, List.set_cons_succ]
                refine rests_store1 9 (oi := _) (by simp only [List.getElem?_toArray, List.getElem?_cons_succ, List.getElem?_cons_zero]; rfl) (by kernel_rfl) (by rfl) 3 (.tmp 116) (.tmp 115) rfl gt 1 (.int .i64 ((q1 : Int) + (n1 : Int))) rfl rfl 65 _ (two_heapQ (C := fun X => X) Fr.id_ HK.out HS5.out) (by simp) (run_storeI _ _ _) ?_
                intro w7 hg hh; have HS7 := Lib.hid (two_setQ (C := fun X => X) (r0 := q0) (r1 := q1 + n1) Fr.id_ HK.out HS5.out hg hh); have HE7 : Hid ((fun W => W.cell? ⟨g, 0, none⟩ = some (.pointer (some a0)) ∧ W.cell? ⟨g, 1, none⟩ = some (.pointer (some a1))) w7) := ⟨cell_at (two_heapG (C := fun X => X) Fr.id_ HK.out HS7.out) 0 _ rfl, cell_at (two_heapG (C := fun X => X) Fr.id_ HK.out HS7.out) 1 _ rfl⟩; refine ⟨HE7.out, ?_⟩; clear hg hh
                simp only [Act.put, List.setIfInBounds_toArray, List.set_cons_zero, List.set_cons_succ]
                refine rests_done (by kernel_rfl) ?_
                go_wp2
                have HS7d := Lib.hid (HS7.out.drew (H2.stab HK.out))
                have HE7d : Hid ((fun W => W.cell? ⟨g, 0, none⟩ = some (.pointer (some a0)) ∧ W.cell? ⟨g, 1, none⟩ = some (.pointer (some a1))) w7.drew) := ⟨cell_at (two_heapG (C := fun X => X) Fr.id_ HK.out HS7d.out) 0 _ rfl, cell_at (two_heapG (C := fun X => X) Fr.id_ HK.out HS7d.out) 1 _ rfl⟩
                refine rests_begin (fun W => W.cell? ⟨g, 0, none⟩ = some (.pointer (some a0)) ∧ W.cell? ⟨g, 1, none⟩ = some (.pointer (some a1))) (by kernel_rfl) ?_
                refine rests_take 0 (oi := _) (v := ?_) (by simp only [List.getElem?_toArray, List.getElem?_cons_zero]; rfl) (by kernel_rfl) (by kernel_rfl) (by kernel_rfl) (by exact fun _ _ _ h => h) (HE7d.out) (by rfl) ?_ ?_; rotate_left; (· intro W HW; go_simp; try with_reducible rfl)
                simp only [Act.put, List.setIfInBounds_toArray, List.set_cons_zero, List.set_cons_succ]
                refine rests_take 2 (oi := _) (v := ?_) (by simp only [List.getElem?_toArray, List.getElem?_cons_succ, List.getElem?_cons_zero]; rfl) (by kernel_rfl) (by kernel_rfl) (by kernel_rfl) (by exact fun _ _ _ h => h) (HE7d.out) (by rfl) ?_ ?_; rotate_left; (· intro W HW; go_simp; try with_reducible rfl)
                simp only [Act.put, List.setIfInBounds_toArray, List.set_cons_zero, List.set_cons_succ]
                refine rests_take 3 (oi := _) (v := ?_) (by simp only [List.getElem?_toArray, List.getElem?_cons_succ, List.getElem?_cons_zero]; rfl) (by kernel_rfl) (by kernel_rfl) (by kernel_rfl) (by exact fun _ _ _ h => h) (HE7d.out) (by rfl) ?_ ?_; rotate_left; (· intro W HW; obtain ⟨cg0, cg1⟩ := HW; go_simp; try with_reducible rfl)
                simp only [Act.put, List.setIfInBounds_toArray, List.set_cons_zero, List.set_cons_succ]
                refine rests_take 4 (oi := _) (v := ?_) (by simp only [List.getElem?_toArray, List.getElem?_cons_succ, List.getElem?_cons_zero]; rfl) (by kernel_rfl) (by kernel_rfl) (by kernel_rfl) (by exact fun _ _ _ h => h) (HE7d.out) (by rfl) ?_ ?_; rotate_left; (· intro W HW; go_simp; try with_reducible rfl)
                simp only [Act.put, List.setIfInBounds_toArray, List.set_cons_zero, List.set_cons_succ]
                refine rests_take 5 (oi := _) (v := ?_) (by simp only [List.getElem?_toArray, List.getElem?_cons_succ, List.getElem?_cons_zero]; rfl) (by kernel_rfl) (by kernel_rfl) (by kernel_rfl) (by exact fun _ _ _ h => h) (HE7d.out) (by rfl) ?_ ?_; rotate_left; (· intro W HW; obtain ⟨cg0, cg1⟩ := HW; go_simp; try with_reducible rfl)
                simp only [Act.put, List.setIfInBounds_toArray, List.set_cons_zero, List.set_cons_succ]
                refine rests_two 1 6 (oi := _) (oj := _) (by simp only [List.getElem?_toArray, List.getElem?_cons_succ, List.getElem?_cons_zero]; rfl) (by simp only [List.getElem?_toArray, List.getElem?_cons_succ, List.getElem?_cons_zero]; rfl) (by kernel_rfl) (by rfl) (by rfl) ?_ ?_
                · have cq8 : (w7.drew).cell? ⟨gt, 0, none⟩ = some (.int .i64 (q0 : Int)) := cell_at (two_heapQ (C := fun X => X) Fr.id_ HK.out HS7d.out) 0 _ rfl
                  refine wp_val (v := .int .i64 (q0 : Int)) (w' := w7.drew) (by go_simp) ⟨HE7d.out, ?_⟩
                  simp only [Act.put, List.setIfInBounds_toArray, List.set_cons_zero, List.set_cons_succ]
                  refine rests_call 6 (oi := _) (by simp only [List.getElem?_toArray, List.getElem?_cons_succ, List.getElem?_cons_zero]; rfl) 46 #[.pointer (some a1), .pointer (some a0), .int .i64 0] _ (by kernel_rfl) (by rfl) (by go_simp) ((HSB.out _) (HS7d.out)) ?_
                  rintro e w9 ⟨rfl, hs⟩; have HS9 := Lib.hid hs; have HE9 : Hid ((fun W => W.cell? ⟨g, 0, none⟩ = some (.pointer (some a0)) ∧ W.cell? ⟨g, 1, none⟩ = some (.pointer (some a1))) w9) := ⟨cell_at (two_heapG (C := fun X => X) Fr.id_ HK.out hs) 0 _ rfl, cell_at (two_heapG (C := fun X => X) Fr.id_ HK.out hs) 1 _ rfl⟩; refine ⟨_, rfl, HE9.out, ?_⟩; clear hs
                  simp only [Act.put, List.setIfInBounds_toArray, List.set_cons_zero, List.set_cons_succ]
                  refine rests_take 7 (oi := _) (v := ?_) (by simp only [List.getElem?_toArray, List.getElem?_cons_succ, List.getElem?_cons_zero]; rfl) (by kernel_rfl) (by kernel_rfl) (by kernel_rfl) (by exact fun _ _ _ h => h) (HE9.out) (by rfl) ?_ ?_; rotate_left; (· intro W HW; go_simp; try with_reducible rfl)
                  simp only [Act.put, List.setIfInBounds_toArray, List.set_cons_zero, List.set_cons_succ]
                  refine rests_take 8 (oi := _) (v := ?_) (by simp only [List.getElem?_toArray, List.getElem?_cons_succ, List.getElem?_cons_zero]; rfl) (by kernel_rfl) (by kernel_rfl) (by kernel_rfl) (by exact fun _ _ _ h => h) (HE9.out) (by rfl) ?_ ?_; rotate_left; (· intro W HW; go_simp; try with_reducible rfl)
                  simp only [Act.put, List.setIfInBounds_toArray, List.set_cons_zero, List.set_cons_succ]
                  refine rests_store1 9 (oi := _) (by simp only [List.getElem?_toArray, List.getElem?_cons_succ, List.getElem?_cons_zero]; rfl) (by kernel_rfl) (by rfl) 3 (.tmp 125) (.tmp 124) rfl gt 0 (.int .i64 ((q0 : Int) + (n0 : Int))) rfl rfl 65 _ (two_heapQ (C := fun X => X) Fr.id_ HK.out HS9.out) (by simp) (run_storeI _ _ _) ?_
                  intro w10 hg hh; have HS10 := Lib.hid (two_setQ (C := fun X => X) (r0 := q0 + n0) (r1 := (q1 + n1)) Fr.id_ HK.out HS9.out hg hh); have HE10 : Hid ((fun W => W.cell? ⟨g, 0, none⟩ = some (.pointer (some a0)) ∧ W.cell? ⟨g, 1, none⟩ = some (.pointer (some a1))) w10) := ⟨cell_at (two_heapG (C := fun X => X) Fr.id_ HK.out HS10.out) 0 _ rfl, cell_at (two_heapG (C := fun X => X) Fr.id_ HK.out HS10.out) 1 _ rfl⟩; refine ⟨HE10.out, ?_⟩; clear hg hh
                  simp only [Act.put, List.setIfInBounds_toArray, List.set_cons_zero, List.set_cons_succ]
                  refine rests_done (by kernel_rfl) ?_
                  go_wp2
                  go_roundw
                  case rel => exact ⟨j + 1, _, _, _, _, by omega, by go_num, HFN.out, HSX.out, HSY.out, HS10.out⟩
                  case measure => simp [intOf] <;> omega
                · refine wp_enter (f := 46) (args := #[.pointer (some a1), .pointer (some a0), .int .i64 0]) (by go_simp) ((HSB.out _) (HS7d.out)) ?_
                  rintro e w8 ⟨rfl, hs⟩; have HS8 := Lib.hid hs; have HE8 : Hid ((fun W => W.cell? ⟨g, 0, none⟩ = some (.pointer (some a0)) ∧ W.cell? ⟨g, 1, none⟩ = some (.pointer (some a1))) w8) := ⟨cell_at (two_heapG (C := fun X => X) Fr.id_ HK.out hs) 0 _ rfl, cell_at (two_heapG (C := fun X => X) Fr.id_ HK.out hs) 1 _ rfl⟩; refine ⟨_, rfl, HE8.out, ?_⟩; clear hs
                  simp only [Act.put, List.setIfInBounds_toArray, List.set_cons_zero, List.set_cons_succ]
                  have cq9 : (w8).cell? ⟨gt, 0, none⟩ = some (.int .i64 (q0 : Int)) := cell_at (two_heapQ (C := fun X => X) Fr.id_ HK.out HS8.out) 0 _ rfl
                  refine rests_run 1 (oi := _) (by simp only [List.getElem?_toArray, List.getElem?_cons_succ, List.getElem?_cons_zero]; rfl) (by kernel_rfl) (by rfl) (.int .i64 (q0 : Int)) (w8) (by go_simp) ⟨HE8.out, ?_⟩
                  simp only [Act.put, List.setIfInBounds_toArray, List.set_cons_zero, List.set_cons_succ]
                  refine rests_take 7 (oi := _) (v := ?_) (by simp only [List.getElem?_toArray, List.getElem?_cons_succ, List.getElem?_cons_zero]; rfl) (by kernel_rfl) (by kernel_rfl) (by kernel_rfl) (by exact fun _ _ _ h => h) (HE8.out) (by rfl) ?_ ?_; rotate_left; (· intro W HW; go_simp; try with_reducible rfl)
                  simp only [Act.put, List.setIfInBounds_toArray, List.set_cons_zero, List.set_cons_succ]
                  refine rests_take 8 (oi := _) (v := ?_) (by simp only [List.getElem?_toArray, List.getElem?_cons_succ, List.getElem?_cons_zero]; rfl) (by kernel_rfl) (by kernel_rfl) (by kernel_rfl) (by exact fun _ _ _ h => h) (HE8.out) (by rfl) ?_ ?_; rotate_left; (· intro W HW; go_simp; try with_reducible rfl)
                  simp only [Act.put, List.setIfInBounds_toArray, List.set_cons_zero, List.set_cons_succ]
                  refine rests_store1 9 (oi := _) (by simp only [List.getElem?_toArray, List.getElem?_cons_succ, List.getElem?_cons_zero]; rfl) (by kernel_rfl) (by rfl) 3 (.tmp 125) (.tmp 124) rfl gt 0 (.int .i64 ((q0 : Int) + (n0 : Int))) rfl rfl 65 _ (two_heapQ (C := fun X => X) Fr.id_ HK.out HS8.out) (by simp) (run_storeI _ _ _) ?_
                  intro w10 hg hh; have HS10 := Lib.hid (two_setQ (C := fun X => X) (r0 := q0 + n0) (r1 := (q1 + n1)) Fr.id_ HK.out HS8.out hg hh); have HE10 : Hid ((fun W => W.cell? ⟨g, 0, none⟩ = some (.pointer (some a0)) ∧ W.cell? ⟨g, 1, none⟩ = some (.pointer (some a1))) w10) := ⟨cell_at (two_heapG (C := fun X => X) Fr.id_ HK.out HS10.out) 0 _ rfl, cell_at (two_heapG (C := fun X => X) Fr.id_ HK.out HS10.out) 1 _ rfl⟩; refine ⟨HE10.out, ?_⟩; clear hg hh
                  simp only [Act.put, List.setIfInBounds_toArray, List.set_cons_zero, List.set_cons_succ]
                  refine rests_done (by kernel_rfl) ?_
                  go_wp2
                  go_roundw
                  case rel => exact ⟨j + 1, _, _, _, _, by omega, by go_num, HFN.out, HSX.out, HSY.out, HS10.out⟩
                  case measure => simp [intOf] <;> omega
            · have t5 : decide ((j : Int) < 20) = false := decide_eq_false (by omega)
              obtain ⟨d1, d2, d3, d4⟩ := HF.out.done (by omega)
              subst d1
              subst d2
              have HL0 : Hid ((0 : Int) = (T0.left : Int)) := by show (0 : Int) = ((T0.out.l.length : Nat) : Int); rw [d3]; rfl
              have HL1 : Hid ((0 : Int) = (T1.left : Int)) := by show (0 : Int) = ((T1.out.l.length : Nat) : Int); rw [d4]; rfl
              have pp0 := cell_at (two_heapG (C := fun X => X) Fr.id_ HK.out HS2.out) 0 _ rfl
              have pc0 := cell_at (two_heapP (C := fun X => X) Fr.id_ HK.out HS2.out) 0 _ rfl
              have pc1 := cell_at (two_heapP (C := fun X => X) Fr.id_ HK.out HS2.out) 1 _ rfl
              have qc0 := cell_at (two_heapQ (C := fun X => X) Fr.id_ HK.out HS2.out) 0 _ rfl
              have qc1 := cell_at (two_heapQ (C := fun X => X) Fr.id_ HK.out HS2.out) 1 _ rfl
              clear d3 d4
              go_wp2_with (first
                | (go_at_call 45; first
                  | ((with_reducible refine (two_left0 (C := fun X => X) Fr.id_ (fun R hR => hR) HK.out HL0.out HS2.out).mono ?_); rintro e w3 ⟨rfl, hs⟩; have HS3 := Lib.hid hs; have pp1b := cell_at (two_heapG (C := fun X => X) Fr.id_ HK.out HS3.out) 1 _ rfl; clear hs)
                  | ((with_reducible refine (two_left1 (C := fun X => X) Fr.id_ (fun R hR => hR) HK.out HL1.out HS3.out).mono ?_); rintro e w4 ⟨rfl, hs⟩; have HS4 := Lib.hid hs; clear hs)))
              go_ret
              exact ⟨by simp, HS4.out.bel0⟩
      · have t1 : decide ((i : Int) < (L : Int)) = false := decide_eq_false (by omega)
        have HP60 : Hid (p0 ≤ 60 ∧ p1 ≤ 60) := by show _ ∧ _; omega
        have HF0 := Lib.hid (Far.start HT.out)
        clear HT
        go_wp2
        go_loopw [13] (fun jv wr => ∃ (j : Nat) (T0 T1 : TurnM) (q0 q1 : Nat), j ≤ 20 ∧ jv = .int .i64 (j : Int) ∧ Far T0 T1 p0 p1 q0 q1 j ∧ Short T0 ∧ Short T1 ∧ Sd w (H2 K g gp gt a0 a1 T0 T1 p0 p1 q0 q1) wr) (fun jv _ => (20 - intOf jv).toNat)
        case atStart => exact ⟨0, T0, T1, q0, q1, by omega, rfl, HF0.out, HSH0.out, HSH1.out, HS2.out⟩
        case round =>
          clear HS2 HF0 HSH0 HSH1
          obtain ⟨j, T0, T1, q0, q1, hj20, rfl, hf, hs0, hs1, hs⟩ := hrel
          have HS2 := Lib.hid hs
          have HF := Lib.hid hf
          have HSH0 := Lib.hid hs0
          have HSH1 := Lib.hid hs1
          clear hs hf hs0 hs1
          by_cases hlt2 : j < 20
          · have t5 : decide ((j : Int) < 20) = true := decide_eq_true (by omega)
            have e6 : IntKind.i64.wrap ((j : Int) + 1) = (j : Int) + 1 := IntWalk.i64_in _ (by omega)
            obtain ⟨hfn, hle1, hle0⟩ := HF.out.round
            have hsa := fun W hs => two_say0 (C := fun X => X) (K := K) (g := g) (gp := gp) (gt := gt) (a0 := a0) (a1 := a1) (T0 := T0.late) (T1 := T1) (p0 := p0) (p1 := p1) (q0 := q0) (q1 := q1) (w0 := w) (w := W) Fr.id_ (fun R hR => hR) HK.out 0 HF.out.two.late.ok0 HSH0.out hs
            have hok1 := (HF.out.two.late.say0 0).1
            have hshb := short_hear 0 T0.late.says 0 T1 0 HSH1.out
            have hshg : Short T0.late.go := short_go HSH0.out
            have hshx := short_hear 0 (hearM 0 T0.late.says 0 T1 0).1.says 0 T0.late.go 0 hshg
            have hshy := short_go hshb
            obtain ⟨b1, hb1⟩ : ∃ r, (hearM 0 T0.late.says 0 T1 0).1 = r := ⟨_, rfl⟩
            obtain ⟨n1, hn1⟩ : ∃ r, (hearM 0 T0.late.says 0 T1 0).2 = r := ⟨_, rfl⟩
            simp only [hb1, hn1] at hfn hle1 hle0 hsa hok1 hshb hshx hshy
            have hsb := fun W hs => two_say1 (C := fun X => X) (K := K) (g := g) (gp := gp) (gt := gt) (a0 := a0) (a1 := a1) (T0 := T0.late.go) (T1 := b1) (p0 := p0) (p1 := p1) (q0 := q0) (q1 := q1 + n1) (w0 := w) (w := W) Fr.id_ (fun R hR => hR) HK.out 0 hok1.ok1 hshb hs
            obtain ⟨b0, hb0⟩ : ∃ r, (hearM 0 b1.says 0 T0.late.go 0).1 = r := ⟨_, rfl⟩
            obtain ⟨n0, hn0⟩ : ∃ r, (hearM 0 b1.says 0 T0.late.go 0).2 = r := ⟨_, rfl⟩
            simp only [hb0, hn0] at hfn hle0 hsb hshx
            have e7 : IntKind.i64.wrap ((q1 : Int) + (n1 : Int)) = (q1 : Int) + (n1 : Int) := IntWalk.i64_in _ (by have := HP60.out; omega)
            have e8 : IntKind.i64.wrap ((q0 : Int) + (n0 : Int)) = (q0 : Int) + (n0 : Int) := IntWalk.i64_in _ (by have := HP60.out; omega)
            have HSA := Lib.hid hsa
            have HSB := Lib.hid hsb
            have HFN := Lib.hid hfn
            have HSX := Lib.hid hshx
            have HSY := Lib.hid hshy
            clear hfn hle1 hle0 hsa hsb hok1 hshb hshg hshx hshy hb1 hn1 hb0 hn0
            have pp0 := cell_at (two_heapG (C := fun X => X) Fr.id_ HK.out HS2.out) 0 _ rfl
            go_wp2_with (first
              | (go_at_call 39; ((with_reducible refine (two_late (C := fun X => X) Fr.id_ HK.out rfl HS2.out).mono ?_); rintro e w4 ⟨rfl, hs⟩; have HS4 := Lib.hid hs; clear hs)))
            have HS4d := Lib.hid (HS4.out.drew (H2.stab HK.out))
            have HE4d : Hid ((fun W => W.cell? ⟨g, 0, none⟩ = some (.pointer (some a0)) ∧ W.cell? ⟨g, 1, none⟩ = some (.pointer (some a1))) w4.drew) := ⟨cell_at (two_heapG (C := fun X => X) Fr.id_ HK.out HS4d.out) 0 _ rfl, cell_at (two_heapG (C := fun X => X) Fr.id_ HK.out HS4d.out) 1 _ rfl⟩
            refine rests_begin (fun W => W.cell? ⟨g, 0, none⟩ = some (.pointer (some a0)) ∧ W.cell? ⟨g, 1, none⟩ = some (.pointer (some a1))) (by kernel_rfl) ?_
            refine rests_take 0 (oi := _) (v := ?_) (by simp only [List.getElem?_toArray, List.getElem?_cons_zero]; rfl) (by kernel_rfl) (by kernel_rfl) (by kernel_rfl) (by exact fun _ _ _ h => h) (HE4d.out) (by rfl) ?_ ?_; rotate_left; (· intro W HW; go_simp; try with_reducible rfl)
            simp only [Act.put, List.setIfInBounds_toArray, List.set_cons_zero, List.set_cons_succ]
            refine rests_take 2 (oi := _) (v := ?_) (by simp only [List.getElem?_toArray, List.getElem?_cons_succ, List.getElem?_cons_zero]; rfl) (by kernel_rfl) (by kernel_rfl) (by kernel_rfl) (by exact fun _ _ _ h => h) (HE4d.out) (by rfl) ?_ ?_; rotate_left; (· intro W HW; go_simp; try with_reducible rfl)
            simp only [Act.put, List.setIfInBounds_toArray, List.set_cons_zero, List.set_cons_succ]
            refine rests_take 3 (oi := _) (v := ?_) (by simp only [List.getElem?_toArray, List.getElem?_cons_succ, List.getElem?_cons_zero]; rfl) (by kernel_rfl) (by kernel_rfl) (by kernel_rfl) (by exact fun _ _ _ h => h) (HE4d.out) (by rfl) ?_ ?_; rotate_left; (· intro W HW; obtain ⟨cg0, cg1⟩ := HW; go_simp; try with_reducible rfl)
            simp only [Act.put, List.setIfInBounds_toArray, List.set_cons_zero, List.set_cons_succ]
            refine rests_take 4 (oi := _) (v := ?_) (by simp only [List.getElem?_toArray, List.getElem?_cons_succ, List.getElem?_cons_zero]; rfl) (by kernel_rfl) (by kernel_rfl) (by kernel_rfl) (by exact fun _ _ _ h => h) (HE4d.out) (by rfl) ?_ ?_; rotate_left; (· intro W HW; go_simp; try with_reducible rfl)
            simp only [Act.put, List.setIfInBounds_toArray, List.set_cons_zero, List.set_cons_succ]
            refine rests_take 5 (oi := _) (v := ?_) (by simp only [List.getElem?_toArray, List.getElem?_cons_succ, List.getElem?_cons_zero]; rfl) (by kernel_rfl) (by kernel_rfl) (by kernel_rfl) (by exact fun _ _ _ h => h) (HE4d.out) (by rfl) ?_ ?_; rotate_left; (· intro W HW; obtain ⟨cg0, cg1⟩ := HW; go_simp; try with_reducible rfl)
            simp only [Act.put, List.setIfInBounds_toArray, List.set_cons_zero, List.set_cons_succ]
            refine rests_two 1 6 (oi := _) (oj := _) (by simp only [List.getElem?_toArray, List.getElem?_cons_succ, List.getElem?_cons_zero]; rfl) (by simp only [List.getElem?_toArray, List.getElem?_cons_succ, List.getElem?_cons_zero]; rfl) (by kernel_rfl) (by rfl) (by rfl) ?_ ?_
            · have cq5 : (w4.drew).cell? ⟨gt, 1, none⟩ = some (.int .i64 (q1 : Int)) := cell_at (two_heapQ (C := fun X => X) Fr.id_ HK.out HS4d.out) 1 _ rfl
              refine wp_val (v := .int .i64 (q1 : Int)) (w' := w4.drew) (by go_simp) ⟨HE4d.out, ?_⟩
              simp only [Act.put, List.setIfInBounds_toArray, List.set_cons_zero, List.set_cons_succ]
              refine rests_call 6 (oi := _) (by simp only [List.getElem?_toArray, List.getElem?_cons_succ, List.getElem?_cons_zero]; rfl) 46 #[.pointer (some a0), .pointer (some a1), .int .i64 0] _ (by kernel_rfl) (by rfl) (by go_simp) ((HSA.out _) (HS4d.out)) ?_
              rintro e w6 ⟨rfl, hs⟩; have HS6 := Lib.hid hs; have HE6 : Hid ((fun W => W.cell? ⟨g, 0, none⟩ = some (.pointer (some a0)) ∧ W.cell? ⟨g, 1, none⟩ = some (.pointer (some a1))) w6) := ⟨cell_at (two_heapG (C := fun X => X) Fr.id_ HK.out hs) 0 _ rfl, cell_at (two_heapG (C := fun X => X) Fr.id_ HK.out hs) 1 _ rfl⟩; refine ⟨_, rfl, HE6.out, ?_⟩; clear hs
              simp only [Act.put, List.setIfInBounds_toArray, List.set_cons_zero, List.set_cons_succ]
              refine rests_take 7 (oi := _) (v := ?_) (by simp only [List.getElem?_toArray, List.getElem?_cons_succ, List.getElem?_cons_zero]; rfl) (by kernel_rfl) (by kernel_rfl) (by kernel_rfl) (by exact fun _ _ _ h => h) (HE6.out) (by rfl) ?_ ?_; rotate_left; (· intro W HW; go_simp; try with_reducible rfl)
              simp only [Act.put, List.setIfInBounds_toArray, List.set_cons_zero, List.set_cons_succ]
              refine rests_take 8 (oi := _) (v := ?_) (by simp only [List.getElem?_toArray, List.getElem?_cons_succ, List.getElem?_cons_zero]; rfl) (by kernel_rfl) (by kernel_rfl) (by kernel_rfl) (by exact fun _ _ _ h => h) (HE6.out) (by rfl) ?_ ?_; rotate_left; (· intro W HW; go_simp; try with_reducible rfl)
              simp only [Act.put, List.setIfInBounds_toArray, List.set_cons_zero, List.set_cons_succ]
              refine rests_store1 9 (oi := _) (by simp only [List.getElem?_toArray, List.getElem?_cons_succ, List.getElem?_cons_zero]; rfl) (by kernel_rfl) (by rfl) 3 (.tmp 116) (.tmp 115) rfl gt 1 (.int .i64 ((q1 : Int) + (n1 : Int))) rfl rfl 65 _ (two_heapQ (C := fun X => X) Fr.id_ HK.out HS6.out) (by simp) (run_storeI _ _ _) ?_
              intro w7 hg hh; have HS7 := Lib.hid (two_setQ (C := fun X => X) (r0 := q0) (r1 := q1 + n1) Fr.id_ HK.out HS6.out hg hh); have HE7 : Hid ((fun W => W.cell? ⟨g, 0, none⟩ = some (.pointer (some a0)) ∧ W.cell? ⟨g, 1, none⟩ = some (.pointer (some a1))) w7) := ⟨cell_at (two_heapG (C := fun X => X) Fr.id_ HK.out HS7.out) 0 _ rfl, cell_at (two_heapG (C := fun X => X) Fr.id_ HK.out HS7.out) 1 _ rfl⟩; refine ⟨HE7.out, ?_⟩; clear hg hh
              simp only [Act.put, List.setIfInBounds_toArray, List.set_cons_zero, List.set_cons_succ]
              refine rests_done (by kernel_rfl) ?_
              go_wp2
              have HS7d := Lib.hid (HS7.out.drew (H2.stab HK.out))
              have HE7d : Hid ((fun W => W.cell? ⟨g, 0, none⟩ = some (.pointer (some a0)) ∧ W.cell? ⟨g, 1, none⟩ = some (.pointer (some a1))) w7.drew) := ⟨cell_at (two_heapG (C := fun X => X) Fr.id_ HK.out HS7d.out) 0 _ rfl, cell_at (two_heapG (C := fun X => X) Fr.id_ HK.out HS7d.out) 1 _ rfl⟩
              refine rests_begin (fun W => W.cell? ⟨g, 0, none⟩ = some (.pointer (some a0)) ∧ W.cell? ⟨g, 1, none⟩ = some (.pointer (some a1))) (by kernel_rfl) ?_
              refine rests_take 0 (oi := _) (v := ?_) (by simp only [List.getElem?_toArray, List.getElem?_cons_zero]; rfl) (by kernel_rfl) (by kernel_rfl) (by kernel_rfl) (by exact fun _ _ _ h => h) (HE7d.out) (by rfl) ?_ ?_; rotate_left; (· intro W HW; go_simp; try with_reducible rfl)
              simp only [Act.put, List.setIfInBounds_toArray, List.set_cons_zero, List.set_cons_succ]
              refine rests_take 2 (oi := _) (v := ?_) (by simp only [List.getElem?_toArray, List.getElem?_cons_succ, List.getElem?_cons_zero]; rfl) (by kernel_rfl) (by kernel_rfl) (by kernel_rfl) (by exact fun _ _ _ h => h) (HE7d.out) (by rfl) ?_ ?_; rotate_left; (· intro W HW; go_simp; try with_reducible rfl)
              simp only [Act.put, List.setIfInBounds_toArray, List.set_cons_zero, List.set_cons_succ]
              refine rests_take 3 (oi := _) (v := ?_) (by simp only [List.getElem?_toArray, List.getElem?_cons_succ, List.getElem?_cons_zero]; rfl) (by kernel_rfl) (by kernel_rfl) (by kernel_rfl) (by exact fun _ _ _ h => h) (HE7d.out) (by rfl) ?_ ?_; rotate_left; (· intro W HW; obtain ⟨cg0, cg1⟩ := HW; go_simp; try with_reducible rfl)
              simp only [Act.put, List.setIfInBounds_toArray, List.set_cons_zero, List.set_cons_succ]
              refine rests_take 4 (oi := _) (v := ?_) (by simp only [List.getElem?_toArray, List.getElem?_cons_succ, List.getElem?_cons_zero]; rfl) (by kernel_rfl) (by kernel_rfl) (by kernel_rfl) (by exact fun _ _ _ h => h) (HE7d.out) (by rfl) ?_ ?_; rotate_left; (· intro W HW; go_simp; try with_reducible rfl)
              simp only [Act.put, List.setIfInBounds_toArray, List.set_cons_zero, List.set_cons_succ]
              refine rests_take 5 (oi := _) (v := ?_) (by simp only [List.getElem?_toArray, List.getElem?_cons_succ, List.getElem?_cons_zero]; rfl) (by kernel_rfl) (by kernel_rfl) (by kernel_rfl) (by exact fun _ _ _ h => h) (HE7d.out) (by rfl) ?_ ?_; rotate_left; (· intro W HW; obtain ⟨cg0, cg1⟩ := HW; go_simp; try with_reducible rfl)
              simp only [Act.put, List.setIfInBounds_toArray, List.set_cons_zero, List.set_cons_succ]
              refine rests_two 1 6 (oi := _) (oj := _) (by simp only [List.getElem?_toArray, List.getElem?_cons_succ, List.getElem?_cons_zero]; rfl) (by simp only [List.getElem?_toArray, List.getElem?_cons_succ, List.getElem?_cons_zero]; rfl) (by kernel_rfl) (by rfl) (by rfl) ?_ ?_
              · have cq8 : (w7.drew).cell? ⟨gt, 0, none⟩ = some (.int .i64 (q0 : Int)) := cell_at (two_heapQ (C := fun X => X) Fr.id_ HK.out HS7d.out) 0 _ rfl
                refine wp_val (v := .int .i64 (q0 : Int)) (w' := w7.drew) (by go_simp) ⟨HE7d.out, ?_⟩
                simp only [Act.put, List.setIfInBounds_toArray, List.set_cons_zero, List.set_cons_succ]
                refine rests_call 6 (oi := _) (by simp only [List.getElem?_toArray, List.getElem?_cons_succ, List.getElem?_cons_zero]; rfl) 46 #[.pointer (some a1), .pointer (some a0), .int .i64 0] _ (by kernel_rfl) (by rfl) (by go_simp) ((HSB.out _) (HS7d.out)) ?_
                rintro e w9 ⟨rfl, hs⟩; have HS9 := Lib.hid hs; have HE9 : Hid ((fun W => W.cell? ⟨g, 0, none⟩ = some (.pointer (some a0)) ∧ W.cell? ⟨g, 1, none⟩ = some (.pointer (some a1))) w9) := ⟨cell_at (two_heapG (C := fun X => X) Fr.id_ HK.out hs) 0 _ rfl, cell_at (two_heapG (C := fun X => X) Fr.id_ HK.out hs) 1 _ rfl⟩; refine ⟨_, rfl, HE9.out, ?_⟩; clear hs
                simp only [Act.put, List.setIfInBounds_toArray, List.set_cons_zero, List.set_cons_succ]
                refine rests_take 7 (oi := _) (v := ?_) (by simp only [List.getElem?_toArray, List.getElem?_cons_succ, List.getElem?_cons_zero]; rfl) (by kernel_rfl) (by kernel_rfl) (by kernel_rfl) (by exact fun _ _ _ h => h) (HE9.out) (by rfl) ?_ ?_; rotate_left; (· intro W HW; go_simp; try with_reducible rfl)
                simp only [Act.put, List.setIfInBounds_toArray, List.set_cons_zero, List.set_cons_succ]
                refine rests_take 8 (oi := _) (v := ?_) (by simp only [List.getElem?_toArray, List.getElem?_cons_succ, List.getElem?_cons_zero]; rfl) (by kernel_rfl) (by kernel_rfl) (by kernel_rfl) (by exact fun _ _ _ h => h) (HE9.out) (by rfl) ?_ ?_; rotate_left; (· intro W HW; go_simp; try with_reducible rfl)
                simp only [Act.put, List.setIfInBounds_toArray, List.set_cons_zero, List.set_cons_succ]
                refine rests_store1 9 (oi := _) (by simp only [List.getElem?_toArray, List.getElem?_cons_succ, List.getElem?_cons_zero]; rfl) (by kernel_rfl) (by rfl) 3 (.tmp 125) (.tmp 124) rfl gt 0 (.int .i64 ((q0 : Int) + (n0 : Int))) rfl rfl 65 _ (two_heapQ (C := fun X => X) Fr.id_ HK.out HS9.out) (by simp) (run_storeI _ _ _) ?_
                intro w10 hg hh; have HS10 := Lib.hid (two_setQ (C := fun X => X) (r0 := q0 + n0) (r1 := (q1 + n1)) Fr.id_ HK.out HS9.out hg hh); have HE10 : Hid ((fun W => W.cell? ⟨g, 0, none⟩ = some (.pointer (some a0)) ∧ W.cell? ⟨g, 1, none⟩ = some (.pointer (some a1))) w10) := ⟨cell_at (two_heapG (C := fun X => X) Fr.id_ HK.out HS10.out) 0 _ rfl, cell_at (two_heapG (C := fun X => X) Fr.id_ HK.out HS10.out) 1 _ rfl⟩; refine ⟨HE10.out, ?_⟩; clear hg hh
                simp only [Act.put, List.setIfInBounds_toArray, List.set_cons_zero, List.set_cons_succ]
                refine rests_done (by kernel_rfl) ?_
                go_wp2
                go_roundw
                case rel => exact ⟨j + 1, _, _, _, _, by omega, by go_num, HFN.out, HSX.out, HSY.out, HS10.out⟩
                case measure => simp [intOf] <;> omega
              · refine wp_enter (f := 46) (args := #[.pointer (some a1), .pointer (some a0), .int .i64 0]) (by go_simp) ((HSB.out _) (HS7d.out)) ?_
                rintro e w8 ⟨rfl, hs⟩; have HS8 := Lib.hid hs; have HE8 : Hid ((fun W => W.cell? ⟨g, 0, none⟩ = some (.pointer (some a0)) ∧ W.cell? ⟨g, 1, none⟩ = some (.pointer (some a1))) w8) := ⟨cell_at (two_heapG (C := fun X => X) Fr.id_ HK.out hs) 0 _ rfl, cell_at (two_heapG (C := fun X => X) Fr.id_ HK.out hs) 1 _ rfl⟩; refine ⟨_, rfl, HE8.out, ?_⟩; clear hs
                simp only [Act.put, List.setIfInBounds_toArray, List.set_cons_zero, List.set_cons_succ]
                have cq9 : (w8).cell? ⟨gt, 0, none⟩ = some (.int .i64 (q0 : Int)) := cell_at (two_heapQ (C := fun X => X) Fr.id_ HK.out HS8.out) 0 _ rfl
                refine rests_run 1 (oi := _) (by simp only [List.getElem?_toArray, List.getElem?_cons_succ, List.getElem?_cons_zero]; rfl) (by kernel_rfl) (by rfl) (.int .i64 (q0 : Int)) (w8) (by go_simp) ⟨HE8.out, ?_⟩
                simp only [Act.put, List.setIfInBounds_toArray, List.set_cons_zero, List.set_cons_succ]
                refine rests_take 7 (oi := _) (v := ?_) (by simp only [List.getElem?_toArray, List.getElem?_cons_succ, List.getElem?_cons_zero]; rfl) (by kernel_rfl) (by kernel_rfl) (by kernel_rfl) (by exact fun _ _ _ h => h) (HE8.out) (by rfl) ?_ ?_; rotate_left; (· intro W HW; go_simp; try with_reducible rfl)
                simp only [Act.put, List.setIfInBounds_toArray, List.set_cons_zero, List.set_cons_succ]
                refine rests_take 8 (oi := _) (v := ?_) (by simp only [List.getElem?_toArray, List.getElem?_cons_succ, List.getElem?_cons_zero]; rfl) (by kernel_rfl) (by kernel_rfl) (by kernel_rfl) (by exact fun _ _ _ h => h) (HE8.out) (by rfl) ?_ ?_; rotate_left; (· intro W HW; go_simp; try with_reducible rfl)
                simp only [Act.put, List.setIfInBounds_toArray, List.set_cons_zero, List.set_cons_succ]
                refine rests_store1 9 (oi := _) (by simp only [List.getElem?_toArray, List.getElem?_cons_succ, List.getElem?_cons_zero]; rfl) (by kernel_rfl) (by rfl) 3 (.tmp 125) (.tmp 124) rfl gt 0 (.int .i64 ((q0 : Int) + (n0 : Int))) rfl rfl 65 _ (two_heapQ (C := fun X => X) Fr.id_ HK.out HS8.out) (by simp) (run_storeI _ _ _) ?_
                intro w10 hg hh; have HS10 := Lib.hid (two_setQ (C := fun X => X) (r0 := q0 + n0) (r1 := (q1 + n1)) Fr.id_ HK.out HS8.out hg hh); have HE10 : Hid ((fun W => W.cell? ⟨g, 0, none⟩ = some (.pointer (some a0)) ∧ W.cell? ⟨g, 1, none⟩ = some (.pointer (some a1))) w10) := ⟨cell_at (two_heapG (C := fun X => X) Fr.id_ HK.out HS10.out) 0 _ rfl, cell_at (two_heapG (C := fun X => X) Fr.id_ HK.out HS10.out) 1 _ rfl⟩; refine ⟨HE10.out, ?_⟩; clear hg hh
                simp only [Act.put, List.setIfInBounds_toArray, List.set_cons_zero, List.set_cons_succ]
                refine rests_done (by kernel_rfl) ?_
                go_wp2
                go_roundw
                case rel => exact ⟨j + 1, _, _, _, _, by omega, by go_num, HFN.out, HSX.out, HSY.out, HS10.out⟩
                case measure => simp [intOf] <;> omega
            · refine wp_enter (f := 46) (args := #[.pointer (some a0), .pointer (some a1), .int .i64 0]) (by go_simp) ((HSA.out _) (HS4d.out)) ?_
              rintro e w5 ⟨rfl, hs⟩; have HS5 := Lib.hid hs; have HE5 : Hid ((fun W => W.cell? ⟨g, 0, none⟩ = some (.pointer (some a0)) ∧ W.cell? ⟨g, 1, none⟩ = some (.pointer (some a1))) w5) := ⟨cell_at (two_heapG (C := fun X => X) Fr.id_ HK.out hs) 0 _ rfl, cell_at (two_heapG (C := fun X => X) Fr.id_ HK.out hs) 1 _ rfl⟩; refine ⟨_, rfl, HE5.out, ?_⟩; clear hs
              simp only [Act.put, List.setIfInBounds_toArray, List.set_cons_zero, List.set_cons_succ]
              have cq6 : (w5).cell? ⟨gt, 1, none⟩ = some (.int .i64 (q1 : Int)) := cell_at (two_heapQ (C := fun X => X) Fr.id_ HK.out HS5.out) 1 _ rfl
              refine rests_run 1 (oi := _) (by simp only [List.getElem?_toArray, List.getElem?_cons_succ, List.getElem?_cons_zero]; rfl) (by kernel_rfl) (by rfl) (.int .i64 (q1 : Int)) (w5) (by go_simp) ⟨HE5.out, ?_⟩
              simp only [Act.put, List.setIfInBounds_toArray, List.set_cons_zero, List.set_cons_succ]
              refine rests_take 7 (oi := _) (v := ?_) (by simp only [List.getElem?_toArray, List.getElem?_cons_succ, List.getElem?_cons_zero]; rfl) (by kernel_rfl) (by kernel_rfl) (by kernel_rfl) (by exact fun _ _ _ h => h) (HE5.out) (by rfl) ?_ ?_; rotate_left; (· intro W HW; go_simp; try with_reducible rfl)
              simp only [Act.put, List.setIfInBounds_toArray, List.set_cons_zero, List.set_cons_succ]
              refine rests_take 8 (oi := _) (v := ?_) (by simp only [List.getElem?_toArray, List.getElem?_cons_succ, List.getElem?_cons_zero]; rfl) (by kernel_rfl) (by kernel_rfl) (by kernel_rfl) (by exact fun _ _ _ h => h) (HE5.out) (by rfl) ?_ ?_; rotate_left; (· intro W HW; go_simp; try with_reducible rfl)
              simp only [Act.put, List.setIfInBounds_toArray, List.set_cons_zero, List.set_cons_succ]
              refine rests_store1 9 (oi := _) (by simp only [List.getElem?_toArray, List.getElem?_cons_succ, List.getElem?_cons_zero]; rfl) (by kernel_rfl) (by rfl) 3 (.tmp 116) (.tmp 115) rfl gt 1 (.int .i64 ((q1 : Int) + (n1 : Int))) rfl rfl 65 _ (two_heapQ (C := fun X => X) Fr.id_ HK.out HS5.out) (by simp) (run_storeI _ _ _) ?_
              intro w7 hg hh; have HS7 := Lib.hid (two_setQ (C := fun X => X) (r0 := q0) (r1 := q1 + n1) Fr.id_ HK.out HS5.out hg hh); have HE7 : Hid ((fun W => W.cell? ⟨g, 0, none⟩ = some (.pointer (some a0)) ∧ W.cell? ⟨g, 1, none⟩ = some (.pointer (some a1))) w7) := ⟨cell_at (two_heapG (C := fun X => X) Fr.id_ HK.out HS7.out) 0 _ rfl, cell_at (two_heapG (C := fun X => X) Fr.id_ HK.out HS7.out) 1 _ rfl⟩; refine ⟨HE7.out, ?_⟩; clear hg hh
              simp only [Act.put, List.setIfInBounds_toArray, List.set_cons_zero, List.set_cons_succ]
              refine rests_done (by kernel_rfl) ?_
              go_wp2
              have HS7d := Lib.hid (HS7.out.drew (H2.stab HK.out))
              have HE7d : Hid ((fun W => W.cell? ⟨g, 0, none⟩ = some (.pointer (some a0)) ∧ W.cell? ⟨g, 1, none⟩ = some (.pointer (some a1))) w7.drew) := ⟨cell_at (two_heapG (C := fun X => X) Fr.id_ HK.out HS7d.out) 0 _ rfl, cell_at (two_heapG (C := fun X => X) Fr.id_ HK.out HS7d.out) 1 _ rfl⟩
              refine rests_begin (fun W => W.cell? ⟨g, 0, none⟩ = some (.pointer (some a0)) ∧ W.cell? ⟨g, 1, none⟩ = some (.pointer (some a1))) (by kernel_rfl) ?_
              refine rests_take 0 (oi := _) (v := ?_) (by simp only [List.getElem?_toArray, List.getElem?_cons_zero]; rfl) (by kernel_rfl) (by kernel_rfl) (by kernel_rfl) (by exact fun _ _ _ h => h) (HE7d.out) (by rfl) ?_ ?_; rotate_left; (· intro W HW; go_simp; try with_reducible rfl)
              simp only [Act.put, List.setIfInBounds_toArray, List.set_cons_zero, List.set_cons_succ]
              refine rests_take 2 (oi := _) (v := ?_) (by simp only [List.getElem?_toArray, List.getElem?_cons_succ, List.getElem?_cons_zero]; rfl) (by kernel_rfl) (by kernel_rfl) (by kernel_rfl) (by exact fun _ _ _ h => h) (HE7d.out) (by rfl) ?_ ?_; rotate_left; (· intro W HW; go_simp; try with_reducible rfl)
              simp only [Act.put, List.setIfInBounds_toArray, List.set_cons_zero, List.set_cons_succ]
              refine rests_take 3 (oi := _) (v := ?_) (by simp only [List.getElem?_toArray, List.getElem?_cons_succ, List.getElem?_cons_zero]; rfl) (by kernel_rfl) (by kernel_rfl) (by kernel_rfl) (by exact fun _ _ _ h => h) (HE7d.out) (by rfl) ?_ ?_; rotate_left; (· intro W HW; obtain ⟨cg0, cg1⟩ := HW; go_simp; try with_reducible rfl)
              simp only [Act.put, List.setIfInBounds_toArray, List.set_cons_zero, List.set_cons_succ]
              refine rests_take 4 (oi := _) (v := ?_) (by simp only [List.getElem?_toArray, List.getElem?_cons_succ, List.getElem?_cons_zero]; rfl) (by kernel_rfl) (by kernel_rfl) (by kernel_rfl) (by exact fun _ _ _ h => h) (HE7d.out) (by rfl) ?_ ?_; rotate_left; (· intro W HW; go_simp; try with_reducible rfl)
              simp only [Act.put, List.setIfInBounds_toArray, List.set_cons_zero, List.set_cons_succ]
              refine rests_take 5 (oi := _) (v := ?_) (by simp only [List.getElem?_toArray, List.getElem?_cons_succ, List.getElem?_cons_zero]; rfl) (by kernel_rfl) (by kernel_rfl) (by kernel_rfl) (by exact fun _ _ _ h => h) (HE7d.out) (by rfl) ?_ ?_; rotate_left; (· intro W HW; obtain ⟨cg0, cg1⟩ := HW; go_simp; try with_reducible rfl)
              simp only [Act.put, List.setIfInBounds_toArray, List.set_cons_zero, List.set_cons_succ]
              refine rests_two 1 6 (oi := _) (oj := _) (by simp only [List.getElem?_toArray, List.getElem?_cons_succ, List.getElem?_cons_zero]; rfl) (by simp only [List.getElem?_toArray, List.getElem?_cons_succ, List.getElem?_cons_zero]; rfl) (by kernel_rfl) (by rfl) (by rfl) ?_ ?_
              · have cq8 : (w7.drew).cell? ⟨gt, 0, none⟩ = some (.int .i64 (q0 : Int)) := cell_at (two_heapQ (C := fun X => X) Fr.id_ HK.out HS7d.out) 0 _ rfl
                refine wp_val (v := .int .i64 (q0 : Int)) (w' := w7.drew) (by go_simp) ⟨HE7d.out, ?_⟩
                simp only [Act.put, List.setIfInBounds_toArray, List.set_cons_zero, List.set_cons_succ]
                refine rests_call 6 (oi := _) (by simp only [List.getElem?_toArray, List.getElem?_cons_succ, List.getElem?_cons_zero]; rfl) 46 #[.pointer (some a1), .pointer (some a0), .int .i64 0] _ (by kernel_rfl) (by rfl) (by go_simp) ((HSB.out _) (HS7d.out)) ?_
                rintro e w9 ⟨rfl, hs⟩; have HS9 := Lib.hid hs; have HE9 : Hid ((fun W => W.cell? ⟨g, 0, none⟩ = some (.pointer (some a0)) ∧ W.cell? ⟨g, 1, none⟩ = some (.pointer (some a1))) w9) := ⟨cell_at (two_heapG (C := fun X => X) Fr.id_ HK.out hs) 0 _ rfl, cell_at (two_heapG (C := fun X => X) Fr.id_ HK.out hs) 1 _ rfl⟩; refine ⟨_, rfl, HE9.out, ?_⟩; clear hs
                simp only [Act.put, List.setIfInBounds_toArray, List.set_cons_zero, List.set_cons_succ]
                refine rests_take 7 (oi := _) (v := ?_) (by simp only [List.getElem?_toArray, List.getElem?_cons_succ, List.getElem?_cons_zero]; rfl) (by kernel_rfl) (by kernel_rfl) (by kernel_rfl) (by exact fun _ _ _ h => h) (HE9.out) (by rfl) ?_ ?_; rotate_left; (· intro W HW; go_simp; try with_reducible rfl)
                simp only [Act.put, List.setIfInBounds_toArray, List.set_cons_zero, List.set_cons_succ]
                refine rests_take 8 (oi := _) (v := ?_) (by simp only [List.getElem?_toArray, List.getElem?_cons_succ, List.getElem?_cons_zero]; rfl) (by kernel_rfl) (by kernel_rfl) (by kernel_rfl) (by exact fun _ _ _ h => h) (HE9.out) (by rfl) ?_ ?_; rotate_left; (· intro W HW; go_simp; try with_reducible rfl)
                simp only [Act.put, List.setIfInBounds_toArray, List.set_cons_zero, List.set_cons_succ]
                refine rests_store1 9 (oi := _) (by simp only [List.getElem?_toArray, List.getElem?_cons_succ, List.getElem?_cons_zero]; rfl) (by kernel_rfl) (by rfl) 3 (.tmp 125) (.tmp 124) rfl gt 0 (.int .i64 ((q0 : Int) + (n0 : Int))) rfl rfl 65 _ (two_heapQ (C := fun X => X) Fr.id_ HK.out HS9.out) (by simp) (run_storeI _ _ _) ?_
                intro w10 hg hh; have HS10 := Lib.hid (two_setQ (C := fun X => X) (r0 := q0 + n0) (r1 := (q1 + n1)) Fr.id_ HK.out HS9.out hg hh); have HE10 : Hid ((fun W => W.cell? ⟨g, 0, none⟩ = some (.pointer (some a0)) ∧ W.cell? ⟨g, 1, none⟩ = some (.pointer (some a1))) w10) := ⟨cell_at (two_heapG (C := fun X => X) Fr.id_ HK.out HS10.out) 0 _ rfl, cell_at (two_heapG (C := fun X => X) Fr.id_ HK.out HS10.out) 1 _ rfl⟩; refine ⟨HE10.out, ?_⟩; clear hg hh
                simp only [Act.put, List.setIfInBounds_toArray, List.set_cons_zero, List.set_cons_succ]
                refine rests_done (by kernel_rfl) ?_
                go_wp2
                go_roundw
                case rel => exact ⟨j + 1, _, _, _, _, by omega, by go_num, HFN.out, HSX.out, HSY.out, HS10.out⟩
                case measure => simp [intOf] <;> omega
              · refine wp_enter (f := 46) (args := #[.pointer (some a1), .pointer (some a0), .int .i64 0]) (by go_simp) ((HSB.out _) (HS7d.out)) ?_
                rintro e w8 ⟨rfl, hs⟩; have HS8 := Lib.hid hs; have HE8 : Hid ((fun W => W.cell? ⟨g, 0, none⟩ = some (.pointer (some a0)) ∧ W.cell? ⟨g, 1, none⟩ = some (.pointer (some a1))) w8) := ⟨cell_at (two_heapG (C := fun X => X) Fr.id_ HK.out hs) 0 _ rfl, cell_at (two_heapG (C := fun X => X) Fr.id_ HK.out hs) 1 _ rfl⟩; refine ⟨_, rfl, HE8.out, ?_⟩; clear hs
                simp only [Act.put, List.setIfInBounds_toArray, List.set_cons_zero, List.set_cons_succ]
                have cq9 : (w8).cell? ⟨gt, 0, none⟩ = some (.int .i64 (q0 : Int)) := cell_at (two_heapQ (C := fun X => X) Fr.id_ HK.out HS8.out) 0 _ rfl
                refine rests_run 1 (oi := _) (by simp only [List.getElem?_toArray, List.getElem?_cons_succ, List.getElem?_cons_zero]; rfl) (by kernel_rfl) (by rfl) (.int .i64 (q0 : Int)) (w8) (by go_simp) ⟨HE8.out, ?_⟩
                simp only [Act.put, List.setIfInBounds_toArray, List.set_cons_zero, List.set_cons_succ]
                refine rests_take 7 (oi := _) (v := ?_) (by simp only [List.getElem?_toArray, List.getElem?_cons_succ, List.getElem?_cons_zero]; rfl) (by kernel_rfl) (by kernel_rfl) (by kernel_rfl) (by exact fun _ _ _ h => h) (HE8.out) (by rfl) ?_ ?_; rotate_left; (· intro W HW; go_simp; try with_reducible rfl)
                simp only [Act.put, List.setIfInBounds_toArray, List.set_cons_zero, List.set_cons_succ]
                refine rests_take 8 (oi := _) (v := ?_) (by simp only [List.getElem?_toArray, List.getElem?_cons_succ, List.getElem?_cons_zero]; rfl) (by kernel_rfl) (by kernel_rfl) (by kernel_rfl) (by exact fun _ _ _ h => h) (HE8.out) (by rfl) ?_ ?_; rotate_left; (· intro W HW; go_simp; try with_reducible rfl)
                simp only [Act.put, List.setIfInBounds_toArray, List.set_cons_zero, List.set_cons_succ]
                refine rests_store1 9 (oi := _) (by simp only [List.getElem?_toArray, List.getElem?_cons_succ, List.getElem?_cons_zero]; rfl) (by kernel_rfl) (by rfl) 3 (.tmp 125) (.tmp 124) rfl gt 0 (.int .i64 ((q0 : Int) + (n0 : Int))) rfl rfl 65 _ (two_heapQ (C := fun X => X) Fr.id_ HK.out HS8.out) (by simp) (run_storeI _ _ _) ?_
                intro w10 hg hh; have HS10 := Lib.hid (two_setQ (C := fun X => X) (r0 := q0 + n0) (r1 := (q1 + n1)) Fr.id_ HK.out HS8.out hg hh); have HE10 : Hid ((fun W => W.cell? ⟨g, 0, none⟩ = some (.pointer (some a0)) ∧ W.cell? ⟨g, 1, none⟩ = some (.pointer (some a1))) w10) := ⟨cell_at (two_heapG (C := fun X => X) Fr.id_ HK.out HS10.out) 0 _ rfl, cell_at (two_heapG (C := fun X => X) Fr.id_ HK.out HS10.out) 1 _ rfl⟩; refine ⟨HE10.out, ?_⟩; clear hg hh
                simp only [Act.put, List.setIfInBounds_toArray, List.set_cons_zero, List.set_cons_succ]
                refine rests_done (by kernel_rfl) ?_
                go_wp2
                go_roundw
                case rel => exact ⟨j + 1, _, _, _, _, by omega, by go_num, HFN.out, HSX.out, HSY.out, HS10.out⟩
                case measure => simp [intOf] <;> omega
          · have t5 : decide ((j : Int) < 20) = false := decide_eq_false (by omega)
            obtain ⟨d1, d2, d3, d4⟩ := HF.out.done (by omega)
            subst d1
            subst d2
            have HL0 : Hid ((0 : Int) = (T0.left : Int)) := by show (0 : Int) = ((T0.out.l.length : Nat) : Int); rw [d3]; rfl
            have HL1 : Hid ((0 : Int) = (T1.left : Int)) := by show (0 : Int) = ((T1.out.l.length : Nat) : Int); rw [d4]; rfl
            have pp0 := cell_at (two_heapG (C := fun X => X) Fr.id_ HK.out HS2.out) 0 _ rfl
            have pc0 := cell_at (two_heapP (C := fun X => X) Fr.id_ HK.out HS2.out) 0 _ rfl
            have pc1 := cell_at (two_heapP (C := fun X => X) Fr.id_ HK.out HS2.out) 1 _ rfl
            have qc0 := cell_at (two_heapQ (C := fun X => X) Fr.id_ HK.out HS2.out) 0 _ rfl
            have qc1 := cell_at (two_heapQ (C := fun X => X) Fr.id_ HK.out HS2.out) 1 _ rfl
            clear d3 d4
            go_wp2_with (first
              | (go_at_call 45; first
                | ((with_reducible refine (two_left0 (C := fun X => X) Fr.id_ (fun R hR => hR) HK.out HL0.out HS2.out).mono ?_); rintro e w3 ⟨rfl, hs⟩; have HS3 := Lib.hid hs; have pp1b := cell_at (two_heapG (C := fun X => X) Fr.id_ HK.out HS3.out) 1 _ rfl; clear hs)
                | ((with_reducible refine (two_left1 (C := fun X => X) Fr.id_ (fun R hR => hR) HK.out HL1.out HS3.out).mono ?_); rintro e w4 ⟨rfl, hs⟩; have HS4 := Lib.hid hs; clear hs)))
            go_ret
            exact ⟨by simp, HS4.out.bel0⟩
end Go.Proofs.YtocjhpaackccpaaGreatDoor
