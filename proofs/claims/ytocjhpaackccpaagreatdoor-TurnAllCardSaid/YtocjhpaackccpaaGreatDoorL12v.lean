/- The law TurnAll. -/
import Derived.Test.YtocjhpaackccpaaGreatDoorN12D
import Derived.Test.YtocjhpaackccpaaGreatDoorRTn
import Derived.Test.YtocjhpaackccpaaGreatDoorEqPl
import Derived.Test.YtocjhpaackccpaaGreatDoorM4D
import Derived.Deep.CutBlock
import Derived.Deep.DeepCutAuto

set_option linter.all false

namespace Go.Proofs.YtocjhpaackccpaaGreatDoor
open Go.RowKit M

theorem row_range {w : World} {g : Nat} {cs : List Value} {t : TypeId} (h : w.heap[g]? = some (.cells cs.toArray t (0, 0))) : w.rangeAt g 0 cs := fun j u hu => by
  rw [Nat.zero_add]
  exact cell_at h j u (by simpa using hu)
theorem says_len7 {a : TurnM} (ha : a.ok) : a.says.length ≤ 7 := by
  have := OutM.k_le ha.out
  unfold TurnM.says
  split
  · split
    · simp
    · simp; omega
  · simp
theorem TnLeft_len (v : Value) (m : TurnM) (F : List Nat) (w : World) (h : TurnW v m w F) : Calls Tryz.prog 45 #[v] w fun e w' => e = .returned (.int .i64 (m.out.l.length : Int)) ∧ Below w.heap.size w w' := TnLeft_any v m F w h
theorem dTnNew_add {w0 w : World} {F0 : List Nat} {H : Obj} {role b s wi z wa : Int} (hH : Stab H) (hr : role = 1 ∨ role = 2) (hwi : (Lit.int .i64 wi).wf = true) (hz : (Lit.int .i64 z).wf = true) (h : Done w0 F0 H w) : Calls Tryz.prog 28 #[.int .i64 role, .agg #[.int .i64 b, .int .i64 s, .int .i64 wi, .int .i64 z, .int .i64 wa]] w fun e w' => ∃ a : Addr, e = .returned (.pointer (some a)) ∧ Done w0 F0 (Star H (TurnW (.pointer (some a)) (TurnM.new role wi z))) w' := by
  refine (TnNew_any role b s wi z wa w hr hwi hz).mono ?_
  rintro e w' ⟨v, rfl, hd⟩
  have hs := h.add hH hd
  obtain ⟨_, h0⟩ := hs.get (C := fun X => Star H X) (Fr.r hH Fr.id_)
  obtain ⟨a, rfl⟩ := h0.ptr
  exact ⟨a, rfl, hs⟩
theorem dRTnNew_add {w0 w : World} {F0 : List Nat} {H : Obj} {role b s wi z wa : Int} (hH : Stab H) (hr : role = 1 ∨ role = 2) (h : Done w0 F0 H w) : Calls Tryz.prog 29 #[.int .i64 role, .agg #[.int .i64 b, .int .i64 s, .int .i64 wi, .int .i64 z, .int .i64 wa]] w fun e w' => ∃ g, e = .returned (.pointer (some ⟨g, 0, none⟩)) ∧ Done w0 F0 (Star H (RTn g (TurnM.new role wi z))) w' := by
  refine (RTnNew_any role b s wi z wa w hr).mono ?_
  rintro e w' ⟨g, rfl, hd⟩
  exact ⟨g, rfl, h.add hH hd⟩
theorem dTnGo_at {w0 w : World} {F0 : List Nat} {C : Obj → Obj} {v : Value} {m : TurnM} (hC : Fr C) (h : Done w0 F0 (C (TurnW v m)) w) : Calls Tryz.prog 34 #[v] w fun e w' => ∃ A c, e = .returned (.slice A m.says.length c) ∧ (m.says.length ≤ c ∧ c ≤ maxLen) ∧ Done w0 F0 (C (Star (TurnW v m.go) (SlW 9 (.slice A m.says.length c) m.says.length (plcs m.says)))) w' := by
  obtain ⟨F, hF, hu⟩ := h.upd hC
  refine (TnGo_any v m F w hF).mono ?_
  rintro e w' ⟨a, rfl, hd⟩
  have hd' := hd
  obtain ⟨F', ⟨F2, F3, rfl, k1, k2, _⟩, _⟩ := hd'
  obtain ⟨A, c, rfl, e1, e2⟩ := k2.shape
  exact ⟨A, c, rfl, ⟨e1, e2⟩, hu hd⟩
theorem dRTnGo_at {w0 w : World} {F0 : List Nat} {C : Obj → Obj} {g : Nat} {m : TurnM} (hC : Fr C) (h : Done w0 F0 (C (RTn g m)) w) : Calls Tryz.prog 35 #[.pointer (some ⟨g, 0, none⟩)] w fun e w' => ∃ A c, e = .returned (.slice A m.says.length c) ∧ (m.says.length ≤ c ∧ c ≤ maxLen) ∧ Done w0 F0 (C (Star (RTn g m.go) (OwnK 37 9 (.slice A m.says.length c) m.says.length (plcs m.says)))) w' := by
  obtain ⟨F, hF, hu⟩ := h.upd hC
  refine (RTnGo_any g m F w hF).mono ?_
  rintro e w' ⟨A, c, rfl, hb, hd⟩
  exact ⟨A, c, rfl, hb, hu hd⟩
set_option maxRecDepth 100000 in
set_option maxHeartbeats 64000000 in
theorem TurnAll_law (role : Int) (d : De5In) (a0 : Value) (l : List OpIn) (w : World) (hd : d.ok) (ha : RdG 12 w a0 l.length (l.flatMap oc)) (hl : ∀ x ∈ l, x.ok) (hC : Codes w) : Calls Tryz.prog 5 #[.int .i64 role, d.val, a0] w fun e w' => e = .returned (.bool true) ∧ Below w.heap.size w w' := by
  obtain ⟨A, cap, rfl, hcap, hmax⟩ := ha.shape
  have HA := Lib.hid ha
  have HC := Lib.hid hC
  have HOK := Lib.hid hl
  have HDW := Lib.hid hd.2.2.1
  obtain ⟨L, hL⟩ : ∃ L, L = l.length := ⟨_, rfl⟩
  rw [← hL] at hcap ⊢
  have HL := Lib.hid hL
  have HCAP := Lib.hid hcap
  clear ha hC hl hL hcap hmax hd
  have a1_q := Int.lt_tmod_of_pos role (show (0 : Int) < 2 by decide)
  have a2_q := Int.tmod_lt_of_pos role (show (0 : Int) < 2 by decide)
  obtain ⟨t_q, ht_q⟩ : ∃ t, role.tmod 2 = t := ⟨_, rfl⟩
  rw [ht_q] at a1_q a2_q
  have e1_q : IntKind.i64.wrap t_q = t_q := IntWalk.i64_in _ (by omega)
  have e2_q : IntKind.i64.wrap (t_q + 2) = t_q + 2 := IntWalk.i64_in _ (by omega)
  obtain ⟨q, h_q⟩ : ∃ q : Nat, t_q % 2 = (q : Int) := ⟨(t_q % 2).toNat, by omega⟩
  have e3_q : (t_q + 2).tmod 2 = (q : Int) := by rw [Int.tmod_eq_emod_of_nonneg (by omega)]; omega
  have e4_q : IntKind.i64.wrap (q : Int) = (q : Int) := IntWalk.i64_in _ (by omega)
  have b_q : q < 2 := by omega
  clear a1_q a2_q
  have a1_z := Int.lt_tmod_of_pos d.z (show (0 : Int) < 70 by decide)
  have a2_z := Int.tmod_lt_of_pos d.z (show (0 : Int) < 70 by decide)
  obtain ⟨t_z, ht_z⟩ : ∃ t, d.z.tmod 70 = t := ⟨_, rfl⟩
  rw [ht_z] at a1_z a2_z
  have e1_z : IntKind.i64.wrap t_z = t_z := IntWalk.i64_in _ (by omega)
  have e2_z : IntKind.i64.wrap (t_z + 70) = t_z + 70 := IntWalk.i64_in _ (by omega)
  obtain ⟨z, h_z⟩ : ∃ q : Nat, t_z % 70 = (q : Int) := ⟨(t_z % 70).toNat, by omega⟩
  have e3_z : (t_z + 70).tmod 70 = (z : Int) := by rw [Int.tmod_eq_emod_of_nonneg (by omega)]; omega
  have e4_z : IntKind.i64.wrap (z : Int) = (z : Int) := IntWalk.i64_in _ (by omega)
  have b_z : z < 70 := by omega
  clear a1_z a2_z
  have HZW : Hid ((Lit.int .i64 (z : Int)).wf = true) := by show _ = _; exact w64 (by omega)
  have HS0 : Hid (Done w [] (CellW w.heap.size #[.int .i64 d.b, .int .i64 d.s, .int .i64 d.wi, .int .i64 d.z, .int .i64 d.wa] 43) (w.alloc (.cells #[.int .i64 d.b, .int .i64 d.s, .int .i64 d.wi, .int .i64 d.z, .int .i64 d.wa] 43))) := CellW.new w _ _
  clear b_z
  have hq : q = 0 ∨ q = 1 := by omega
  rcases hq with rfl | rfl
  · have z0 : ((0 : Nat) : Int) = 0 := rfl
    rw [z0] at h_q e3_q e4_q
    go_enter Tryz.func5, Tryz.ntmps5
    go_wp2_with (first
      | (go_at_call 17; ((with_reducible refine (dcalls_keep (CellW.stab _ _ _) HS0.out (begun12_any _ (HC.out.below HS0.out.bel))).mono ?_); rintro e w1 ⟨rfl, hs⟩; have HS1 := Lib.hid hs; have cz : w1.cell? ⟨w.heap.size, 3, none⟩ = some (.int .i64 d.z) := cell_at (Done.at_ (C := fun X => X) Fr.id_ hs) 3 _ rfl; clear hs))
      | ((with_reducible refine wpList_storeD (C := fun X => X) Fr.id_ HS1.out rfl 3 (.tmp 31) (.tmp 30) rfl 3 (.int .i64 (z : Int)) rfl rfl (by simp) (run_storeI _ _ _) ?_); intro w2 hs; have HS2 : Hid (Done w [] (CellW w.heap.size #[.int .i64 d.b, .int .i64 d.s, .int .i64 d.wi, .int .i64 (z : Int), .int .i64 d.wa] 43) w2) := (by show Done _ _ _ _; exact hs); clear hs))
    have HS2d := Lib.hid (HS2.out.drewD (CellW.stab _ _ _))
    have HE2d : Hid ((fun U => U.heap[w.heap.size]? = some (.cells #[.int .i64 d.b, .int .i64 d.s, .int .i64 d.wi, .int .i64 (z : Int), .int .i64 d.wa] 43 (0, 0))) w2.drew) := (Done.at_ (C := fun X => X) Fr.id_ HS2d.out)
    refine rests_begin (fun U => U.heap[w.heap.size]? = some (.cells #[.int .i64 d.b, .int .i64 d.s, .int .i64 d.wi, .int .i64 (z : Int), .int .i64 d.wa] 43 (0, 0))) (by kernel_rfl) ?_
    refine rests_take 0 (oi := _) (v := ?_) (by simp only [List.getElem?_toArray, List.getElem?_cons_zero]; rfl) (by kernel_rfl) (by kernel_rfl) (by kernel_rfl) (by exact fun _ _ _ h => h) (HE2d.out) (by rfl) ?_ ?_; rotate_left; (· intro W HW; go_simp; try with_reducible rfl)
    simp only [Act.put, List.setIfInBounds_toArray, List.set_cons_zero, List.set_cons_succ]
    refine rests_take 1 (oi := _) (v := .agg #[.int .i64 d.b, .int .i64 d.s, .int .i64 d.wi, .int .i64 (z : Int), .int .i64 d.wa]) (by simp only [List.getElem?_toArray, List.getElem?_cons_succ, List.getElem?_cons_zero]; rfl) (by kernel_rfl) (by kernel_rfl) (by kernel_rfl) (by exact fun _ _ _ h => h) (HE2d.out) (by rfl) (fun W HW => exec_load_mid 43 (.tmp 4) rfl (w.heap.size) 0 rfl [.int .i64 d.b, .int .i64 d.s, .int .i64 d.wi, .int .i64 (z : Int), .int .i64 d.wa] _ (row_range HW) Tryz.underlying43 rfl (by kernel_rfl)) ?_
    simp only [Act.put, List.setIfInBounds_toArray, List.set_cons_zero, List.set_cons_succ]
    refine rests_take 3 (oi := _) (v := ?_) (by simp only [List.getElem?_toArray, List.getElem?_cons_succ, List.getElem?_cons_zero]; rfl) (by kernel_rfl) (by kernel_rfl) (by kernel_rfl) (by exact fun _ _ _ h => h) (HE2d.out) (by rfl) ?_ ?_; rotate_left; (· intro W HW; go_simp; try with_reducible rfl)
    simp only [Act.put, List.setIfInBounds_toArray, List.set_cons_zero, List.set_cons_succ]
    refine rests_take 4 (oi := _) (v := .agg #[.int .i64 d.b, .int .i64 d.s, .int .i64 d.wi, .int .i64 (z : Int), .int .i64 d.wa]) (by simp only [List.getElem?_toArray, List.getElem?_cons_succ, List.getElem?_cons_zero]; rfl) (by kernel_rfl) (by kernel_rfl) (by kernel_rfl) (by exact fun _ _ _ h => h) (HE2d.out) (by rfl) (fun W HW => exec_load_mid 43 (.tmp 4) rfl (w.heap.size) 0 rfl [.int .i64 d.b, .int .i64 d.s, .int .i64 d.wi, .int .i64 (z : Int), .int .i64 d.wa] _ (row_range HW) Tryz.underlying43 rfl (by kernel_rfl)) ?_
    simp only [Act.put, List.setIfInBounds_toArray, List.set_cons_zero, List.set_cons_succ]
    refine rests_call 2 (oi := _) (by simp only [List.getElem?_toArray, List.getElem?_cons_succ, List.getElem?_cons_zero]; rfl) 28 #[.int .i64 1, .agg #[.int .i64 d.b, .int .i64 d.s, .int .i64 d.wi, .int .i64 (z : Int), .int .i64 d.wa]] _ (by kernel_rfl) (by rfl) (by go_simp) (dTnNew_add (CellW.stab _ _ _) (.inl rfl) HDW.out HZW.out HS2d.out) ?_
    rintro e w3 ⟨a, rfl, hs⟩; have HS3 := Lib.hid hs; have HE3 : Hid ((fun U => U.heap[w.heap.size]? = some (.cells #[.int .i64 d.b, .int .i64 d.s, .int .i64 d.wi, .int .i64 (z : Int), .int .i64 d.wa] 43 (0, 0))) w3) := (Done.at_ (C := fun X => Star (X) (TurnW (.pointer (some a)) (TurnM.new 1 d.wi (z : Int)))) (Fr.l Fr.id_ (TurnW.stab _ _)) hs); refine ⟨_, rfl, HE3.out, ?_⟩; clear hs
    simp only [Act.put, List.setIfInBounds_toArray, List.set_cons_zero, List.set_cons_succ]
    refine rests_call 5 (oi := _) (by simp only [List.getElem?_toArray, List.getElem?_cons_succ, List.getElem?_cons_zero]; rfl) 29 #[.int .i64 1, .agg #[.int .i64 d.b, .int .i64 d.s, .int .i64 d.wi, .int .i64 (z : Int), .int .i64 d.wa]] _ (by kernel_rfl) (by rfl) (by go_simp) (dRTnNew_add ((CellW.stab _ _ _).star (TurnW.stab _ _)) (.inl rfl) HS3.out) ?_
    rintro e w4 ⟨g, rfl, hs⟩; have HS4 := Lib.hid hs; have HE4 : Hid ((fun U => U.heap[w.heap.size]? = some (.cells #[.int .i64 d.b, .int .i64 d.s, .int .i64 d.wi, .int .i64 (z : Int), .int .i64 d.wa] 43 (0, 0))) w4) := (Done.at_ (C := fun X => Star (Star (X) (TurnW (.pointer (some a)) (TurnM.new 1 d.wi (z : Int)))) (RTn g (TurnM.new 1 d.wi (z : Int)))) (Fr.l (Fr.l Fr.id_ (TurnW.stab _ _)) (RTn.stab _ _)) hs); refine ⟨_, rfl, HE4.out, ?_⟩; clear hs
    simp only [Act.put, List.setIfInBounds_toArray, List.set_cons_zero, List.set_cons_succ]
    refine rests_take 6 (oi := _) (v := ?_) (by simp only [List.getElem?_toArray, List.getElem?_cons_succ, List.getElem?_cons_zero]; rfl) (by kernel_rfl) (by kernel_rfl) (by kernel_rfl) (by exact fun _ _ _ h => h) (HE4.out) (by rfl) ?_ ?_; rotate_left; (· intro W HW; go_simp; try with_reducible rfl)
    simp only [Act.put, List.setIfInBounds_toArray, List.set_cons_zero, List.set_cons_succ]
    refine rests_take 7 (oi := _) (v := ?_) (by simp only [List.getElem?_toArray, List.getElem?_cons_succ, List.getElem?_cons_zero]; rfl) (by kernel_rfl) (by kernel_rfl) (by kernel_rfl) (by exact fun _ _ _ h => h) (HE4.out) (by rfl) ?_ ?_; rotate_left; (· intro W HW; go_simp; try with_reducible rfl)
    simp only [Act.put, List.setIfInBounds_toArray, List.set_cons_zero, List.set_cons_succ]
    refine rests_done (by kernel_rfl) ?_
    clear HS0 HS1 HS2
    go_wp2
    go_loopw [10] (fun jv wr => ∃ (j : Nat) (M : TurnM), j ≤ 80 ∧ j ≤ L ∧ jv = .int .i64 (j : Int) ∧ Done w [] (Star (Star (CellW w.heap.size #[.int .i64 d.b, .int .i64 d.s, .int .i64 d.wi, .int .i64 (z : Int), .int .i64 d.wa] 43) (TurnW (.pointer (some a)) M)) (RTn g M)) wr) (fun jv _ => (80 - intOf jv).toNat)
    case atStart => exact ⟨0, (TurnM.new 1 d.wi (z : Int)), by omega, by omega, rfl, HS4.out⟩
    case round =>
      clear HS3 HE3 HS4 HE4
      obtain ⟨j, M, hj80, hjL, rfl, hs⟩ := hrel
      have HS2 := Lib.hid hs
      have HMOK : Hid M.ok := ((Done.get (C := fun X => Star (Star (CellW w.heap.size #[.int .i64 d.b, .int .i64 d.s, .int .i64 d.wi, .int .i64 (z : Int), .int .i64 d.wa] 43) (TurnW (.pointer (some a)) M)) X) (Fr.r ((CellW.stab _ _ _).star (TurnW.stab _ _)) Fr.id_) hs).elim fun _ h => h.ok)
      clear hs
      by_cases hlt : j < L
      · have t1 : decide ((j : Int) < (L : Int)) = true := decide_eq_true (by omega)
        by_cases h80 : j < 80
        · have t2 : decide ((j : Int) < 80) = true := decide_eq_true (by omega)
          have t3 : (j : Int) < (L : Int) := by omega
          have tc : (L : Int) ≤ (cap : Int) := by have := HCAP.out; omega
          have e4 : IntKind.i64.wrap ((j : Int) + 1) = (j : Int) + 1 := IntWalk.i64_in _ (by omega)
          have hjl : j < l.length := by rw [← HL.out]; exact hlt
          obtain ⟨b, off, rfl, hblt, hc⟩ := HA.out.row (f := oc) (fun _ => rfl) hjl
          have hok := HOK.out _ (List.getElem_mem hjl)
          generalize l[j] = x at hc hok
          have HX := Lib.hid hok
          have HRG : Hid (wr.rangeAt b (off + j * 12) (oc x)) := by
            show World.rangeAt _ _ _ _
            refine range_below (w := w) (fun r u hu => hc r u (List.getElem?_eq_some_iff.1 hu).1 hu) HS2.out.bel
          have HT := Lib.hid (HS2.out.add (((CellW.stab _ _ _).star (TurnW.stab _ _)).star (RTn.stab _ _)) (CellW.new wr #[.int .i64 0, .int .i64 0, .string ⟨#[]⟩, .int .i64 0, .int .i64 0, .bool false, .int .i64 0, .int .i64 0, .int .i64 0, .int .i64 0, .bool false, .string ⟨#[]⟩] 39))
          clear hc hok hblt hjl
          go_upto_block 2 with (first
            | (with_reducible refine wpList_load_mid rfl 39 (.tmp 52) rfl b (off + j * 12) rfl (oc x) _ HRG.out Tryz.underlying39 rfl (by kernel_rfl) ?_)
            | ((with_reducible refine wpList_storeBD (C := fun X => Star (Star (Star (CellW w.heap.size #[.int .i64 d.b, .int .i64 d.s, .int .i64 d.wi, .int .i64 (z : Int), .int .i64 d.wa] 43) (TurnW (.pointer (some a)) M)) (RTn g M)) X) (Fr.r (((CellW.stab _ _ _).star (TurnW.stab _ _)).star (RTn.stab _ _)) Fr.id_) HT.out rfl 39 (.tmp 11) (.tmp 53) rfl #[.int .i64 x.kind, .int .i64 x.n, .string x.body, .int .i64 x.p.seat, .int .i64 x.p.count, .bool x.p.cmd, .int .i64 x.p.kind, .int .i64 x.p.sort, .int .i64 x.p.nr, .int .i64 x.p.ns, .bool x.p.pf, .string x.p.body] rfl rfl (by kernel_rfl) rfl (by simp [Value.oneCell']) ?_); intro w3 hs; have HS3 : Hid (Done w [] (Star (Star (Star (CellW w.heap.size #[.int .i64 d.b, .int .i64 d.s, .int .i64 d.wi, .int .i64 (z : Int), .int .i64 d.wa] 43) (TurnW (.pointer (some a)) M)) (RTn g M)) (CellW wr.heap.size #[.int .i64 x.kind, .int .i64 x.n, .string x.body, .int .i64 x.p.seat, .int .i64 x.p.count, .bool x.p.cmd, .int .i64 x.p.kind, .int .i64 x.p.sort, .int .i64 x.p.nr, .int .i64 x.p.ns, .bool x.p.pf, .string x.p.body] 39)) w3) := (by show Done _ _ _ _; exact hs); have ck : w3.cell? ⟨wr.heap.size, 0, none⟩ = some (.int .i64 x.kind) := cell_at (Done.at_ (C := fun X => Star (Star (Star (CellW w.heap.size #[.int .i64 d.b, .int .i64 d.s, .int .i64 d.wi, .int .i64 (z : Int), .int .i64 d.wa] 43) (TurnW (.pointer (some a)) M)) (RTn g M)) X) (Fr.r (((CellW.stab _ _ _).star (TurnW.stab _ _)).star (RTn.stab _ _)) Fr.id_) hs) 0 _ rfl; clear hs))
          go_cut [10] (fun jv wx => jv = .int .i64 (j : Int) ∧ ∃ M2 : TurnM, Done w [] (Star (Star (CellW w.heap.size #[.int .i64 d.b, .int .i64 d.s, .int .i64 d.wi, .int .i64 (z : Int), .int .i64 d.wa] 43) (TurnW (.pointer (some a)) M2)) (RTn g M2)) wx)
          case first =>
            by_cases h0 : x.kind = 0
            · have tk0 : (x.kind == 0) = true := by rw [h0]; rfl
              have HS4 := Lib.hid HS3.out
              clear h0
              obtain ⟨tx, htx⟩ : ∃ tx, tx = x.body.extract 0 (min x.body.size 70) := ⟨_, rfl⟩
              have htt := fun w => Text_any x.body 70 w HX.out.2.2.1 (by omega)
              rw [← htx] at htt
              have HTX : Hid (∀ w, Calls Tryz.prog 30 #[.string x.body, .int .i64 70] w fun e w' => e = .returned (.string tx) ∧ w = w') := htt
              have HTS : Hid (tx.size ≤ maxLen) := by show _ ≤ _; rw [htx, ByteArray.size_extract]; simp only [maxLen]; omega
              have cb : w3.cell? ⟨wr.heap.size, 2, none⟩ = some (.string x.body) := cell_at (Done.at_ (C := fun X => Star (Star (Star (CellW w.heap.size #[.int .i64 d.b, .int .i64 d.s, .int .i64 d.wi, .int .i64 (z : Int), .int .i64 d.wa] 43) (TurnW (.pointer (some a)) M)) (RTn g M)) X) (Fr.r (((CellW.stab _ _ _).star (TurnW.stab _ _)).star (RTn.stab _ _)) Fr.id_) HS4.out) 2 _ rfl
              obtain ⟨pe, hpe⟩ : ∃ pe, M.putE tx = pe := ⟨_, rfl⟩
              obtain ⟨M2, hM2⟩ : ∃ M2, M.put tx = M2 := ⟨_, rfl⟩
              have HPA : Hid (∀ F W, TurnW (.pointer (some a)) M W F → Calls Tryz.prog 31 #[.pointer (some a), .string tx] W fun e w' => e = .returned (.int .i64 pe) ∧ Done W F (TurnW (.pointer (some a)) M2) w') := by show ∀ _, _; intro F W hF; rw [← hpe, ← hM2]; exact TnPut_any (.pointer (some a)) M F tx W hF HTS.out
              have HPB : Hid (∀ F W, RTn g M W F → Calls Tryz.prog 32 #[.pointer (some ⟨g, 0, none⟩), .string tx] W fun e w' => e = .returned (.int .i64 pe) ∧ Done W F (RTn g M2) w') := by show ∀ _, _; intro F W hF; rw [← hpe, ← hM2]; exact RTnPut_any g M F tx W hF
              clear htx htt hpe hM2
              go_wp2_with (first
                | (go_at_call 30; ((with_reducible refine (HTX.out _).mono ?_); rintro e w' ⟨rfl, hw'⟩; rw [← hw']; clear hw'))
                | (go_at_call 31; ((with_reducible refine (dcalls_at (C := fun X => Star (Star (Star (CellW w.heap.size #[.int .i64 d.b, .int .i64 d.s, .int .i64 d.wi, .int .i64 (z : Int), .int .i64 d.wa] 43) X) (RTn g M)) (CellW wr.heap.size #[.int .i64 x.kind, .int .i64 x.n, .string x.body, .int .i64 x.p.seat, .int .i64 x.p.count, .bool x.p.cmd, .int .i64 x.p.kind, .int .i64 x.p.sort, .int .i64 x.p.nr, .int .i64 x.p.ns, .bool x.p.pf, .string x.p.body] 39)) (Fr.l (Fr.l (Fr.r (CellW.stab _ _ _) Fr.id_) (RTn.stab _ _)) (CellW.stab _ _ _)) HS4.out (fun F hF => HPA.out F _ hF)).mono ?_); rintro e w5 ⟨rfl, hs⟩; have HS5 := Lib.hid hs; clear hs))
                | (go_at_call 32; ((with_reducible refine (dcalls_at (C := fun X => Star (Star (Star (CellW w.heap.size #[.int .i64 d.b, .int .i64 d.s, .int .i64 d.wi, .int .i64 (z : Int), .int .i64 d.wa] 43) (TurnW (.pointer (some a)) M2)) X) (CellW wr.heap.size #[.int .i64 x.kind, .int .i64 x.n, .string x.body, .int .i64 x.p.seat, .int .i64 x.p.count, .bool x.p.cmd, .int .i64 x.p.kind, .int .i64 x.p.sort, .int .i64 x.p.nr, .int .i64 x.p.ns, .bool x.p.pf, .string x.p.body] 39)) (Fr.l (Fr.r ((CellW.stab _ _ _).star (TurnW.stab _ _)) Fr.id_) (CellW.stab _ _ _)) HS5.out (fun F hF => HPB.out F _ hF)).mono ?_); rintro e w6 ⟨rfl, hs⟩; have HS6 := Lib.hid hs; clear hs)))
              go_meet
              exact ⟨rfl, M2, HS6.out.drop⟩
            have tk0 : (x.kind == 0) = false := beq_eq_false_iff_ne.2 h0
            clear h0
            by_cases h1 : x.kind = 1
            · have tk1 : (x.kind == 1) = true := by rw [h1]; rfl
              have HS4 := Lib.hid HS3.out
              clear h1
              obtain ⟨S, hS⟩ : ∃ S, M.says.length = S := ⟨_, rfl⟩
              have HGA : Hid (∀ W, Done w [] (Star (Star (Star (CellW w.heap.size #[.int .i64 d.b, .int .i64 d.s, .int .i64 d.wi, .int .i64 (z : Int), .int .i64 d.wa] 43) (TurnW (.pointer (some a)) M)) (RTn g M)) (CellW wr.heap.size #[.int .i64 x.kind, .int .i64 x.n, .string x.body, .int .i64 x.p.seat, .int .i64 x.p.count, .bool x.p.cmd, .int .i64 x.p.kind, .int .i64 x.p.sort, .int .i64 x.p.nr, .int .i64 x.p.ns, .bool x.p.pf, .string x.p.body] 39)) W → Calls Tryz.prog 34 #[.pointer (some a)] W fun e w' => ∃ A1 c1, e = .returned (.slice A1 S c1) ∧ (S ≤ c1 ∧ c1 ≤ maxLen) ∧ Done w [] (Star (Star (Star (CellW w.heap.size #[.int .i64 d.b, .int .i64 d.s, .int .i64 d.wi, .int .i64 (z : Int), .int .i64 d.wa] 43) (Star (TurnW (.pointer (some a)) M.go) (SlW 9 (.slice A1 S c1) S (plcs M.says)))) (RTn g M)) (CellW wr.heap.size #[.int .i64 x.kind, .int .i64 x.n, .string x.body, .int .i64 x.p.seat, .int .i64 x.p.count, .bool x.p.cmd, .int .i64 x.p.kind, .int .i64 x.p.sort, .int .i64 x.p.nr, .int .i64 x.p.ns, .bool x.p.pf, .string x.p.body] 39)) w') := by show ∀ _, _; intro W hW; have hh := dTnGo_at (C := fun X => Star (Star (Star (CellW w.heap.size #[.int .i64 d.b, .int .i64 d.s, .int .i64 d.wi, .int .i64 (z : Int), .int .i64 d.wa] 43) X) (RTn g M)) (CellW wr.heap.size #[.int .i64 x.kind, .int .i64 x.n, .string x.body, .int .i64 x.p.seat, .int .i64 x.p.count, .bool x.p.cmd, .int .i64 x.p.kind, .int .i64 x.p.sort, .int .i64 x.p.nr, .int .i64 x.p.ns, .bool x.p.pf, .string x.p.body] 39)) (Fr.l (Fr.l (Fr.r (CellW.stab _ _ _) Fr.id_) (RTn.stab _ _)) (CellW.stab _ _ _)) hW; rw [hS] at hh; exact hh
              have HGB : Hid (∀ (A1 : Option Addr) (c1 : Nat) W, Done w [] (Star (Star (Star (CellW w.heap.size #[.int .i64 d.b, .int .i64 d.s, .int .i64 d.wi, .int .i64 (z : Int), .int .i64 d.wa] 43) (Star (TurnW (.pointer (some a)) M.go) (SlW 9 (.slice A1 S c1) S (plcs M.says)))) (RTn g M)) (CellW wr.heap.size #[.int .i64 x.kind, .int .i64 x.n, .string x.body, .int .i64 x.p.seat, .int .i64 x.p.count, .bool x.p.cmd, .int .i64 x.p.kind, .int .i64 x.p.sort, .int .i64 x.p.nr, .int .i64 x.p.ns, .bool x.p.pf, .string x.p.body] 39)) W → Calls Tryz.prog 35 #[.pointer (some ⟨g, 0, none⟩)] W fun e w' => ∃ A2 c2, e = .returned (.slice A2 S c2) ∧ (S ≤ c2 ∧ c2 ≤ maxLen) ∧ Done w [] (Star (Star (Star (CellW w.heap.size #[.int .i64 d.b, .int .i64 d.s, .int .i64 d.wi, .int .i64 (z : Int), .int .i64 d.wa] 43) (Star (TurnW (.pointer (some a)) M.go) (SlW 9 (.slice A1 S c1) S (plcs M.says)))) (Star (RTn g M.go) (OwnK 37 9 (.slice A2 S c2) S (plcs M.says)))) (CellW wr.heap.size #[.int .i64 x.kind, .int .i64 x.n, .string x.body, .int .i64 x.p.seat, .int .i64 x.p.count, .bool x.p.cmd, .int .i64 x.p.kind, .int .i64 x.p.sort, .int .i64 x.p.nr, .int .i64 x.p.ns, .bool x.p.pf, .string x.p.body] 39)) w') := by show ∀ _, _; intro A1 c1 W hW; have hh := dRTnGo_at (C := fun X => Star (Star (Star (CellW w.heap.size #[.int .i64 d.b, .int .i64 d.s, .int .i64 d.wi, .int .i64 (z : Int), .int .i64 d.wa] 43) (Star (TurnW (.pointer (some a)) M.go) (SlW 9 (.slice A1 S c1) S (plcs M.says)))) X) (CellW wr.heap.size #[.int .i64 x.kind, .int .i64 x.n, .string x.body, .int .i64 x.p.seat, .int .i64 x.p.count, .bool x.p.cmd, .int .i64 x.p.kind, .int .i64 x.p.sort, .int .i64 x.p.nr, .int .i64 x.p.ns, .bool x.p.pf, .string x.p.body] 39)) (Fr.l (Fr.r ((CellW.stab _ _ _).star ((TurnW.stab _ _).star (SlW.stab _ _ _ _))) Fr.id_) (CellW.stab _ _ _)) hW; rw [hS] at hh; exact hh
              have HGE : Hid (∀ (A1 A2 : Option Addr) (c1 c2 : Nat) W, Done w [] (Star (Star (Star (CellW w.heap.size #[.int .i64 d.b, .int .i64 d.s, .int .i64 d.wi, .int .i64 (z : Int), .int .i64 d.wa] 43) (Star (TurnW (.pointer (some a)) M.go) (SlW 9 (.slice A1 S c1) S (plcs M.says)))) (Star (RTn g M.go) (OwnK 37 9 (.slice A2 S c2) S (plcs M.says)))) (CellW wr.heap.size #[.int .i64 x.kind, .int .i64 x.n, .string x.body, .int .i64 x.p.seat, .int .i64 x.p.count, .bool x.p.cmd, .int .i64 x.p.kind, .int .i64 x.p.sort, .int .i64 x.p.nr, .int .i64 x.p.ns, .bool x.p.pf, .string x.p.body] 39)) W → Calls Tryz.prog 33 #[.slice A1 S c1, .slice A2 S c2] W fun e w' => e = .returned (.bool true) ∧ Done w [] (Star (Star (Star (CellW w.heap.size #[.int .i64 d.b, .int .i64 d.s, .int .i64 d.wi, .int .i64 (z : Int), .int .i64 d.wa] 43) (Star (TurnW (.pointer (some a)) M.go) (SlW 9 (.slice A1 S c1) S (plcs M.says)))) (Star (RTn g M.go) (OwnK 37 9 (.slice A2 S c2) S (plcs M.says)))) (CellW wr.heap.size #[.int .i64 x.kind, .int .i64 x.n, .string x.body, .int .i64 x.p.seat, .int .i64 x.p.count, .bool x.p.cmd, .int .i64 x.p.kind, .int .i64 x.p.sort, .int .i64 x.p.nr, .int .i64 x.p.ns, .bool x.p.pf, .string x.p.body] 39)) w') := by
                show ∀ _, _
                intro A1 A2 c1 c2 W hW
                obtain ⟨_, _, F2, _, _, h1, _⟩ := Done.get (C := fun X => Star (Star (Star (CellW w.heap.size #[.int .i64 d.b, .int .i64 d.s, .int .i64 d.wi, .int .i64 (z : Int), .int .i64 d.wa] 43) X) (Star (RTn g M.go) (OwnK 37 9 (.slice A2 S c2) S (plcs M.says)))) (CellW wr.heap.size #[.int .i64 x.kind, .int .i64 x.n, .string x.body, .int .i64 x.p.seat, .int .i64 x.p.count, .bool x.p.cmd, .int .i64 x.p.kind, .int .i64 x.p.sort, .int .i64 x.p.nr, .int .i64 x.p.ns, .bool x.p.pf, .string x.p.body] 39)) (Fr.l (Fr.l (Fr.r (CellW.stab _ _ _) Fr.id_) ((RTn.stab _ _).star (OwnK.stab _ _ _ _ _))) (CellW.stab _ _ _)) hW
                obtain ⟨_, _, F3, _, _, h2, _⟩ := Done.get (C := fun X => Star (Star (Star (CellW w.heap.size #[.int .i64 d.b, .int .i64 d.s, .int .i64 d.wi, .int .i64 (z : Int), .int .i64 d.wa] 43) (Star (TurnW (.pointer (some a)) M.go) (SlW 9 (.slice A1 S c1) S (plcs M.says)))) X) (CellW wr.heap.size #[.int .i64 x.kind, .int .i64 x.n, .string x.body, .int .i64 x.p.seat, .int .i64 x.p.count, .bool x.p.cmd, .int .i64 x.p.kind, .int .i64 x.p.sort, .int .i64 x.p.nr, .int .i64 x.p.ns, .bool x.p.pf, .string x.p.body] 39)) (Fr.l (Fr.r ((CellW.stab _ _ _).star ((TurnW.stab _ _).star (SlW.stab _ _ _ _))) Fr.id_) (CellW.stab _ _ _)) hW
                exact dcalls_keep ((((CellW.stab _ _ _).star ((TurnW.stab _ _).star (SlW.stab _ _ _ _))).star ((RTn.stab _ _).star (OwnK.stab _ _ _ _ _))).star (CellW.stab _ _ _)) hW (EqPl_any _ _ M.says S W hS.symm h1.2.2 h2.rd (by rw [← hS]; have := says_len7 HMOK.out; omega))
              clear hS
              go_wp2_with (first
                | (go_at_call 34; ((with_reducible refine (HGA.out _ HS4.out).mono ?_); rintro e w5 ⟨A1, c1, rfl, hcc, hs⟩; have HS5 := Lib.hid hs; clear hs hcc))
                | (go_at_call 35; ((with_reducible refine (HGB.out A1 c1 _ HS5.out).mono ?_); rintro e w6 ⟨A2, c2, rfl, hcc, hs⟩; have HS6 := Lib.hid hs; clear hs hcc))
                | (go_at_call 33; ((with_reducible refine (HGE.out A1 A2 c1 c2 _ HS6.out).mono ?_); rintro e w7 ⟨rfl, hs⟩; have HS7 := Lib.hid hs; clear hs)))
              have HS8 := Lib.hid (Done.drop_at (C := fun X => Star (Star (Star (CellW w.heap.size #[.int .i64 d.b, .int .i64 d.s, .int .i64 d.wi, .int .i64 (z : Int), .int .i64 d.wa] 43) (TurnW (.pointer (some a)) M.go)) X) (CellW wr.heap.size #[.int .i64 x.kind, .int .i64 x.n, .string x.body, .int .i64 x.p.seat, .int .i64 x.p.count, .bool x.p.cmd, .int .i64 x.p.kind, .int .i64 x.p.sort, .int .i64 x.p.nr, .int .i64 x.p.ns, .bool x.p.pf, .string x.p.body] 39)) (Fr.l (Fr.r ((CellW.stab _ _ _).star (TurnW.stab _ _)) Fr.id_) (CellW.stab _ _ _)) (Done.drop_at (C := fun X => Star (Star (Star (CellW w.heap.size #[.int .i64 d.b, .int .i64 d.s, .int .i64 d.wi, .int .i64 (z : Int), .int .i64 d.wa] 43) X) (Star (RTn g M.go) (OwnK 37 9 (.slice A2 S c2) S (plcs M.says)))) (CellW wr.heap.size #[.int .i64 x.kind, .int .i64 x.n, .string x.body, .int .i64 x.p.seat, .int .i64 x.p.count, .bool x.p.cmd, .int .i64 x.p.kind, .int .i64 x.p.sort, .int .i64 x.p.nr, .int .i64 x.p.ns, .bool x.p.pf, .string x.p.body] 39)) (Fr.l (Fr.l (Fr.r (CellW.stab _ _ _) Fr.id_) ((RTn.stab _ _).star (OwnK.stab _ _ _ _ _))) (CellW.stab _ _ _)) HS7.out))
              go_meet
              exact ⟨rfl, M.go, HS8.out.drop⟩
            have tk1 : (x.kind == 1) = false := beq_eq_false_iff_ne.2 h1
            clear h1
            by_cases h2 : x.kind = 2
            · have tk2 : (x.kind == 2) = true := by rw [h2]; rfl
              have HS4 := Lib.hid HS3.out
              clear h2
              obtain ⟨q, hq⟩ : ∃ q, x.p.cut = q := ⟨_, rfl⟩
              have hqk : q.ok := hq ▸ PIn.cut_ok HX.out.2.2.2
              have hqz : q.body.size ≤ 281474976710656 := hq ▸ Nat.le_trans (PIn.cut_len x.p) (by decide)
              have hpl := fun w => LPlain_any x.p HX.out.2.2.2 w
              rw [hq] at hpl
              have HPL : Hid (∀ w, Calls Tryz.prog 36 #[.agg (pcs x.p).toArray] w fun e w' => e = .returned q.val ∧ Below w.heap.size w w') := hpl
              have HQK := Lib.hid hqk
              obtain ⟨ts, hts⟩ : ∃ ts, M.told q = ts := ⟨_, rfl⟩
              obtain ⟨tb, htb⟩ : ∃ tb, M.tells q = tb := ⟨_, rfl⟩
              obtain ⟨M2, hM2⟩ : ∃ M2, M.take q = M2 := ⟨_, rfl⟩
              have HRP : Hid (w3.rangeAt wr.heap.size 3 (pcs x.p)) := by show World.rangeAt _ _ _ _; intro r u hu; exact cell_at (Done.at_ (C := fun X => Star (Star (Star (CellW w.heap.size #[.int .i64 d.b, .int .i64 d.s, .int .i64 d.wi, .int .i64 (z : Int), .int .i64 d.wa] 43) (TurnW (.pointer (some a)) M)) (RTn g M)) X) (Fr.r (((CellW.stab _ _ _).star (TurnW.stab _ _)).star (RTn.stab _ _)) Fr.id_) HS4.out) (3 + r) u (by have := hu; simpa [pcs, Nat.add_comm 3 r] using this)
              have HPA : Hid (∀ F W, TurnW (.pointer (some a)) M W F → Calls Tryz.prog 37 #[.pointer (some a), q.val] W fun e w' => e = .returned (.tuple #[.string ts, .bool tb]) ∧ Done W F (TurnW (.pointer (some a)) M2) w') := by show ∀ _, _; intro F W hF; rw [← hts, ← htb, ← hM2]; exact TnTake_any (.pointer (some a)) M F q W hF hqk (fun _ => hqz)
              have HPB : Hid (∀ F W, RTn g M W F → Calls Tryz.prog 38 #[.pointer (some ⟨g, 0, none⟩), q.val] W fun e w' => e = .returned (.tuple #[.string ts, .bool tb]) ∧ Done W F (RTn g M2) w') := by show ∀ _, _; intro F W hF; rw [← hts, ← htb, ← hM2]; exact RTnTake_any g M F q W hF
              clear hq hqk hqz hpl hts htb hM2
              go_wp2_with (first
                | (with_reducible refine wpList_load_mid rfl 37 (.tmp 82) rfl wr.heap.size 3 rfl (pcs x.p) _ HRP.out Tryz.underlying37 rfl (by kernel_rfl) ?_)
                | (go_at_call 36; ((with_reducible refine (HPL.out _).mono ?_); rintro e w4 ⟨rfl, hb⟩; have HS4b := Lib.hid ((HS4.out.keep ((((CellW.stab _ _ _).star (TurnW.stab _ _)).star (RTn.stab _ _)).star (CellW.stab _ _ _)) hb).add ((((CellW.stab _ _ _).star (TurnW.stab _ _)).star (RTn.stab _ _)).star (CellW.stab _ _ _)) (CellW.new w4 #[.int .i64 0, .int .i64 0, .bool false, .int .i64 0, .int .i64 0, .int .i64 0, .int .i64 0, .bool false, .string ⟨#[]⟩] 37)); clear hb))
                | ((with_reducible refine wpList_storeBD (C := fun X => Star (Star (Star (Star (CellW w.heap.size #[.int .i64 d.b, .int .i64 d.s, .int .i64 d.wi, .int .i64 (z : Int), .int .i64 d.wa] 43) (TurnW (.pointer (some a)) M)) (RTn g M)) (CellW wr.heap.size #[.int .i64 x.kind, .int .i64 x.n, .string x.body, .int .i64 x.p.seat, .int .i64 x.p.count, .bool x.p.cmd, .int .i64 x.p.kind, .int .i64 x.p.sort, .int .i64 x.p.nr, .int .i64 x.p.ns, .bool x.p.pf, .string x.p.body] 39)) X) (Fr.r ((((CellW.stab _ _ _).star (TurnW.stab _ _)).star (RTn.stab _ _)).star (CellW.stab _ _ _)) Fr.id_) HS4b.out rfl 37 (.tmp 13) (.tmp 84) rfl #[.int .i64 q.seat, .int .i64 q.count, .bool q.cmd, .int .i64 q.kind, .int .i64 q.sort, .int .i64 q.nr, .int .i64 q.ns, .bool q.pf, .string q.body] rfl rfl (by kernel_rfl) rfl (by simp [Value.oneCell']) ?_); intro w5 hs; have HS5 : Hid (Done w [] (Star (Star (Star (Star (CellW w.heap.size #[.int .i64 d.b, .int .i64 d.s, .int .i64 d.wi, .int .i64 (z : Int), .int .i64 d.wa] 43) (TurnW (.pointer (some a)) M)) (RTn g M)) (CellW wr.heap.size #[.int .i64 x.kind, .int .i64 x.n, .string x.body, .int .i64 x.p.seat, .int .i64 x.p.count, .bool x.p.cmd, .int .i64 x.p.kind, .int .i64 x.p.sort, .int .i64 x.p.nr, .int .i64 x.p.ns, .bool x.p.pf, .string x.p.body] 39)) (CellW w4.heap.size #[.int .i64 q.seat, .int .i64 q.count, .bool q.cmd, .int .i64 q.kind, .int .i64 q.sort, .int .i64 q.nr, .int .i64 q.ns, .bool q.pf, .string q.body] 37)) w5) := (by show Done _ _ _ _; exact hs); clear hs)
                | (with_reducible refine wpList_loadD (C := fun X => Star (Star (Star (Star (CellW w.heap.size #[.int .i64 d.b, .int .i64 d.s, .int .i64 d.wi, .int .i64 (z : Int), .int .i64 d.wa] 43) (TurnW (.pointer (some a)) M)) (RTn g M)) (CellW wr.heap.size #[.int .i64 x.kind, .int .i64 x.n, .string x.body, .int .i64 x.p.seat, .int .i64 x.p.count, .bool x.p.cmd, .int .i64 x.p.kind, .int .i64 x.p.sort, .int .i64 x.p.nr, .int .i64 x.p.ns, .bool x.p.pf, .string x.p.body] 39)) X) (Fr.r ((((CellW.stab _ _ _).star (TurnW.stab _ _)).star (RTn.stab _ _)).star (CellW.stab _ _ _)) Fr.id_) HS5.out rfl 37 (.tmp 13) rfl rfl _ Tryz.underlying37 rfl (by kernel_rfl) ?_)
                | (with_reducible refine wpList_loadD (C := fun X => Star (Star (Star (Star (CellW w.heap.size #[.int .i64 d.b, .int .i64 d.s, .int .i64 d.wi, .int .i64 (z : Int), .int .i64 d.wa] 43) (TurnW (.pointer (some a)) M2)) (RTn g M)) (CellW wr.heap.size #[.int .i64 x.kind, .int .i64 x.n, .string x.body, .int .i64 x.p.seat, .int .i64 x.p.count, .bool x.p.cmd, .int .i64 x.p.kind, .int .i64 x.p.sort, .int .i64 x.p.nr, .int .i64 x.p.ns, .bool x.p.pf, .string x.p.body] 39)) X) (Fr.r ((((CellW.stab _ _ _).star (TurnW.stab _ _)).star (RTn.stab _ _)).star (CellW.stab _ _ _)) Fr.id_) HS6.out rfl 37 (.tmp 13) rfl rfl _ Tryz.underlying37 rfl (by kernel_rfl) ?_)
                | (go_at_call 37; ((with_reducible refine (dcalls_at (C := fun X => Star (Star (Star (Star (CellW w.heap.size #[.int .i64 d.b, .int .i64 d.s, .int .i64 d.wi, .int .i64 (z : Int), .int .i64 d.wa] 43) X) (RTn g M)) (CellW wr.heap.size #[.int .i64 x.kind, .int .i64 x.n, .string x.body, .int .i64 x.p.seat, .int .i64 x.p.count, .bool x.p.cmd, .int .i64 x.p.kind, .int .i64 x.p.sort, .int .i64 x.p.nr, .int .i64 x.p.ns, .bool x.p.pf, .string x.p.body] 39)) (CellW w4.heap.size #[.int .i64 q.seat, .int .i64 q.count, .bool q.cmd, .int .i64 q.kind, .int .i64 q.sort, .int .i64 q.nr, .int .i64 q.ns, .bool q.pf, .string q.body] 37)) (Fr.l (Fr.l (Fr.l (Fr.r (CellW.stab _ _ _) Fr.id_) (RTn.stab _ _)) (CellW.stab _ _ _)) (CellW.stab _ _ _)) HS5.out (fun F hF => HPA.out F _ hF)).mono ?_); rintro e w6 ⟨rfl, hs⟩; have HS6 := Lib.hid hs; clear hs))
                | (go_at_call 38; ((with_reducible refine (dcalls_at (C := fun X => Star (Star (Star (Star (CellW w.heap.size #[.int .i64 d.b, .int .i64 d.s, .int .i64 d.wi, .int .i64 (z : Int), .int .i64 d.wa] 43) (TurnW (.pointer (some a)) M2)) X) (CellW wr.heap.size #[.int .i64 x.kind, .int .i64 x.n, .string x.body, .int .i64 x.p.seat, .int .i64 x.p.count, .bool x.p.cmd, .int .i64 x.p.kind, .int .i64 x.p.sort, .int .i64 x.p.nr, .int .i64 x.p.ns, .bool x.p.pf, .string x.p.body] 39)) (CellW w4.heap.size #[.int .i64 q.seat, .int .i64 q.count, .bool q.cmd, .int .i64 q.kind, .int .i64 q.sort, .int .i64 q.nr, .int .i64 q.ns, .bool q.pf, .string q.body] 37)) (Fr.l (Fr.l (Fr.r ((CellW.stab _ _ _).star (TurnW.stab _ _)) Fr.id_) (CellW.stab _ _ _)) (CellW.stab _ _ _)) HS6.out (fun F hF => HPB.out F _ hF)).mono ?_); rintro e w7 ⟨rfl, hs⟩; have HS7 := Lib.hid hs; clear hs)))
              go_meet
              exact ⟨rfl, M2, HS7.out.drop.drop⟩
            have tk2 : (x.kind == 2) = false := beq_eq_false_iff_ne.2 h2
            clear h2
            by_cases h3 : x.kind = 3
            · have tk3 : (x.kind == 3) = true := by rw [h3]; rfl
              have HS4 := Lib.hid HS3.out
              clear h3
              obtain ⟨pe, hpe⟩ : ∃ pe, M.lates = pe := ⟨_, rfl⟩
              obtain ⟨M2, hM2⟩ : ∃ M2, M.late = M2 := ⟨_, rfl⟩
              have HPA : Hid (∀ F W, TurnW (.pointer (some a)) M W F → Calls Tryz.prog 39 #[.pointer (some a)] W fun e w' => e = .returned (.bool pe) ∧ Done W F (TurnW (.pointer (some a)) M2) w') := by show ∀ _, _; intro F W hF; rw [← hpe, ← hM2]; exact TnLate_any (.pointer (some a)) M F W hF
              have HPB : Hid (∀ F W, RTn g M W F → Calls Tryz.prog 40 #[.pointer (some ⟨g, 0, none⟩)] W fun e w' => e = .returned (.bool pe) ∧ Done W F (RTn g M2) w') := by show ∀ _, _; intro F W hF; rw [← hpe, ← hM2]; exact RTnLate_any g M F W hF
              clear hpe hM2
              go_wp2_with (first
                | (go_at_call 39; ((with_reducible refine (dcalls_at (C := fun X => Star (Star (Star (CellW w.heap.size #[.int .i64 d.b, .int .i64 d.s, .int .i64 d.wi, .int .i64 (z : Int), .int .i64 d.wa] 43) X) (RTn g M)) (CellW wr.heap.size #[.int .i64 x.kind, .int .i64 x.n, .string x.body, .int .i64 x.p.seat, .int .i64 x.p.count, .bool x.p.cmd, .int .i64 x.p.kind, .int .i64 x.p.sort, .int .i64 x.p.nr, .int .i64 x.p.ns, .bool x.p.pf, .string x.p.body] 39)) (Fr.l (Fr.l (Fr.r (CellW.stab _ _ _) Fr.id_) (RTn.stab _ _)) (CellW.stab _ _ _)) HS4.out (fun F hF => HPA.out F _ hF)).mono ?_); rintro e w5 ⟨rfl, hs⟩; have HS5 := Lib.hid hs; clear hs))
                | (go_at_call 40; ((with_reducible refine (dcalls_at (C := fun X => Star (Star (Star (CellW w.heap.size #[.int .i64 d.b, .int .i64 d.s, .int .i64 d.wi, .int .i64 (z : Int), .int .i64 d.wa] 43) (TurnW (.pointer (some a)) M2)) X) (CellW wr.heap.size #[.int .i64 x.kind, .int .i64 x.n, .string x.body, .int .i64 x.p.seat, .int .i64 x.p.count, .bool x.p.cmd, .int .i64 x.p.kind, .int .i64 x.p.sort, .int .i64 x.p.nr, .int .i64 x.p.ns, .bool x.p.pf, .string x.p.body] 39)) (Fr.l (Fr.r ((CellW.stab _ _ _).star (TurnW.stab _ _)) Fr.id_) (CellW.stab _ _ _)) HS5.out (fun F hF => HPB.out F _ hF)).mono ?_); rintro e w6 ⟨rfl, hs⟩; have HS6 := Lib.hid hs; clear hs)))
              go_meet
              exact ⟨rfl, M2, HS6.out.drop⟩
            have tk3 : (x.kind == 3) = false := beq_eq_false_iff_ne.2 h3
            clear h3
            go_wp2_with (first
              | (go_at_call 41; ((with_reducible refine (dcalls_at (C := fun X => Star (Star (Star (CellW w.heap.size #[.int .i64 d.b, .int .i64 d.s, .int .i64 d.wi, .int .i64 (z : Int), .int .i64 d.wa] 43) X) (RTn g M)) (CellW wr.heap.size #[.int .i64 x.kind, .int .i64 x.n, .string x.body, .int .i64 x.p.seat, .int .i64 x.p.count, .bool x.p.cmd, .int .i64 x.p.kind, .int .i64 x.p.sort, .int .i64 x.p.nr, .int .i64 x.p.ns, .bool x.p.pf, .string x.p.body] 39)) (Fr.l (Fr.l (Fr.r (CellW.stab _ _ _) Fr.id_) (RTn.stab _ _)) (CellW.stab _ _ _)) HS3.out (fun F hF => TnSwap_any (.pointer (some a)) M F _ hF)).mono ?_); rintro e w5 ⟨rfl, hs⟩; have HS5 := Lib.hid hs; clear hs))
              | (go_at_call 42; ((with_reducible refine (dcalls_at (C := fun X => Star (Star (Star (CellW w.heap.size #[.int .i64 d.b, .int .i64 d.s, .int .i64 d.wi, .int .i64 (z : Int), .int .i64 d.wa] 43) (TurnW (.pointer (some a)) M.swap)) X) (CellW wr.heap.size #[.int .i64 x.kind, .int .i64 x.n, .string x.body, .int .i64 x.p.seat, .int .i64 x.p.count, .bool x.p.cmd, .int .i64 x.p.kind, .int .i64 x.p.sort, .int .i64 x.p.nr, .int .i64 x.p.ns, .bool x.p.pf, .string x.p.body] 39)) (Fr.l (Fr.r ((CellW.stab _ _ _).star (TurnW.stab _ _)) Fr.id_) (CellW.stab _ _ _)) HS5.out (fun F hF => RTnSwap_any g M F _ hF)).mono ?_); rintro e w6 ⟨rfl, hs⟩; have HS6 := Lib.hid hs; clear hs)))
            go_meet
            exact ⟨rfl, M.swap, HS6.out.drop⟩
          case rest =>
            clear HS2 HT
            obtain ⟨rfl, M2, hs⟩ := hcut
            obtain ⟨hmk, go, A2, c2, h9⟩ := RTn.open_ (C := fun X => Star (Star (CellW w.heap.size #[.int .i64 d.b, .int .i64 d.s, .int .i64 d.wi, .int .i64 (z : Int), .int .i64 d.wa] 43) (TurnW (.pointer (some a)) M2)) X) (Fr.r ((CellW.stab _ _ _).star (TurnW.stab _ _)) Fr.id_) hs
            have HS9 := Lib.hid h9
            have HMK := Lib.hid hmk
            clear hs h9 hmk
            go_wp2
            refine regq (fun W => Done w [] (Star (Star (CellW w.heap.size #[.int .i64 d.b, .int .i64 d.s, .int .i64 d.wi, .int .i64 (z : Int), .int .i64 d.wa] 43) (TurnW (.pointer (some a)) M2)) (RTn3 g go A2 c2 M2)) W) (by kernel_rfl) (by kernel_rfl) (HS9.out.drewD (((CellW.stab _ _ _).star (TurnW.stab _ _)).star (RTn3.stab _ _ _ _ _))) ?_
            refine q_take (v := ?_) (by rfl) ?_ ?_; rotate_left; (· intro W HW; go_simp; try with_reducible rfl)
            simp only [Act.put, List.setIfInBounds_toArray, List.set_cons_zero, List.set_cons_succ]
            refine q_call 43 #[.pointer (some a)] (by rfl) (by intro W HW; go_simp) (fun W HW => dcalls_look (C := fun X => Star (Star (CellW w.heap.size #[.int .i64 d.b, .int .i64 d.s, .int .i64 d.wi, .int .i64 (z : Int), .int .i64 d.wa] 43) X) (RTn3 g go A2 c2 M2)) (Fr.l (Fr.r (CellW.stab _ _ _) Fr.id_) (RTn3.stab _ _ _ _ _)) (((CellW.stab _ _ _).star (TurnW.stab _ _)).star (RTn3.stab _ _ _ _ _)) HW (fun F hF => TnMine_any (.pointer (some a)) M2 F W hF)) ?_
            simp only [Act.put, List.setIfInBounds_toArray, List.set_cons_zero, List.set_cons_succ]
            refine q_take (v := ?_) (by rfl) ?_ ?_; rotate_left; (· intro W HW; go_simp; try with_reducible rfl)
            simp only [Act.put, List.setIfInBounds_toArray, List.set_cons_zero, List.set_cons_succ]
            refine q_take (v := ?_) (by rfl) ?_ ?_; rotate_left; (· intro W HW; go_simp; try with_reducible rfl)
            simp only [Act.put, List.setIfInBounds_toArray, List.set_cons_zero, List.set_cons_succ]
            refine q_take (v := ?_) (by rfl) ?_ ?_; rotate_left; (· intro W HW; go_simp; try with_reducible rfl)
            simp only [Act.put, List.setIfInBounds_toArray, List.set_cons_zero, List.set_cons_succ]
            refine q_take (v := ?_) (by rfl) ?_ ?_; rotate_left; (· intro W HW; obtain ⟨z0, z2, z3, z4⟩ := ((Done.get (C := fun X => Star (Star (CellW w.heap.size #[.int .i64 d.b, .int .i64 d.s, .int .i64 d.wi, .int .i64 (z : Int), .int .i64 d.wa] 43) (TurnW (.pointer (some a)) M2)) X) (Fr.r ((CellW.stab _ _ _).star (TurnW.stab _ _)) Fr.id_) HW).elim fun _ h => h.cells); go_simp; try with_reducible rfl)
            simp only [Act.put, List.setIfInBounds_toArray, List.set_cons_zero, List.set_cons_succ]
            refine q_take (v := ?_) (by rfl) ?_ ?_; rotate_left; (· intro W HW; go_simp; try with_reducible rfl)
            simp only [Act.put, List.setIfInBounds_toArray, List.set_cons_zero, List.set_cons_succ]
            refine q_take (v := ?_) (by rfl) ?_ ?_; rotate_left; (· intro W HW; go_simp; try with_reducible rfl)
            simp only [Act.put, List.setIfInBounds_toArray, List.set_cons_zero, List.set_cons_succ]
            refine q_take (v := ?_) (by rfl) ?_ ?_; rotate_left; (· intro W HW; go_simp; try with_reducible rfl)
            simp only [Act.put, List.setIfInBounds_toArray, List.set_cons_zero, List.set_cons_succ]
            refine q_call 44 #[.pointer (some a)] (by rfl) (by intro W HW; go_simp) (fun W HW => dcalls_look (C := fun X => Star (Star (CellW w.heap.size #[.int .i64 d.b, .int .i64 d.s, .int .i64 d.wi, .int .i64 (z : Int), .int .i64 d.wa] 43) X) (RTn3 g go A2 c2 M2)) (Fr.l (Fr.r (CellW.stab _ _ _) Fr.id_) (RTn3.stab _ _ _ _ _)) (((CellW.stab _ _ _).star (TurnW.stab _ _)).star (RTn3.stab _ _ _ _ _)) HW (fun F hF => TnRole_any (.pointer (some a)) M2 F W hF)) ?_
            simp only [Act.put, List.setIfInBounds_toArray, List.set_cons_zero, List.set_cons_succ]
            refine q_take (v := ?_) (by rfl) ?_ ?_; rotate_left; (· intro W HW; go_simp; try with_reducible rfl)
            simp only [Act.put, List.setIfInBounds_toArray, List.set_cons_zero, List.set_cons_succ]
            refine q_take (v := ?_) (by rfl) ?_ ?_; rotate_left; (· intro W HW; go_simp; try with_reducible rfl)
            simp only [Act.put, List.setIfInBounds_toArray, List.set_cons_zero, List.set_cons_succ]
            refine q_take (v := ?_) (by rfl) ?_ ?_; rotate_left; (· intro W HW; go_simp; try with_reducible rfl)
            simp only [Act.put, List.setIfInBounds_toArray, List.set_cons_zero, List.set_cons_succ]
            refine q_take (v := ?_) (by rfl) ?_ ?_; rotate_left; (· intro W HW; obtain ⟨z0, z2, z3, z4⟩ := ((Done.get (C := fun X => Star (Star (CellW w.heap.size #[.int .i64 d.b, .int .i64 d.s, .int .i64 d.wi, .int .i64 (z : Int), .int .i64 d.wa] 43) (TurnW (.pointer (some a)) M2)) X) (Fr.r ((CellW.stab _ _ _).star (TurnW.stab _ _)) Fr.id_) HW).elim fun _ h => h.cells); go_simp; try with_reducible rfl)
            simp only [Act.put, List.setIfInBounds_toArray, List.set_cons_zero, List.set_cons_succ]
            refine q_take (v := ?_) (by rfl) ?_ ?_; rotate_left; (· intro W HW; go_simp; try with_reducible rfl)
            simp only [Act.put, List.setIfInBounds_toArray, List.set_cons_zero, List.set_cons_succ]
            refine q_take (v := ?_) (by rfl) ?_ ?_; rotate_left; (· intro W HW; go_simp; try with_reducible rfl)
            simp only [Act.put, List.setIfInBounds_toArray, List.set_cons_zero, List.set_cons_succ]
            refine q_take (v := ?_) (by rfl) ?_ ?_; rotate_left; (· intro W HW; go_simp; try with_reducible rfl)
            simp only [Act.put, List.setIfInBounds_toArray, List.set_cons_zero, List.set_cons_succ]
            refine q_take (v := ?_) (by rfl) ?_ ?_; rotate_left; (· intro W HW; go_simp; try with_reducible rfl)
            simp only [Act.put, List.setIfInBounds_toArray, List.set_cons_zero, List.set_cons_succ]
            refine q_call 45 #[.pointer (some a)] (by rfl) (by intro W HW; go_simp) (fun W HW => dcalls_look (C := fun X => Star (Star (CellW w.heap.size #[.int .i64 d.b, .int .i64 d.s, .int .i64 d.wi, .int .i64 (z : Int), .int .i64 d.wa] 43) X) (RTn3 g go A2 c2 M2)) (Fr.l (Fr.r (CellW.stab _ _ _) Fr.id_) (RTn3.stab _ _ _ _ _)) (((CellW.stab _ _ _).star (TurnW.stab _ _)).star (RTn3.stab _ _ _ _ _)) HW (fun F hF => TnLeft_len (.pointer (some a)) M2 F W hF)) ?_
            simp only [Act.put, List.setIfInBounds_toArray, List.set_cons_zero, List.set_cons_succ]
            refine q_take (v := ?_) (by rfl) ?_ ?_; rotate_left; (· intro W HW; go_simp; try with_reducible rfl)
            simp only [Act.put, List.setIfInBounds_toArray, List.set_cons_zero, List.set_cons_succ]
            refine q_take (v := ?_) (by rfl) ?_ ?_; rotate_left; (· intro W HW; go_simp; try with_reducible rfl)
            simp only [Act.put, List.setIfInBounds_toArray, List.set_cons_zero, List.set_cons_succ]
            refine q_take (v := ?_) (by rfl) ?_ ?_; rotate_left; (· intro W HW; go_simp; try with_reducible rfl)
            simp only [Act.put, List.setIfInBounds_toArray, List.set_cons_zero, List.set_cons_succ]
            refine q_take (v := ?_) (by rfl) ?_ ?_; rotate_left; (· intro W HW; obtain ⟨z0, z2, z3, z4⟩ := ((Done.get (C := fun X => Star (Star (CellW w.heap.size #[.int .i64 d.b, .int .i64 d.s, .int .i64 d.wi, .int .i64 (z : Int), .int .i64 d.wa] 43) (TurnW (.pointer (some a)) M2)) X) (Fr.r ((CellW.stab _ _ _).star (TurnW.stab _ _)) Fr.id_) HW).elim fun _ h => h.cells); go_simp; try with_reducible rfl)
            simp only [Act.put, List.setIfInBounds_toArray, List.set_cons_zero, List.set_cons_succ]
            refine q_take (v := ?_) (by rfl) ?_ ?_; rotate_left; (· intro W HW; go_simp; try with_reducible rfl)
            simp only [Act.put, List.setIfInBounds_toArray, List.set_cons_zero, List.set_cons_succ]
            refine q_take (v := ?_) (by rfl) ?_ ?_; rotate_left; (· intro W HW; go_simp; try with_reducible rfl)
            simp only [Act.put, List.setIfInBounds_toArray, List.set_cons_zero, List.set_cons_succ]
            refine q_take (v := ?_) (by rfl) ?_ ?_; rotate_left; (· intro W HW; obtain ⟨z0, z2, z3, z4⟩ := ((Done.get (C := fun X => Star (Star (CellW w.heap.size #[.int .i64 d.b, .int .i64 d.s, .int .i64 d.wi, .int .i64 (z : Int), .int .i64 d.wa] 43) (TurnW (.pointer (some a)) M2)) X) (Fr.r ((CellW.stab _ _ _).star (TurnW.stab _ _)) Fr.id_) HW).elim fun _ h => h.cells); go_simp; try with_reducible rfl)
            simp only [Act.put, List.setIfInBounds_toArray, List.set_cons_zero, List.set_cons_succ]
            refine q_take (v := ?_) (by rfl) ?_ ?_; rotate_left; (· intro W HW; go_simp; try with_reducible rfl)
            simp only [Act.put, List.setIfInBounds_toArray, List.set_cons_zero, List.set_cons_succ]
            refine q_take (v := ?_) (by rfl) ?_ ?_; rotate_left; (· intro W HW; go_simp; try with_reducible rfl)
            simp only [Act.put, List.setIfInBounds_toArray, List.set_cons_zero, List.set_cons_succ]
            refine q_take (v := ?_) (by rfl) ?_ ?_; rotate_left; (· intro W HW; go_simp; try with_reducible rfl)
            simp only [Act.put, List.setIfInBounds_toArray, List.set_cons_zero, List.set_cons_succ]
            refine q_done ?_
            intro w8 hs8
            have HS8 := Lib.hid (RTn.close_ (C := fun X => Star (Star (CellW w.heap.size #[.int .i64 d.b, .int .i64 d.s, .int .i64 d.wi, .int .i64 (z : Int), .int .i64 d.wa] 43) (TurnW (.pointer (some a)) M2)) X) (Fr.r ((CellW.stab _ _ _).star (TurnW.stab _ _)) Fr.id_) HMK.out hs8)
            clear hs8
            go_wp2
            go_roundw
            case rel => exact ⟨j + 1, M2, by omega, by omega, by go_num, HS8.out⟩
            case measure => simp [intOf] <;> omega
        · have t2 : decide ((j : Int) < 80) = false := decide_eq_false (by omega)
          go_wp2
          go_ret
          exact ⟨by simp, HS2.out.bel⟩
      · have t1 : decide ((j : Int) < (L : Int)) = false := decide_eq_false (by omega)
        go_wp2
        go_ret
        exact ⟨by simp, HS2.out.bel⟩
  · have z0 : ((1 : Nat) : Int) = 1 := rfl
    rw [z0] at h_q e3_q e4_q
    go_enter Tryz.func5, Tryz.ntmps5
    go_wp2_with (first
      | (go_at_call 17; ((with_reducible refine (dcalls_keep (CellW.stab _ _ _) HS0.out (begun12_any _ (HC.out.below HS0.out.bel))).mono ?_); rintro e w1 ⟨rfl, hs⟩; have HS1 := Lib.hid hs; have cz : w1.cell? ⟨w.heap.size, 3, none⟩ = some (.int .i64 d.z) := cell_at (Done.at_ (C := fun X => X) Fr.id_ hs) 3 _ rfl; clear hs))
      | ((with_reducible refine wpList_storeD (C := fun X => X) Fr.id_ HS1.out rfl 3 (.tmp 31) (.tmp 30) rfl 3 (.int .i64 (z : Int)) rfl rfl (by simp) (run_storeI _ _ _) ?_); intro w2 hs; have HS2 : Hid (Done w [] (CellW w.heap.size #[.int .i64 d.b, .int .i64 d.s, .int .i64 d.wi, .int .i64 (z : Int), .int .i64 d.wa] 43) w2) := (by show Done _ _ _ _; exact hs); clear hs))
    have HS2d := Lib.hid (HS2.out.drewD (CellW.stab _ _ _))
    have HE2d : Hid ((fun U => U.heap[w.heap.size]? = some (.cells #[.int .i64 d.b, .int .i64 d.s, .int .i64 d.wi, .int .i64 (z : Int), .int .i64 d.wa] 43 (0, 0))) w2.drew) := (Done.at_ (C := fun X => X) Fr.id_ HS2d.out)
    refine rests_begin (fun U => U.heap[w.heap.size]? = some (.cells #[.int .i64 d.b, .int .i64 d.s, .int .i64 d.wi, .int .i64 (z : Int), .int .i64 d.wa] 43 (0, 0))) (by kernel_rfl) ?_
    refine rests_take 0 (oi := _) (v := ?_) (by simp only [List.getElem?_toArray, List.getElem?_cons_zero]; rfl) (by kernel_rfl) (by kernel_rfl) (by kernel_rfl) (by exact fun _ _ _ h => h) (HE2d.out) (by rfl) ?_ ?_; rotate_left; (· intro W HW; go_simp; try with_reducible rfl)
    simp only [Act.put, List.setIfInBounds_toArray, List.set_cons_zero, List.set_cons_succ]
    refine rests_take 1 (oi := _) (v := .agg #[.int .i64 d.b, .int .i64 d.s, .int .i64 d.wi, .int .i64 (z : Int), .int .i64 d.wa]) (by simp only [List.getElem?_toArray, List.getElem?_cons_succ, List.getElem?_cons_zero]; rfl) (by kernel_rfl) (by kernel_rfl) (by kernel_rfl) (by exact fun _ _ _ h => h) (HE2d.out) (by rfl) (fun W HW => exec_load_mid 43 (.tmp 4) rfl (w.heap.size) 0 rfl [.int .i64 d.b, .int .i64 d.s, .int .i64 d.wi, .int .i64 (z : Int), .int .i64 d.wa] _ (row_range HW) Tryz.underlying43 rfl (by kernel_rfl)) ?_
    simp only [Act.put, List.setIfInBounds_toArray, List.set_cons_zero, List.set_cons_succ]
    refine rests_take 3 (oi := _) (v := ?_) (by simp only [List.getElem?_toArray, List.getElem?_cons_succ, List.getElem?_cons_zero]; rfl) (by kernel_rfl) (by kernel_rfl) (by kernel_rfl) (by exact fun _ _ _ h => h) (HE2d.out) (by rfl) ?_ ?_; rotate_left; (· intro W HW; go_simp; try with_reducible rfl)
    simp only [Act.put, List.setIfInBounds_toArray, List.set_cons_zero, List.set_cons_succ]
    refine rests_take 4 (oi := _) (v := .agg #[.int .i64 d.b, .int .i64 d.s, .int .i64 d.wi, .int .i64 (z : Int), .int .i64 d.wa]) (by simp only [List.getElem?_toArray, List.getElem?_cons_succ, List.getElem?_cons_zero]; rfl) (by kernel_rfl) (by kernel_rfl) (by kernel_rfl) (by exact fun _ _ _ h => h) (HE2d.out) (by rfl) (fun W HW => exec_load_mid 43 (.tmp 4) rfl (w.heap.size) 0 rfl [.int .i64 d.b, .int .i64 d.s, .int .i64 d.wi, .int .i64 (z : Int), .int .i64 d.wa] _ (row_range HW) Tryz.underlying43 rfl (by kernel_rfl)) ?_
    simp only [Act.put, List.setIfInBounds_toArray, List.set_cons_zero, List.set_cons_succ]
    refine rests_call 2 (oi := _) (by simp only [List.getElem?_toArray, List.getElem?_cons_succ, List.getElem?_cons_zero]; rfl) 28 #[.int .i64 2, .agg #[.int .i64 d.b, .int .i64 d.s, .int .i64 d.wi, .int .i64 (z : Int), .int .i64 d.wa]] _ (by kernel_rfl) (by rfl) (by go_simp) (dTnNew_add (CellW.stab _ _ _) (.inr rfl) HDW.out HZW.out HS2d.out) ?_
    rintro e w3 ⟨a, rfl, hs⟩; have HS3 := Lib.hid hs; have HE3 : Hid ((fun U => U.heap[w.heap.size]? = some (.cells #[.int .i64 d.b, .int .i64 d.s, .int .i64 d.wi, .int .i64 (z : Int), .int .i64 d.wa] 43 (0, 0))) w3) := (Done.at_ (C := fun X => Star (X) (TurnW (.pointer (some a)) (TurnM.new 2 d.wi (z : Int)))) (Fr.l Fr.id_ (TurnW.stab _ _)) hs); refine ⟨_, rfl, HE3.out, ?_⟩; clear hs
    simp only [Act.put, List.setIfInBounds_toArray, List.set_cons_zero, List.set_cons_succ]
    refine rests_call 5 (oi := _) (by simp only [List.getElem?_toArray, List.getElem?_cons_succ, List.getElem?_cons_zero]; rfl) 29 #[.int .i64 2, .agg #[.int .i64 d.b, .int .i64 d.s, .int .i64 d.wi, .int .i64 (z : Int), .int .i64 d.wa]] _ (by kernel_rfl) (by rfl) (by go_simp) (dRTnNew_add ((CellW.stab _ _ _).star (TurnW.stab _ _)) (.inr rfl) HS3.out) ?_
    rintro e w4 ⟨g, rfl, hs⟩; have HS4 := Lib.hid hs; have HE4 : Hid ((fun U => U.heap[w.heap.size]? = some (.cells #[.int .i64 d.b, .int .i64 d.s, .int .i64 d.wi, .int .i64 (z : Int), .int .i64 d.wa] 43 (0, 0))) w4) := (Done.at_ (C := fun X => Star (Star (X) (TurnW (.pointer (some a)) (TurnM.new 2 d.wi (z : Int)))) (RTn g (TurnM.new 2 d.wi (z : Int)))) (Fr.l (Fr.l Fr.id_ (TurnW.stab _ _)) (RTn.stab _ _)) hs); refine ⟨_, rfl, HE4.out, ?_⟩; clear hs
    simp only [Act.put, List.setIfInBounds_toArray, List.set_cons_zero, List.set_cons_succ]
    refine rests_take 6 (oi := _) (v := ?_) (by simp only [List.getElem?_toArray, List.getElem?_cons_succ, List.getElem?_cons_zero]; rfl) (by kernel_rfl) (by kernel_rfl) (by kernel_rfl) (by exact fun _ _ _ h => h) (HE4.out) (by rfl) ?_ ?_; rotate_left; (· intro W HW; go_simp; try with_reducible rfl)
    simp only [Act.put, List.setIfInBounds_toArray, List.set_cons_zero, List.set_cons_succ]
    refine rests_take 7 (oi := _) (v := ?_) (by simp only [List.getElem?_toArray, List.getElem?_cons_succ, List.getElem?_cons_zero]; rfl) (by kernel_rfl) (by kernel_rfl) (by kernel_rfl) (by exact fun _ _ _ h => h) (HE4.out) (by rfl) ?_ ?_; rotate_left; (· intro W HW; go_simp; try with_reducible rfl)
    simp only [Act.put, List.setIfInBounds_toArray, List.set_cons_zero, List.set_cons_succ]
    refine rests_done (by kernel_rfl) ?_
    clear HS0 HS1 HS2
    go_wp2
    go_loopw [10] (fun jv wr => ∃ (j : Nat) (M : TurnM), j ≤ 80 ∧ j ≤ L ∧ jv = .int .i64 (j : Int) ∧ Done w [] (Star (Star (CellW w.heap.size #[.int .i64 d.b, .int .i64 d.s, .int .i64 d.wi, .int .i64 (z : Int), .int .i64 d.wa] 43) (TurnW (.pointer (some a)) M)) (RTn g M)) wr) (fun jv _ => (80 - intOf jv).toNat)
    case atStart => exact ⟨0, (TurnM.new 2 d.wi (z : Int)), by omega, by omega, rfl, HS4.out⟩
    case round =>
      clear HS3 HE3 HS4 HE4
      obtain ⟨j, M, hj80, hjL, rfl, hs⟩ := hrel
      have HS2 := Lib.hid hs
      have HMOK : Hid M.ok := ((Done.get (C := fun X => Star (Star (CellW w.heap.size #[.int .i64 d.b, .int .i64 d.s, .int .i64 d.wi, .int .i64 (z : Int), .int .i64 d.wa] 43) (TurnW (.pointer (some a)) M)) X) (Fr.r ((CellW.stab _ _ _).star (TurnW.stab _ _)) Fr.id_) hs).elim fun _ h => h.ok)
      clear hs
      by_cases hlt : j < L
      · have t1 : decide ((j : Int) < (L : Int)) = true := decide_eq_true (by omega)
        by_cases h80 : j < 80
        · have t2 : decide ((j : Int) < 80) = true := decide_eq_true (by omega)
          have t3 : (j : Int) < (L : Int) := by omega
          have tc : (L : Int) ≤ (cap : Int) := by have := HCAP.out; omega
          have e4 : IntKind.i64.wrap ((j : Int) + 1) = (j : Int) + 1 := IntWalk.i64_in _ (by omega)
          have hjl : j < l.length := by rw [← HL.out]; exact hlt
          obtain ⟨b, off, rfl, hblt, hc⟩ := HA.out.row (f := oc) (fun _ => rfl) hjl
          have hok := HOK.out _ (List.getElem_mem hjl)
          generalize l[j] = x at hc hok
          have HX := Lib.hid hok
          have HRG : Hid (wr.rangeAt b (off + j * 12) (oc x)) := by
            show World.rangeAt _ _ _ _
            refine range_below (w := w) (fun r u hu => hc r u (List.getElem?_eq_some_iff.1 hu).1 hu) HS2.out.bel
          have HT := Lib.hid (HS2.out.add (((CellW.stab _ _ _).star (TurnW.stab _ _)).star (RTn.stab _ _)) (CellW.new wr #[.int .i64 0, .int .i64 0, .string ⟨#[]⟩, .int .i64 0, .int .i64 0, .bool false, .int .i64 0, .int .i64 0, .int .i64 0, .int .i64 0, .bool false, .string ⟨#[]⟩] 39))
          clear hc hok hblt hjl
          go_upto_block 2 with (first
            | (with_reducible refine wpList_load_mid rfl 39 (.tmp 52) rfl b (off + j * 12) rfl (oc x) _ HRG.out Tryz.underlying39 rfl (by kernel_rfl) ?_)
            | ((with_reducible refine wpList_storeBD (C := fun X => Star (Star (Star (CellW w.heap.size #[.int .i64 d.b, .int .i64 d.s, .int .i64 d.wi, .int .i64 (z : Int), .int .i64 d.wa] 43) (TurnW (.pointer (some a)) M)) (RTn g M)) X) (Fr.r (((CellW.stab _ _ _).star (TurnW.stab _ _)).star (RTn.stab _ _)) Fr.id_) HT.out rfl 39 (.tmp 11) (.tmp 53) rfl #[.int .i64 x.kind, .int .i64 x.n, .string x.body, .int .i64 x.p.seat, .int .i64 x.p.count, .bool x.p.cmd, .int .i64 x.p.kind, .int .i64 x.p.sort, .int .i64 x.p.nr, .int .i64 x.p.ns, .bool x.p.pf, .string x.p.body] rfl rfl (by kernel_rfl) rfl (by simp [Value.oneCell']) ?_); intro w3 hs; have HS3 : Hid (Done w [] (Star (Star (Star (CellW w.heap.size #[.int .i64 d.b, .int .i64 d.s, .int .i64 d.wi, .int .i64 (z : Int), .int .i64 d.wa] 43) (TurnW (.pointer (some a)) M)) (RTn g M)) (CellW wr.heap.size #[.int .i64 x.kind, .int .i64 x.n, .string x.body, .int .i64 x.p.seat, .int .i64 x.p.count, .bool x.p.cmd, .int .i64 x.p.kind, .int .i64 x.p.sort, .int .i64 x.p.nr, .int .i64 x.p.ns, .bool x.p.pf, .string x.p.body] 39)) w3) := (by show Done _ _ _ _; exact hs); have ck : w3.cell? ⟨wr.heap.size, 0, none⟩ = some (.int .i64 x.kind) := cell_at (Done.at_ (C := fun X => Star (Star (Star (CellW w.heap.size #[.int .i64 d.b, .int .i64 d.s, .int .i64 d.wi, .int .i64 (z : Int), .int .i64 d.wa] 43) (TurnW (.pointer (some a)) M)) (RTn g M)) X) (Fr.r (((CellW.stab _ _ _).star (TurnW.stab _ _)).star (RTn.stab _ _)) Fr.id_) hs) 0 _ rfl; clear hs))
          go_cut [10] (fun jv wx => jv = .int .i64 (j : Int) ∧ ∃ M2 : TurnM, Done w [] (Star (Star (CellW w.heap.size #[.int .i64 d.b, .int .i64 d.s, .int .i64 d.wi, .int .i64 (z : Int), .int .i64 d.wa] 43) (TurnW (.pointer (some a)) M2)) (RTn g M2)) wx)
          case first =>
            by_cases h0 : x.kind = 0
            · have tk0 : (x.kind == 0) = true := by rw [h0]; rfl
              have HS4 := Lib.hid HS3.out
              clear h0
              obtain ⟨tx, htx⟩ : ∃ tx, tx = x.body.extract 0 (min x.body.size 70) := ⟨_, rfl⟩
              have htt := fun w => Text_any x.body 70 w HX.out.2.2.1 (by omega)
              rw [← htx] at htt
              have HTX : Hid (∀ w, Calls Tryz.prog 30 #[.string x.body, .int .i64 70] w fun e w' => e = .returned (.string tx) ∧ w = w') := htt
              have HTS : Hid (tx.size ≤ maxLen) := by show _ ≤ _; rw [htx, ByteArray.size_extract]; simp only [maxLen]; omega
              have cb : w3.cell? ⟨wr.heap.size, 2, none⟩ = some (.string x.body) := cell_at (Done.at_ (C := fun X => Star (Star (Star (CellW w.heap.size #[.int .i64 d.b, .int .i64 d.s, .int .i64 d.wi, .int .i64 (z : Int), .int .i64 d.wa] 43) (TurnW (.pointer (some a)) M)) (RTn g M)) X) (Fr.r (((CellW.stab _ _ _).star (TurnW.stab _ _)).star (RTn.stab _ _)) Fr.id_) HS4.out) 2 _ rfl
              obtain ⟨pe, hpe⟩ : ∃ pe, M.putE tx = pe := ⟨_, rfl⟩
              obtain ⟨M2, hM2⟩ : ∃ M2, M.put tx = M2 := ⟨_, rfl⟩
              have HPA : Hid (∀ F W, TurnW (.pointer (some a)) M W F → Calls Tryz.prog 31 #[.pointer (some a), .string tx] W fun e w' => e = .returned (.int .i64 pe) ∧ Done W F (TurnW (.pointer (some a)) M2) w') := by show ∀ _, _; intro F W hF; rw [← hpe, ← hM2]; exact TnPut_any (.pointer (some a)) M F tx W hF HTS.out
              have HPB : Hid (∀ F W, RTn g M W F → Calls Tryz.prog 32 #[.pointer (some ⟨g, 0, none⟩), .string tx] W fun e w' => e = .returned (.int .i64 pe) ∧ Done W F (RTn g M2) w') := by show ∀ _, _; intro F W hF; rw [← hpe, ← hM2]; exact RTnPut_any g M F tx W hF
              clear htx htt hpe hM2
              go_wp2_with (first
                | (go_at_call 30; ((with_reducible refine (HTX.out _).mono ?_); rintro e w' ⟨rfl, hw'⟩; rw [← hw']; clear hw'))
                | (go_at_call 31; ((with_reducible refine (dcalls_at (C := fun X => Star (Star (Star (CellW w.heap.size #[.int .i64 d.b, .int .i64 d.s, .int .i64 d.wi, .int .i64 (z : Int), .int .i64 d.wa] 43) X) (RTn g M)) (CellW wr.heap.size #[.int .i64 x.kind, .int .i64 x.n, .string x.body, .int .i64 x.p.seat, .int .i64 x.p.count, .bool x.p.cmd, .int .i64 x.p.kind, .int .i64 x.p.sort, .int .i64 x.p.nr, .int .i64 x.p.ns, .bool x.p.pf, .string x.p.body] 39)) (Fr.l (Fr.l (Fr.r (CellW.stab _ _ _) Fr.id_) (RTn.stab _ _)) (CellW.stab _ _ _)) HS4.out (fun F hF => HPA.out F _ hF)).mono ?_); rintro e w5 ⟨rfl, hs⟩; have HS5 := Lib.hid hs; clear hs))
                | (go_at_call 32; ((with_reducible refine (dcalls_at (C := fun X => Star (Star (Star (CellW w.heap.size #[.int .i64 d.b, .int .i64 d.s, .int .i64 d.wi, .int .i64 (z : Int), .int .i64 d.wa] 43) (TurnW (.pointer (some a)) M2)) X) (CellW wr.heap.size #[.int .i64 x.kind, .int .i64 x.n, .string x.body, .int .i64 x.p.seat, .int .i64 x.p.count, .bool x.p.cmd, .int .i64 x.p.kind, .int .i64 x.p.sort, .int .i64 x.p.nr, .int .i64 x.p.ns, .bool x.p.pf, .string x.p.body] 39)) (Fr.l (Fr.r ((CellW.stab _ _ _).star (TurnW.stab _ _)) Fr.id_) (CellW.stab _ _ _)) HS5.out (fun F hF => HPB.out F _ hF)).mono ?_); rintro e w6 ⟨rfl, hs⟩; have HS6 := Lib.hid hs; clear hs)))
              go_meet
              exact ⟨rfl, M2, HS6.out.drop⟩
            have tk0 : (x.kind == 0) = false := beq_eq_false_iff_ne.2 h0
            clear h0
            by_cases h1 : x.kind = 1
            · have tk1 : (x.kind == 1) = true := by rw [h1]; rfl
              have HS4 := Lib.hid HS3.out
              clear h1
              obtain ⟨S, hS⟩ : ∃ S, M.says.length = S := ⟨_, rfl⟩
              have HGA : Hid (∀ W, Done w [] (Star (Star (Star (CellW w.heap.size #[.int .i64 d.b, .int .i64 d.s, .int .i64 d.wi, .int .i64 (z : Int), .int .i64 d.wa] 43) (TurnW (.pointer (some a)) M)) (RTn g M)) (CellW wr.heap.size #[.int .i64 x.kind, .int .i64 x.n, .string x.body, .int .i64 x.p.seat, .int .i64 x.p.count, .bool x.p.cmd, .int .i64 x.p.kind, .int .i64 x.p.sort, .int .i64 x.p.nr, .int .i64 x.p.ns, .bool x.p.pf, .string x.p.body] 39)) W → Calls Tryz.prog 34 #[.pointer (some a)] W fun e w' => ∃ A1 c1, e = .returned (.slice A1 S c1) ∧ (S ≤ c1 ∧ c1 ≤ maxLen) ∧ Done w [] (Star (Star (Star (CellW w.heap.size #[.int .i64 d.b, .int .i64 d.s, .int .i64 d.wi, .int .i64 (z : Int), .int .i64 d.wa] 43) (Star (TurnW (.pointer (some a)) M.go) (SlW 9 (.slice A1 S c1) S (plcs M.says)))) (RTn g M)) (CellW wr.heap.size #[.int .i64 x.kind, .int .i64 x.n, .string x.body, .int .i64 x.p.seat, .int .i64 x.p.count, .bool x.p.cmd, .int .i64 x.p.kind, .int .i64 x.p.sort, .int .i64 x.p.nr, .int .i64 x.p.ns, .bool x.p.pf, .string x.p.body] 39)) w') := by show ∀ _, _; intro W hW; have hh := dTnGo_at (C := fun X => Star (Star (Star (CellW w.heap.size #[.int .i64 d.b, .int .i64 d.s, .int .i64 d.wi, .int .i64 (z : Int), .int .i64 d.wa] 43) X) (RTn g M)) (CellW wr.heap.size #[.int .i64 x.kind, .int .i64 x.n, .string x.body, .int .i64 x.p.seat, .int .i64 x.p.count, .bool x.p.cmd, .int .i64 x.p.kind, .int .i64 x.p.sort, .int .i64 x.p.nr, .int .i64 x.p.ns, .bool x.p.pf, .string x.p.body] 39)) (Fr.l (Fr.l (Fr.r (CellW.stab _ _ _) Fr.id_) (RTn.stab _ _)) (CellW.stab _ _ _)) hW; rw [hS] at hh; exact hh
              have HGB : Hid (∀ (A1 : Option Addr) (c1 : Nat) W, Done w [] (Star (Star (Star (CellW w.heap.size #[.int .i64 d.b, .int .i64 d.s, .int .i64 d.wi, .int .i64 (z : Int), .int .i64 d.wa] 43) (Star (TurnW (.pointer (some a)) M.go) (SlW 9 (.slice A1 S c1) S (plcs M.says)))) (RTn g M)) (CellW wr.heap.size #[.int .i64 x.kind, .int .i64 x.n, .string x.body, .int .i64 x.p.seat, .int .i64 x.p.count, .bool x.p.cmd, .int .i64 x.p.kind, .int .i64 x.p.sort, .int .i64 x.p.nr, .int .i64 x.p.ns, .bool x.p.pf, .string x.p.body] 39)) W → Calls Tryz.prog 35 #[.pointer (some ⟨g, 0, none⟩)] W fun e w' => ∃ A2 c2, e = .returned (.slice A2 S c2) ∧ (S ≤ c2 ∧ c2 ≤ maxLen) ∧ Done w [] (Star (Star (Star (CellW w.heap.size #[.int .i64 d.b, .int .i64 d.s, .int .i64 d.wi, .int .i64 (z : Int), .int .i64 d.wa] 43) (Star (TurnW (.pointer (some a)) M.go) (SlW 9 (.slice A1 S c1) S (plcs M.says)))) (Star (RTn g M.go) (OwnK 37 9 (.slice A2 S c2) S (plcs M.says)))) (CellW wr.heap.size #[.int .i64 x.kind, .int .i64 x.n, .string x.body, .int .i64 x.p.seat, .int .i64 x.p.count, .bool x.p.cmd, .int .i64 x.p.kind, .int .i64 x.p.sort, .int .i64 x.p.nr, .int .i64 x.p.ns, .bool x.p.pf, .string x.p.body] 39)) w') := by show ∀ _, _; intro A1 c1 W hW; have hh := dRTnGo_at (C := fun X => Star (Star (Star (CellW w.heap.size #[.int .i64 d.b, .int .i64 d.s, .int .i64 d.wi, .int .i64 (z : Int), .int .i64 d.wa] 43) (Star (TurnW (.pointer (some a)) M.go) (SlW 9 (.slice A1 S c1) S (plcs M.says)))) X) (CellW wr.heap.size #[.int .i64 x.kind, .int .i64 x.n, .string x.body, .int .i64 x.p.seat, .int .i64 x.p.count, .bool x.p.cmd, .int .i64 x.p.kind, .int .i64 x.p.sort, .int .i64 x.p.nr, .int .i64 x.p.ns, .bool x.p.pf, .string x.p.body] 39)) (Fr.l (Fr.r ((CellW.stab _ _ _).star ((TurnW.stab _ _).star (SlW.stab _ _ _ _))) Fr.id_) (CellW.stab _ _ _)) hW; rw [hS] at hh; exact hh
              have HGE : Hid (∀ (A1 A2 : Option Addr) (c1 c2 : Nat) W, Done w [] (Star (Star (Star (CellW w.heap.size #[.int .i64 d.b, .int .i64 d.s, .int .i64 d.wi, .int .i64 (z : Int), .int .i64 d.wa] 43) (Star (TurnW (.pointer (some a)) M.go) (SlW 9 (.slice A1 S c1) S (plcs M.says)))) (Star (RTn g M.go) (OwnK 37 9 (.slice A2 S c2) S (plcs M.says)))) (CellW wr.heap.size #[.int .i64 x.kind, .int .i64 x.n, .string x.body, .int .i64 x.p.seat, .int .i64 x.p.count, .bool x.p.cmd, .int .i64 x.p.kind, .int .i64 x.p.sort, .int .i64 x.p.nr, .int .i64 x.p.ns, .bool x.p.pf, .string x.p.body] 39)) W → Calls Tryz.prog 33 #[.slice A1 S c1, .slice A2 S c2] W fun e w' => e = .returned (.bool true) ∧ Done w [] (Star (Star (Star (CellW w.heap.size #[.int .i64 d.b, .int .i64 d.s, .int .i64 d.wi, .int .i64 (z : Int), .int .i64 d.wa] 43) (Star (TurnW (.pointer (some a)) M.go) (SlW 9 (.slice A1 S c1) S (plcs M.says)))) (Star (RTn g M.go) (OwnK 37 9 (.slice A2 S c2) S (plcs M.says)))) (CellW wr.heap.size #[.int .i64 x.kind, .int .i64 x.n, .string x.body, .int .i64 x.p.seat, .int .i64 x.p.count, .bool x.p.cmd, .int .i64 x.p.kind, .int .i64 x.p.sort, .int .i64 x.p.nr, .int .i64 x.p.ns, .bool x.p.pf, .string x.p.body] 39)) w') := by
                show ∀ _, _
                intro A1 A2 c1 c2 W hW
                obtain ⟨_, _, F2, _, _, h1, _⟩ := Done.get (C := fun X => Star (Star (Star (CellW w.heap.size #[.int .i64 d.b, .int .i64 d.s, .int .i64 d.wi, .int .i64 (z : Int), .int .i64 d.wa] 43) X) (Star (RTn g M.go) (OwnK 37 9 (.slice A2 S c2) S (plcs M.says)))) (CellW wr.heap.size #[.int .i64 x.kind, .int .i64 x.n, .string x.body, .int .i64 x.p.seat, .int .i64 x.p.count, .bool x.p.cmd, .int .i64 x.p.kind, .int .i64 x.p.sort, .int .i64 x.p.nr, .int .i64 x.p.ns, .bool x.p.pf, .string x.p.body] 39)) (Fr.l (Fr.l (Fr.r (CellW.stab _ _ _) Fr.id_) ((RTn.stab _ _).star (OwnK.stab _ _ _ _ _))) (CellW.stab _ _ _)) hW
                obtain ⟨_, _, F3, _, _, h2, _⟩ := Done.get (C := fun X => Star (Star (Star (CellW w.heap.size #[.int .i64 d.b, .int .i64 d.s, .int .i64 d.wi, .int .i64 (z : Int), .int .i64 d.wa] 43) (Star (TurnW (.pointer (some a)) M.go) (SlW 9 (.slice A1 S c1) S (plcs M.says)))) X) (CellW wr.heap.size #[.int .i64 x.kind, .int .i64 x.n, .string x.body, .int .i64 x.p.seat, .int .i64 x.p.count, .bool x.p.cmd, .int .i64 x.p.kind, .int .i64 x.p.sort, .int .i64 x.p.nr, .int .i64 x.p.ns, .bool x.p.pf, .string x.p.body] 39)) (Fr.l (Fr.r ((CellW.stab _ _ _).star ((TurnW.stab _ _).star (SlW.stab _ _ _ _))) Fr.id_) (CellW.stab _ _ _)) hW
                exact dcalls_keep ((((CellW.stab _ _ _).star ((TurnW.stab _ _).star (SlW.stab _ _ _ _))).star ((RTn.stab _ _).star (OwnK.stab _ _ _ _ _))).star (CellW.stab _ _ _)) hW (EqPl_any _ _ M.says S W hS.symm h1.2.2 h2.rd (by rw [← hS]; have := says_len7 HMOK.out; omega))
              clear hS
              go_wp2_with (first
                | (go_at_call 34; ((with_reducible refine (HGA.out _ HS4.out).mono ?_); rintro e w5 ⟨A1, c1, rfl, hcc, hs⟩; have HS5 := Lib.hid hs; clear hs hcc))
                | (go_at_call 35; ((with_reducible refine (HGB.out A1 c1 _ HS5.out).mono ?_); rintro e w6 ⟨A2, c2, rfl, hcc, hs⟩; have HS6 := Lib.hid hs; clear hs hcc))
                | (go_at_call 33; ((with_reducible refine (HGE.out A1 A2 c1 c2 _ HS6.out).mono ?_); rintro e w7 ⟨rfl, hs⟩; have HS7 := Lib.hid hs; clear hs)))
              have HS8 := Lib.hid (Done.drop_at (C := fun X => Star (Star (Star (CellW w.heap.size #[.int .i64 d.b, .int .i64 d.s, .int .i64 d.wi, .int .i64 (z : Int), .int .i64 d.wa] 43) (TurnW (.pointer (some a)) M.go)) X) (CellW wr.heap.size #[.int .i64 x.kind, .int .i64 x.n, .string x.body, .int .i64 x.p.seat, .int .i64 x.p.count, .bool x.p.cmd, .int .i64 x.p.kind, .int .i64 x.p.sort, .int .i64 x.p.nr, .int .i64 x.p.ns, .bool x.p.pf, .string x.p.body] 39)) (Fr.l (Fr.r ((CellW.stab _ _ _).star (TurnW.stab _ _)) Fr.id_) (CellW.stab _ _ _)) (Done.drop_at (C := fun X => Star (Star (Star (CellW w.heap.size #[.int .i64 d.b, .int .i64 d.s, .int .i64 d.wi, .int .i64 (z : Int), .int .i64 d.wa] 43) X) (Star (RTn g M.go) (OwnK 37 9 (.slice A2 S c2) S (plcs M.says)))) (CellW wr.heap.size #[.int .i64 x.kind, .int .i64 x.n, .string x.body, .int .i64 x.p.seat, .int .i64 x.p.count, .bool x.p.cmd, .int .i64 x.p.kind, .int .i64 x.p.sort, .int .i64 x.p.nr, .int .i64 x.p.ns, .bool x.p.pf, .string x.p.body] 39)) (Fr.l (Fr.l (Fr.r (CellW.stab _ _ _) Fr.id_) ((RTn.stab _ _).star (OwnK.stab _ _ _ _ _))) (CellW.stab _ _ _)) HS7.out))
              go_meet
              exact ⟨rfl, M.go, HS8.out.drop⟩
            have tk1 : (x.kind == 1) = false := beq_eq_false_iff_ne.2 h1
            clear h1
            by_cases h2 : x.kind = 2
            · have tk2 : (x.kind == 2) = true := by rw [h2]; rfl
              have HS4 := Lib.hid HS3.out
              clear h2
              obtain ⟨q, hq⟩ : ∃ q, x.p.cut = q := ⟨_, rfl⟩
              have hqk : q.ok := hq ▸ PIn.cut_ok HX.out.2.2.2
              have hqz : q.body.size ≤ 281474976710656 := hq ▸ Nat.le_trans (PIn.cut_len x.p) (by decide)
              have hpl := fun w => LPlain_any x.p HX.out.2.2.2 w
              rw [hq] at hpl
              have HPL : Hid (∀ w, Calls Tryz.prog 36 #[.agg (pcs x.p).toArray] w fun e w' => e = .returned q.val ∧ Below w.heap.size w w') := hpl
              have HQK := Lib.hid hqk
              obtain ⟨ts, hts⟩ : ∃ ts, M.told q = ts := ⟨_, rfl⟩
              obtain ⟨tb, htb⟩ : ∃ tb, M.tells q = tb := ⟨_, rfl⟩
              obtain ⟨M2, hM2⟩ : ∃ M2, M.take q = M2 := ⟨_, rfl⟩
              have HRP : Hid (w3.rangeAt wr.heap.size 3 (pcs x.p)) := by show World.rangeAt _ _ _ _; intro r u hu; exact cell_at (Done.at_ (C := fun X => Star (Star (Star (CellW w.heap.size #[.int .i64 d.b, .int .i64 d.s, .int .i64 d.wi, .int .i64 (z : Int), .int .i64 d.wa] 43) (TurnW (.pointer (some a)) M)) (RTn g M)) X) (Fr.r (((CellW.stab _ _ _).star (TurnW.stab _ _)).star (RTn.stab _ _)) Fr.id_) HS4.out) (3 + r) u (by have := hu; simpa [pcs, Nat.add_comm 3 r] using this)
              have HPA : Hid (∀ F W, TurnW (.pointer (some a)) M W F → Calls Tryz.prog 37 #[.pointer (some a), q.val] W fun e w' => e = .returned (.tuple #[.string ts, .bool tb]) ∧ Done W F (TurnW (.pointer (some a)) M2) w') := by show ∀ _, _; intro F W hF; rw [← hts, ← htb, ← hM2]; exact TnTake_any (.pointer (some a)) M F q W hF hqk (fun _ => hqz)
              have HPB : Hid (∀ F W, RTn g M W F → Calls Tryz.prog 38 #[.pointer (some ⟨g, 0, none⟩), q.val] W fun e w' => e = .returned (.tuple #[.string ts, .bool tb]) ∧ Done W F (RTn g M2) w') := by show ∀ _, _; intro F W hF; rw [← hts, ← htb, ← hM2]; exact RTnTake_any g M F q W hF
              clear hq hqk hqz hpl hts htb hM2
              go_wp2_with (first
                | (with_reducible refine wpList_load_mid rfl 37 (.tmp 82) rfl wr.heap.size 3 rfl (pcs x.p) _ HRP.out Tryz.underlying37 rfl (by kernel_rfl) ?_)
                | (go_at_call 36; ((with_reducible refine (HPL.out _).mono ?_); rintro e w4 ⟨rfl, hb⟩; have HS4b := Lib.hid ((HS4.out.keep ((((CellW.stab _ _ _).star (TurnW.stab _ _)).star (RTn.stab _ _)).star (CellW.stab _ _ _)) hb).add ((((CellW.stab _ _ _).star (TurnW.stab _ _)).star (RTn.stab _ _)).star (CellW.stab _ _ _)) (CellW.new w4 #[.int .i64 0, .int .i64 0, .bool false, .int .i64 0, .int .i64 0, .int .i64 0, .int .i64 0, .bool false, .string ⟨#[]⟩] 37)); clear hb))
                | ((with_reducible refine wpList_storeBD (C := fun X => Star (Star (Star (Star (CellW w.heap.size #[.int .i64 d.b, .int .i64 d.s, .int .i64 d.wi, .int .i64 (z : Int), .int .i64 d.wa] 43) (TurnW (.pointer (some a)) M)) (RTn g M)) (CellW wr.heap.size #[.int .i64 x.kind, .int .i64 x.n, .string x.body, .int .i64 x.p.seat, .int .i64 x.p.count, .bool x.p.cmd, .int .i64 x.p.kind, .int .i64 x.p.sort, .int .i64 x.p.nr, .int .i64 x.p.ns, .bool x.p.pf, .string x.p.body] 39)) X) (Fr.r ((((CellW.stab _ _ _).star (TurnW.stab _ _)).star (RTn.stab _ _)).star (CellW.stab _ _ _)) Fr.id_) HS4b.out rfl 37 (.tmp 13) (.tmp 84) rfl #[.int .i64 q.seat, .int .i64 q.count, .bool q.cmd, .int .i64 q.kind, .int .i64 q.sort, .int .i64 q.nr, .int .i64 q.ns, .bool q.pf, .string q.body] rfl rfl (by kernel_rfl) rfl (by simp [Value.oneCell']) ?_); intro w5 hs; have HS5 : Hid (Done w [] (Star (Star (Star (Star (CellW w.heap.size #[.int .i64 d.b, .int .i64 d.s, .int .i64 d.wi, .int .i64 (z : Int), .int .i64 d.wa] 43) (TurnW (.pointer (some a)) M)) (RTn g M)) (CellW wr.heap.size #[.int .i64 x.kind, .int .i64 x.n, .string x.body, .int .i64 x.p.seat, .int .i64 x.p.count, .bool x.p.cmd, .int .i64 x.p.kind, .int .i64 x.p.sort, .int .i64 x.p.nr, .int .i64 x.p.ns, .bool x.p.pf, .string x.p.body] 39)) (CellW w4.heap.size #[.int .i64 q.seat, .int .i64 q.count, .bool q.cmd, .int .i64 q.kind, .int .i64 q.sort, .int .i64 q.nr, .int .i64 q.ns, .bool q.pf, .string q.body] 37)) w5) := (by show Done _ _ _ _; exact hs); clear hs)
                | (with_reducible refine wpList_loadD (C := fun X => Star (Star (Star (Star (CellW w.heap.size #[.int .i64 d.b, .int .i64 d.s, .int .i64 d.wi, .int .i64 (z : Int), .int .i64 d.wa] 43) (TurnW (.pointer (some a)) M)) (RTn g M)) (CellW wr.heap.size #[.int .i64 x.kind, .int .i64 x.n, .string x.body, .int .i64 x.p.seat, .int .i64 x.p.count, .bool x.p.cmd, .int .i64 x.p.kind, .int .i64 x.p.sort, .int .i64 x.p.nr, .int .i64 x.p.ns, .bool x.p.pf, .string x.p.body] 39)) X) (Fr.r ((((CellW.stab _ _ _).star (TurnW.stab _ _)).star (RTn.stab _ _)).star (CellW.stab _ _ _)) Fr.id_) HS5.out rfl 37 (.tmp 13) rfl rfl _ Tryz.underlying37 rfl (by kernel_rfl) ?_)
                | (with_reducible refine wpList_loadD (C := fun X => Star (Star (Star (Star (CellW w.heap.size #[.int .i64 d.b, .int .i64 d.s, .int .i64 d.wi, .int .i64 (z : Int), .int .i64 d.wa] 43) (TurnW (.pointer (some a)) M2)) (RTn g M)) (CellW wr.heap.size #[.int .i64 x.kind, .int .i64 x.n, .string x.body, .int .i64 x.p.seat, .int .i64 x.p.count, .bool x.p.cmd, .int .i64 x.p.kind, .int .i64 x.p.sort, .int .i64 x.p.nr, .int .i64 x.p.ns, .bool x.p.pf, .string x.p.body] 39)) X) (Fr.r ((((CellW.stab _ _ _).star (TurnW.stab _ _)).star (RTn.stab _ _)).star (CellW.stab _ _ _)) Fr.id_) HS6.out rfl 37 (.tmp 13) rfl rfl _ Tryz.underlying37 rfl (by kernel_rfl) ?_)
                | (go_at_call 37; ((with_reducible refine (dcalls_at (C := fun X => Star (Star (Star (Star (CellW w.heap.size #[.int .i64 d.b, .int .i64 d.s, .int .i64 d.wi, .int .i64 (z : Int), .int .i64 d.wa] 43) X) (RTn g M)) (CellW wr.heap.size #[.int .i64 x.kind, .int .i64 x.n, .string x.body, .int .i64 x.p.seat, .int .i64 x.p.count, .bool x.p.cmd, .int .i64 x.p.kind, .int .i64 x.p.sort, .int .i64 x.p.nr, .int .i64 x.p.ns, .bool x.p.pf, .string x.p.body] 39)) (CellW w4.heap.size #[.int .i64 q.seat, .int .i64 q.count, .bool q.cmd, .int .i64 q.kind, .int .i64 q.sort, .int .i64 q.nr, .int .i64 q.ns, .bool q.pf, .string q.body] 37)) (Fr.l (Fr.l (Fr.l (Fr.r (CellW.stab _ _ _) Fr.id_) (RTn.stab _ _)) (CellW.stab _ _ _)) (CellW.stab _ _ _)) HS5.out (fun F hF => HPA.out F _ hF)).mono ?_); rintro e w6 ⟨rfl, hs⟩; have HS6 := Lib.hid hs; clear hs))
                | (go_at_call 38; ((with_reducible refine (dcalls_at (C := fun X => Star (Star (Star (Star (CellW w.heap.size #[.int .i64 d.b, .int .i64 d.s, .int .i64 d.wi, .int .i64 (z : Int), .int .i64 d.wa] 43) (TurnW (.pointer (some a)) M2)) X) (CellW wr.heap.size #[.int .i64 x.kind, .int .i64 x.n, .string x.body, .int .i64 x.p.seat, .int .i64 x.p.count, .bool x.p.cmd, .int .i64 x.p.kind, .int .i64 x.p.sort, .int .i64 x.p.nr, .int .i64 x.p.ns, .bool x.p.pf, .string x.p.body] 39)) (CellW w4.heap.size #[.int .i64 q.seat, .int .i64 q.count, .bool q.cmd, .int .i64 q.kind, .int .i64 q.sort, .int .i64 q.nr, .int .i64 q.ns, .bool q.pf, .string q.body] 37)) (Fr.l (Fr.l (Fr.r ((CellW.stab _ _ _).star (TurnW.stab _ _)) Fr.id_) (CellW.stab _ _ _)) (CellW.stab _ _ _)) HS6.out (fun F hF => HPB.out F _ hF)).mono ?_); rintro e w7 ⟨rfl, hs⟩; have HS7 := Lib.hid hs; clear hs)))
              go_meet
              exact ⟨rfl, M2, HS7.out.drop.drop⟩
            have tk2 : (x.kind == 2) = false := beq_eq_false_iff_ne.2 h2
            clear h2
            by_cases h3 : x.kind = 3
            · have tk3 : (x.kind == 3) = true := by rw [h3]; rfl
              have HS4 := Lib.hid HS3.out
              clear h3
              obtain ⟨pe, hpe⟩ : ∃ pe, M.lates = pe := ⟨_, rfl⟩
              obtain ⟨M2, hM2⟩ : ∃ M2, M.late = M2 := ⟨_, rfl⟩
              have HPA : Hid (∀ F W, TurnW (.pointer (some a)) M W F → Calls Tryz.prog 39 #[.pointer (some a)] W fun e w' => e = .returned (.bool pe) ∧ Done W F (TurnW (.pointer (some a)) M2) w') := by show ∀ _, _; intro F W hF; rw [← hpe, ← hM2]; exact TnLate_any (.pointer (some a)) M F W hF
              have HPB : Hid (∀ F W, RTn g M W F → Calls Tryz.prog 40 #[.pointer (some ⟨g, 0, none⟩)] W fun e w' => e = .returned (.bool pe) ∧ Done W F (RTn g M2) w') := by show ∀ _, _; intro F W hF; rw [← hpe, ← hM2]; exact RTnLate_any g M F W hF
              clear hpe hM2
              go_wp2_with (first
                | (go_at_call 39; ((with_reducible refine (dcalls_at (C := fun X => Star (Star (Star (CellW w.heap.size #[.int .i64 d.b, .int .i64 d.s, .int .i64 d.wi, .int .i64 (z : Int), .int .i64 d.wa] 43) X) (RTn g M)) (CellW wr.heap.size #[.int .i64 x.kind, .int .i64 x.n, .string x.body, .int .i64 x.p.seat, .int .i64 x.p.count, .bool x.p.cmd, .int .i64 x.p.kind, .int .i64 x.p.sort, .int .i64 x.p.nr, .int .i64 x.p.ns, .bool x.p.pf, .string x.p.body] 39)) (Fr.l (Fr.l (Fr.r (CellW.stab _ _ _) Fr.id_) (RTn.stab _ _)) (CellW.stab _ _ _)) HS4.out (fun F hF => HPA.out F _ hF)).mono ?_); rintro e w5 ⟨rfl, hs⟩; have HS5 := Lib.hid hs; clear hs))
                | (go_at_call 40; ((with_reducible refine (dcalls_at (C := fun X => Star (Star (Star (CellW w.heap.size #[.int .i64 d.b, .int .i64 d.s, .int .i64 d.wi, .int .i64 (z : Int), .int .i64 d.wa] 43) (TurnW (.pointer (some a)) M2)) X) (CellW wr.heap.size #[.int .i64 x.kind, .int .i64 x.n, .string x.body, .int .i64 x.p.seat, .int .i64 x.p.count, .bool x.p.cmd, .int .i64 x.p.kind, .int .i64 x.p.sort, .int .i64 x.p.nr, .int .i64 x.p.ns, .bool x.p.pf, .string x.p.body] 39)) (Fr.l (Fr.r ((CellW.stab _ _ _).star (TurnW.stab _ _)) Fr.id_) (CellW.stab _ _ _)) HS5.out (fun F hF => HPB.out F _ hF)).mono ?_); rintro e w6 ⟨rfl, hs⟩; have HS6 := Lib.hid hs; clear hs)))
              go_meet
              exact ⟨rfl, M2, HS6.out.drop⟩
            have tk3 : (x.kind == 3) = false := beq_eq_false_iff_ne.2 h3
            clear h3
            go_wp2_with (first
              | (go_at_call 41; ((with_reducible refine (dcalls_at (C := fun X => Star (Star (Star (CellW w.heap.size #[.int .i64 d.b, .int .i64 d.s, .int .i64 d.wi, .int .i64 (z : Int), .int .i64 d.wa] 43) X) (RTn g M)) (CellW wr.heap.size #[.int .i64 x.kind, .int .i64 x.n, .string x.body, .int .i64 x.p.seat, .int .i64 x.p.count, .bool x.p.cmd, .int .i64 x.p.kind, .int .i64 x.p.sort, .int .i64 x.p.nr, .int .i64 x.p.ns, .bool x.p.pf, .string x.p.body] 39)) (Fr.l (Fr.l (Fr.r (CellW.stab _ _ _) Fr.id_) (RTn.stab _ _)) (CellW.stab _ _ _)) HS3.out (fun F hF => TnSwap_any (.pointer (some a)) M F _ hF)).mono ?_); rintro e w5 ⟨rfl, hs⟩; have HS5 := Lib.hid hs; clear hs))
              | (go_at_call 42; ((with_reducible refine (dcalls_at (C := fun X => Star (Star (Star (CellW w.heap.size #[.int .i64 d.b, .int .i64 d.s, .int .i64 d.wi, .int .i64 (z : Int), .int .i64 d.wa] 43) (TurnW (.pointer (some a)) M.swap)) X) (CellW wr.heap.size #[.int .i64 x.kind, .int .i64 x.n, .string x.body, .int .i64 x.p.seat, .int .i64 x.p.count, .bool x.p.cmd, .int .i64 x.p.kind, .int .i64 x.p.sort, .int .i64 x.p.nr, .int .i64 x.p.ns, .bool x.p.pf, .string x.p.body] 39)) (Fr.l (Fr.r ((CellW.stab _ _ _).star (TurnW.stab _ _)) Fr.id_) (CellW.stab _ _ _)) HS5.out (fun F hF => RTnSwap_any g M F _ hF)).mono ?_); rintro e w6 ⟨rfl, hs⟩; have HS6 := Lib.hid hs; clear hs)))
            go_meet
            exact ⟨rfl, M.swap, HS6.out.drop⟩
          case rest =>
            clear HS2 HT
            obtain ⟨rfl, M2, hs⟩ := hcut
            obtain ⟨hmk, go, A2, c2, h9⟩ := RTn.open_ (C := fun X => Star (Star (CellW w.heap.size #[.int .i64 d.b, .int .i64 d.s, .int .i64 d.wi, .int .i64 (z : Int), .int .i64 d.wa] 43) (TurnW (.pointer (some a)) M2)) X) (Fr.r ((CellW.stab _ _ _).star (TurnW.stab _ _)) Fr.id_) hs
            have HS9 := Lib.hid h9
            have HMK := Lib.hid hmk
            clear hs h9 hmk
            go_wp2
            refine regq (fun W => Done w [] (Star (Star (CellW w.heap.size #[.int .i64 d.b, .int .i64 d.s, .int .i64 d.wi, .int .i64 (z : Int), .int .i64 d.wa] 43) (TurnW (.pointer (some a)) M2)) (RTn3 g go A2 c2 M2)) W) (by kernel_rfl) (by kernel_rfl) (HS9.out.drewD (((CellW.stab _ _ _).star (TurnW.stab _ _)).star (RTn3.stab _ _ _ _ _))) ?_
            refine q_take (v := ?_) (by rfl) ?_ ?_; rotate_left; (· intro W HW; go_simp; try with_reducible rfl)
            simp only [Act.put, List.setIfInBounds_toArray, List.set_cons_zero, List.set_cons_succ]
            refine q_call 43 #[.pointer (some a)] (by rfl) (by intro W HW; go_simp) (fun W HW => dcalls_look (C := fun X => Star (Star (CellW w.heap.size #[.int .i64 d.b, .int .i64 d.s, .int .i64 d.wi, .int .i64 (z : Int), .int .i64 d.wa] 43) X) (RTn3 g go A2 c2 M2)) (Fr.l (Fr.r (CellW.stab _ _ _) Fr.id_) (RTn3.stab _ _ _ _ _)) (((CellW.stab _ _ _).star (TurnW.stab _ _)).star (RTn3.stab _ _ _ _ _)) HW (fun F hF => TnMine_any (.pointer (some a)) M2 F W hF)) ?_
            simp only [Act.put, List.setIfInBounds_toArray, List.set_cons_zero, List.set_cons_succ]
            refine q_take (v := ?_) (by rfl) ?_ ?_; rotate_left; (· intro W HW; go_simp; try with_reducible rfl)
            simp only [Act.put, List.setIfInBounds_toArray, List.set_cons_zero, List.set_cons_succ]
            refine q_take (v := ?_) (by rfl) ?_ ?_; rotate_left; (· intro W HW; go_simp; try with_reducible rfl)
            simp only [Act.put, List.setIfInBounds_toArray, List.set_cons_zero, List.set_cons_succ]
            refine q_take (v := ?_) (by rfl) ?_ ?_; rotate_left; (· intro W HW; go_simp; try with_reducible rfl)
            simp only [Act.put, List.setIfInBounds_toArray, List.set_cons_zero, List.set_cons_succ]
            refine q_take (v := ?_) (by rfl) ?_ ?_; rotate_left; (· intro W HW; obtain ⟨z0, z2, z3, z4⟩ := ((Done.get (C := fun X => Star (Star (CellW w.heap.size #[.int .i64 d.b, .int .i64 d.s, .int .i64 d.wi, .int .i64 (z : Int), .int .i64 d.wa] 43) (TurnW (.pointer (some a)) M2)) X) (Fr.r ((CellW.stab _ _ _).star (TurnW.stab _ _)) Fr.id_) HW).elim fun _ h => h.cells); go_simp; try with_reducible rfl)
            simp only [Act.put, List.setIfInBounds_toArray, List.set_cons_zero, List.set_cons_succ]
            refine q_take (v := ?_) (by rfl) ?_ ?_; rotate_left; (· intro W HW; go_simp; try with_reducible rfl)
            simp only [Act.put, List.setIfInBounds_toArray, List.set_cons_zero, List.set_cons_succ]
            refine q_take (v := ?_) (by rfl) ?_ ?_; rotate_left; (· intro W HW; go_simp; try with_reducible rfl)
            simp only [Act.put, List.setIfInBounds_toArray, List.set_cons_zero, List.set_cons_succ]
            refine q_take (v := ?_) (by rfl) ?_ ?_; rotate_left; (· intro W HW; go_simp; try with_reducible rfl)
            simp only [Act.put, List.setIfInBounds_toArray, List.set_cons_zero, List.set_cons_succ]
            refine q_call 44 #[.pointer (some a)] (by rfl) (by intro W HW; go_simp) (fun W HW => dcalls_look (C := fun X => Star (Star (CellW w.heap.size #[.int .i64 d.b, .int .i64 d.s, .int .i64 d.wi, .int .i64 (z : Int), .int .i64 d.wa] 43) X) (RTn3 g go A2 c2 M2)) (Fr.l (Fr.r (CellW.stab _ _ _) Fr.id_) (RTn3.stab _ _ _ _ _)) (((CellW.stab _ _ _).star (TurnW.stab _ _)).star (RTn3.stab _ _ _ _ _)) HW (fun F hF => TnRole_any (.pointer (some a)) M2 F W hF)) ?_
            simp only [Act.put, List.setIfInBounds_toArray, List.set_cons_zero, List.set_cons_succ]
            refine q_take (v := ?_) (by rfl) ?_ ?_; rotate_left; (· intro W HW; go_simp; try with_reducible rfl)
            simp only [Act.put, List.setIfInBounds_toArray, List.set_cons_zero, List.set_cons_succ]
            refine q_take (v := ?_) (by rfl) ?_ ?_; rotate_left; (· intro W HW; go_simp; try with_reducible rfl)
            simp only [Act.put, List.setIfInBounds_toArray, List.set_cons_zero, List.set_cons_succ]
            refine q_take (v := ?_) (by rfl) ?_ ?_; rotate_left; (· intro W HW; go_simp; try with_reducible rfl)
            simp only [Act.put, List.setIfInBounds_toArray, List.set_cons_zero, List.set_cons_succ]
            refine q_take (v := ?_) (by rfl) ?_ ?_; rotate_left; (· intro W HW; obtain ⟨z0, z2, z3, z4⟩ := ((Done.get (C := fun X => Star (Star (CellW w.heap.size #[.int .i64 d.b, .int .i64 d.s, .int .i64 d.wi, .int .i64 (z : Int), .int .i64 d.wa] 43) (TurnW (.pointer (some a)) M2)) X) (Fr.r ((CellW.stab _ _ _).star (TurnW.stab _ _)) Fr.id_) HW).elim fun _ h => h.cells); go_simp; try with_reducible rfl)
            simp only [Act.put, List.setIfInBounds_toArray, List.set_cons_zero, List.set_cons_succ]
            refine q_take (v := ?_) (by rfl) ?_ ?_; rotate_left; (· intro W HW; go_simp; try with_reducible rfl)
            simp only [Act.put, List.setIfInBounds_toArray, List.set_cons_zero, List.set_cons_succ]
            refine q_take (v := ?_) (by rfl) ?_ ?_; rotate_left; (· intro W HW; go_simp; try with_reducible rfl)
            simp only [Act.put, List.setIfInBounds_toArray, List.set_cons_zero, List.set_cons_succ]
            refine q_take (v := ?_) (by rfl) ?_ ?_; rotate_left; (· intro W HW; go_simp; try with_reducible rfl)
            simp only [Act.put, List.setIfInBounds_toArray, List.set_cons_zero, List.set_cons_succ]
            refine q_take (v := ?_) (by rfl) ?_ ?_; rotate_left; (· intro W HW; go_simp; try with_reducible rfl)
            simp only [Act.put, List.setIfInBounds_toArray, List.set_cons_zero, List.set_cons_succ]
            refine q_call 45 #[.pointer (some a)] (by rfl) (by intro W HW; go_simp) (fun W HW => dcalls_look (C := fun X => Star (Star (CellW w.heap.size #[.int .i64 d.b, .int .i64 d.s, .int .i64 d.wi, .int .i64 (z : Int), .int .i64 d.wa] 43) X) (RTn3 g go A2 c2 M2)) (Fr.l (Fr.r (CellW.stab _ _ _) Fr.id_) (RTn3.stab _ _ _ _ _)) (((CellW.stab _ _ _).star (TurnW.stab _ _)).star (RTn3.stab _ _ _ _ _)) HW (fun F hF => TnLeft_len (.pointer (some a)) M2 F W hF)) ?_
            simp only [Act.put, List.setIfInBounds_toArray, List.set_cons_zero, List.set_cons_succ]
            refine q_take (v := ?_) (by rfl) ?_ ?_; rotate_left; (· intro W HW; go_simp; try with_reducible rfl)
            simp only [Act.put, List.setIfInBounds_toArray, List.set_cons_zero, List.set_cons_succ]
            refine q_take (v := ?_) (by rfl) ?_ ?_; rotate_left; (· intro W HW; go_simp; try with_reducible rfl)
            simp only [Act.put, List.setIfInBounds_toArray, List.set_cons_zero, List.set_cons_succ]
            refine q_take (v := ?_) (by rfl) ?_ ?_; rotate_left; (· intro W HW; go_simp; try with_reducible rfl)
            simp only [Act.put, List.setIfInBounds_toArray, List.set_cons_zero, List.set_cons_succ]
            refine q_take (v := ?_) (by rfl) ?_ ?_; rotate_left; (· intro W HW; obtain ⟨z0, z2, z3, z4⟩ := ((Done.get (C := fun X => Star (Star (CellW w.heap.size #[.int .i64 d.b, .int .i64 d.s, .int .i64 d.wi, .int .i64 (z : Int), .int .i64 d.wa] 43) (TurnW (.pointer (some a)) M2)) X) (Fr.r ((CellW.stab _ _ _).star (TurnW.stab _ _)) Fr.id_) HW).elim fun _ h => h.cells); go_simp; try with_reducible rfl)
            simp only [Act.put, List.setIfInBounds_toArray, List.set_cons_zero, List.set_cons_succ]
            refine q_take (v := ?_) (by rfl) ?_ ?_; rotate_left; (· intro W HW; go_simp; try with_reducible rfl)
            simp only [Act.put, List.setIfInBounds_toArray, List.set_cons_zero, List.set_cons_succ]
            refine q_take (v := ?_) (by rfl) ?_ ?_; rotate_left; (· intro W HW; go_simp; try with_reducible rfl)
            simp only [Act.put, List.setIfInBounds_toArray, List.set_cons_zero, List.set_cons_succ]
            refine q_take (v := ?_) (by rfl) ?_ ?_; rotate_left; (· intro W HW; obtain ⟨z0, z2, z3, z4⟩ := ((Done.get (C := fun X => Star (Star (CellW w.heap.size #[.int .i64 d.b, .int .i64 d.s, .int .i64 d.wi, .int .i64 (z : Int), .int .i64 d.wa] 43) (TurnW (.pointer (some a)) M2)) X) (Fr.r ((CellW.stab _ _ _).star (TurnW.stab _ _)) Fr.id_) HW).elim fun _ h => h.cells); go_simp; try with_reducible rfl)
            simp only [Act.put, List.setIfInBounds_toArray, List.set_cons_zero, List.set_cons_succ]
            refine q_take (v := ?_) (by rfl) ?_ ?_; rotate_left; (· intro W HW; go_simp; try with_reducible rfl)
            simp only [Act.put, List.setIfInBounds_toArray, List.set_cons_zero, List.set_cons_succ]
            refine q_take (v := ?_) (by rfl) ?_ ?_; rotate_left; (· intro W HW; go_simp; try with_reducible rfl)
            simp only [Act.put, List.setIfInBounds_toArray, List.set_cons_zero, List.set_cons_succ]
            refine q_take (v := ?_) (by rfl) ?_ ?_; rotate_left; (· intro W HW; go_simp; try with_reducible rfl)
            simp only [Act.put, List.setIfInBounds_toArray, List.set_cons_zero, List.set_cons_succ]
            refine q_done ?_
            intro w8 hs8
            have HS8 := Lib.hid (RTn.close_ (C := fun X => Star (Star (CellW w.heap.size #[.int .i64 d.b, .int .i64 d.s, .int .i64 d.wi, .int .i64 (z : Int), .int .i64 d.wa] 43) (TurnW (.pointer (some a)) M2)) X) (Fr.r ((CellW.stab _ _ _).star (TurnW.stab _ _)) Fr.id_) HMK.out hs8)
            clear hs8
            go_wp2
            go_roundw
            case rel => exact ⟨j + 1, M2, by omega, by omega, by go_num, HS8.out⟩
            case measure => simp [intOf] <;> omega
        · have t2 : decide ((j : Int) < 80) = false := decide_eq_false (by omega)
          go_wp2
          go_ret
          exact ⟨by simp, HS2.out.bel⟩
      · have t1 : decide ((j : Int) < (L : Int)) = false := decide_eq_false (by omega)
        go_wp2
        go_ret
        exact ⟨by simp, HS2.out.bel⟩
end Go.Proofs.YtocjhpaackccpaaGreatDoor
