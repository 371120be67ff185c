/- The reference of layer 12: one side says what it has to say. -/
import Derived.Test.YtocjhpaackccpaaGreatDoorRT
import Derived.Test.YtocjhpaackccpaaGreatDoorN12C

set_option linter.all false

namespace Go.Proofs.YtocjhpaackccpaaGreatDoor
open Go.RowKit M

/-- What is said of the i-th text, before the last one is marked. -/
def say0 (c : Bool) (nx f : Nat) (l : List ByteArray) (i : Nat) : PIn := ⟨0, 0, c, 1, 0, (nx : Int), (((f + i) % 8 : Nat) : Int), false, l.getD i ⟨#[]⟩⟩
def plU (c : Bool) (nx f : Nat) (l : List ByteArray) (i : Nat) : List Value := plcs ((List.range i).map (say0 c nx f l))
theorem plcs_app (a b : List PIn) : plcs (a ++ b) = plcs a ++ plcs b := by unfold plcs; rw [List.flatMap_append]
theorem plcs_len : ∀ l : List PIn, (plcs l).length = l.length * 9 := fun l => flat_length (f := pcs) (k := 9) (fun _ => rfl) l
theorem plU_succ (c : Bool) (nx f : Nat) (l : List ByteArray) (i : Nat) : plU c nx f l (i + 1) = plU c nx f l i ++ pcs (say0 c nx f l i) := by
  unfold plU
  rw [List.range_succ, List.map_append, plcs_app]
  congr 1
theorem plU_len (c : Bool) (nx f : Nat) (l : List ByteArray) (i : Nat) : (plU c nx f l i).length = i * 9 := by
  unfold plU
  rw [plcs_len]
  simp
/-- The last one is marked. -/
theorem plU_says {R sz : Int} {o : OutM} {nx k : Nat} {od : Bool} {c : Bool} (hc : c = decide (R = 1)) (hk : o.k = k + 1) : (plU c nx o.first o.l (k + 1)).set (k * 9 + 7) (.bool true) = plcs (TurnM.says ⟨R, sz, true, o, ⟨nx, od⟩⟩) ∧ (TurnM.says ⟨R, sz, true, o, ⟨nx, od⟩⟩).length = k + 1 := by
  have h1 : TurnM.says ⟨R, sz, true, o, ⟨nx, od⟩⟩ = (List.range (k + 1)).map (TurnM.sayI ⟨R, sz, true, o, ⟨nx, od⟩⟩) := by
    show (if o.k = 0 then _ else (List.range o.k).map _) = _
    rw [hk, if_neg (by omega)]
  rw [h1]
  refine ⟨?_, by simp⟩
  rw [plU_succ, List.range_succ, List.map_append, plcs_app, List.set_append_right _ _ (by rw [plU_len]; omega), plU_len]
  have e1 : plU c nx o.first o.l k = plcs ((List.range k).map (TurnM.sayI ⟨R, sz, true, o, ⟨nx, od⟩⟩)) := by
    unfold plU
    congr 1
    refine List.map_congr_left fun i hi => ?_
    have hi := List.mem_range.1 hi
    show say0 c nx o.first o.l i = (⟨0, 0, decide (R = 1), 1, 0, (nx : Int), (((o.first + i) % 8 : Nat) : Int), decide (i + 1 = o.k), o.l.getD i ⟨#[]⟩⟩ : PIn)
    rw [decide_eq_false (show ¬ i + 1 = o.k by omega), ← hc]
    rfl
  rw [e1]
  congr 1
  have e2 : TurnM.sayI ⟨R, sz, true, o, ⟨nx, od⟩⟩ k = ⟨0, 0, c, 1, 0, (nx : Int), (((o.first + k) % 8 : Nat) : Int), true, o.l.getD k ⟨#[]⟩⟩ := by
    show (⟨0, 0, decide (R = 1), 1, 0, (nx : Int), (((o.first + k) % 8 : Nat) : Int), decide (k + 1 = o.k), o.l.getD k ⟨#[]⟩⟩ : PIn) = _
    rw [decide_eq_true (show k + 1 = o.k by omega), ← hc]
  show _ = plcs [TurnM.sayI ⟨R, sz, true, o, ⟨nx, od⟩⟩ k]
  rw [e2, show k * 9 + 7 - k * 9 = 7 by omega]
  rfl
theorem says_nil0 {R sz : Int} {o : OutM} {nx : Nat} {od : Bool} {c : Bool} (hc : c = decide (R = 1)) (hk : o.k = 0) : TurnM.says ⟨R, sz, true, o, ⟨nx, od⟩⟩ = [⟨0, 0, c, 2, if od then 2 else 0, (nx : Int), 0, true, ⟨#[]⟩⟩] := by
  show (if o.k = 0 then [TurnM.sayS ⟨R, sz, true, o, ⟨nx, od⟩⟩] else _) = _
  rw [if_pos hk, hc]
  rfl
theorem rburst_at {w0 w : World} {F0 : List Nat} {C : Obj → Obj} {go : Nat} {o : OutM} (hC : Fr C) (h : Done w0 F0 (C (ROut go o)) w) {k : Nat} {ns bs : List Value} (hk : o.k = k) (hns : ints o.ns = ns) (hbs : strg o.bs = bs) : Calls Tryz.prog 62 #[.pointer (some ⟨go, 0, none⟩)] w fun e w' => ∃ A c B d, e = .returned (.tuple #[.slice A k c, .slice B k d]) ∧ ((k ≤ c ∧ c ≤ maxLen) ∧ (k ≤ d ∧ d ≤ maxLen)) ∧ Done w0 F0 (C (Star (Star (ROut go o.burst) (OwnK 3 1 (.slice A k c) k ns)) (OwnK 9 1 (.slice B k d) k bs))) w' := by
  subst hk; subst hns; subst hbs
  obtain ⟨F, hF, hu⟩ := h.upd hC
  refine (ROBurst_any go o F w hF).mono ?_
  rintro e w' ⟨A, c, B, d, rfl, hb, hd⟩
  exact ⟨A, c, B, d, rfl, hb, hu hd⟩
set_option maxRecDepth 100000 in
set_option maxHeartbeats 16000000 in
theorem RTnGo_none (g : Nat) (m : TurnM) (F : List Nat) (w : World) (hm : m.mine = false) (h : RTn g m w F) : Calls Tryz.prog 35 #[.pointer (some ⟨g, 0, none⟩)] w fun e w' => e = .returned (.slice none 0 0) ∧ w' = w := by
  obtain ⟨go, A, c, hg, _⟩ := h.cells
  obtain ⟨R, sz, mi, o, i⟩ := m
  simp only at hm
  subst hm
  have q2 : w.cell? ⟨g, 2, none⟩ = some (.bool false) := cell_at hg 2 _ rfl
  clear h hg
  go_enter Tryz.func35, Tryz.ntmps35
  go_wp2
  go_ret
  exact ⟨rfl, rfl⟩
set_option maxRecDepth 100000 in
set_option maxHeartbeats 16000000 in
theorem RTnGo_1 (g go : Nat) (sz : Int) (W f sn : Nat) (l : List ByteArray) (nx : Nat) (od : Bool) (F : List Nat) (w : World) (hok : TurnM.ok ⟨1, sz, true, ⟨W, f, l, sn⟩, ⟨nx, od⟩⟩) (h : RTn2 g go ⟨1, sz, true, ⟨W, f, l, sn⟩, ⟨nx, od⟩⟩ w F) : Calls Tryz.prog 35 #[.pointer (some ⟨g, 0, none⟩)] w fun e w' => ∃ A c, e = .returned (.slice A (TurnM.says ⟨1, sz, true, ⟨W, f, l, sn⟩, ⟨nx, od⟩⟩).length c) ∧ ((TurnM.says ⟨1, sz, true, ⟨W, f, l, sn⟩, ⟨nx, od⟩⟩).length ≤ c ∧ c ≤ maxLen) ∧ Done w F (Star (RTn g (TurnM.go ⟨1, sz, true, ⟨W, f, l, sn⟩, ⟨nx, od⟩⟩)) (OwnK 37 9 (.slice A (TurnM.says ⟨1, sz, true, ⟨W, f, l, sn⟩, ⟨nx, od⟩⟩).length c) (TurnM.says ⟨1, sz, true, ⟨W, f, l, sn⟩, ⟨nx, od⟩⟩).length (plcs (TurnM.says ⟨1, sz, true, ⟨W, f, l, sn⟩, ⟨nx, od⟩⟩)))) w' := by
  have HOK2 := Lib.hid hok.go
  have hs : Done w F (Star (CellW g #[.int .i64 1, .int .i64 sz, .bool true, .pointer (some ⟨go, 0, none⟩), .int .i64 (nx : Int), .bool od] 58) (ROut go ⟨W, f, l, sn⟩)) w := Done.start h
  have hg := (Done.at_ (C := fun X => Star (X) (ROut go ⟨W, f, l, sn⟩)) (Fr.l Fr.id_ (ROut.stab _ _)) hs)
  have q2 : w.cell? ⟨g, 2, none⟩ = some (.bool true) := cell_at hg 2 _ rfl
  have q3 : w.cell? ⟨g, 3, none⟩ = some (.pointer (some ⟨go, 0, none⟩)) := cell_at hg 3 _ rfl
  obtain ⟨K, hK⟩ : ∃ K, OutM.k ⟨W, f, l, sn⟩ = K := ⟨_, rfl⟩
  have hk7 := OutM.k_le hok.out
  rw [hK] at hk7
  have e2 : ints (OutM.ns ⟨W, f, l, sn⟩) = nsU f K := by rw [← hK]; rfl
  have e3 : strg (OutM.bs ⟨W, f, l, sn⟩) = bsU l K := by rw [← hK]; rfl
  have HB := Lib.hid (rburst_at (C := fun X => Star (CellW g #[.int .i64 1, .int .i64 sz, .bool true, .pointer (some ⟨go, 0, none⟩), .int .i64 (nx : Int), .bool od] 58) X) (Fr.r (CellW.stab _ _ _) Fr.id_) hs hK e2 e3)
  have HK7 := Lib.hid hk7
  have HKe := Lib.hid hK
  clear hok h hs hg e2 e3 hK hk7
  go_enter Tryz.func35, Tryz.ntmps35
  go_wp2_with (go_at_call 62; ((with_reducible refine (HB.out).mono ?_); rintro e w1 ⟨A1, c1, A2, c2, rfl, hb, hs⟩; have HBB := Lib.hid hb; have HS1 := Lib.hid hs; clear hs hb))
  have HS4 := Lib.hid ((Done.unassoc_at (C := fun X => Star X (OwnK 9 1 (.slice A2 K c2) K (bsU l K))) (Fr.l Fr.id_ (OwnK.stab _ _ _ _ _)) (Done.unassoc_at (C := fun X => X) Fr.id_ HS1.out)).add ((((CellW.stab _ _ _).star (ROut.stab _ _)).star (OwnK.stab _ _ _ _ _)).star (OwnK.stab _ _ _ _ _)) (OwnK.nilD 37 9 w1))
  clear HS1 HB
  go_loopw [3, 6] (fun lv iv wr => ∃ (i : Nat) (A3 : Option Addr) (c3 : Nat), i ≤ K ∧ lv = .slice A3 i c3 ∧ iv = .int .i64 (i : Int) ∧ (i ≤ c3 ∧ c3 ≤ maxLen) ∧ Done w F (Star (Star (Star (Star (CellW g #[.int .i64 1, .int .i64 sz, .bool true, .pointer (some ⟨go, 0, none⟩), .int .i64 (nx : Int), .bool od] 58) (ROut go (OutM.burst ⟨W, f, l, sn⟩))) (OwnK 3 1 (.slice A1 K c1) K (nsU f K))) (OwnK 9 1 (.slice A2 K c2) K (bsU l K))) (OwnK 37 9 (.slice A3 i c3) i (plU true nx f l i))) wr) (fun _ iv _ => (9 - intOf iv).toNat)
  case atStart => exact ⟨0, none, 0, by omega, rfl, rfl, by simp [maxLen], HS4.out⟩
  case round =>
    clear HS4
    obtain ⟨i, A3, c3, hiK, rfl, rfl, hcc, hs⟩ := hrel
    have HSs := Lib.hid hs
    have HCC := Lib.hid hcc
    clear hs hcc
    by_cases hik : i < K
    · have t1 : decide ((i : Int) < (K : Int)) = true := decide_eq_true (by omega)
      have hfa := ((Done.get (C := fun X => Star (Star (Star (Star (CellW g #[.int .i64 1, .int .i64 sz, .bool true, .pointer (some ⟨go, 0, none⟩), .int .i64 (nx : Int), .bool od] 58) (ROut go (OutM.burst ⟨W, f, l, sn⟩))) X) (OwnK 9 1 (.slice A2 K c2) K (bsU l K))) (OwnK 37 9 (.slice A3 i c3) i (plU true nx f l i))) (Fr.l (Fr.l (Fr.r ((CellW.stab _ _ _).star (ROut.stab _ _)) Fr.id_) (OwnK.stab _ _ _ _ _)) (OwnK.stab _ _ _ _ _)) HSs.out).elim fun _ h => own_form h.2)
      have hfb := ((Done.get (C := fun X => Star (Star (Star (Star (CellW g #[.int .i64 1, .int .i64 sz, .bool true, .pointer (some ⟨go, 0, none⟩), .int .i64 (nx : Int), .bool od] 58) (ROut go (OutM.burst ⟨W, f, l, sn⟩))) (OwnK 3 1 (.slice A1 K c1) K (nsU f K))) X) (OwnK 37 9 (.slice A3 i c3) i (plU true nx f l i))) (Fr.l (Fr.r (((CellW.stab _ _ _).star (ROut.stab _ _)).star (OwnK.stab _ _ _ _ _)) Fr.id_) (OwnK.stab _ _ _ _ _)) HSs.out).elim fun _ h => own_form h.2)
      obtain ⟨ba, rfl⟩ : ∃ b, A1 = some ⟨b, 0, none⟩ := by
        rcases hfa with ⟨h0, _⟩ | h0
        · omega
        · exact h0
      obtain ⟨bb, rfl⟩ : ∃ b, A2 = some ⟨b, 0, none⟩ := by
        rcases hfb with ⟨h0, _⟩ | h0
        · omega
        · exact h0
      have HNI : Hid ((nsU f K)[i]? = some (.int .i64 (((f + i) % 8 : Nat) : Int))) := by show _ = _; unfold nsU ints; simp [hik]
      have HSI : Hid ((bsU l K)[i]? = some (.string (l.getD i ⟨#[]⟩))) := by show _ = _; unfold bsU strg; have := HK7.out.2; simp [hik, show i < l.length by omega]
      have HI6 : Hid (i + 1 ≤ 1000000) := by show _ ≤ _; have := HK7.out; omega
      have e5 : IntKind.i64.wrap ((i : Int) + 1) = (i : Int) + 1 := IntWalk.i64_in _ (by have := HK7.out; omega)
      have ti : (i : Int) < (K : Int) := by omega
      have tc1 : (K : Int) ≤ (c1 : Int) := by have := HBB.out.1; omega
      have tc2 : (K : Int) ≤ (c2 : Int) := by have := HBB.out.2; omega
      have HSd := Lib.hid (HSs.out.drewD (((((CellW.stab _ _ _).star (ROut.stab _ _)).star (OwnK.stab _ _ _ _ _)).star (OwnK.stab _ _ _ _ _)).star (OwnK.stab _ _ _ _ _)))
      have HEd : Hid ((fun W => (W.cell? ⟨g, 0, none⟩ = some (.int .i64 1) ∧ W.cell? ⟨g, 4, none⟩ = some (.int .i64 (nx : Int))) ∧ W.cell? ⟨ba, i, none⟩ = some (.int .i64 (((f + i) % 8 : Nat) : Int)) ∧ W.cell? ⟨bb, i, none⟩ = some (.string (l.getD i ⟨#[]⟩))) wr.drew) := ⟨⟨cell_at (Done.at_ (C := fun X => Star (Star (Star (Star (X) (ROut go (OutM.burst ⟨W, f, l, sn⟩))) (OwnK 3 1 (.slice (some ⟨ba, 0, none⟩) K c1) K (nsU f K))) (OwnK 9 1 (.slice (some ⟨bb, 0, none⟩) K c2) K (bsU l K))) (OwnK 37 9 (.slice A3 i c3) i (plU true nx f l i))) (Fr.l (Fr.l (Fr.l (Fr.l Fr.id_ (ROut.stab _ _)) (OwnK.stab _ _ _ _ _)) (OwnK.stab _ _ _ _ _)) (OwnK.stab _ _ _ _ _)) HSd.out) 0 _ rfl, cell_at (Done.at_ (C := fun X => Star (Star (Star (Star (X) (ROut go (OutM.burst ⟨W, f, l, sn⟩))) (OwnK 3 1 (.slice (some ⟨ba, 0, none⟩) K c1) K (nsU f K))) (OwnK 9 1 (.slice (some ⟨bb, 0, none⟩) K c2) K (bsU l K))) (OwnK 37 9 (.slice A3 i c3) i (plU true nx f l i))) (Fr.l (Fr.l (Fr.l (Fr.l Fr.id_ (ROut.stab _ _)) (OwnK.stab _ _ _ _ _)) (OwnK.stab _ _ _ _ _)) (OwnK.stab _ _ _ _ _)) HSd.out) 4 _ rfl⟩, ((Done.get (C := fun X => Star (Star (Star (Star (CellW g #[.int .i64 1, .int .i64 sz, .bool true, .pointer (some ⟨go, 0, none⟩), .int .i64 (nx : Int), .bool od] 58) (ROut go (OutM.burst ⟨W, f, l, sn⟩))) X) (OwnK 9 1 (.slice (some ⟨bb, 0, none⟩) K c2) K (bsU l K))) (OwnK 37 9 (.slice A3 i c3) i (plU true nx f l i))) (Fr.l (Fr.l (Fr.r ((CellW.stab _ _ _).star (ROut.stab _ _)) Fr.id_) (OwnK.stab _ _ _ _ _)) (OwnK.stab _ _ _ _ _)) HSd.out).elim fun _ h => h.cell HNI.out), ((Done.get (C := fun X => Star (Star (Star (Star (CellW g #[.int .i64 1, .int .i64 sz, .bool true, .pointer (some ⟨go, 0, none⟩), .int .i64 (nx : Int), .bool od] 58) (ROut go (OutM.burst ⟨W, f, l, sn⟩))) (OwnK 3 1 (.slice (some ⟨ba, 0, none⟩) K c1) K (nsU f K))) X) (OwnK 37 9 (.slice A3 i c3) i (plU true nx f l i))) (Fr.l (Fr.r (((CellW.stab _ _ _).star (ROut.stab _ _)).star (OwnK.stab _ _ _ _ _)) Fr.id_) (OwnK.stab _ _ _ _ _)) HSd.out).elim fun _ h => h.cell HSI.out)⟩
      clear hfa hfb
      go_wp2
      refine rests_begin (fun W => (W.cell? ⟨g, 0, none⟩ = some (.int .i64 1) ∧ W.cell? ⟨g, 4, none⟩ = some (.int .i64 (nx : Int))) ∧ W.cell? ⟨ba, i, none⟩ = some (.int .i64 (((f + i) % 8 : Nat) : Int)) ∧ W.cell? ⟨bb, i, none⟩ = some (.string (l.getD i ⟨#[]⟩))) (by kernel_rfl) ?_
      refine rests_take 0 (oi := _) (v := ?_) (by simp only [List.getElem?_toArray, List.getElem?_cons_zero]; rfl) (by kernel_rfl) (by kernel_rfl) (by kernel_rfl) (by exact fun _ _ _ h => h) (HEd.out) (by rfl) ?_ ?_; rotate_left; (· intro W HW; go_simp; try with_reducible rfl)
      simp only [Act.put, List.setIfInBounds_toArray, List.set_cons_zero, List.set_cons_succ]
      refine rests_take 1 (oi := _) (v := ?_) (by simp only [List.getElem?_toArray, List.getElem?_cons_succ, List.getElem?_cons_zero]; rfl) (by kernel_rfl) (by kernel_rfl) (by kernel_rfl) (by exact fun _ _ _ h => h) (HEd.out) (by rfl) ?_ ?_; rotate_left; (· intro W HW; go_simp; try with_reducible rfl)
      simp only [Act.put, List.setIfInBounds_toArray, List.set_cons_zero, List.set_cons_succ]
      refine rests_take 2 (oi := _) (v := ?_) (by simp only [List.getElem?_toArray, List.getElem?_cons_succ, List.getElem?_cons_zero]; rfl) (by kernel_rfl) (by kernel_rfl) (by kernel_rfl) (by exact fun _ _ _ h => h) (HEd.out) (by rfl) ?_ ?_; rotate_left; (· intro W HW; go_simp; try with_reducible rfl)
      simp only [Act.put, List.setIfInBounds_toArray, List.set_cons_zero, List.set_cons_succ]
      refine rests_take 3 (oi := _) (v := ?_) (by simp only [List.getElem?_toArray, List.getElem?_cons_succ, List.getElem?_cons_zero]; rfl) (by kernel_rfl) (by kernel_rfl) (by kernel_rfl) (by exact fun _ _ _ h => h) (HEd.out) (by rfl) ?_ ?_; rotate_left; (· intro W HW; go_simp; try with_reducible rfl)
      simp only [Act.put, List.setIfInBounds_toArray, List.set_cons_zero, List.set_cons_succ]
      refine rests_take 4 (oi := _) (v := ?_) (by simp only [List.getElem?_toArray, List.getElem?_cons_succ, List.getElem?_cons_zero]; rfl) (by kernel_rfl) (by kernel_rfl) (by kernel_rfl) (by exact fun _ _ _ h => h) (HEd.out) (by rfl) ?_ ?_; rotate_left; (· intro W HW; obtain ⟨⟨z0, z4⟩, zn, zb⟩ := HW; go_simp; try with_reducible rfl)
      simp only [Act.put, List.setIfInBounds_toArray, List.set_cons_zero, List.set_cons_succ]
      refine rests_take 5 (oi := _) (v := ?_) (by simp only [List.getElem?_toArray, List.getElem?_cons_succ, List.getElem?_cons_zero]; rfl) (by kernel_rfl) (by kernel_rfl) (by kernel_rfl) (by exact fun _ _ _ h => h) (HEd.out) (by rfl) ?_ ?_; rotate_left; (· intro W HW; go_simp; try with_reducible rfl)
      simp only [Act.put, List.setIfInBounds_toArray, List.set_cons_zero, List.set_cons_succ]
      refine rests_take 6 (oi := _) (v := ?_) (by simp only [List.getElem?_toArray, List.getElem?_cons_succ, List.getElem?_cons_zero]; rfl) (by kernel_rfl) (by kernel_rfl) (by kernel_rfl) (by exact fun _ _ _ h => h) (HEd.out) (by rfl) ?_ ?_; rotate_left; (· intro W HW; go_simp; try with_reducible rfl)
      simp only [Act.put, List.setIfInBounds_toArray, List.set_cons_zero, List.set_cons_succ]
      refine rests_take 7 (oi := _) (v := ?_) (by simp only [List.getElem?_toArray, List.getElem?_cons_succ, List.getElem?_cons_zero]; rfl) (by kernel_rfl) (by kernel_rfl) (by kernel_rfl) (by exact fun _ _ _ h => h) (HEd.out) (by rfl) ?_ ?_; rotate_left; (· intro W HW; go_simp; try with_reducible rfl)
      simp only [Act.put, List.setIfInBounds_toArray, List.set_cons_zero, List.set_cons_succ]
      refine rests_take 8 (oi := _) (v := ?_) (by simp only [List.getElem?_toArray, List.getElem?_cons_succ, List.getElem?_cons_zero]; rfl) (by kernel_rfl) (by kernel_rfl) (by kernel_rfl) (by exact fun _ _ _ h => h) (HEd.out) (by rfl) ?_ ?_; rotate_left; (· intro W HW; go_simp; try with_reducible rfl)
      simp only [Act.put, List.setIfInBounds_toArray, List.set_cons_zero, List.set_cons_succ]
      refine rests_take 9 (oi := _) (v := ?_) (by simp only [List.getElem?_toArray, List.getElem?_cons_succ, List.getElem?_cons_zero]; rfl) (by kernel_rfl) (by kernel_rfl) (by kernel_rfl) (by exact fun _ _ _ h => h) (HEd.out) (by rfl) ?_ ?_; rotate_left; (· intro W HW; go_simp; try with_reducible rfl)
      simp only [Act.put, List.setIfInBounds_toArray, List.set_cons_zero, List.set_cons_succ]
      refine rests_take 10 (oi := _) (v := ?_) (by simp only [List.getElem?_toArray, List.getElem?_cons_succ, List.getElem?_cons_zero]; rfl) (by kernel_rfl) (by kernel_rfl) (by kernel_rfl) (by exact fun _ _ _ h => h) (HEd.out) (by rfl) ?_ ?_; rotate_left; (· intro W HW; obtain ⟨⟨z0, z4⟩, zn, zb⟩ := HW; go_simp; try with_reducible rfl)
      simp only [Act.put, List.setIfInBounds_toArray, List.set_cons_zero, List.set_cons_succ]
      refine rests_take 11 (oi := _) (v := ?_) (by simp only [List.getElem?_toArray, List.getElem?_cons_succ, List.getElem?_cons_zero]; rfl) (by kernel_rfl) (by kernel_rfl) (by kernel_rfl) (by exact fun _ _ _ h => h) (HEd.out) (by rfl) ?_ ?_; rotate_left; (· intro W HW; go_simp; try with_reducible rfl)
      simp only [Act.put, List.setIfInBounds_toArray, List.set_cons_zero, List.set_cons_succ]
      refine rests_take 12 (oi := _) (v := ?_) (by simp only [List.getElem?_toArray, List.getElem?_cons_succ, List.getElem?_cons_zero]; rfl) (by kernel_rfl) (by kernel_rfl) (by kernel_rfl) (by exact fun _ _ _ h => h) (HEd.out) (by rfl) ?_ ?_; rotate_left; (· intro W HW; go_simp; try with_reducible rfl)
      simp only [Act.put, List.setIfInBounds_toArray, List.set_cons_zero, List.set_cons_succ]
      refine rests_take 13 (oi := _) (v := ?_) (by simp only [List.getElem?_toArray, List.getElem?_cons_succ, List.getElem?_cons_zero]; rfl) (by kernel_rfl) (by kernel_rfl) (by kernel_rfl) (by exact fun _ _ _ h => h) (HEd.out) (by rfl) ?_ ?_; rotate_left; (· intro W HW; go_simp; try with_reducible rfl)
      simp only [Act.put, List.setIfInBounds_toArray, List.set_cons_zero, List.set_cons_succ]
      refine rests_take 14 (oi := _) (v := ?_) (by simp only [List.getElem?_toArray, List.getElem?_cons_succ, List.getElem?_cons_zero]; rfl) (by kernel_rfl) (by kernel_rfl) (by kernel_rfl) (by exact fun _ _ _ h => h) (HEd.out) (by rfl) ?_ ?_; rotate_left; (· intro W HW; obtain ⟨⟨z0, z4⟩, zn, zb⟩ := HW; go_simp; try with_reducible rfl)
      simp only [Act.put, List.setIfInBounds_toArray, List.set_cons_zero, List.set_cons_succ]
      refine rests_take 15 (oi := _) (v := ?_) (by simp only [List.getElem?_toArray, List.getElem?_cons_succ, List.getElem?_cons_zero]; rfl) (by kernel_rfl) (by kernel_rfl) (by kernel_rfl) (by exact fun _ _ _ h => h) (HEd.out) (by rfl) ?_ ?_; rotate_left; (· intro W HW; go_simp; try with_reducible rfl)
      simp only [Act.put, List.setIfInBounds_toArray, List.set_cons_zero, List.set_cons_succ]
      refine rests_take 16 (oi := _) (v := ?_) (by simp only [List.getElem?_toArray, List.getElem?_cons_succ, List.getElem?_cons_zero]; rfl) (by kernel_rfl) (by kernel_rfl) (by kernel_rfl) (by exact fun _ _ _ h => h) (HEd.out) (by rfl) ?_ ?_; rotate_left; (· intro W HW; go_simp; try with_reducible rfl)
      simp only [Act.put, List.setIfInBounds_toArray, List.set_cons_zero, List.set_cons_succ]
      refine rests_take 17 (oi := _) (v := ?_) (by simp only [List.getElem?_toArray, List.getElem?_cons_succ, List.getElem?_cons_zero]; rfl) (by kernel_rfl) (by kernel_rfl) (by kernel_rfl) (by exact fun _ _ _ h => h) (HEd.out) (by rfl) ?_ ?_; rotate_left; (· intro W HW; go_simp; try with_reducible rfl)
      simp only [Act.put, List.setIfInBounds_toArray, List.set_cons_zero, List.set_cons_succ]
      refine rests_take 18 (oi := _) (v := ?_) (by simp only [List.getElem?_toArray, List.getElem?_cons_succ, List.getElem?_cons_zero]; rfl) (by kernel_rfl) (by kernel_rfl) (by kernel_rfl) (by exact fun _ _ _ h => h) (HEd.out) (by rfl) ?_ ?_; rotate_left; (· intro W HW; obtain ⟨⟨z0, z4⟩, zn, zb⟩ := HW; go_simp; try with_reducible rfl)
      simp only [Act.put, List.setIfInBounds_toArray, List.set_cons_zero, List.set_cons_succ]
      refine rests_take 19 (oi := _) (v := ?_) (by simp only [List.getElem?_toArray, List.getElem?_cons_succ, List.getElem?_cons_zero]; rfl) (by kernel_rfl) (by kernel_rfl) (by kernel_rfl) (by exact fun _ _ _ h => h) (HEd.out) (by rfl) ?_ ?_; rotate_left; (· intro W HW; go_simp; try with_reducible rfl)
      simp only [Act.put, List.setIfInBounds_toArray, List.set_cons_zero, List.set_cons_succ]
      obtain ⟨g5, hg5⟩ : ∃ g, g = (wr.drew).heap.size := ⟨_, rfl⟩
      have hal5 := CellW.new (wr.drew) #[.int .i64 0, .int .i64 0, .bool true, .int .i64 1, .int .i64 0, .int .i64 (nx : Int), .int .i64 (((f + i) % 8 : Nat) : Int), .bool false, .string (l.getD i ⟨#[]⟩)] 37
      rw [← hg5] at hal5
      obtain ⟨w5, hw5⟩ : ∃ wz, wz = (wr.drew).alloc (.cells #[.int .i64 0, .int .i64 0, .bool true, .int .i64 1, .int .i64 0, .int .i64 (nx : Int), .int .i64 (((f + i) % 8 : Nat) : Int), .bool false, .string (l.getD i ⟨#[]⟩)] 37) := ⟨_, rfl⟩
      rw [← hw5] at hal5
      have HS5 := Lib.hid (HSd.out.add (((((CellW.stab _ _ _).star (ROut.stab _ _)).star (OwnK.stab _ _ _ _ _)).star (OwnK.stab _ _ _ _ _)).star (OwnK.stab _ _ _ _ _)) hal5)
      have HE5 : Hid ((fun W => (W.cell? ⟨g, 0, none⟩ = some (.int .i64 1) ∧ W.cell? ⟨g, 4, none⟩ = some (.int .i64 (nx : Int))) ∧ W.cell? ⟨ba, i, none⟩ = some (.int .i64 (((f + i) % 8 : Nat) : Int)) ∧ W.cell? ⟨bb, i, none⟩ = some (.string (l.getD i ⟨#[]⟩))) w5) := ⟨⟨cell_at (Done.at_ (C := fun X => Star (Star (Star (Star (Star (X) (ROut go (OutM.burst ⟨W, f, l, sn⟩))) (OwnK 3 1 (.slice (some ⟨ba, 0, none⟩) K c1) K (nsU f K))) (OwnK 9 1 (.slice (some ⟨bb, 0, none⟩) K c2) K (bsU l K))) (OwnK 37 9 (.slice A3 i c3) i (plU true nx f l i))) (CellW g5 #[.int .i64 0, .int .i64 0, .bool true, .int .i64 1, .int .i64 0, .int .i64 (nx : Int), .int .i64 (((f + i) % 8 : Nat) : Int), .bool false, .string (l.getD i ⟨#[]⟩)] 37)) (Fr.l (Fr.l (Fr.l (Fr.l (Fr.l Fr.id_ (ROut.stab _ _)) (OwnK.stab _ _ _ _ _)) (OwnK.stab _ _ _ _ _)) (OwnK.stab _ _ _ _ _)) (CellW.stab _ _ _)) HS5.out) 0 _ rfl, cell_at (Done.at_ (C := fun X => Star (Star (Star (Star (Star (X) (ROut go (OutM.burst ⟨W, f, l, sn⟩))) (OwnK 3 1 (.slice (some ⟨ba, 0, none⟩) K c1) K (nsU f K))) (OwnK 9 1 (.slice (some ⟨bb, 0, none⟩) K c2) K (bsU l K))) (OwnK 37 9 (.slice A3 i c3) i (plU true nx f l i))) (CellW g5 #[.int .i64 0, .int .i64 0, .bool true, .int .i64 1, .int .i64 0, .int .i64 (nx : Int), .int .i64 (((f + i) % 8 : Nat) : Int), .bool false, .string (l.getD i ⟨#[]⟩)] 37)) (Fr.l (Fr.l (Fr.l (Fr.l (Fr.l Fr.id_ (ROut.stab _ _)) (OwnK.stab _ _ _ _ _)) (OwnK.stab _ _ _ _ _)) (OwnK.stab _ _ _ _ _)) (CellW.stab _ _ _)) HS5.out) 4 _ rfl⟩, ((Done.get (C := fun X => Star (Star (Star (Star (Star (CellW g #[.int .i64 1, .int .i64 sz, .bool true, .pointer (some ⟨go, 0, none⟩), .int .i64 (nx : Int), .bool od] 58) (ROut go (OutM.burst ⟨W, f, l, sn⟩))) X) (OwnK 9 1 (.slice (some ⟨bb, 0, none⟩) K c2) K (bsU l K))) (OwnK 37 9 (.slice A3 i c3) i (plU true nx f l i))) (CellW g5 #[.int .i64 0, .int .i64 0, .bool true, .int .i64 1, .int .i64 0, .int .i64 (nx : Int), .int .i64 (((f + i) % 8 : Nat) : Int), .bool false, .string (l.getD i ⟨#[]⟩)] 37)) (Fr.l (Fr.l (Fr.l (Fr.r ((CellW.stab _ _ _).star (ROut.stab _ _)) Fr.id_) (OwnK.stab _ _ _ _ _)) (OwnK.stab _ _ _ _ _)) (CellW.stab _ _ _)) HS5.out).elim fun _ h => h.cell HNI.out), ((Done.get (C := fun X => Star (Star (Star (Star (Star (CellW g #[.int .i64 1, .int .i64 sz, .bool true, .pointer (some ⟨go, 0, none⟩), .int .i64 (nx : Int), .bool od] 58) (ROut go (OutM.burst ⟨W, f, l, sn⟩))) (OwnK 3 1 (.slice (some ⟨ba, 0, none⟩) K c1) K (nsU f K))) X) (OwnK 37 9 (.slice A3 i c3) i (plU true nx f l i))) (CellW g5 #[.int .i64 0, .int .i64 0, .bool true, .int .i64 1, .int .i64 0, .int .i64 (nx : Int), .int .i64 (((f + i) % 8 : Nat) : Int), .bool false, .string (l.getD i ⟨#[]⟩)] 37)) (Fr.l (Fr.l (Fr.r (((CellW.stab _ _ _).star (ROut.stab _ _)).star (OwnK.stab _ _ _ _ _)) Fr.id_) (OwnK.stab _ _ _ _ _)) (CellW.stab _ _ _)) HS5.out).elim fun _ h => h.cell HSI.out)⟩
      refine rests_run 20 (oi := _) (by simp only [List.getElem?_toArray, List.getElem?_cons_succ, List.getElem?_cons_zero]; rfl) (by kernel_rfl) (by rfl) (.slice (some ⟨g5, 0, none⟩) 1 1) w5 (by rw [hg5, hw5]; go_simp) ⟨HE5.out, ?_⟩
      clear hg5 hal5 hw5
      simp only [Act.put, List.setIfInBounds_toArray, List.set_cons_zero, List.set_cons_succ]
      refine rests_appD 21 (oi := _) (by simp only [List.getElem?_toArray, List.getElem?_cons_succ, List.getElem?_cons_zero]; rfl) (by kernel_rfl) (by rfl) (C := fun X => Star (Star (Star (Star (Star (CellW g #[.int .i64 1, .int .i64 sz, .bool true, .pointer (some ⟨go, 0, none⟩), .int .i64 (nx : Int), .bool od] 58) (ROut go (OutM.burst ⟨W, f, l, sn⟩))) (OwnK 3 1 (.slice (some ⟨ba, 0, none⟩) K c1) K (nsU f K))) (OwnK 9 1 (.slice (some ⟨bb, 0, none⟩) K c2) K (bsU l K))) X) (CellW g5 #[.int .i64 0, .int .i64 0, .bool true, .int .i64 1, .int .i64 0, .int .i64 (nx : Int), .int .i64 (((f + i) % 8 : Nat) : Int), .bool false, .string (l.getD i ⟨#[]⟩)] 37)) (Fr.l (Fr.r ((((CellW.stab _ _ _).star (ROut.stab _ _)).star (OwnK.stab _ _ _ _ _)).star (OwnK.stab _ _ _ _ _)) Fr.id_) (CellW.stab _ _ _)) HS5.out (.tmp 26) (.tmp 46) 52 80 (.agg #[.int .i64 0, .int .i64 0, .bool false, .int .i64 0, .int .i64 0, .int .i64 0, .int .i64 0, .bool false, .string ⟨#[]⟩]) rfl Tryz.underlying52 (by kernel_rfl) rfl (by decide) (.slice (some ⟨g5, 0, none⟩) 1 1) 1 (pcs (say0 true nx f l i)) rfl rfl (rdG_new (Done.at_ (C := fun X => Star (Star (Star (Star (Star (CellW g #[.int .i64 1, .int .i64 sz, .bool true, .pointer (some ⟨go, 0, none⟩), .int .i64 (nx : Int), .bool od] 58) (ROut go (OutM.burst ⟨W, f, l, sn⟩))) (OwnK 3 1 (.slice (some ⟨ba, 0, none⟩) K c1) K (nsU f K))) (OwnK 9 1 (.slice (some ⟨bb, 0, none⟩) K c2) K (bsU l K))) (OwnK 37 9 (.slice A3 i c3) i (plU true nx f l i))) X) (Fr.r (((((CellW.stab _ _ _).star (ROut.stab _ _)).star (OwnK.stab _ _ _ _ _)).star (OwnK.stab _ _ _ _ _)).star (OwnK.stab _ _ _ _ _)) Fr.id_) HS5.out) rfl) (by simp [Value.oneCell', pcs]) (i + 1) rfl HI6.out (plU true nx f l (i + 1)) (plU_succ true nx f l i) ?_
      intro A6 c6 w6 hs hc; have HS6 := Lib.hid hs; have HE6 : Hid ((fun W => (W.cell? ⟨g, 0, none⟩ = some (.int .i64 1) ∧ W.cell? ⟨g, 4, none⟩ = some (.int .i64 (nx : Int))) ∧ W.cell? ⟨ba, i, none⟩ = some (.int .i64 (((f + i) % 8 : Nat) : Int)) ∧ W.cell? ⟨bb, i, none⟩ = some (.string (l.getD i ⟨#[]⟩))) w6) := ⟨⟨cell_at (Done.at_ (C := fun X => Star (Star (Star (Star (Star (X) (ROut go (OutM.burst ⟨W, f, l, sn⟩))) (OwnK 3 1 (.slice (some ⟨ba, 0, none⟩) K c1) K (nsU f K))) (OwnK 9 1 (.slice (some ⟨bb, 0, none⟩) K c2) K (bsU l K))) (OwnK 37 9 (.slice A6 (i + 1) c6) (i + 1) (plU true nx f l (i + 1)))) (CellW g5 #[.int .i64 0, .int .i64 0, .bool true, .int .i64 1, .int .i64 0, .int .i64 (nx : Int), .int .i64 (((f + i) % 8 : Nat) : Int), .bool false, .string (l.getD i ⟨#[]⟩)] 37)) (Fr.l (Fr.l (Fr.l (Fr.l (Fr.l Fr.id_ (ROut.stab _ _)) (OwnK.stab _ _ _ _ _)) (OwnK.stab _ _ _ _ _)) (OwnK.stab _ _ _ _ _)) (CellW.stab _ _ _)) hs) 0 _ rfl, cell_at (Done.at_ (C := fun X => Star (Star (Star (Star (Star (X) (ROut go (OutM.burst ⟨W, f, l, sn⟩))) (OwnK 3 1 (.slice (some ⟨ba, 0, none⟩) K c1) K (nsU f K))) (OwnK 9 1 (.slice (some ⟨bb, 0, none⟩) K c2) K (bsU l K))) (OwnK 37 9 (.slice A6 (i + 1) c6) (i + 1) (plU true nx f l (i + 1)))) (CellW g5 #[.int .i64 0, .int .i64 0, .bool true, .int .i64 1, .int .i64 0, .int .i64 (nx : Int), .int .i64 (((f + i) % 8 : Nat) : Int), .bool false, .string (l.getD i ⟨#[]⟩)] 37)) (Fr.l (Fr.l (Fr.l (Fr.l (Fr.l Fr.id_ (ROut.stab _ _)) (OwnK.stab _ _ _ _ _)) (OwnK.stab _ _ _ _ _)) (OwnK.stab _ _ _ _ _)) (CellW.stab _ _ _)) hs) 4 _ rfl⟩, ((Done.get (C := fun X => Star (Star (Star (Star (Star (CellW g #[.int .i64 1, .int .i64 sz, .bool true, .pointer (some ⟨go, 0, none⟩), .int .i64 (nx : Int), .bool od] 58) (ROut go (OutM.burst ⟨W, f, l, sn⟩))) X) (OwnK 9 1 (.slice (some ⟨bb, 0, none⟩) K c2) K (bsU l K))) (OwnK 37 9 (.slice A6 (i + 1) c6) (i + 1) (plU true nx f l (i + 1)))) (CellW g5 #[.int .i64 0, .int .i64 0, .bool true, .int .i64 1, .int .i64 0, .int .i64 (nx : Int), .int .i64 (((f + i) % 8 : Nat) : Int), .bool false, .string (l.getD i ⟨#[]⟩)] 37)) (Fr.l (Fr.l (Fr.l (Fr.r ((CellW.stab _ _ _).star (ROut.stab _ _)) Fr.id_) (OwnK.stab _ _ _ _ _)) (OwnK.stab _ _ _ _ _)) (CellW.stab _ _ _)) hs).elim fun _ h => h.cell HNI.out), ((Done.get (C := fun X => Star (Star (Star (Star (Star (CellW g #[.int .i64 1, .int .i64 sz, .bool true, .pointer (some ⟨go, 0, none⟩), .int .i64 (nx : Int), .bool od] 58) (ROut go (OutM.burst ⟨W, f, l, sn⟩))) (OwnK 3 1 (.slice (some ⟨ba, 0, none⟩) K c1) K (nsU f K))) X) (OwnK 37 9 (.slice A6 (i + 1) c6) (i + 1) (plU true nx f l (i + 1)))) (CellW g5 #[.int .i64 0, .int .i64 0, .bool true, .int .i64 1, .int .i64 0, .int .i64 (nx : Int), .int .i64 (((f + i) % 8 : Nat) : Int), .bool false, .string (l.getD i ⟨#[]⟩)] 37)) (Fr.l (Fr.l (Fr.r (((CellW.stab _ _ _).star (ROut.stab _ _)).star (OwnK.stab _ _ _ _ _)) Fr.id_) (OwnK.stab _ _ _ _ _)) (CellW.stab _ _ _)) hs).elim fun _ h => h.cell HSI.out)⟩; have HC6 := Lib.hid hc; refine ⟨HE6.out, ?_⟩; clear hs hc
      simp only [Act.put, List.setIfInBounds_toArray, List.set_cons_zero, List.set_cons_succ]
      refine rests_take 22 (oi := _) (v := ?_) (by simp only [List.getElem?_toArray, List.getElem?_cons_succ, List.getElem?_cons_zero]; rfl) (by kernel_rfl) (by kernel_rfl) (by kernel_rfl) (by exact fun _ _ _ h => h) (HE6.out) (by rfl) ?_ ?_; rotate_left; (· intro W HW; go_simp; try with_reducible rfl)
      simp only [Act.put, List.setIfInBounds_toArray, List.set_cons_zero, List.set_cons_succ]
      refine rests_done (by kernel_rfl) ?_
      have HSn := Lib.hid HS6.out.drop
      have HCn := Lib.hid HC6.out
      go_wp2
      go_roundw
      case rel => exact ⟨i + 1, A6, c6, by omega, rfl, by go_num, HCn.out, HSn.out⟩
      case measure => have := HK7.out; simp [intOf] <;> omega
    · have e0 : i = K := by omega
      rw [e0] at HSs HCC ⊢
      clear e0 hik hiK
      have t1 : decide ((K : Int) < (K : Int)) = false := decide_eq_false (by omega)
      by_cases hK0 : K = 0
      · subst hK0
        have hsy := says_nil0 (sz := sz) (nx := nx) (od := od) (show true = decide ((1 : Int) = 1) by decide) HKe.out
        have HSY := Lib.hid hsy
        have HSd := Lib.hid (HSs.out.drewD (((((CellW.stab _ _ _).star (ROut.stab _ _)).star (OwnK.stab _ _ _ _ _)).star (OwnK.stab _ _ _ _ _)).star (OwnK.stab _ _ _ _ _)))
        have HEd : Hid ((fun W => W.heap[g]? = some (.cells #[.int .i64 1, .int .i64 sz, .bool true, .pointer (some ⟨go, 0, none⟩), .int .i64 (nx : Int), .bool od] 58 (0, 0))) wr.drew) := (Done.at_ (C := fun X => Star (Star (Star (Star (X) (ROut go (OutM.burst ⟨W, f, l, sn⟩))) (OwnK 3 1 (.slice A1 0 c1) 0 (nsU f 0))) (OwnK 9 1 (.slice A2 0 c2) 0 (bsU l 0))) (OwnK 37 9 (.slice A3 0 c3) 0 (plU true nx f l 0))) (Fr.l (Fr.l (Fr.l (Fr.l Fr.id_ (ROut.stab _ _)) (OwnK.stab _ _ _ _ _)) (OwnK.stab _ _ _ _ _)) (OwnK.stab _ _ _ _ _)) HSd.out)
        clear hsy HSs
        go_wp2
        refine rests_begin (fun W => W.heap[g]? = some (.cells #[.int .i64 1, .int .i64 sz, .bool true, .pointer (some ⟨go, 0, none⟩), .int .i64 (nx : Int), .bool od] 58 (0, 0))) (by kernel_rfl) ?_
        refine rests_take 0 (oi := _) (v := ?_) (by simp only [List.getElem?_toArray, List.getElem?_cons_zero]; rfl) (by kernel_rfl) (by kernel_rfl) (by kernel_rfl) (by exact fun _ _ _ h => h) (HEd.out) (by rfl) ?_ ?_; rotate_left; (· intro W HW; go_simp; try with_reducible rfl)
        simp only [Act.put, List.setIfInBounds_toArray, List.set_cons_zero, List.set_cons_succ]
        refine rests_take 1 (oi := _) (v := ?_) (by simp only [List.getElem?_toArray, List.getElem?_cons_succ, List.getElem?_cons_zero]; rfl) (by kernel_rfl) (by kernel_rfl) (by kernel_rfl) (by exact fun _ _ _ h => h) (HEd.out) (by rfl) ?_ ?_; rotate_left; (· intro W HW; go_simp; try with_reducible rfl)
        simp only [Act.put, List.setIfInBounds_toArray, List.set_cons_zero, List.set_cons_succ]
        refine rests_take 2 (oi := _) (v := ?_) (by simp only [List.getElem?_toArray, List.getElem?_cons_succ, List.getElem?_cons_zero]; rfl) (by kernel_rfl) (by kernel_rfl) (by kernel_rfl) (by exact fun _ _ _ h => h) (HEd.out) (by rfl) ?_ ?_; rotate_left; (· intro W HW; go_simp; try with_reducible rfl)
        simp only [Act.put, List.setIfInBounds_toArray, List.set_cons_zero, List.set_cons_succ]
        refine rests_take 3 (oi := _) (v := ?_) (by simp only [List.getElem?_toArray, List.getElem?_cons_succ, List.getElem?_cons_zero]; rfl) (by kernel_rfl) (by kernel_rfl) (by kernel_rfl) (by exact fun _ _ _ h => h) (HEd.out) (by rfl) ?_ ?_; rotate_left; (· intro W HW; have z0 : W.cell? ⟨g, 0, none⟩ = some (.int .i64 1) := cell_at HW 0 _ rfl; go_simp; try with_reducible rfl)
        simp only [Act.put, List.setIfInBounds_toArray, List.set_cons_zero, List.set_cons_succ]
        refine rests_take 4 (oi := _) (v := ?_) (by simp only [List.getElem?_toArray, List.getElem?_cons_succ, List.getElem?_cons_zero]; rfl) (by kernel_rfl) (by kernel_rfl) (by kernel_rfl) (by exact fun _ _ _ h => h) (HEd.out) (by rfl) ?_ ?_; rotate_left; (· intro W HW; go_simp; try with_reducible rfl)
        simp only [Act.put, List.setIfInBounds_toArray, List.set_cons_zero, List.set_cons_succ]
        refine rests_take 5 (oi := _) (v := ?_) (by simp only [List.getElem?_toArray, List.getElem?_cons_succ, List.getElem?_cons_zero]; rfl) (by kernel_rfl) (by kernel_rfl) (by kernel_rfl) (by exact fun _ _ _ h => h) (HEd.out) (by rfl) ?_ ?_; rotate_left; (· intro W HW; go_simp; try with_reducible rfl)
        simp only [Act.put, List.setIfInBounds_toArray, List.set_cons_zero, List.set_cons_succ]
        refine rests_take 6 (oi := _) (v := ?_) (by simp only [List.getElem?_toArray, List.getElem?_cons_succ, List.getElem?_cons_zero]; rfl) (by kernel_rfl) (by kernel_rfl) (by kernel_rfl) (by exact fun _ _ _ h => h) (HEd.out) (by rfl) ?_ ?_; rotate_left; (· intro W HW; go_simp; try with_reducible rfl)
        simp only [Act.put, List.setIfInBounds_toArray, List.set_cons_zero, List.set_cons_succ]
        refine rests_take 7 (oi := _) (v := ?_) (by simp only [List.getElem?_toArray, List.getElem?_cons_succ, List.getElem?_cons_zero]; rfl) (by kernel_rfl) (by kernel_rfl) (by kernel_rfl) (by exact fun _ _ _ h => h) (HEd.out) (by rfl) ?_ ?_; rotate_left; (· intro W HW; go_simp; try with_reducible rfl)
        simp only [Act.put, List.setIfInBounds_toArray, List.set_cons_zero, List.set_cons_succ]
        refine rests_take 8 (oi := _) (v := ?_) (by simp only [List.getElem?_toArray, List.getElem?_cons_succ, List.getElem?_cons_zero]; rfl) (by kernel_rfl) (by kernel_rfl) (by kernel_rfl) (by exact fun _ _ _ h => h) (HEd.out) (by rfl) ?_ ?_; rotate_left; (· intro W HW; go_simp; try with_reducible rfl)
        simp only [Act.put, List.setIfInBounds_toArray, List.set_cons_zero, List.set_cons_succ]
        refine rests_take 9 (oi := _) (v := ?_) (by simp only [List.getElem?_toArray, List.getElem?_cons_succ, List.getElem?_cons_zero]; rfl) (by kernel_rfl) (by kernel_rfl) (by kernel_rfl) (by exact fun _ _ _ h => h) (HEd.out) (by rfl) ?_ ?_; rotate_left; (· intro W HW; have z4 : W.cell? ⟨g, 4, none⟩ = some (.int .i64 (nx : Int)) := cell_at HW 4 _ rfl; go_simp; try with_reducible rfl)
        simp only [Act.put, List.setIfInBounds_toArray, List.set_cons_zero, List.set_cons_succ]
        refine rests_take 10 (oi := _) (v := ?_) (by simp only [List.getElem?_toArray, List.getElem?_cons_succ, List.getElem?_cons_zero]; rfl) (by kernel_rfl) (by kernel_rfl) (by kernel_rfl) (by exact fun _ _ _ h => h) (HEd.out) (by rfl) ?_ ?_; rotate_left; (· intro W HW; go_simp; try with_reducible rfl)
        simp only [Act.put, List.setIfInBounds_toArray, List.set_cons_zero, List.set_cons_succ]
        obtain ⟨g5, hg5⟩ : ∃ g, g = (wr.drew).heap.size := ⟨_, rfl⟩
        have hal5 := CellW.new (wr.drew) #[.int .i64 0, .int .i64 0, .bool true, .int .i64 2, .int .i64 0, .int .i64 (nx : Int), .int .i64 0, .bool false, .string ⟨#[]⟩] 37
        rw [← hg5] at hal5
        obtain ⟨w5, hw5⟩ : ∃ wz, wz = (wr.drew).alloc (.cells #[.int .i64 0, .int .i64 0, .bool true, .int .i64 2, .int .i64 0, .int .i64 (nx : Int), .int .i64 0, .bool false, .string ⟨#[]⟩] 37) := ⟨_, rfl⟩
        rw [← hw5] at hal5
        have HS5 := Lib.hid (HSd.out.add (((((CellW.stab _ _ _).star (ROut.stab _ _)).star (OwnK.stab _ _ _ _ _)).star (OwnK.stab _ _ _ _ _)).star (OwnK.stab _ _ _ _ _)) hal5)
        have HE5 : Hid ((fun W => W.heap[g]? = some (.cells #[.int .i64 1, .int .i64 sz, .bool true, .pointer (some ⟨go, 0, none⟩), .int .i64 (nx : Int), .bool od] 58 (0, 0))) w5) := (Done.at_ (C := fun X => Star (Star (Star (Star (Star (X) (ROut go (OutM.burst ⟨W, f, l, sn⟩))) (OwnK 3 1 (.slice A1 0 c1) 0 (nsU f 0))) (OwnK 9 1 (.slice A2 0 c2) 0 (bsU l 0))) (OwnK 37 9 (.slice A3 0 c3) 0 (plU true nx f l 0))) (CellW g5 #[.int .i64 0, .int .i64 0, .bool true, .int .i64 2, .int .i64 0, .int .i64 (nx : Int), .int .i64 0, .bool false, .string ⟨#[]⟩] 37)) (Fr.l (Fr.l (Fr.l (Fr.l (Fr.l Fr.id_ (ROut.stab _ _)) (OwnK.stab _ _ _ _ _)) (OwnK.stab _ _ _ _ _)) (OwnK.stab _ _ _ _ _)) (CellW.stab _ _ _)) HS5.out)
        refine rests_run 11 (oi := _) (by simp only [List.getElem?_toArray, List.getElem?_cons_succ, List.getElem?_cons_zero]; rfl) (by kernel_rfl) (by rfl) (.slice (some ⟨g5, 0, none⟩) 1 1) w5 (by rw [hg5, hw5]; go_simp) ⟨HE5.out, ?_⟩
        clear hg5 hal5 hw5
        simp only [Act.put, List.setIfInBounds_toArray, List.set_cons_zero, List.set_cons_succ]
        refine rests_take 12 (oi := _) (v := ?_) (by simp only [List.getElem?_toArray, List.getElem?_cons_succ, List.getElem?_cons_zero]; rfl) (by kernel_rfl) (by kernel_rfl) (by kernel_rfl) (by exact fun _ _ _ h => h) (HE5.out) (by rfl) ?_ ?_; rotate_left; (· intro W HW; go_simp; try with_reducible rfl)
        simp only [Act.put, List.setIfInBounds_toArray, List.set_cons_zero, List.set_cons_succ]
        refine rests_done (by kernel_rfl) ?_
        have q5 : w5.cell? ⟨g, 5, none⟩ = some (.bool od) := cell_at (Done.at_ (C := fun X => Star (Star (Star (Star (Star (X) (ROut go (OutM.burst ⟨W, f, l, sn⟩))) (OwnK 3 1 (.slice A1 0 c1) 0 (nsU f 0))) (OwnK 9 1 (.slice A2 0 c2) 0 (bsU l 0))) (OwnK 37 9 (.slice A3 0 c3) 0 (plU true nx f l 0))) (CellW g5 #[.int .i64 0, .int .i64 0, .bool true, .int .i64 2, .int .i64 0, .int .i64 (nx : Int), .int .i64 0, .bool false, .string ⟨#[]⟩] 37)) (Fr.l (Fr.l (Fr.l (Fr.l (Fr.l Fr.id_ (ROut.stab _ _)) (OwnK.stab _ _ _ _ _)) (OwnK.stab _ _ _ _ _)) (OwnK.stab _ _ _ _ _)) (CellW.stab _ _ _)) HS5.out) 5 _ rfl
        rcases od with _ | _
        · go_wp2_with (first
            | ((with_reducible refine wpList_storeD (C := fun X => Star (Star (Star (Star (Star (CellW g #[.int .i64 1, .int .i64 sz, .bool true, .pointer (some ⟨go, 0, none⟩), .int .i64 (nx : Int), .bool false] 58) (ROut go (OutM.burst ⟨W, f, l, sn⟩))) (OwnK 3 1 (.slice A1 0 c1) 0 (nsU f 0))) (OwnK 9 1 (.slice A2 0 c2) 0 (bsU l 0))) (OwnK 37 9 (.slice A3 0 c3) 0 (plU true nx f l 0))) X) (Fr.r (((((CellW.stab _ _ _).star (ROut.stab _ _)).star (OwnK.stab _ _ _ _ _)).star (OwnK.stab _ _ _ _ _)).star (OwnK.stab _ _ _ _ _)) Fr.id_) HS5.out rfl 4 (.tmp 76) (.const (.bool true)) rfl 7 (.bool true) rfl rfl (by simp) (run_storeBo _ _ _) ?_); intro w6 hs; have HS6 : Hid (Done w F (Star (Star (Star (Star (Star (CellW g #[.int .i64 1, .int .i64 sz, .bool true, .pointer (some ⟨go, 0, none⟩), .int .i64 (nx : Int), .bool false] 58) (ROut go (OutM.burst ⟨W, f, l, sn⟩))) (OwnK 3 1 (.slice A1 0 c1) 0 (nsU f 0))) (OwnK 9 1 (.slice A2 0 c2) 0 (bsU l 0))) (OwnK 37 9 (.slice A3 0 c3) 0 (plU true nx f l 0))) (CellW g5 #[.int .i64 0, .int .i64 0, .bool true, .int .i64 2, .int .i64 0, .int .i64 (nx : Int), .int .i64 0, .bool true, .string ⟨#[]⟩] 37)) w6) := (by show Done _ _ _ _; exact hs); clear hs)
            | ((with_reducible refine wpList_storeD (C := fun X => Star (Star (Star (Star (Star (X) (ROut go (OutM.burst ⟨W, f, l, sn⟩))) (OwnK 3 1 (.slice A1 0 c1) 0 (nsU f 0))) (OwnK 9 1 (.slice A2 0 c2) 0 (bsU l 0))) (OwnK 37 9 (.slice A3 0 c3) 0 (plU true nx f l 0))) (CellW g5 #[.int .i64 0, .int .i64 0, .bool true, .int .i64 2, .int .i64 0, .int .i64 (nx : Int), .int .i64 0, .bool true, .string ⟨#[]⟩] 37)) (Fr.l (Fr.l (Fr.l (Fr.l (Fr.l Fr.id_ (ROut.stab _ _)) (OwnK.stab _ _ _ _ _)) (OwnK.stab _ _ _ _ _)) (OwnK.stab _ _ _ _ _)) (CellW.stab _ _ _)) HS6.out rfl 4 (.tmp 79) (.const (.bool false)) rfl 2 (.bool false) rfl rfl (by simp) (run_storeBo _ _ _) ?_); intro w7 hs; have HS7 : Hid (Done w F (Star (Star (Star (Star (Star (CellW g #[.int .i64 1, .int .i64 sz, .bool false, .pointer (some ⟨go, 0, none⟩), .int .i64 (nx : Int), .bool false] 58) (ROut go (OutM.burst ⟨W, f, l, sn⟩))) (OwnK 3 1 (.slice A1 0 c1) 0 (nsU f 0))) (OwnK 9 1 (.slice A2 0 c2) 0 (bsU l 0))) (OwnK 37 9 (.slice A3 0 c3) 0 (plU true nx f l 0))) (CellW g5 #[.int .i64 0, .int .i64 0, .bool true, .int .i64 2, .int .i64 0, .int .i64 (nx : Int), .int .i64 0, .bool true, .string ⟨#[]⟩] 37)) w7) := (by show Done _ _ _ _; exact hs); clear hs))
          go_ret
          rw [HSY.out]
          refine ⟨_, _, rfl, by simp [maxLen], ?_⟩
          have h9 : Done w F (Star (Star (CellW g #[.int .i64 1, .int .i64 sz, .bool false, .pointer (some ⟨go, 0, none⟩), .int .i64 (nx : Int), .bool false] 58) (ROut go (OutM.burst ⟨W, f, l, sn⟩))) (CellW g5 #[.int .i64 0, .int .i64 0, .bool true, .int .i64 2, .int .i64 0, .int .i64 (nx : Int), .int .i64 0, .bool true, .string ⟨#[]⟩] 37)) _ := HS7.out.drop_mid.drop_mid.drop_mid
          exact (h9.mono_at (C := fun X => Star X (CellW g5 #[.int .i64 0, .int .i64 0, .bool true, .int .i64 2, .int .i64 0, .int .i64 (nx : Int), .int .i64 0, .bool true, .string ⟨#[]⟩] 37)) (Fr.l Fr.id_ (CellW.stab _ _ _)) (fun F hF => ⟨HOK2.out, go, hF⟩)).mono_at (C := fun X => Star (RTn g _) X) (Fr.r (RTn.stab _ _) Fr.id_) (fun F hF => hF.own rfl)
        · go_wp2_with (first
            | ((with_reducible refine wpList_storeD (C := fun X => Star (Star (Star (Star (Star (CellW g #[.int .i64 1, .int .i64 sz, .bool true, .pointer (some ⟨go, 0, none⟩), .int .i64 (nx : Int), .bool true] 58) (ROut go (OutM.burst ⟨W, f, l, sn⟩))) (OwnK 3 1 (.slice A1 0 c1) 0 (nsU f 0))) (OwnK 9 1 (.slice A2 0 c2) 0 (bsU l 0))) (OwnK 37 9 (.slice A3 0 c3) 0 (plU true nx f l 0))) X) (Fr.r (((((CellW.stab _ _ _).star (ROut.stab _ _)).star (OwnK.stab _ _ _ _ _)).star (OwnK.stab _ _ _ _ _)).star (OwnK.stab _ _ _ _ _)) Fr.id_) HS5.out rfl 3 (.tmp 70) (.const (.int .i64 2)) rfl 4 (.int .i64 2) rfl rfl (by simp) (run_storeI _ _ _) ?_); intro w6 hs; have HS6 : Hid (Done w F (Star (Star (Star (Star (Star (CellW g #[.int .i64 1, .int .i64 sz, .bool true, .pointer (some ⟨go, 0, none⟩), .int .i64 (nx : Int), .bool true] 58) (ROut go (OutM.burst ⟨W, f, l, sn⟩))) (OwnK 3 1 (.slice A1 0 c1) 0 (nsU f 0))) (OwnK 9 1 (.slice A2 0 c2) 0 (bsU l 0))) (OwnK 37 9 (.slice A3 0 c3) 0 (plU true nx f l 0))) (CellW g5 #[.int .i64 0, .int .i64 0, .bool true, .int .i64 2, .int .i64 2, .int .i64 (nx : Int), .int .i64 0, .bool false, .string ⟨#[]⟩] 37)) w6) := (by show Done _ _ _ _; exact hs); clear hs)
            | ((with_reducible refine wpList_storeD (C := fun X => Star (Star (Star (Star (Star (CellW g #[.int .i64 1, .int .i64 sz, .bool true, .pointer (some ⟨go, 0, none⟩), .int .i64 (nx : Int), .bool true] 58) (ROut go (OutM.burst ⟨W, f, l, sn⟩))) (OwnK 3 1 (.slice A1 0 c1) 0 (nsU f 0))) (OwnK 9 1 (.slice A2 0 c2) 0 (bsU l 0))) (OwnK 37 9 (.slice A3 0 c3) 0 (plU true nx f l 0))) X) (Fr.r (((((CellW.stab _ _ _).star (ROut.stab _ _)).star (OwnK.stab _ _ _ _ _)).star (OwnK.stab _ _ _ _ _)).star (OwnK.stab _ _ _ _ _)) Fr.id_) HS6.out rfl 4 (.tmp 76) (.const (.bool true)) rfl 7 (.bool true) rfl rfl (by simp) (run_storeBo _ _ _) ?_); intro w7 hs; have HS7 : Hid (Done w F (Star (Star (Star (Star (Star (CellW g #[.int .i64 1, .int .i64 sz, .bool true, .pointer (some ⟨go, 0, none⟩), .int .i64 (nx : Int), .bool true] 58) (ROut go (OutM.burst ⟨W, f, l, sn⟩))) (OwnK 3 1 (.slice A1 0 c1) 0 (nsU f 0))) (OwnK 9 1 (.slice A2 0 c2) 0 (bsU l 0))) (OwnK 37 9 (.slice A3 0 c3) 0 (plU true nx f l 0))) (CellW g5 #[.int .i64 0, .int .i64 0, .bool true, .int .i64 2, .int .i64 2, .int .i64 (nx : Int), .int .i64 0, .bool true, .string ⟨#[]⟩] 37)) w7) := (by show Done _ _ _ _; exact hs); clear hs)
            | ((with_reducible refine wpList_storeD (C := fun X => Star (Star (Star (Star (Star (X) (ROut go (OutM.burst ⟨W, f, l, sn⟩))) (OwnK 3 1 (.slice A1 0 c1) 0 (nsU f 0))) (OwnK 9 1 (.slice A2 0 c2) 0 (bsU l 0))) (OwnK 37 9 (.slice A3 0 c3) 0 (plU true nx f l 0))) (CellW g5 #[.int .i64 0, .int .i64 0, .bool true, .int .i64 2, .int .i64 2, .int .i64 (nx : Int), .int .i64 0, .bool true, .string ⟨#[]⟩] 37)) (Fr.l (Fr.l (Fr.l (Fr.l (Fr.l Fr.id_ (ROut.stab _ _)) (OwnK.stab _ _ _ _ _)) (OwnK.stab _ _ _ _ _)) (OwnK.stab _ _ _ _ _)) (CellW.stab _ _ _)) HS7.out rfl 4 (.tmp 79) (.const (.bool false)) rfl 2 (.bool false) rfl rfl (by simp) (run_storeBo _ _ _) ?_); intro w8 hs; have HS8 : Hid (Done w F (Star (Star (Star (Star (Star (CellW g #[.int .i64 1, .int .i64 sz, .bool false, .pointer (some ⟨go, 0, none⟩), .int .i64 (nx : Int), .bool true] 58) (ROut go (OutM.burst ⟨W, f, l, sn⟩))) (OwnK 3 1 (.slice A1 0 c1) 0 (nsU f 0))) (OwnK 9 1 (.slice A2 0 c2) 0 (bsU l 0))) (OwnK 37 9 (.slice A3 0 c3) 0 (plU true nx f l 0))) (CellW g5 #[.int .i64 0, .int .i64 0, .bool true, .int .i64 2, .int .i64 2, .int .i64 (nx : Int), .int .i64 0, .bool true, .string ⟨#[]⟩] 37)) w8) := (by show Done _ _ _ _; exact hs); clear hs))
          go_ret
          rw [HSY.out]
          refine ⟨_, _, rfl, by simp [maxLen], ?_⟩
          have h9 : Done w F (Star (Star (CellW g #[.int .i64 1, .int .i64 sz, .bool false, .pointer (some ⟨go, 0, none⟩), .int .i64 (nx : Int), .bool true] 58) (ROut go (OutM.burst ⟨W, f, l, sn⟩))) (CellW g5 #[.int .i64 0, .int .i64 0, .bool true, .int .i64 2, .int .i64 2, .int .i64 (nx : Int), .int .i64 0, .bool true, .string ⟨#[]⟩] 37)) _ := HS8.out.drop_mid.drop_mid.drop_mid
          exact (h9.mono_at (C := fun X => Star X (CellW g5 #[.int .i64 0, .int .i64 0, .bool true, .int .i64 2, .int .i64 2, .int .i64 (nx : Int), .int .i64 0, .bool true, .string ⟨#[]⟩] 37)) (Fr.l Fr.id_ (CellW.stab _ _ _)) (fun F hF => ⟨HOK2.out, go, hF⟩)).mono_at (C := fun X => Star (RTn g _) X) (Fr.r (RTn.stab _ _) Fr.id_) (fun F hF => hF.own rfl)
      · obtain ⟨k, hKk⟩ : ∃ k, K = k + 1 := ⟨K - 1, by omega⟩
        obtain ⟨hs1, hs2⟩ := plU_says (sz := sz) (nx := nx) (od := od) (show true = decide ((1 : Int) = 1) by decide) (show OutM.k ⟨W, f, l, sn⟩ = k + 1 by rw [← hKk]; exact HKe.out)
        rw [← hKk] at hs1 hs2
        have HY1 := Lib.hid hs1
        have HY2 := Lib.hid hs2
        have hfb := ((Done.get (C := fun X => Star (Star (Star (Star (CellW g #[.int .i64 1, .int .i64 sz, .bool true, .pointer (some ⟨go, 0, none⟩), .int .i64 (nx : Int), .bool od] 58) (ROut go (OutM.burst ⟨W, f, l, sn⟩))) (OwnK 3 1 (.slice A1 K c1) K (nsU f K))) (OwnK 9 1 (.slice A2 K c2) K (bsU l K))) X) (Fr.r ((((CellW.stab _ _ _).star (ROut.stab _ _)).star (OwnK.stab _ _ _ _ _)).star (OwnK.stab _ _ _ _ _)) Fr.id_) HSs.out).elim fun _ h => own_form h.2)
        obtain ⟨b3, rfl⟩ : ∃ b, A3 = some ⟨b, 0, none⟩ := by
          rcases hfb with ⟨h0, _⟩ | h0
          · omega
          · exact h0
        have t2 : ((K : Int) == 0) = false := beq_eq_false_iff_ne.2 (by omega)
        have e6 : IntKind.i64.wrap ((K : Int) - 1) = (k : Int) := by rw [show (K : Int) - 1 = (k : Int) by omega]; exact IntWalk.i64_in _ (by have := HK7.out; omega)
        have tk : (k : Int) < (K : Int) := by omega
        have tk2 : k < K := by omega
        have tc3 : (K : Int) ≤ (c3 : Int) := by have := HCC.out.1; omega
        have HLN : Hid (k * 9 + 7 < (plU true nx f l K).length) := by show _ < _; rw [plU_len]; omega
        clear hs1 hs2 hfb hKk
        go_wp2_with (first
          | ((with_reducible refine wpList_storeKD (C := fun X => Star (Star (Star (Star (CellW g #[.int .i64 1, .int .i64 sz, .bool true, .pointer (some ⟨go, 0, none⟩), .int .i64 (nx : Int), .bool od] 58) (ROut go (OutM.burst ⟨W, f, l, sn⟩))) (OwnK 3 1 (.slice A1 K c1) K (nsU f K))) (OwnK 9 1 (.slice A2 K c2) K (bsU l K))) X) (Fr.r ((((CellW.stab _ _ _).star (ROut.stab _ _)).star (OwnK.stab _ _ _ _ _)).star (OwnK.stab _ _ _ _ _)) Fr.id_) HSs.out rfl 4 (.tmp 76) (.const (.bool true)) rfl (k * 9 + 7) (.bool true) rfl rfl HLN.out (run_storeBo _ _ _) ?_); intro w2 hs; have HS2 := Lib.hid hs; clear hs)
          | ((with_reducible refine wpList_storeD (C := fun X => Star (Star (Star (Star (X) (ROut go (OutM.burst ⟨W, f, l, sn⟩))) (OwnK 3 1 (.slice A1 K c1) K (nsU f K))) (OwnK 9 1 (.slice A2 K c2) K (bsU l K))) (OwnK 37 9 (.slice (some ⟨b3, 0, none⟩) K c3) K ((plU true nx f l K).set (k * 9 + 7) (.bool true)))) (Fr.l (Fr.l (Fr.l (Fr.l Fr.id_ (ROut.stab _ _)) (OwnK.stab _ _ _ _ _)) (OwnK.stab _ _ _ _ _)) (OwnK.stab _ _ _ _ _)) HS2.out rfl 4 (.tmp 79) (.const (.bool false)) rfl 2 (.bool false) rfl rfl (by simp) (run_storeBo _ _ _) ?_); intro w3 hs; have HS3 : Hid (Done w F (Star (Star (Star (Star (CellW g #[.int .i64 1, .int .i64 sz, .bool false, .pointer (some ⟨go, 0, none⟩), .int .i64 (nx : Int), .bool od] 58) (ROut go (OutM.burst ⟨W, f, l, sn⟩))) (OwnK 3 1 (.slice A1 K c1) K (nsU f K))) (OwnK 9 1 (.slice A2 K c2) K (bsU l K))) (OwnK 37 9 (.slice (some ⟨b3, 0, none⟩) K c3) K ((plU true nx f l K).set (k * 9 + 7) (.bool true)))) w3) := (by show Done _ _ _ _; exact hs); clear hs))
        go_ret
        rw [HY2.out, ← HY1.out]
        refine ⟨_, _, rfl, HCC.out, ?_⟩
        have h9 : Done w F (Star (Star (CellW g #[.int .i64 1, .int .i64 sz, .bool false, .pointer (some ⟨go, 0, none⟩), .int .i64 (nx : Int), .bool od] 58) (ROut go (OutM.burst ⟨W, f, l, sn⟩))) (OwnK 37 9 (.slice (some ⟨b3, 0, none⟩) K c3) K ((plU true nx f l K).set (k * 9 + 7) (.bool true)))) _ := HS3.out.drop_mid.drop_mid
        exact h9.mono_at (C := fun X => Star X (OwnK 37 9 (.slice (some ⟨b3, 0, none⟩) K c3) K ((plU true nx f l K).set (k * 9 + 7) (.bool true)))) (Fr.l Fr.id_ (OwnK.stab _ _ _ _ _)) (fun F hF => ⟨HOK2.out, go, hF⟩)
set_option maxRecDepth 100000 in
set_option maxHeartbeats 16000000 in
theorem RTnGo_2 (g go : Nat) (sz : Int) (W f sn : Nat) (l : List ByteArray) (nx : Nat) (od : Bool) (F : List Nat) (w : World) (hok : TurnM.ok ⟨2, sz, true, ⟨W, f, l, sn⟩, ⟨nx, od⟩⟩) (h : RTn2 g go ⟨2, sz, true, ⟨W, f, l, sn⟩, ⟨nx, od⟩⟩ w F) : Calls Tryz.prog 35 #[.pointer (some ⟨g, 0, none⟩)] w fun e w' => ∃ A c, e = .returned (.slice A (TurnM.says ⟨2, sz, true, ⟨W, f, l, sn⟩, ⟨nx, od⟩⟩).length c) ∧ ((TurnM.says ⟨2, sz, true, ⟨W, f, l, sn⟩, ⟨nx, od⟩⟩).length ≤ c ∧ c ≤ maxLen) ∧ Done w F (Star (RTn g (TurnM.go ⟨2, sz, true, ⟨W, f, l, sn⟩, ⟨nx, od⟩⟩)) (OwnK 37 9 (.slice A (TurnM.says ⟨2, sz, true, ⟨W, f, l, sn⟩, ⟨nx, od⟩⟩).length c) (TurnM.says ⟨2, sz, true, ⟨W, f, l, sn⟩, ⟨nx, od⟩⟩).length (plcs (TurnM.says ⟨2, sz, true, ⟨W, f, l, sn⟩, ⟨nx, od⟩⟩)))) w' := by
  have HOK2 := Lib.hid hok.go
  have hs : Done w F (Star (CellW g #[.int .i64 2, .int .i64 sz, .bool true, .pointer (some ⟨go, 0, none⟩), .int .i64 (nx : Int), .bool od] 58) (ROut go ⟨W, f, l, sn⟩)) w := Done.start h
  have hg := (Done.at_ (C := fun X => Star (X) (ROut go ⟨W, f, l, sn⟩)) (Fr.l Fr.id_ (ROut.stab _ _)) hs)
  have q2 : w.cell? ⟨g, 2, none⟩ = some (.bool true) := cell_at hg 2 _ rfl
  have q3 : w.cell? ⟨g, 3, none⟩ = some (.pointer (some ⟨go, 0, none⟩)) := cell_at hg 3 _ rfl
  obtain ⟨K, hK⟩ : ∃ K, OutM.k ⟨W, f, l, sn⟩ = K := ⟨_, rfl⟩
  have hk7 := OutM.k_le hok.out
  rw [hK] at hk7
  have e2 : ints (OutM.ns ⟨W, f, l, sn⟩) = nsU f K := by rw [← hK]; rfl
  have e3 : strg (OutM.bs ⟨W, f, l, sn⟩) = bsU l K := by rw [← hK]; rfl
  have HB := Lib.hid (rburst_at (C := fun X => Star (CellW g #[.int .i64 2, .int .i64 sz, .bool true, .pointer (some ⟨go, 0, none⟩), .int .i64 (nx : Int), .bool od] 58) X) (Fr.r (CellW.stab _ _ _) Fr.id_) hs hK e2 e3)
  have HK7 := Lib.hid hk7
  have HKe := Lib.hid hK
  clear hok h hs hg e2 e3 hK hk7
  go_enter Tryz.func35, Tryz.ntmps35
  go_wp2_with (go_at_call 62; ((with_reducible refine (HB.out).mono ?_); rintro e w1 ⟨A1, c1, A2, c2, rfl, hb, hs⟩; have HBB := Lib.hid hb; have HS1 := Lib.hid hs; clear hs hb))
  have HS4 := Lib.hid ((Done.unassoc_at (C := fun X => Star X (OwnK 9 1 (.slice A2 K c2) K (bsU l K))) (Fr.l Fr.id_ (OwnK.stab _ _ _ _ _)) (Done.unassoc_at (C := fun X => X) Fr.id_ HS1.out)).add ((((CellW.stab _ _ _).star (ROut.stab _ _)).star (OwnK.stab _ _ _ _ _)).star (OwnK.stab _ _ _ _ _)) (OwnK.nilD 37 9 w1))
  clear HS1 HB
  go_loopw [3, 6] (fun lv iv wr => ∃ (i : Nat) (A3 : Option Addr) (c3 : Nat), i ≤ K ∧ lv = .slice A3 i c3 ∧ iv = .int .i64 (i : Int) ∧ (i ≤ c3 ∧ c3 ≤ maxLen) ∧ Done w F (Star (Star (Star (Star (CellW g #[.int .i64 2, .int .i64 sz, .bool true, .pointer (some ⟨go, 0, none⟩), .int .i64 (nx : Int), .bool od] 58) (ROut go (OutM.burst ⟨W, f, l, sn⟩))) (OwnK 3 1 (.slice A1 K c1) K (nsU f K))) (OwnK 9 1 (.slice A2 K c2) K (bsU l K))) (OwnK 37 9 (.slice A3 i c3) i (plU false nx f l i))) wr) (fun _ iv _ => (9 - intOf iv).toNat)
  case atStart => exact ⟨0, none, 0, by omega, rfl, rfl, by simp [maxLen], HS4.out⟩
  case round =>
    clear HS4
    obtain ⟨i, A3, c3, hiK, rfl, rfl, hcc, hs⟩ := hrel
    have HSs := Lib.hid hs
    have HCC := Lib.hid hcc
    clear hs hcc
    by_cases hik : i < K
    · have t1 : decide ((i : Int) < (K : Int)) = true := decide_eq_true (by omega)
      have hfa := ((Done.get (C := fun X => Star (Star (Star (Star (CellW g #[.int .i64 2, .int .i64 sz, .bool true, .pointer (some ⟨go, 0, none⟩), .int .i64 (nx : Int), .bool od] 58) (ROut go (OutM.burst ⟨W, f, l, sn⟩))) X) (OwnK 9 1 (.slice A2 K c2) K (bsU l K))) (OwnK 37 9 (.slice A3 i c3) i (plU false nx f l i))) (Fr.l (Fr.l (Fr.r ((CellW.stab _ _ _).star (ROut.stab _ _)) Fr.id_) (OwnK.stab _ _ _ _ _)) (OwnK.stab _ _ _ _ _)) HSs.out).elim fun _ h => own_form h.2)
      have hfb := ((Done.get (C := fun X => Star (Star (Star (Star (CellW g #[.int .i64 2, .int .i64 sz, .bool true, .pointer (some ⟨go, 0, none⟩), .int .i64 (nx : Int), .bool od] 58) (ROut go (OutM.burst ⟨W, f, l, sn⟩))) (OwnK 3 1 (.slice A1 K c1) K (nsU f K))) X) (OwnK 37 9 (.slice A3 i c3) i (plU false nx f l i))) (Fr.l (Fr.r (((CellW.stab _ _ _).star (ROut.stab _ _)).star (OwnK.stab _ _ _ _ _)) Fr.id_) (OwnK.stab _ _ _ _ _)) HSs.out).elim fun _ h => own_form h.2)
      obtain ⟨ba, rfl⟩ : ∃ b, A1 = some ⟨b, 0, none⟩ := by
        rcases hfa with ⟨h0, _⟩ | h0
        · omega
        · exact h0
      obtain ⟨bb, rfl⟩ : ∃ b, A2 = some ⟨b, 0, none⟩ := by
        rcases hfb with ⟨h0, _⟩ | h0
        · omega
        · exact h0
      have HNI : Hid ((nsU f K)[i]? = some (.int .i64 (((f + i) % 8 : Nat) : Int))) := by show _ = _; unfold nsU ints; simp [hik]
      have HSI : Hid ((bsU l K)[i]? = some (.string (l.getD i ⟨#[]⟩))) := by show _ = _; unfold bsU strg; have := HK7.out.2; simp [hik, show i < l.length by omega]
      have HI6 : Hid (i + 1 ≤ 1000000) := by show _ ≤ _; have := HK7.out; omega
      have e5 : IntKind.i64.wrap ((i : Int) + 1) = (i : Int) + 1 := IntWalk.i64_in _ (by have := HK7.out; omega)
      have ti : (i : Int) < (K : Int) := by omega
      have tc1 : (K : Int) ≤ (c1 : Int) := by have := HBB.out.1; omega
      have tc2 : (K : Int) ≤ (c2 : Int) := by have := HBB.out.2; omega
      have HSd := Lib.hid (HSs.out.drewD (((((CellW.stab _ _ _).star (ROut.stab _ _)).star (OwnK.stab _ _ _ _ _)).star (OwnK.stab _ _ _ _ _)).star (OwnK.stab _ _ _ _ _)))
      have HEd : Hid ((fun W => (W.cell? ⟨g, 0, none⟩ = some (.int .i64 2) ∧ W.cell? ⟨g, 4, none⟩ = some (.int .i64 (nx : Int))) ∧ W.cell? ⟨ba, i, none⟩ = some (.int .i64 (((f + i) % 8 : Nat) : Int)) ∧ W.cell? ⟨bb, i, none⟩ = some (.string (l.getD i ⟨#[]⟩))) wr.drew) := ⟨⟨cell_at (Done.at_ (C := fun X => Star (Star (Star (Star (X) (ROut go (OutM.burst ⟨W, f, l, sn⟩))) (OwnK 3 1 (.slice (some ⟨ba, 0, none⟩) K c1) K (nsU f K))) (OwnK 9 1 (.slice (some ⟨bb, 0, none⟩) K c2) K (bsU l K))) (OwnK 37 9 (.slice A3 i c3) i (plU false nx f l i))) (Fr.l (Fr.l (Fr.l (Fr.l Fr.id_ (ROut.stab _ _)) (OwnK.stab _ _ _ _ _)) (OwnK.stab _ _ _ _ _)) (OwnK.stab _ _ _ _ _)) HSd.out) 0 _ rfl, cell_at (Done.at_ (C := fun X => Star (Star (Star (Star (X) (ROut go (OutM.burst ⟨W, f, l, sn⟩))) (OwnK 3 1 (.slice (some ⟨ba, 0, none⟩) K c1) K (nsU f K))) (OwnK 9 1 (.slice (some ⟨bb, 0, none⟩) K c2) K (bsU l K))) (OwnK 37 9 (.slice A3 i c3) i (plU false nx f l i))) (Fr.l (Fr.l (Fr.l (Fr.l Fr.id_ (ROut.stab _ _)) (OwnK.stab _ _ _ _ _)) (OwnK.stab _ _ _ _ _)) (OwnK.stab _ _ _ _ _)) HSd.out) 4 _ rfl⟩, ((Done.get (C := fun X => Star (Star (Star (Star (CellW g #[.int .i64 2, .int .i64 sz, .bool true, .pointer (some ⟨go, 0, none⟩), .int .i64 (nx : Int), .bool od] 58) (ROut go (OutM.burst ⟨W, f, l, sn⟩))) X) (OwnK 9 1 (.slice (some ⟨bb, 0, none⟩) K c2) K (bsU l K))) (OwnK 37 9 (.slice A3 i c3) i (plU false nx f l i))) (Fr.l (Fr.l (Fr.r ((CellW.stab _ _ _).star (ROut.stab _ _)) Fr.id_) (OwnK.stab _ _ _ _ _)) (OwnK.stab _ _ _ _ _)) HSd.out).elim fun _ h => h.cell HNI.out), ((Done.get (C := fun X => Star (Star (Star (Star (CellW g #[.int .i64 2, .int .i64 sz, .bool true, .pointer (some ⟨go, 0, none⟩), .int .i64 (nx : Int), .bool od] 58) (ROut go (OutM.burst ⟨W, f, l, sn⟩))) (OwnK 3 1 (.slice (some ⟨ba, 0, none⟩) K c1) K (nsU f K))) X) (OwnK 37 9 (.slice A3 i c3) i (plU false nx f l i))) (Fr.l (Fr.r (((CellW.stab _ _ _).star (ROut.stab _ _)).star (OwnK.stab _ _ _ _ _)) Fr.id_) (OwnK.stab _ _ _ _ _)) HSd.out).elim fun _ h => h.cell HSI.out)⟩
      clear hfa hfb
      go_wp2
      refine rests_begin (fun W => (W.cell? ⟨g, 0, none⟩ = some (.int .i64 2) ∧ W.cell? ⟨g, 4, none⟩ = some (.int .i64 (nx : Int))) ∧ W.cell? ⟨ba, i, none⟩ = some (.int .i64 (((f + i) % 8 : Nat) : Int)) ∧ W.cell? ⟨bb, i, none⟩ = some (.string (l.getD i ⟨#[]⟩))) (by kernel_rfl) ?_
      refine rests_take 0 (oi := _) (v := ?_) (by simp only [List.getElem?_toArray, List.getElem?_cons_zero]; rfl) (by kernel_rfl) (by kernel_rfl) (by kernel_rfl) (by exact fun _ _ _ h => h) (HEd.out) (by rfl) ?_ ?_; rotate_left; (· intro W HW; go_simp; try with_reducible rfl)
      simp only [Act.put, List.setIfInBounds_toArray, List.set_cons_zero, List.set_cons_succ]
      refine rests_take 1 (oi := _) (v := ?_) (by simp only [List.getElem?_toArray, List.getElem?_cons_succ, List.getElem?_cons_zero]; rfl) (by kernel_rfl) (by kernel_rfl) (by kernel_rfl) (by exact fun _ _ _ h => h) (HEd.out) (by rfl) ?_ ?_; rotate_left; (· intro W HW; go_simp; try with_reducible rfl)
      simp only [Act.put, List.setIfInBounds_toArray, List.set_cons_zero, List.set_cons_succ]
      refine rests_take 2 (oi := _) (v := ?_) (by simp only [List.getElem?_toArray, List.getElem?_cons_succ, List.getElem?_cons_zero]; rfl) (by kernel_rfl) (by kernel_rfl) (by kernel_rfl) (by exact fun _ _ _ h => h) (HEd.out) (by rfl) ?_ ?_; rotate_left; (· intro W HW; go_simp; try with_reducible rfl)
      simp only [Act.put, List.setIfInBounds_toArray, List.set_cons_zero, List.set_cons_succ]
      refine rests_take 3 (oi := _) (v := ?_) (by simp only [List.getElem?_toArray, List.getElem?_cons_succ, List.getElem?_cons_zero]; rfl) (by kernel_rfl) (by kernel_rfl) (by kernel_rfl) (by exact fun _ _ _ h => h) (HEd.out) (by rfl) ?_ ?_; rotate_left; (· intro W HW; go_simp; try with_reducible rfl)
      simp only [Act.put, List.setIfInBounds_toArray, List.set_cons_zero, List.set_cons_succ]
      refine rests_take 4 (oi := _) (v := ?_) (by simp only [List.getElem?_toArray, List.getElem?_cons_succ, List.getElem?_cons_zero]; rfl) (by kernel_rfl) (by kernel_rfl) (by kernel_rfl) (by exact fun _ _ _ h => h) (HEd.out) (by rfl) ?_ ?_; rotate_left; (· intro W HW; obtain ⟨⟨z0, z4⟩, zn, zb⟩ := HW; go_simp; try with_reducible rfl)
      simp only [Act.put, List.setIfInBounds_toArray, List.set_cons_zero, List.set_cons_succ]
      refine rests_take 5 (oi := _) (v := ?_) (by simp only [List.getElem?_toArray, List.getElem?_cons_succ, List.getElem?_cons_zero]; rfl) (by kernel_rfl) (by kernel_rfl) (by kernel_rfl) (by exact fun _ _ _ h => h) (HEd.out) (by rfl) ?_ ?_; rotate_left; (· intro W HW; go_simp; try with_reducible rfl)
      simp only [Act.put, List.setIfInBounds_toArray, List.set_cons_zero, List.set_cons_succ]
      refine rests_take 6 (oi := _) (v := ?_) (by simp only [List.getElem?_toArray, List.getElem?_cons_succ, List.getElem?_cons_zero]; rfl) (by kernel_rfl) (by kernel_rfl) (by kernel_rfl) (by exact fun _ _ _ h => h) (HEd.out) (by rfl) ?_ ?_; rotate_left; (· intro W HW; go_simp; try with_reducible rfl)
      simp only [Act.put, List.setIfInBounds_toArray, List.set_cons_zero, List.set_cons_succ]
      refine rests_take 7 (oi := _) (v := ?_) (by simp only [List.getElem?_toArray, List.getElem?_cons_succ, List.getElem?_cons_zero]; rfl) (by kernel_rfl) (by kernel_rfl) (by kernel_rfl) (by exact fun _ _ _ h => h) (HEd.out) (by rfl) ?_ ?_; rotate_left; (· intro W HW; go_simp; try with_reducible rfl)
      simp only [Act.put, List.setIfInBounds_toArray, List.set_cons_zero, List.set_cons_succ]
      refine rests_take 8 (oi := _) (v := ?_) (by simp only [List.getElem?_toArray, List.getElem?_cons_succ, List.getElem?_cons_zero]; rfl) (by kernel_rfl) (by kernel_rfl) (by kernel_rfl) (by exact fun _ _ _ h => h) (HEd.out) (by rfl) ?_ ?_; rotate_left; (· intro W HW; go_simp; try with_reducible rfl)
      simp only [Act.put, List.setIfInBounds_toArray, List.set_cons_zero, List.set_cons_succ]
      refine rests_take 9 (oi := _) (v := ?_) (by simp only [List.getElem?_toArray, List.getElem?_cons_succ, List.getElem?_cons_zero]; rfl) (by kernel_rfl) (by kernel_rfl) (by kernel_rfl) (by exact fun _ _ _ h => h) (HEd.out) (by rfl) ?_ ?_; rotate_left; (· intro W HW; go_simp; try with_reducible rfl)
      simp only [Act.put, List.setIfInBounds_toArray, List.set_cons_zero, List.set_cons_succ]
      refine rests_take 10 (oi := _) (v := ?_) (by simp only [List.getElem?_toArray, List.getElem?_cons_succ, List.getElem?_cons_zero]; rfl) (by kernel_rfl) (by kernel_rfl) (by kernel_rfl) (by exact fun _ _ _ h => h) (HEd.out) (by rfl) ?_ ?_; rotate_left; (· intro W HW; obtain ⟨⟨z0, z4⟩, zn, zb⟩ := HW; go_simp; try with_reducible rfl)
      simp only [Act.put, List.setIfInBounds_toArray, List.set_cons_zero, List.set_cons_succ]
      refine rests_take 11 (oi := _) (v := ?_) (by simp only [List.getElem?_toArray, List.getElem?_cons_succ, List.getElem?_cons_zero]; rfl) (by kernel_rfl) (by kernel_rfl) (by kernel_rfl) (by exact fun _ _ _ h => h) (HEd.out) (by rfl) ?_ ?_; rotate_left; (· intro W HW; go_simp; try with_reducible rfl)
      simp only [Act.put, List.setIfInBounds_toArray, List.set_cons_zero, List.set_cons_succ]
      refine rests_take 12 (oi := _) (v := ?_) (by simp only [List.getElem?_toArray, List.getElem?_cons_succ, List.getElem?_cons_zero]; rfl) (by kernel_rfl) (by kernel_rfl) (by kernel_rfl) (by exact fun _ _ _ h => h) (HEd.out) (by rfl) ?_ ?_; rotate_left; (· intro W HW; go_simp; try with_reducible rfl)
      simp only [Act.put, List.setIfInBounds_toArray, List.set_cons_zero, List.set_cons_succ]
      refine rests_take 13 (oi := _) (v := ?_) (by simp only [List.getElem?_toArray, List.getElem?_cons_succ, List.getElem?_cons_zero]; rfl) (by kernel_rfl) (by kernel_rfl) (by kernel_rfl) (by exact fun _ _ _ h => h) (HEd.out) (by rfl) ?_ ?_; rotate_left; (· intro W HW; go_simp; try with_reducible rfl)
      simp only [Act.put, List.setIfInBounds_toArray, List.set_cons_zero, List.set_cons_succ]
      refine rests_take 14 (oi := _) (v := ?_) (by simp only [List.getElem?_toArray, List.getElem?_cons_succ, List.getElem?_cons_zero]; rfl) (by kernel_rfl) (by kernel_rfl) (by kernel_rfl) (by exact fun _ _ _ h => h) (HEd.out) (by rfl) ?_ ?_; rotate_left; (· intro W HW; obtain ⟨⟨z0, z4⟩, zn, zb⟩ := HW; go_simp; try with_reducible rfl)
      simp only [Act.put, List.setIfInBounds_toArray, List.set_cons_zero, List.set_cons_succ]
      refine rests_take 15 (oi := _) (v := ?_) (by simp only [List.getElem?_toArray, List.getElem?_cons_succ, List.getElem?_cons_zero]; rfl) (by kernel_rfl) (by kernel_rfl) (by kernel_rfl) (by exact fun _ _ _ h => h) (HEd.out) (by rfl) ?_ ?_; rotate_left; (· intro W HW; go_simp; try with_reducible rfl)
      simp only [Act.put, List.setIfInBounds_toArray, List.set_cons_zero, List.set_cons_succ]
      refine rests_take 16 (oi := _) (v := ?_) (by simp only [List.getElem?_toArray, List.getElem?_cons_succ, List.getElem?_cons_zero]; rfl) (by kernel_rfl) (by kernel_rfl) (by kernel_rfl) (by exact fun _ _ _ h => h) (HEd.out) (by rfl) ?_ ?_; rotate_left; (· intro W HW; go_simp; try with_reducible rfl)
      simp only [Act.put, List.setIfInBounds_toArray, List.set_cons_zero, List.set_cons_succ]
      refine rests_take 17 (oi := _) (v := ?_) (by simp only [List.getElem?_toArray, List.getElem?_cons_succ, List.getElem?_cons_zero]; rfl) (by kernel_rfl) (by kernel_rfl) (by kernel_rfl) (by exact fun _ _ _ h => h) (HEd.out) (by rfl) ?_ ?_; rotate_left; (· intro W HW; go_simp; try with_reducible rfl)
      simp only [Act.put, List.setIfInBounds_toArray, List.set_cons_zero, List.set_cons_succ]
      refine rests_take 18 (oi := _) (v := ?_) (by simp only [List.getElem?_toArray, List.getElem?_cons_succ, List.getElem?_cons_zero]; rfl) (by kernel_rfl) (by kernel_rfl) (by kernel_rfl) (by exact fun _ _ _ h => h) (HEd.out) (by rfl) ?_ ?_; rotate_left; (· intro W HW; obtain ⟨⟨z0, z4⟩, zn, zb⟩ := HW; go_simp; try with_reducible rfl)
      simp only [Act.put, List.setIfInBounds_toArray, List.set_cons_zero, List.set_cons_succ]
      refine rests_take 19 (oi := _) (v := ?_) (by simp only [List.getElem?_toArray, List.getElem?_cons_succ, List.getElem?_cons_zero]; rfl) (by kernel_rfl) (by kernel_rfl) (by kernel_rfl) (by exact fun _ _ _ h => h) (HEd.out) (by rfl) ?_ ?_; rotate_left; (· intro W HW; go_simp; try with_reducible rfl)
      simp only [Act.put, List.setIfInBounds_toArray, List.set_cons_zero, List.set_cons_succ]
      obtain ⟨g5, hg5⟩ : ∃ g, g = (wr.drew).heap.size := ⟨_, rfl⟩
      have hal5 := CellW.new (wr.drew) #[.int .i64 0, .int .i64 0, .bool false, .int .i64 1, .int .i64 0, .int .i64 (nx : Int), .int .i64 (((f + i) % 8 : Nat) : Int), .bool false, .string (l.getD i ⟨#[]⟩)] 37
      rw [← hg5] at hal5
      obtain ⟨w5, hw5⟩ : ∃ wz, wz = (wr.drew).alloc (.cells #[.int .i64 0, .int .i64 0, .bool false, .int .i64 1, .int .i64 0, .int .i64 (nx : Int), .int .i64 (((f + i) % 8 : Nat) : Int), .bool false, .string (l.getD i ⟨#[]⟩)] 37) := ⟨_, rfl⟩
      rw [← hw5] at hal5
      have HS5 := Lib.hid (HSd.out.add (((((CellW.stab _ _ _).star (ROut.stab _ _)).star (OwnK.stab _ _ _ _ _)).star (OwnK.stab _ _ _ _ _)).star (OwnK.stab _ _ _ _ _)) hal5)
      have HE5 : Hid ((fun W => (W.cell? ⟨g, 0, none⟩ = some (.int .i64 2) ∧ W.cell? ⟨g, 4, none⟩ = some (.int .i64 (nx : Int))) ∧ W.cell? ⟨ba, i, none⟩ = some (.int .i64 (((f + i) % 8 : Nat) : Int)) ∧ W.cell? ⟨bb, i, none⟩ = some (.string (l.getD i ⟨#[]⟩))) w5) := ⟨⟨cell_at (Done.at_ (C := fun X => Star (Star (Star (Star (Star (X) (ROut go (OutM.burst ⟨W, f, l, sn⟩))) (OwnK 3 1 (.slice (some ⟨ba, 0, none⟩) K c1) K (nsU f K))) (OwnK 9 1 (.slice (some ⟨bb, 0, none⟩) K c2) K (bsU l K))) (OwnK 37 9 (.slice A3 i c3) i (plU false nx f l i))) (CellW g5 #[.int .i64 0, .int .i64 0, .bool false, .int .i64 1, .int .i64 0, .int .i64 (nx : Int), .int .i64 (((f + i) % 8 : Nat) : Int), .bool false, .string (l.getD i ⟨#[]⟩)] 37)) (Fr.l (Fr.l (Fr.l (Fr.l (Fr.l Fr.id_ (ROut.stab _ _)) (OwnK.stab _ _ _ _ _)) (OwnK.stab _ _ _ _ _)) (OwnK.stab _ _ _ _ _)) (CellW.stab _ _ _)) HS5.out) 0 _ rfl, cell_at (Done.at_ (C := fun X => Star (Star (Star (Star (Star (X) (ROut go (OutM.burst ⟨W, f, l, sn⟩))) (OwnK 3 1 (.slice (some ⟨ba, 0, none⟩) K c1) K (nsU f K))) (OwnK 9 1 (.slice (some ⟨bb, 0, none⟩) K c2) K (bsU l K))) (OwnK 37 9 (.slice A3 i c3) i (plU false nx f l i))) (CellW g5 #[.int .i64 0, .int .i64 0, .bool false, .int .i64 1, .int .i64 0, .int .i64 (nx : Int), .int .i64 (((f + i) % 8 : Nat) : Int), .bool false, .string (l.getD i ⟨#[]⟩)] 37)) (Fr.l (Fr.l (Fr.l (Fr.l (Fr.l Fr.id_ (ROut.stab _ _)) (OwnK.stab _ _ _ _ _)) (OwnK.stab _ _ _ _ _)) (OwnK.stab _ _ _ _ _)) (CellW.stab _ _ _)) HS5.out) 4 _ rfl⟩, ((Done.get (C := fun X => Star (Star (Star (Star (Star (CellW g #[.int .i64 2, .int .i64 sz, .bool true, .pointer (some ⟨go, 0, none⟩), .int .i64 (nx : Int), .bool od] 58) (ROut go (OutM.burst ⟨W, f, l, sn⟩))) X) (OwnK 9 1 (.slice (some ⟨bb, 0, none⟩) K c2) K (bsU l K))) (OwnK 37 9 (.slice A3 i c3) i (plU false nx f l i))) (CellW g5 #[.int .i64 0, .int .i64 0, .bool false, .int .i64 1, .int .i64 0, .int .i64 (nx : Int), .int .i64 (((f + i) % 8 : Nat) : Int), .bool false, .string (l.getD i ⟨#[]⟩)] 37)) (Fr.l (Fr.l (Fr.l (Fr.r ((CellW.stab _ _ _).star (ROut.stab _ _)) Fr.id_) (OwnK.stab _ _ _ _ _)) (OwnK.stab _ _ _ _ _)) (CellW.stab _ _ _)) HS5.out).elim fun _ h => h.cell HNI.out), ((Done.get (C := fun X => Star (Star (Star (Star (Star (CellW g #[.int .i64 2, .int .i64 sz, .bool true, .pointer (some ⟨go, 0, none⟩), .int .i64 (nx : Int), .bool od] 58) (ROut go (OutM.burst ⟨W, f, l, sn⟩))) (OwnK 3 1 (.slice (some ⟨ba, 0, none⟩) K c1) K (nsU f K))) X) (OwnK 37 9 (.slice A3 i c3) i (plU false nx f l i))) (CellW g5 #[.int .i64 0, .int .i64 0, .bool false, .int .i64 1, .int .i64 0, .int .i64 (nx : Int), .int .i64 (((f + i) % 8 : Nat) : Int), .bool false, .string (l.getD i ⟨#[]⟩)] 37)) (Fr.l (Fr.l (Fr.r (((CellW.stab _ _ _).star (ROut.stab _ _)).star (OwnK.stab _ _ _ _ _)) Fr.id_) (OwnK.stab _ _ _ _ _)) (CellW.stab _ _ _)) HS5.out).elim fun _ h => h.cell HSI.out)⟩
      refine rests_run 20 (oi := _) (by simp only [List.getElem?_toArray, List.getElem?_cons_succ, List.getElem?_cons_zero]; rfl) (by kernel_rfl) (by rfl) (.slice (some ⟨g5, 0, none⟩) 1 1) w5 (by rw [hg5, hw5]; go_simp) ⟨HE5.out, ?_⟩
      clear hg5 hal5 hw5
      simp only [Act.put, List.setIfInBounds_toArray, List.set_cons_zero, List.set_cons_succ]
      refine rests_appD 21 (oi := _) (by simp only [List.getElem?_toArray, List.getElem?_cons_succ, List.getElem?_cons_zero]; rfl) (by kernel_rfl) (by rfl) (C := fun X => Star (Star (Star (Star (Star (CellW g #[.int .i64 2, .int .i64 sz, .bool true, .pointer (some ⟨go, 0, none⟩), .int .i64 (nx : Int), .bool od] 58) (ROut go (OutM.burst ⟨W, f, l, sn⟩))) (OwnK 3 1 (.slice (some ⟨ba, 0, none⟩) K c1) K (nsU f K))) (OwnK 9 1 (.slice (some ⟨bb, 0, none⟩) K c2) K (bsU l K))) X) (CellW g5 #[.int .i64 0, .int .i64 0, .bool false, .int .i64 1, .int .i64 0, .int .i64 (nx : Int), .int .i64 (((f + i) % 8 : Nat) : Int), .bool false, .string (l.getD i ⟨#[]⟩)] 37)) (Fr.l (Fr.r ((((CellW.stab _ _ _).star (ROut.stab _ _)).star (OwnK.stab _ _ _ _ _)).star (OwnK.stab _ _ _ _ _)) Fr.id_) (CellW.stab _ _ _)) HS5.out (.tmp 26) (.tmp 46) 52 80 (.agg #[.int .i64 0, .int .i64 0, .bool false, .int .i64 0, .int .i64 0, .int .i64 0, .int .i64 0, .bool false, .string ⟨#[]⟩]) rfl Tryz.underlying52 (by kernel_rfl) rfl (by decide) (.slice (some ⟨g5, 0, none⟩) 1 1) 1 (pcs (say0 false nx f l i)) rfl rfl (rdG_new (Done.at_ (C := fun X => Star (Star (Star (Star (Star (CellW g #[.int .i64 2, .int .i64 sz, .bool true, .pointer (some ⟨go, 0, none⟩), .int .i64 (nx : Int), .bool od] 58) (ROut go (OutM.burst ⟨W, f, l, sn⟩))) (OwnK 3 1 (.slice (some ⟨ba, 0, none⟩) K c1) K (nsU f K))) (OwnK 9 1 (.slice (some ⟨bb, 0, none⟩) K c2) K (bsU l K))) (OwnK 37 9 (.slice A3 i c3) i (plU false nx f l i))) X) (Fr.r (((((CellW.stab _ _ _).star (ROut.stab _ _)).star (OwnK.stab _ _ _ _ _)).star (OwnK.stab _ _ _ _ _)).star (OwnK.stab _ _ _ _ _)) Fr.id_) HS5.out) rfl) (by simp [Value.oneCell', pcs]) (i + 1) rfl HI6.out (plU false nx f l (i + 1)) (plU_succ false nx f l i) ?_
      intro A6 c6 w6 hs hc; have HS6 := Lib.hid hs; have HE6 : Hid ((fun W => (W.cell? ⟨g, 0, none⟩ = some (.int .i64 2) ∧ W.cell? ⟨g, 4, none⟩ = some (.int .i64 (nx : Int))) ∧ W.cell? ⟨ba, i, none⟩ = some (.int .i64 (((f + i) % 8 : Nat) : Int)) ∧ W.cell? ⟨bb, i, none⟩ = some (.string (l.getD i ⟨#[]⟩))) w6) := ⟨⟨cell_at (Done.at_ (C := fun X => Star (Star (Star (Star (Star (X) (ROut go (OutM.burst ⟨W, f, l, sn⟩))) (OwnK 3 1 (.slice (some ⟨ba, 0, none⟩) K c1) K (nsU f K))) (OwnK 9 1 (.slice (some ⟨bb, 0, none⟩) K c2) K (bsU l K))) (OwnK 37 9 (.slice A6 (i + 1) c6) (i + 1) (plU false nx f l (i + 1)))) (CellW g5 #[.int .i64 0, .int .i64 0, .bool false, .int .i64 1, .int .i64 0, .int .i64 (nx : Int), .int .i64 (((f + i) % 8 : Nat) : Int), .bool false, .string (l.getD i ⟨#[]⟩)] 37)) (Fr.l (Fr.l (Fr.l (Fr.l (Fr.l Fr.id_ (ROut.stab _ _)) (OwnK.stab _ _ _ _ _)) (OwnK.stab _ _ _ _ _)) (OwnK.stab _ _ _ _ _)) (CellW.stab _ _ _)) hs) 0 _ rfl, cell_at (Done.at_ (C := fun X => Star (Star (Star (Star (Star (X) (ROut go (OutM.burst ⟨W, f, l, sn⟩))) (OwnK 3 1 (.slice (some ⟨ba, 0, none⟩) K c1) K (nsU f K))) (OwnK 9 1 (.slice (some ⟨bb, 0, none⟩) K c2) K (bsU l K))) (OwnK 37 9 (.slice A6 (i + 1) c6) (i + 1) (plU false nx f l (i + 1)))) (CellW g5 #[.int .i64 0, .int .i64 0, .bool false, .int .i64 1, .int .i64 0, .int .i64 (nx : Int), .int .i64 (((f + i) % 8 : Nat) : Int), .bool false, .string (l.getD i ⟨#[]⟩)] 37)) (Fr.l (Fr.l (Fr.l (Fr.l (Fr.l Fr.id_ (ROut.stab _ _)) (OwnK.stab _ _ _ _ _)) (OwnK.stab _ _ _ _ _)) (OwnK.stab _ _ _ _ _)) (CellW.stab _ _ _)) hs) 4 _ rfl⟩, ((Done.get (C := fun X => Star (Star (Star (Star (Star (CellW g #[.int .i64 2, .int .i64 sz, .bool true, .pointer (some ⟨go, 0, none⟩), .int .i64 (nx : Int), .bool od] 58) (ROut go (OutM.burst ⟨W, f, l, sn⟩))) X) (OwnK 9 1 (.slice (some ⟨bb, 0, none⟩) K c2) K (bsU l K))) (OwnK 37 9 (.slice A6 (i + 1) c6) (i + 1) (plU false nx f l (i + 1)))) (CellW g5 #[.int .i64 0, .int .i64 0, .bool false, .int .i64 1, .int .i64 0, .int .i64 (nx : Int), .int .i64 (((f + i) % 8 : Nat) : Int), .bool false, .string (l.getD i ⟨#[]⟩)] 37)) (Fr.l (Fr.l (Fr.l (Fr.r ((CellW.stab _ _ _).star (ROut.stab _ _)) Fr.id_) (OwnK.stab _ _ _ _ _)) (OwnK.stab _ _ _ _ _)) (CellW.stab _ _ _)) hs).elim fun _ h => h.cell HNI.out), ((Done.get (C := fun X => Star (Star (Star (Star (Star (CellW g #[.int .i64 2, .int .i64 sz, .bool true, .pointer (some ⟨go, 0, none⟩), .int .i64 (nx : Int), .bool od] 58) (ROut go (OutM.burst ⟨W, f, l, sn⟩))) (OwnK 3 1 (.slice (some ⟨ba, 0, none⟩) K c1) K (nsU f K))) X) (OwnK 37 9 (.slice A6 (i + 1) c6) (i + 1) (plU false nx f l (i + 1)))) (CellW g5 #[.int .i64 0, .int .i64 0, .bool false, .int .i64 1, .int .i64 0, .int .i64 (nx : Int), .int .i64 (((f + i) % 8 : Nat) : Int), .bool false, .string (l.getD i ⟨#[]⟩)] 37)) (Fr.l (Fr.l (Fr.r (((CellW.stab _ _ _).star (ROut.stab _ _)).star (OwnK.stab _ _ _ _ _)) Fr.id_) (OwnK.stab _ _ _ _ _)) (CellW.stab _ _ _)) hs).elim fun _ h => h.cell HSI.out)⟩; have HC6 := Lib.hid hc; refine ⟨HE6.out, ?_⟩; clear hs hc
      simp only [Act.put, List.setIfInBounds_toArray, List.set_cons_zero, List.set_cons_succ]
      refine rests_take 22 (oi := _) (v := ?_) (by simp only [List.getElem?_toArray, List.getElem?_cons_succ, List.getElem?_cons_zero]; rfl) (by kernel_rfl) (by kernel_rfl) (by kernel_rfl) (by exact fun _ _ _ h => h) (HE6.out) (by rfl) ?_ ?_; rotate_left; (· intro W HW; go_simp; try with_reducible rfl)
      simp only [Act.put, List.setIfInBounds_toArray, List.set_cons_zero, List.set_cons_succ]
      refine rests_done (by kernel_rfl) ?_
      have HSn := Lib.hid HS6.out.drop
      have HCn := Lib.hid HC6.out
      go_wp2
      go_roundw
      case rel => exact ⟨i + 1, A6, c6, by omega, rfl, by go_num, HCn.out, HSn.out⟩
      case measure => have := HK7.out; simp [intOf] <;> omega
    · have e0 : i = K := by omega
      rw [e0] at HSs HCC ⊢
      clear e0 hik hiK
      have t1 : decide ((K : Int) < (K : Int)) = false := decide_eq_false (by omega)
      by_cases hK0 : K = 0
      · subst hK0
        have hsy := says_nil0 (sz := sz) (nx := nx) (od := od) (show false = decide ((2 : Int) = 1) by decide) HKe.out
        have HSY := Lib.hid hsy
        have HSd := Lib.hid (HSs.out.drewD (((((CellW.stab _ _ _).star (ROut.stab _ _)).star (OwnK.stab _ _ _ _ _)).star (OwnK.stab _ _ _ _ _)).star (OwnK.stab _ _ _ _ _)))
        have HEd : Hid ((fun W => W.heap[g]? = some (.cells #[.int .i64 2, .int .i64 sz, .bool true, .pointer (some ⟨go, 0, none⟩), .int .i64 (nx : Int), .bool od] 58 (0, 0))) wr.drew) := (Done.at_ (C := fun X => Star (Star (Star (Star (X) (ROut go (OutM.burst ⟨W, f, l, sn⟩))) (OwnK 3 1 (.slice A1 0 c1) 0 (nsU f 0))) (OwnK 9 1 (.slice A2 0 c2) 0 (bsU l 0))) (OwnK 37 9 (.slice A3 0 c3) 0 (plU false nx f l 0))) (Fr.l (Fr.l (Fr.l (Fr.l Fr.id_ (ROut.stab _ _)) (OwnK.stab _ _ _ _ _)) (OwnK.stab _ _ _ _ _)) (OwnK.stab _ _ _ _ _)) HSd.out)
        clear hsy HSs
        go_wp2
        refine rests_begin (fun W => W.heap[g]? = some (.cells #[.int .i64 2, .int .i64 sz, .bool true, .pointer (some ⟨go, 0, none⟩), .int .i64 (nx : Int), .bool od] 58 (0, 0))) (by kernel_rfl) ?_
        refine rests_take 0 (oi := _) (v := ?_) (by simp only [List.getElem?_toArray, List.getElem?_cons_zero]; rfl) (by kernel_rfl) (by kernel_rfl) (by kernel_rfl) (by exact fun _ _ _ h => h) (HEd.out) (by rfl) ?_ ?_; rotate_left; (· intro W HW; go_simp; try with_reducible rfl)
        simp only [Act.put, List.setIfInBounds_toArray, List.set_cons_zero, List.set_cons_succ]
        refine rests_take 1 (oi := _) (v := ?_) (by simp only [List.getElem?_toArray, List.getElem?_cons_succ, List.getElem?_cons_zero]; rfl) (by kernel_rfl) (by kernel_rfl) (by kernel_rfl) (by exact fun _ _ _ h => h) (HEd.out) (by rfl) ?_ ?_; rotate_left; (· intro W HW; go_simp; try with_reducible rfl)
        simp only [Act.put, List.setIfInBounds_toArray, List.set_cons_zero, List.set_cons_succ]
        refine rests_take 2 (oi := _) (v := ?_) (by simp only [List.getElem?_toArray, List.getElem?_cons_succ, List.getElem?_cons_zero]; rfl) (by kernel_rfl) (by kernel_rfl) (by kernel_rfl) (by exact fun _ _ _ h => h) (HEd.out) (by rfl) ?_ ?_; rotate_left; (· intro W HW; go_simp; try with_reducible rfl)
        simp only [Act.put, List.setIfInBounds_toArray, List.set_cons_zero, List.set_cons_succ]
        refine rests_take 3 (oi := _) (v := ?_) (by simp only [List.getElem?_toArray, List.getElem?_cons_succ, List.getElem?_cons_zero]; rfl) (by kernel_rfl) (by kernel_rfl) (by kernel_rfl) (by exact fun _ _ _ h => h) (HEd.out) (by rfl) ?_ ?_; rotate_left; (· intro W HW; have z0 : W.cell? ⟨g, 0, none⟩ = some (.int .i64 2) := cell_at HW 0 _ rfl; go_simp; try with_reducible rfl)
        simp only [Act.put, List.setIfInBounds_toArray, List.set_cons_zero, List.set_cons_succ]
        refine rests_take 4 (oi := _) (v := ?_) (by simp only [List.getElem?_toArray, List.getElem?_cons_succ, List.getElem?_cons_zero]; rfl) (by kernel_rfl) (by kernel_rfl) (by kernel_rfl) (by exact fun _ _ _ h => h) (HEd.out) (by rfl) ?_ ?_; rotate_left; (· intro W HW; go_simp; try with_reducible rfl)
        simp only [Act.put, List.setIfInBounds_toArray, List.set_cons_zero, List.set_cons_succ]
        refine rests_take 5 (oi := _) (v := ?_) (by simp only [List.getElem?_toArray, List.getElem?_cons_succ, List.getElem?_cons_zero]; rfl) (by kernel_rfl) (by kernel_rfl) (by kernel_rfl) (by exact fun _ _ _ h => h) (HEd.out) (by rfl) ?_ ?_; rotate_left; (· intro W HW; go_simp; try with_reducible rfl)
        simp only [Act.put, List.setIfInBounds_toArray, List.set_cons_zero, List.set_cons_succ]
        refine rests_take 6 (oi := _) (v := ?_) (by simp only [List.getElem?_toArray, List.getElem?_cons_succ, List.getElem?_cons_zero]; rfl) (by kernel_rfl) (by kernel_rfl) (by kernel_rfl) (by exact fun _ _ _ h => h) (HEd.out) (by rfl) ?_ ?_; rotate_left; (· intro W HW; go_simp; try with_reducible rfl)
        simp only [Act.put, List.setIfInBounds_toArray, List.set_cons_zero, List.set_cons_succ]
        refine rests_take 7 (oi := _) (v := ?_) (by simp only [List.getElem?_toArray, List.getElem?_cons_succ, List.getElem?_cons_zero]; rfl) (by kernel_rfl) (by kernel_rfl) (by kernel_rfl) (by exact fun _ _ _ h => h) (HEd.out) (by rfl) ?_ ?_; rotate_left; (· intro W HW; go_simp; try with_reducible rfl)
        simp only [Act.put, List.setIfInBounds_toArray, List.set_cons_zero, List.set_cons_succ]
        refine rests_take 8 (oi := _) (v := ?_) (by simp only [List.getElem?_toArray, List.getElem?_cons_succ, List.getElem?_cons_zero]; rfl) (by kernel_rfl) (by kernel_rfl) (by kernel_rfl) (by exact fun _ _ _ h => h) (HEd.out) (by rfl) ?_ ?_; rotate_left; (· intro W HW; go_simp; try with_reducible rfl)
        simp only [Act.put, List.setIfInBounds_toArray, List.set_cons_zero, List.set_cons_succ]
        refine rests_take 9 (oi := _) (v := ?_) (by simp only [List.getElem?_toArray, List.getElem?_cons_succ, List.getElem?_cons_zero]; rfl) (by kernel_rfl) (by kernel_rfl) (by kernel_rfl) (by exact fun _ _ _ h => h) (HEd.out) (by rfl) ?_ ?_; rotate_left; (· intro W HW; have z4 : W.cell? ⟨g, 4, none⟩ = some (.int .i64 (nx : Int)) := cell_at HW 4 _ rfl; go_simp; try with_reducible rfl)
        simp only [Act.put, List.setIfInBounds_toArray, List.set_cons_zero, List.set_cons_succ]
        refine rests_take 10 (oi := _) (v := ?_) (by simp only [List.getElem?_toArray, List.getElem?_cons_succ, List.getElem?_cons_zero]; rfl) (by kernel_rfl) (by kernel_rfl) (by kernel_rfl) (by exact fun _ _ _ h => h) (HEd.out) (by rfl) ?_ ?_; rotate_left; (· intro W HW; go_simp; try with_reducible rfl)
        simp only [Act.put, List.setIfInBounds_toArray, List.set_cons_zero, List.set_cons_succ]
        obtain ⟨g5, hg5⟩ : ∃ g, g = (wr.drew).heap.size := ⟨_, rfl⟩
        have hal5 := CellW.new (wr.drew) #[.int .i64 0, .int .i64 0, .bool false, .int .i64 2, .int .i64 0, .int .i64 (nx : Int), .int .i64 0, .bool false, .string ⟨#[]⟩] 37
        rw [← hg5] at hal5
        obtain ⟨w5, hw5⟩ : ∃ wz, wz = (wr.drew).alloc (.cells #[.int .i64 0, .int .i64 0, .bool false, .int .i64 2, .int .i64 0, .int .i64 (nx : Int), .int .i64 0, .bool false, .string ⟨#[]⟩] 37) := ⟨_, rfl⟩
        rw [← hw5] at hal5
        have HS5 := Lib.hid (HSd.out.add (((((CellW.stab _ _ _).star (ROut.stab _ _)).star (OwnK.stab _ _ _ _ _)).star (OwnK.stab _ _ _ _ _)).star (OwnK.stab _ _ _ _ _)) hal5)
        have HE5 : Hid ((fun W => W.heap[g]? = some (.cells #[.int .i64 2, .int .i64 sz, .bool true, .pointer (some ⟨go, 0, none⟩), .int .i64 (nx : Int), .bool od] 58 (0, 0))) w5) := (Done.at_ (C := fun X => Star (Star (Star (Star (Star (X) (ROut go (OutM.burst ⟨W, f, l, sn⟩))) (OwnK 3 1 (.slice A1 0 c1) 0 (nsU f 0))) (OwnK 9 1 (.slice A2 0 c2) 0 (bsU l 0))) (OwnK 37 9 (.slice A3 0 c3) 0 (plU false nx f l 0))) (CellW g5 #[.int .i64 0, .int .i64 0, .bool false, .int .i64 2, .int .i64 0, .int .i64 (nx : Int), .int .i64 0, .bool false, .string ⟨#[]⟩] 37)) (Fr.l (Fr.l (Fr.l (Fr.l (Fr.l Fr.id_ (ROut.stab _ _)) (OwnK.stab _ _ _ _ _)) (OwnK.stab _ _ _ _ _)) (OwnK.stab _ _ _ _ _)) (CellW.stab _ _ _)) HS5.out)
        refine rests_run 11 (oi := _) (by simp only [List.getElem?_toArray, List.getElem?_cons_succ, List.getElem?_cons_zero]; rfl) (by kernel_rfl) (by rfl) (.slice (some ⟨g5, 0, none⟩) 1 1) w5 (by rw [hg5, hw5]; go_simp) ⟨HE5.out, ?_⟩
        clear hg5 hal5 hw5
        simp only [Act.put, List.setIfInBounds_toArray, List.set_cons_zero, List.set_cons_succ]
        refine rests_take 12 (oi := _) (v := ?_) (by simp only [List.getElem?_toArray, List.getElem?_cons_succ, List.getElem?_cons_zero]; rfl) (by kernel_rfl) (by kernel_rfl) (by kernel_rfl) (by exact fun _ _ _ h => h) (HE5.out) (by rfl) ?_ ?_; rotate_left; (· intro W HW; go_simp; try with_reducible rfl)
        simp only [Act.put, List.setIfInBounds_toArray, List.set_cons_zero, List.set_cons_succ]
        refine rests_done (by kernel_rfl) ?_
        have q5 : w5.cell? ⟨g, 5, none⟩ = some (.bool od) := cell_at (Done.at_ (C := fun X => Star (Star (Star (Star (Star (X) (ROut go (OutM.burst ⟨W, f, l, sn⟩))) (OwnK 3 1 (.slice A1 0 c1) 0 (nsU f 0))) (OwnK 9 1 (.slice A2 0 c2) 0 (bsU l 0))) (OwnK 37 9 (.slice A3 0 c3) 0 (plU false nx f l 0))) (CellW g5 #[.int .i64 0, .int .i64 0, .bool false, .int .i64 2, .int .i64 0, .int .i64 (nx : Int), .int .i64 0, .bool false, .string ⟨#[]⟩] 37)) (Fr.l (Fr.l (Fr.l (Fr.l (Fr.l Fr.id_ (ROut.stab _ _)) (OwnK.stab _ _ _ _ _)) (OwnK.stab _ _ _ _ _)) (OwnK.stab _ _ _ _ _)) (CellW.stab _ _ _)) HS5.out) 5 _ rfl
        rcases od with _ | _
        · go_wp2_with (first
            | ((with_reducible refine wpList_storeD (C := fun X => Star (Star (Star (Star (Star (CellW g #[.int .i64 2, .int .i64 sz, .bool true, .pointer (some ⟨go, 0, none⟩), .int .i64 (nx : Int), .bool false] 58) (ROut go (OutM.burst ⟨W, f, l, sn⟩))) (OwnK 3 1 (.slice A1 0 c1) 0 (nsU f 0))) (OwnK 9 1 (.slice A2 0 c2) 0 (bsU l 0))) (OwnK 37 9 (.slice A3 0 c3) 0 (plU false nx f l 0))) X) (Fr.r (((((CellW.stab _ _ _).star (ROut.stab _ _)).star (OwnK.stab _ _ _ _ _)).star (OwnK.stab _ _ _ _ _)).star (OwnK.stab _ _ _ _ _)) Fr.id_) HS5.out rfl 4 (.tmp 76) (.const (.bool true)) rfl 7 (.bool true) rfl rfl (by simp) (run_storeBo _ _ _) ?_); intro w6 hs; have HS6 : Hid (Done w F (Star (Star (Star (Star (Star (CellW g #[.int .i64 2, .int .i64 sz, .bool true, .pointer (some ⟨go, 0, none⟩), .int .i64 (nx : Int), .bool false] 58) (ROut go (OutM.burst ⟨W, f, l, sn⟩))) (OwnK 3 1 (.slice A1 0 c1) 0 (nsU f 0))) (OwnK 9 1 (.slice A2 0 c2) 0 (bsU l 0))) (OwnK 37 9 (.slice A3 0 c3) 0 (plU false nx f l 0))) (CellW g5 #[.int .i64 0, .int .i64 0, .bool false, .int .i64 2, .int .i64 0, .int .i64 (nx : Int), .int .i64 0, .bool true, .string ⟨#[]⟩] 37)) w6) := (by show Done _ _ _ _; exact hs); clear hs)
            | ((with_reducible refine wpList_storeD (C := fun X => Star (Star (Star (Star (Star (X) (ROut go (OutM.burst ⟨W, f, l, sn⟩))) (OwnK 3 1 (.slice A1 0 c1) 0 (nsU f 0))) (OwnK 9 1 (.slice A2 0 c2) 0 (bsU l 0))) (OwnK 37 9 (.slice A3 0 c3) 0 (plU false nx f l 0))) (CellW g5 #[.int .i64 0, .int .i64 0, .bool false, .int .i64 2, .int .i64 0, .int .i64 (nx : Int), .int .i64 0, .bool true, .string ⟨#[]⟩] 37)) (Fr.l (Fr.l (Fr.l (Fr.l (Fr.l Fr.id_ (ROut.stab _ _)) (OwnK.stab _ _ _ _ _)) (OwnK.stab _ _ _ _ _)) (OwnK.stab _ _ _ _ _)) (CellW.stab _ _ _)) HS6.out rfl 4 (.tmp 79) (.const (.bool false)) rfl 2 (.bool false) rfl rfl (by simp) (run_storeBo _ _ _) ?_); intro w7 hs; have HS7 : Hid (Done w F (Star (Star (Star (Star (Star (CellW g #[.int .i64 2, .int .i64 sz, .bool false, .pointer (some ⟨go, 0, none⟩), .int .i64 (nx : Int), .bool false] 58) (ROut go (OutM.burst ⟨W, f, l, sn⟩))) (OwnK 3 1 (.slice A1 0 c1) 0 (nsU f 0))) (OwnK 9 1 (.slice A2 0 c2) 0 (bsU l 0))) (OwnK 37 9 (.slice A3 0 c3) 0 (plU false nx f l 0))) (CellW g5 #[.int .i64 0, .int .i64 0, .bool false, .int .i64 2, .int .i64 0, .int .i64 (nx : Int), .int .i64 0, .bool true, .string ⟨#[]⟩] 37)) w7) := (by show Done _ _ _ _; exact hs); clear hs))
          go_ret
          rw [HSY.out]
          refine ⟨_, _, rfl, by simp [maxLen], ?_⟩
          have h9 : Done w F (Star (Star (CellW g #[.int .i64 2, .int .i64 sz, .bool false, .pointer (some ⟨go, 0, none⟩), .int .i64 (nx : Int), .bool false] 58) (ROut go (OutM.burst ⟨W, f, l, sn⟩))) (CellW g5 #[.int .i64 0, .int .i64 0, .bool false, .int .i64 2, .int .i64 0, .int .i64 (nx : Int), .int .i64 0, .bool true, .string ⟨#[]⟩] 37)) _ := HS7.out.drop_mid.drop_mid.drop_mid
          exact (h9.mono_at (C := fun X => Star X (CellW g5 #[.int .i64 0, .int .i64 0, .bool false, .int .i64 2, .int .i64 0, .int .i64 (nx : Int), .int .i64 0, .bool true, .string ⟨#[]⟩] 37)) (Fr.l Fr.id_ (CellW.stab _ _ _)) (fun F hF => ⟨HOK2.out, go, hF⟩)).mono_at (C := fun X => Star (RTn g _) X) (Fr.r (RTn.stab _ _) Fr.id_) (fun F hF => hF.own rfl)
        · go_wp2_with (first
            | ((with_reducible refine wpList_storeD (C := fun X => Star (Star (Star (Star (Star (CellW g #[.int .i64 2, .int .i64 sz, .bool true, .pointer (some ⟨go, 0, none⟩), .int .i64 (nx : Int), .bool true] 58) (ROut go (OutM.burst ⟨W, f, l, sn⟩))) (OwnK 3 1 (.slice A1 0 c1) 0 (nsU f 0))) (OwnK 9 1 (.slice A2 0 c2) 0 (bsU l 0))) (OwnK 37 9 (.slice A3 0 c3) 0 (plU false nx f l 0))) X) (Fr.r (((((CellW.stab _ _ _).star (ROut.stab _ _)).star (OwnK.stab _ _ _ _ _)).star (OwnK.stab _ _ _ _ _)).star (OwnK.stab _ _ _ _ _)) Fr.id_) HS5.out rfl 3 (.tmp 70) (.const (.int .i64 2)) rfl 4 (.int .i64 2) rfl rfl (by simp) (run_storeI _ _ _) ?_); intro w6 hs; have HS6 : Hid (Done w F (Star (Star (Star (Star (Star (CellW g #[.int .i64 2, .int .i64 sz, .bool true, .pointer (some ⟨go, 0, none⟩), .int .i64 (nx : Int), .bool true] 58) (ROut go (OutM.burst ⟨W, f, l, sn⟩))) (OwnK 3 1 (.slice A1 0 c1) 0 (nsU f 0))) (OwnK 9 1 (.slice A2 0 c2) 0 (bsU l 0))) (OwnK 37 9 (.slice A3 0 c3) 0 (plU false nx f l 0))) (CellW g5 #[.int .i64 0, .int .i64 0, .bool false, .int .i64 2, .int .i64 2, .int .i64 (nx : Int), .int .i64 0, .bool false, .string ⟨#[]⟩] 37)) w6) := (by show Done _ _ _ _; exact hs); clear hs)
            | ((with_reducible refine wpList_storeD (C := fun X => Star (Star (Star (Star (Star (CellW g #[.int .i64 2, .int .i64 sz, .bool true, .pointer (some ⟨go, 0, none⟩), .int .i64 (nx : Int), .bool true] 58) (ROut go (OutM.burst ⟨W, f, l, sn⟩))) (OwnK 3 1 (.slice A1 0 c1) 0 (nsU f 0))) (OwnK 9 1 (.slice A2 0 c2) 0 (bsU l 0))) (OwnK 37 9 (.slice A3 0 c3) 0 (plU false nx f l 0))) X) (Fr.r (((((CellW.stab _ _ _).star (ROut.stab _ _)).star (OwnK.stab _ _ _ _ _)).star (OwnK.stab _ _ _ _ _)).star (OwnK.stab _ _ _ _ _)) Fr.id_) HS6.out rfl 4 (.tmp 76) (.const (.bool true)) rfl 7 (.bool true) rfl rfl (by simp) (run_storeBo _ _ _) ?_); intro w7 hs; have HS7 : Hid (Done w F (Star (Star (Star (Star (Star (CellW g #[.int .i64 2, .int .i64 sz, .bool true, .pointer (some ⟨go, 0, none⟩), .int .i64 (nx : Int), .bool true] 58) (ROut go (OutM.burst ⟨W, f, l, sn⟩))) (OwnK 3 1 (.slice A1 0 c1) 0 (nsU f 0))) (OwnK 9 1 (.slice A2 0 c2) 0 (bsU l 0))) (OwnK 37 9 (.slice A3 0 c3) 0 (plU false nx f l 0))) (CellW g5 #[.int .i64 0, .int .i64 0, .bool false, .int .i64 2, .int .i64 2, .int .i64 (nx : Int), .int .i64 0, .bool true, .string ⟨#[]⟩] 37)) w7) := (by show Done _ _ _ _; exact hs); clear hs)
            | ((with_reducible refine wpList_storeD (C := fun X => Star (Star (Star (Star (Star (X) (ROut go (OutM.burst ⟨W, f, l, sn⟩))) (OwnK 3 1 (.slice A1 0 c1) 0 (nsU f 0))) (OwnK 9 1 (.slice A2 0 c2) 0 (bsU l 0))) (OwnK 37 9 (.slice A3 0 c3) 0 (plU false nx f l 0))) (CellW g5 #[.int .i64 0, .int .i64 0, .bool false, .int .i64 2, .int .i64 2, .int .i64 (nx : Int), .int .i64 0, .bool true, .string ⟨#[]⟩] 37)) (Fr.l (Fr.l (Fr.l (Fr.l (Fr.l Fr.id_ (ROut.stab _ _)) (OwnK.stab _ _ _ _ _)) (OwnK.stab _ _ _ _ _)) (OwnK.stab _ _ _ _ _)) (CellW.stab _ _ _)) HS7.out rfl 4 (.tmp 79) (.const (.bool false)) rfl 2 (.bool false) rfl rfl (by simp) (run_storeBo _ _ _) ?_); intro w8 hs; have HS8 : Hid (Done w F (Star (Star (Star (Star (Star (CellW g #[.int .i64 2, .int .i64 sz, .bool false, .pointer (some ⟨go, 0, none⟩), .int .i64 (nx : Int), .bool true] 58) (ROut go (OutM.burst ⟨W, f, l, sn⟩))) (OwnK 3 1 (.slice A1 0 c1) 0 (nsU f 0))) (OwnK 9 1 (.slice A2 0 c2) 0 (bsU l 0))) (OwnK 37 9 (.slice A3 0 c3) 0 (plU false nx f l 0))) (CellW g5 #[.int .i64 0, .int .i64 0, .bool false, .int .i64 2, .int .i64 2, .int .i64 (nx : Int), .int .i64 0, .bool true, .string ⟨#[]⟩] 37)) w8) := (by show Done _ _ _ _; exact hs); clear hs))
          go_ret
          rw [HSY.out]
          refine ⟨_, _, rfl, by simp [maxLen], ?_⟩
          have h9 : Done w F (Star (Star (CellW g #[.int .i64 2, .int .i64 sz, .bool false, .pointer (some ⟨go, 0, none⟩), .int .i64 (nx : Int), .bool true] 58) (ROut go (OutM.burst ⟨W, f, l, sn⟩))) (CellW g5 #[.int .i64 0, .int .i64 0, .bool false, .int .i64 2, .int .i64 2, .int .i64 (nx : Int), .int .i64 0, .bool true, .string ⟨#[]⟩] 37)) _ := HS8.out.drop_mid.drop_mid.drop_mid
          exact (h9.mono_at (C := fun X => Star X (CellW g5 #[.int .i64 0, .int .i64 0, .bool false, .int .i64 2, .int .i64 2, .int .i64 (nx : Int), .int .i64 0, .bool true, .string ⟨#[]⟩] 37)) (Fr.l Fr.id_ (CellW.stab _ _ _)) (fun F hF => ⟨HOK2.out, go, hF⟩)).mono_at (C := fun X => Star (RTn g _) X) (Fr.r (RTn.stab _ _) Fr.id_) (fun F hF => hF.own rfl)
      · obtain ⟨k, hKk⟩ : ∃ k, K = k + 1 := ⟨K - 1, by omega⟩
        obtain ⟨hs1, hs2⟩ := plU_says (sz := sz) (nx := nx) (od := od) (show false = decide ((2 : Int) = 1) by decide) (show OutM.k ⟨W, f, l, sn⟩ = k + 1 by rw [← hKk]; exact HKe.out)
        rw [← hKk] at hs1 hs2
        have HY1 := Lib.hid hs1
        have HY2 := Lib.hid hs2
        have hfb := ((Done.get (C := fun X => Star (Star (Star (Star (CellW g #[.int .i64 2, .int .i64 sz, .bool true, .pointer (some ⟨go, 0, none⟩), .int .i64 (nx : Int), .bool od] 58) (ROut go (OutM.burst ⟨W, f, l, sn⟩))) (OwnK 3 1 (.slice A1 K c1) K (nsU f K))) (OwnK 9 1 (.slice A2 K c2) K (bsU l K))) X) (Fr.r ((((CellW.stab _ _ _).star (ROut.stab _ _)).star (OwnK.stab _ _ _ _ _)).star (OwnK.stab _ _ _ _ _)) Fr.id_) HSs.out).elim fun _ h => own_form h.2)
        obtain ⟨b3, rfl⟩ : ∃ b, A3 = some ⟨b, 0, none⟩ := by
          rcases hfb with ⟨h0, _⟩ | h0
          · omega
          · exact h0
        have t2 : ((K : Int) == 0) = false := beq_eq_false_iff_ne.2 (by omega)
        have e6 : IntKind.i64.wrap ((K : Int) - 1) = (k : Int) := by rw [show (K : Int) - 1 = (k : Int) by omega]; exact IntWalk.i64_in _ (by have := HK7.out; omega)
        have tk : (k : Int) < (K : Int) := by omega
        have tk2 : k < K := by omega
        have tc3 : (K : Int) ≤ (c3 : Int) := by have := HCC.out.1; omega
        have HLN : Hid (k * 9 + 7 < (plU false nx f l K).length) := by show _ < _; rw [plU_len]; omega
        clear hs1 hs2 hfb hKk
        go_wp2_with (first
          | ((with_reducible refine wpList_storeKD (C := fun X => Star (Star (Star (Star (CellW g #[.int .i64 2, .int .i64 sz, .bool true, .pointer (some ⟨go, 0, none⟩), .int .i64 (nx : Int), .bool od] 58) (ROut go (OutM.burst ⟨W, f, l, sn⟩))) (OwnK 3 1 (.slice A1 K c1) K (nsU f K))) (OwnK 9 1 (.slice A2 K c2) K (bsU l K))) X) (Fr.r ((((CellW.stab _ _ _).star (ROut.stab _ _)).star (OwnK.stab _ _ _ _ _)).star (OwnK.stab _ _ _ _ _)) Fr.id_) HSs.out rfl 4 (.tmp 76) (.const (.bool true)) rfl (k * 9 + 7) (.bool true) rfl rfl HLN.out (run_storeBo _ _ _) ?_); intro w2 hs; have HS2 := Lib.hid hs; clear hs)
          | ((with_reducible refine wpList_storeD (C := fun X => Star (Star (Star (Star (X) (ROut go (OutM.burst ⟨W, f, l, sn⟩))) (OwnK 3 1 (.slice A1 K c1) K (nsU f K))) (OwnK 9 1 (.slice A2 K c2) K (bsU l K))) (OwnK 37 9 (.slice (some ⟨b3, 0, none⟩) K c3) K ((plU false nx f l K).set (k * 9 + 7) (.bool true)))) (Fr.l (Fr.l (Fr.l (Fr.l Fr.id_ (ROut.stab _ _)) (OwnK.stab _ _ _ _ _)) (OwnK.stab _ _ _ _ _)) (OwnK.stab _ _ _ _ _)) HS2.out rfl 4 (.tmp 79) (.const (.bool false)) rfl 2 (.bool false) rfl rfl (by simp) (run_storeBo _ _ _) ?_); intro w3 hs; have HS3 : Hid (Done w F (Star (Star (Star (Star (CellW g #[.int .i64 2, .int .i64 sz, .bool false, .pointer (some ⟨go, 0, none⟩), .int .i64 (nx : Int), .bool od] 58) (ROut go (OutM.burst ⟨W, f, l, sn⟩))) (OwnK 3 1 (.slice A1 K c1) K (nsU f K))) (OwnK 9 1 (.slice A2 K c2) K (bsU l K))) (OwnK 37 9 (.slice (some ⟨b3, 0, none⟩) K c3) K ((plU false nx f l K).set (k * 9 + 7) (.bool true)))) w3) := (by show Done _ _ _ _; exact hs); clear hs))
        go_ret
        rw [HY2.out, ← HY1.out]
        refine ⟨_, _, rfl, HCC.out, ?_⟩
        have h9 : Done w F (Star (Star (CellW g #[.int .i64 2, .int .i64 sz, .bool false, .pointer (some ⟨go, 0, none⟩), .int .i64 (nx : Int), .bool od] 58) (ROut go (OutM.burst ⟨W, f, l, sn⟩))) (OwnK 37 9 (.slice (some ⟨b3, 0, none⟩) K c3) K ((plU false nx f l K).set (k * 9 + 7) (.bool true)))) _ := HS3.out.drop_mid.drop_mid
        exact h9.mono_at (C := fun X => Star X (OwnK 37 9 (.slice (some ⟨b3, 0, none⟩) K c3) K ((plU false nx f l K).set (k * 9 + 7) (.bool true)))) (Fr.l Fr.id_ (OwnK.stab _ _ _ _ _)) (fun F hF => ⟨HOK2.out, go, hF⟩)
end Go.Proofs.YtocjhpaackccpaaGreatDoor
