/- The reference of layer 12: what is sent. -/
import Derived.Test.YtocjhpaackccpaaGreatDoorN12C
import Derived.Test.YtocjhpaackccpaaGreatDoorN12A
import Derived.Test.YtocjhpaackccpaaGreatDoorM4H

set_option linter.all false

namespace Go.Proofs.YtocjhpaackccpaaGreatDoor
open Go.RowKit M

def outc (o : OutM) (v : Value) : Array Value := #[.int .i64 (o.win : Int), .int .i64 (o.first : Int), v, .int .i64 (o.sent : Int)]
def ROut2 (go : Nat) (v : Value) (o : OutM) : Obj := Star (CellW go (outc o v) 61) (OwnK 9 1 v o.l.length (strg o.l))
/-- The reference's Out at go. -/
def ROut (go : Nat) (o : OutM) : Obj := fun w F => o.ok ∧ ∃ v, ROut2 go v o w F
theorem ROut2.stab (go : Nat) (v : Value) (o : OutM) : Stab (ROut2 go v o) := (CellW.stab _ _ _).star (OwnK.stab _ _ _ _ _)
theorem ROut.stab (go : Nat) (o : OutM) : Stab (ROut go o) where
  in_ := fun ⟨_, v, h⟩ => (ROut2.stab go v o).in_ h
  tch := fun ⟨h1, v, h⟩ ht hd => ⟨h1, v, (ROut2.stab go v o).tch h ht hd⟩
theorem ROut.shape {go : Nat} {o : OutM} {w : World} {F : List Nat} (h : ROut go o w F) : o.ok ∧ ∃ A c, (o.l.length ≤ c ∧ c ≤ maxLen) ∧ ROut2 go (.slice A o.l.length c) o w F := by
  obtain ⟨h1, v, F1, F2, rfl, k1, k2, k3⟩ := h
  obtain ⟨A, c, rfl, e1, e2⟩ := k2.shape
  exact ⟨h1, A, c, ⟨e1, e2⟩, F1, F2, rfl, k1, k2, k3⟩
theorem ROut.cells {go : Nat} {o : OutM} {w : World} {F : List Nat} (h : ROut go o w F) : ∃ A c, w.heap[go]? = some (.cells (outc o (.slice A o.l.length c)) 61 (0, 0)) := by
  obtain ⟨_, A, c, _, F1, F2, _, k1, _, _⟩ := h.shape
  exact ⟨A, c, k1.2⟩
set_option maxRecDepth 100000 in
set_option maxHeartbeats 16000000 in
theorem RONew_any (n : Int) (w : World) : Calls Tryz.prog 59 #[.int .i64 n] w fun e w' => ∃ go, e = .returned (.pointer (some ⟨go, 0, none⟩)) ∧ Done w [] (ROut go (OutM.new n)) w' := by
  have e1 : ((OutM.new n).win : Int) = max 1 (min n 7) := by show (((max 1 (min n 7)).toNat : Nat) : Int) = _; omega
  have hok := OutM.ok_new n
  have h0 : OutM.new n = ⟨(OutM.new n).win, 0, [], 0⟩ := rfl
  rw [h0] at hok ⊢
  generalize (OutM.new n).win = W at e1 hok ⊢
  have HW := Lib.hid e1
  have HOK := Lib.hid hok
  clear e1 hok h0
  go_enter Tryz.func59, Tryz.ntmps59
  go_wp2
  all_goals
    go_ret
    refine ⟨w.heap.size, rfl, ?_⟩
    refine ((CellW.new w _ 61).add (CellW.stab _ _ _) (OwnK.nilD 9 1 _)).mono fun F hF => ⟨HOK.out, .slice none 0 0, ?_⟩
    unfold ROut2 outc
    simp only
    rw [HW.out]
    first
      | exact hF
      | (rw [show max 1 (min n 7) = 7 by omega]; exact hF)
      | (rw [show max 1 (min n 7) = n by omega]; exact hF)
      | (rw [show max 1 (min n 7) = 1 by omega]; exact hF)
set_option maxRecDepth 100000 in
set_option maxHeartbeats 16000000 in
theorem ROPut_any (go : Nat) (o : OutM) (F : List Nat) (s : ByteArray) (w : World) (h : ROut go o w F) : Calls Tryz.prog 60 #[.pointer (some ⟨go, 0, none⟩), .string s] w fun e w' => e = .returned (.int .i64 (if o.full then 3 else 0)) ∧ Done w F (ROut go (o.put s)) w' := by
  obtain ⟨hok, A, cap, hcap, h⟩ := h.shape
  obtain ⟨W, f, l, sn⟩ := o
  unfold ROut2 outc at h
  simp only at h hcap
  obtain ⟨n, hn⟩ : ∃ n, n = l.length := ⟨_, rfl⟩
  rw [← hn] at h hcap
  have hS := Done.start h
  have hg := (Done.at_ (C := fun X => Star (X) (OwnK 9 1 (.slice A n cap) n (strg l))) (Fr.l Fr.id_ (OwnK.stab _ _ _ _ _)) hS)
  have q2 : w.cell? ⟨go, 2, none⟩ = some (.slice A n cap) := cell_at hg 2 _ rfl
  have hl8 := hok.len
  simp only [← hn] at hl8
  have hlen : n ≤ 1000000 := by omega
  have HOK := Lib.hid hok
  have HN := Lib.hid hn
  have HS := Lib.hid hS
  by_cases hf : 8 ≤ n
  · have e1 : OutM.full ⟨W, f, l, sn⟩ = true := decide_eq_true (by show 8 ≤ l.length; omega)
    have e2 : OutM.put ⟨W, f, l, sn⟩ s = ⟨W, f, l, sn⟩ := by unfold OutM.put; rw [e1]; rfl
    rw [e1, e2]
    have t1 : decide ((8 : Int) ≤ (n : Int)) = true := decide_eq_true (by omega)
    clear hok hn hS hg h e1 e2 hf hl8
    go_enter Tryz.func60, Tryz.ntmps60
    go_wp2
    go_ret
    refine ⟨rfl, HS.out.mono fun F hF => ?_⟩
    have e := HN.out
    subst e
    exact ⟨HOK.out, _, hF⟩
  · have e1 : OutM.full ⟨W, f, l, sn⟩ = false := decide_eq_false (by show ¬ 8 ≤ l.length; omega)
    have e2 : OutM.put ⟨W, f, l, sn⟩ s = ⟨W, f, l ++ [s], sn⟩ := by unfold OutM.put; rw [e1]; rfl
    have hok2 := hok.put s
    rw [e2] at hok2
    rw [e1, e2]
    have HOK2 := Lib.hid hok2
    have t1 : decide ((8 : Int) ≤ (n : Int)) = false := decide_eq_false (by omega)
    have HT := Lib.hid (HS.out.add ((CellW.stab _ _ _).star (OwnK.stab _ _ _ _ _)) (CellW.new w #[.string s] 9))
    have HB : Hid (n + 1 ≤ 1000000) := by show _ ≤ _; omega
    clear hok hn hS hg h e1 e2 hf hl8 hok2 hlen
    go_enter Tryz.func60, Tryz.ntmps60
    go_wp2_with (first
      | (at_builtin; (with_reducible refine wpList_appD (C := fun X => Star (Star (CellW go #[.int .i64 (W : Int), .int .i64 (f : Int), .slice A n cap, .int .i64 (sn : Int)] 61) X) (CellW w.heap.size #[.string s] 9)) (Fr.l (Fr.r (CellW.stab _ _ _) Fr.id_) (CellW.stab _ _ _)) HT.out rfl _ _ 59 16 (.string ⟨#[]⟩) rfl Tryz.underlying59 (by kernel_rfl) rfl (by decide) (.slice (some ⟨w.heap.size, 0, none⟩) 1 1) 1 [.string s] rfl rfl (rdG_new (Done.at_ (C := fun X => Star (Star (CellW go #[.int .i64 (W : Int), .int .i64 (f : Int), .slice A n cap, .int .i64 (sn : Int)] 61) (OwnK 9 1 (.slice A n cap) n (strg l))) X) (Fr.r ((CellW.stab _ _ _).star (OwnK.stab _ _ _ _ _)) Fr.id_) HT.out) rfl) (by simp [Value.oneCell']) (n + 1) rfl HB.out (strg (l ++ [s])) (by simp [strg]) ?_); intro A1 c1 w1 hs hc; have HS1 := Lib.hid hs; clear hs)
      | ((with_reducible refine wpList_storeD (C := fun X => Star (Star (X) (OwnK 9 1 (.slice A1 (n + 1) c1) (n + 1) (strg (l ++ [s])))) (CellW w.heap.size #[.string s] 9)) (Fr.l (Fr.l Fr.id_ (OwnK.stab _ _ _ _ _)) (CellW.stab _ _ _)) HS1.out rfl 59 (.tmp 20) (.tmp 18) rfl 2 (.slice A1 (n + 1) c1) rfl rfl (by simp) (run_storeS _ _ _ _ _) ?_); intro w2 hs; have HS2 : Hid (Done w F (Star (Star (CellW go #[.int .i64 (W : Int), .int .i64 (f : Int), .slice A1 (n + 1) c1, .int .i64 (sn : Int)] 61) (OwnK 9 1 (.slice A1 (n + 1) c1) (n + 1) (strg (l ++ [s])))) (CellW w.heap.size #[.string s] 9)) w2) := (by show Done _ _ _ _; exact hs); clear hs))
    go_ret
    refine ⟨rfl, HS2.out.drop.mono fun F hF => ⟨HOK2.out, .slice A1 (n + 1) c1, ?_⟩⟩
    have e : (l ++ [s]).length = n + 1 := by rw [HN.out]; simp
    unfold ROut2 outc
    simp only
    rw [e]
    exact hF
end Go.Proofs.YtocjhpaackccpaaGreatDoor
