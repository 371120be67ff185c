/- Two says held: Eq of glowwormlaw12. -/
import Derived.Test.YtocjhpaackccpaaGreatDoorN12D
import Derived.Test.YtocjhpaackccpaaGreatDoorM4H
import Derived.Test.YtocjhpaackccpaaGreatDoorN12A

set_option linter.all false

namespace Go.Proofs.YtocjhpaackccpaaGreatDoor
open Go.RowKit M

theorem RdG.plain {n c b off i m : Nat} {l : List PIn} {w : World} {p : PIn} (h : RdG 9 w (.slice (some ⟨b, off, none⟩) n c) m (plcs l)) (hp : l[i]? = some p) : w.rangeAt b (off + i * 9) (pcs p) := by
  intro j u hu
  rw [Nat.add_assoc]
  have hi := (List.getElem?_eq_some_iff.1 hp)
  have hj : j < 9 := (List.getElem?_eq_some_iff.1 hu).1
  have hml : m = l.length := by
    have h1 := h.1
    unfold plcs at h1
    rw [flat_length (f := pcs) (k := 9) (fun _ => rfl)] at h1
    omega
  obtain ⟨_, A, cap, e, _, _, h3⟩ := h
  injection e with e
  subst e
  obtain ⟨b', off', e', _, hc⟩ := h3 (by have := hi.1; omega)
  injection e' with e'
  injection e' with e1 e2
  subst e1; subst e2
  refine hc _ u ?_
  unfold plcs
  rw [flat_at (f := pcs) (k := 9) (fun _ => rfl) l i j hi.1 hj, hi.2]
  exact hu
theorem RdG.addr {k n m c : Nat} {A : Option Addr} {w : World} {xs : List Value} (h : RdG k w (.slice A n c) m xs) (hm : 0 < m) : ∃ b off, A = some ⟨b, off, none⟩ := by
  obtain ⟨_, A', cap, e, _, _, h3⟩ := h
  injection e with e
  subst e
  obtain ⟨b, off, e', _, _⟩ := h3 hm
  exact ⟨b, off, e'⟩
set_option maxRecDepth 100000 in
set_option maxHeartbeats 16000000 in
theorem EqPl_any (a b : Value) (l : List PIn) (n : Nat) (w : World) (hn : n = l.length) (ha : RdG 9 w a n (plcs l)) (hb : RdG 9 w b n (plcs l)) (hl : n ≤ 1000) : Calls Tryz.prog 33 #[a, b] w fun e w' => e = .returned (.bool true) ∧ Below w.heap.size w w' := by
  obtain ⟨A, c, rfl, hc1, hc2⟩ := ha.shape
  obtain ⟨B, d, rfl, hd1, hd2⟩ := hb.shape
  have HN := Lib.hid hn
  have HA := Lib.hid ha
  have HB := Lib.hid hb
  have HL := Lib.hid hl
  have HC1 := Lib.hid hc1
  have HD1 := Lib.hid hd1
  clear hn ha hb hl hc1 hc2 hd1 hd2
  go_enter Tryz.func33, Tryz.ntmps33
  go_wp2
  go_loopw [13] (fun jv wr => ∃ j : Nat, j ≤ n ∧ jv = .int .i64 (j : Int) ∧ Below w.heap.size w wr) (fun jv _ => (1001 - intOf jv).toNat)
  case atStart => exact ⟨0, by omega, rfl, Below.refl _ _⟩
  case round =>
    obtain ⟨j, hjn, rfl, hbel⟩ := hrel
    have HE := Lib.hid hbel
    clear hbel
    by_cases hlt : j < n
    · have t1 : decide ((j : Int) < (n : Int)) = true := decide_eq_true (by omega)
      have t2 : (j : Int) < (n : Int) := by omega
      have tc1 : (n : Int) ≤ (c : Int) := by have := HC1.out; omega
      have tc2 : (n : Int) ≤ (d : Int) := by have := HD1.out; omega
      have e1 : IntKind.i64.wrap ((j : Int) + 1) = (j : Int) + 1 := IntWalk.i64_in _ (by have := HL.out; omega)
      have hjl : j < l.length := by have := HN.out; omega
      obtain ⟨p, hp⟩ : ∃ p, l[j]? = some p := ⟨l[j], List.getElem?_eq_getElem hjl⟩
      obtain ⟨ba, oa, rfl⟩ := HA.out.addr (by omega)
      obtain ⟨bb, ob, rfl⟩ := HB.out.addr (by omega)
      have HRA := Lib.hid (range_below (HA.out.plain hp) HE.out)
      have HRB := Lib.hid (range_below (HB.out.plain hp) HE.out)
      have HNE : Hid (∀ W, (binOp .neq 37 p.val p.val).run Tryz.prog W = .ok (.bool false) W) := by show ∀ _, _; intro W; rw [neq_pin, decide_eq_true rfl]; rfl
      clear hjl hp
      go_wp2
      refine regq (fun W => Below wr.heap.size wr W) (by kernel_rfl) (by kernel_rfl) ((Below.refl _ _).drew) ?_
      refine q_take (v := ?_) (by rfl) ?_ ?_; rotate_left; (· intro W HW; go_simp; try with_reducible rfl)
      simp only [Act.put, List.setIfInBounds_toArray, List.set_cons_zero, List.set_cons_succ]
      refine q_take (v := ?_) (by rfl) ?_ ?_; rotate_left; (· intro W HW; go_simp; try with_reducible rfl)
      simp only [Act.put, List.setIfInBounds_toArray, List.set_cons_zero, List.set_cons_succ]
      refine q_take (v := ?_) (by rfl) ?_ ?_; rotate_left; (· intro W HW; go_simp; try with_reducible rfl)
      simp only [Act.put, List.setIfInBounds_toArray, List.set_cons_zero, List.set_cons_succ]
      refine q_take (v := p.val) (by rfl) (fun W HW => exec_load_mid 37 (.tmp 18) rfl ba (oa + j * 9) rfl (pcs p) _ (range_below HRA.out HW) Tryz.underlying37 rfl (by kernel_rfl)) ?_
      simp only [Act.put, List.setIfInBounds_toArray, List.set_cons_zero, List.set_cons_succ]
      refine q_take (v := ?_) (by rfl) ?_ ?_; rotate_left; (· intro W HW; go_simp; try with_reducible rfl)
      simp only [Act.put, List.setIfInBounds_toArray, List.set_cons_zero, List.set_cons_succ]
      refine q_take (v := ?_) (by rfl) ?_ ?_; rotate_left; (· intro W HW; go_simp; try with_reducible rfl)
      simp only [Act.put, List.setIfInBounds_toArray, List.set_cons_zero, List.set_cons_succ]
      refine q_take (v := ?_) (by rfl) ?_ ?_; rotate_left; (· intro W HW; go_simp; try with_reducible rfl)
      simp only [Act.put, List.setIfInBounds_toArray, List.set_cons_zero, List.set_cons_succ]
      refine q_take (v := p.val) (by rfl) (fun W HW => exec_load_mid 37 (.tmp 22) rfl bb (ob + j * 9) rfl (pcs p) _ (range_below HRB.out HW) Tryz.underlying37 rfl (by kernel_rfl)) ?_
      simp only [Act.put, List.setIfInBounds_toArray, List.set_cons_zero, List.set_cons_succ]
      refine q_take (v := .bool false) (by rfl) (fun W HW => exec_cmp rfl rfl rfl (guard_Pl _ _ _ _ _ _) (HNE.out W)) ?_
      simp only [Act.put, List.setIfInBounds_toArray, List.set_cons_zero, List.set_cons_succ]
      refine q_done ?_
      intro w7 hs7
      have HE7 := Lib.hid (HE.out.trans (hs7.mono HE.out.size))
      clear hs7
      go_wp2
      go_roundw
      case rel => exact ⟨j + 1, by omega, by go_num, HE7.out⟩
      case measure => have := HL.out; simp [intOf] <;> omega
    · have t1 : decide ((j : Int) < (n : Int)) = false := decide_eq_false (by omega)
      go_wp2
      go_ret
      exact ⟨by simp, HE.out⟩
end Go.Proofs.YtocjhpaackccpaaGreatDoor
