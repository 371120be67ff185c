/- The law TurnReject. -/
import Derived.Test.YtocjhpaackccpaaGreatDoorN12D
import Derived.Test.YtocjhpaackccpaaGreatDoorM4G
import Derived.Test.YtocjhpaackccpaaGreatDoorM4H

set_option linter.all false

namespace Go.Proofs.YtocjhpaackccpaaGreatDoor
open Go.RowKit M

theorem rej_miss {N : Nat} (h : 0 < N ∧ N < 8) : (⟨2, 8, false, ⟨1, 0, [], 0⟩, ⟨0, false⟩⟩ : TurnM).tells ⟨0, 0, true, 1, 0, 0, (N : Int), true, ⟨#[113]⟩⟩ = false ∧ (⟨2, 8, false, ⟨1, 0, [], 0⟩, ⟨0, false⟩⟩ : TurnM).take ⟨0, 0, true, 1, 0, 0, (N : Int), true, ⟨#[113]⟩⟩ = (⟨2, 8, true, ⟨1, 0, [], 0⟩, ⟨0, true⟩⟩ : TurnM) := by
  have hh : (⟨2, 8, false, ⟨1, 0, [], 0⟩, ⟨0, false⟩⟩ : TurnM).hears ⟨0, 0, true, 1, 0, 0, (N : Int), true, ⟨#[113]⟩⟩ = true := decide_eq_true ⟨by show (1 : Int) ≤ 1; decide, by show (1 : Int) ≤ 2; decide, rfl, by show (0 : Int) ≤ 0; decide, by show (0 : Int) ≤ 7; decide, by show (0 : Int) ≤ (N : Int); omega, by show (N : Int) ≤ 7; omega⟩
  have hi : InM.hit ⟨0, false⟩ (N : Int) = false := decide_eq_false (by show ¬ (N : Int) = 0; omega)
  unfold TurnM.tells TurnM.take
  rw [hh]
  show (true && (decide ((1 : Int) = 1) && InM.hit ⟨0, false⟩ (N : Int))) = false ∧ (⟨2, 8, _, _, InM.take ⟨0, false⟩ (N : Int)⟩ : TurnM) = _
  unfold InM.take
  rw [hi]
  exact ⟨rfl, rfl⟩
set_option maxRecDepth 100000 in
set_option maxHeartbeats 8000000 in
theorem TurnReject_law (ns : Int) (w : World) (hC : Codes w) : Calls Tryz.prog 13 #[.int .i64 ns] w fun e w' => e = .returned (.bool true) ∧ Below w.heap.size w w' := by
  have HC := Lib.hid hC
  clear hC
  have a1_N := Int.lt_tmod_of_pos ns (show (0 : Int) < 8 by decide)
  have a2_N := Int.tmod_lt_of_pos ns (show (0 : Int) < 8 by decide)
  obtain ⟨t_N, ht_N⟩ : ∃ t, ns.tmod 8 = t := ⟨_, rfl⟩
  rw [ht_N] at a1_N a2_N
  have e1_N : IntKind.i64.wrap t_N = t_N := IntWalk.i64_in _ (by omega)
  have e2_N : IntKind.i64.wrap (t_N + 8) = t_N + 8 := IntWalk.i64_in _ (by omega)
  obtain ⟨N, h_N⟩ : ∃ q : Nat, t_N % 8 = (q : Int) := ⟨(t_N % 8).toNat, by omega⟩
  have e3_N : (t_N + 8).tmod 8 = (N : Int) := by rw [Int.tmod_eq_emod_of_nonneg (by omega)]; omega
  have e4_N : IntKind.i64.wrap (N : Int) = (N : Int) := IntWalk.i64_in _ (by omega)
  have b_N : N < 8 := by omega
  clear a1_N a2_N
  go_enter Tryz.func13, Tryz.ntmps13
  by_cases h0 : N = 0
  · subst h0
    have z0 : ((0 : Nat) : Int) = 0 := rfl
    rw [z0] at h_N e3_N e4_N
    have HPK : Hid (PIn.okT ⟨0, 0, true, 1, 0, 0, 0, true, ⟨#[113]⟩⟩) := by show PIn.okT _; exact ⟨⟨w64 (n := 0) (by decide), w64 (n := 0) (by decide), w64 (n := 1) (by decide), w64 (n := 0) (by decide), w64 (n := 0) (by decide), w64 (n := 0) (by decide), by show (1 : Nat) ≤ maxLen; decide⟩, by show (1 : Nat) ≤ 281474976710656; decide⟩
    have HTS : Hid ((⟨#[113]⟩ : ByteArray) = (⟨2, 8, false, ⟨1, 0, [], 0⟩, ⟨0, false⟩⟩ : TurnM).told ⟨0, 0, true, 1, 0, 0, 0, true, ⟨#[113]⟩⟩) := by show _ = _; rfl
    have HTO : Hid (true = (⟨2, 8, false, ⟨1, 0, [], 0⟩, ⟨0, false⟩⟩ : TurnM).tells ⟨0, 0, true, 1, 0, 0, 0, true, ⟨#[113]⟩⟩) := by show _ = _; rfl
    have HTM : Hid ((⟨2, 8, true, ⟨1, 0, [], 0⟩, ⟨1, false⟩⟩ : TurnM) = (⟨2, 8, false, ⟨1, 0, [], 0⟩, ⟨0, false⟩⟩ : TurnM).take ⟨0, 0, true, 1, 0, 0, 0, true, ⟨#[113]⟩⟩) := by show _ = _; rfl
    have HGN : Hid (1 = (⟨2, 8, true, ⟨1, 0, [], 0⟩, ⟨1, false⟩⟩ : TurnM).says.length) := by show _ = _; rfl
    have HGX : Hid (plcs [(⟨0, 0, false, 2, 0, 1, 0, true, ⟨#[]⟩⟩ : PIn)] = plcs (⟨2, 8, true, ⟨1, 0, [], 0⟩, ⟨1, false⟩⟩ : TurnM).says) := by show _ = _; rfl
    have HGM : Hid ((⟨2, 8, false, ⟨1, 0, [], 0⟩, ⟨1, false⟩⟩ : TurnM) = (⟨2, 8, true, ⟨1, 0, [], 0⟩, ⟨1, false⟩⟩ : TurnM).go) := by show _ = _; rfl
    have HEQ : Hid (∀ W, (binOp .eql 37 (.agg #[.int .i64 0, .int .i64 0, .bool false, .int .i64 2, .int .i64 0, .int .i64 1, .int .i64 0, .bool true, .string ⟨#[]⟩]) (.agg #[.int .i64 0, .int .i64 0, .bool false, .int .i64 2, .int .i64 0, .int .i64 1, .int .i64 0, .bool true, .string ⟨#[]⟩])).run Tryz.prog W = .ok (.bool true) W) := by show ∀ _, _; exact fun W => (eql_Pl 0 0 false 2 0 1 0 true ⟨#[]⟩ 0 0 false 2 0 1 0 true ⟨#[]⟩ W).trans (by simp)
    go_wp2_with (first
      | (go_at_call 17; ((with_reducible refine (begun12_any _ HC.out).mono ?_); rintro e w1 ⟨rfl, hb⟩; have HB1 := Lib.hid (hb); clear hb))
      | (go_at_call 28; ((with_reducible refine (TnNew_S (m := (⟨2, 8, false, ⟨1, 0, [], 0⟩, ⟨0, false⟩⟩ : TurnM)) (.inr rfl) (by decide) (by decide) rfl HB1.out).mono ?_); rintro e w2 ⟨a, rfl, hs⟩; have HS2 := Lib.hid hs; clear hs))
      | (go_at_call 37; ((with_reducible refine (TnTake_C (C := fun X => X) Fr.id_ (p := ⟨0, 0, true, 1, 0, 0, 0, true, ⟨#[113]⟩⟩) HPK.out HTS.out HTO.out HTM.out HS2.out).mono ?_); rintro e w3 ⟨rfl, hs⟩; have HS3 := Lib.hid hs; clear hs))
      | (go_at_call 34; ((with_reducible refine (TnGo_C (C := fun X => X) Fr.id_ HGN.out HGX.out HGM.out HS3.out).mono ?_); rintro e w4 ⟨A, c, rfl, hc, hs⟩; have HS4 := Lib.hid hs; obtain ⟨_, hg⟩ := hs.get (C := fun X => Star (TurnW _ _) X) (Fr.r (TurnW.stab _ _) Fr.id_); obtain ⟨bl, ol, rfl⟩ := hg.addr0 (by decide); have HG4 := Lib.hid (SlW.plain (i := 0) (l := [(⟨0, 0, false, 2, 0, 1, 0, true, ⟨#[]⟩⟩ : PIn)]) hg rfl); clear hs hg)))
    refine regq (fun W => Below w4.heap.size w4 W) (by kernel_rfl) (by kernel_rfl) ((Below.refl _ _).drew) ?_
    refine q_take (v := ?_) (by rfl) ?_ ?_; rotate_left; (· intro W HW; go_simp; try with_reducible rfl)
    simp only [Act.put, List.setIfInBounds_toArray, List.set_cons_zero, List.set_cons_succ]
    refine q_take (v := ?_) (by rfl) ?_ ?_; rotate_left; (· intro W HW; go_simp; try with_reducible rfl)
    simp only [Act.put, List.setIfInBounds_toArray, List.set_cons_zero, List.set_cons_succ]
    refine q_take (v := .agg #[.int .i64 0, .int .i64 0, .bool false, .int .i64 2, .int .i64 0, .int .i64 1, .int .i64 0, .bool true, .string ⟨#[]⟩]) (by rfl) (fun W HW => exec_load_mid 37 (.tmp 46) rfl bl ol rfl (pcs (⟨0, 0, false, 2, 0, 1, 0, true, ⟨#[]⟩⟩ : PIn)) _ (range_below HG4.out HW) Tryz.underlying37 rfl (by kernel_rfl)) ?_
    simp only [Act.put, List.setIfInBounds_toArray, List.set_cons_zero, List.set_cons_succ]
    refine q_take (v := ?_) (by rfl) ?_ ?_; rotate_left; (· intro W HW; go_simp; try with_reducible rfl)
    simp only [Act.put, List.setIfInBounds_toArray, List.set_cons_zero, List.set_cons_succ]
    refine q_take (v := ?_) (by rfl) ?_ ?_; rotate_left; (· intro W HW; go_simp; try with_reducible rfl)
    simp only [Act.put, List.setIfInBounds_toArray, List.set_cons_zero, List.set_cons_succ]
    refine q_take (v := ?_) (by rfl) ?_ ?_; rotate_left; (· intro W HW; go_simp; try with_reducible rfl)
    simp only [Act.put, List.setIfInBounds_toArray, List.set_cons_zero, List.set_cons_succ]
    refine q_call 55 #[.bool true] (by rfl) (by intro W HW; go_simp) (from_same (fun W => B2i_any _ W)) ?_
    simp only [Act.put, List.setIfInBounds_toArray, List.set_cons_zero, List.set_cons_succ]
    refine q_take (v := ?_) (by rfl) ?_ ?_; rotate_left; (· intro W HW; go_simp; try with_reducible rfl)
    simp only [Act.put, List.setIfInBounds_toArray, List.set_cons_zero, List.set_cons_succ]
    refine q_take (v := .bool true) (by rfl) (fun W HW => exec_cmp (x := .tmp 47) (y := .tmp 52) rfl rfl rfl (guard_Pl _ _ _ _ _ W) (HEQ.out W)) ?_
    simp only [Act.put, List.setIfInBounds_toArray, List.set_cons_zero, List.set_cons_succ]
    refine q_take (v := ?_) (by rfl) ?_ ?_; rotate_left; (· intro W HW; go_simp; try with_reducible rfl)
    simp only [Act.put, List.setIfInBounds_toArray, List.set_cons_zero, List.set_cons_succ]
    refine q_done ?_
    intro w5 hb5
    have HS5 := Lib.hid (HS4.out.keep ((TurnW.stab _ _).star (SlW.stab _ _ _ _)) hb5)
    clear hb5
    go_wp2
    go_ret
    exact ⟨rfl, HS5.out.bel0⟩
  · have hb0 : ((N : Int) == 0) = false := beq_eq_false_iff_ne.2 (by omega)
    have hmiss : (⟨2, 8, false, ⟨1, 0, [], 0⟩, ⟨0, false⟩⟩ : TurnM).tells ⟨0, 0, true, 1, 0, 0, (N : Int), true, ⟨#[113]⟩⟩ = false ∧ (⟨2, 8, false, ⟨1, 0, [], 0⟩, ⟨0, false⟩⟩ : TurnM).take ⟨0, 0, true, 1, 0, 0, (N : Int), true, ⟨#[113]⟩⟩ = (⟨2, 8, true, ⟨1, 0, [], 0⟩, ⟨0, true⟩⟩ : TurnM) := rej_miss (by omega)
    have HPK : Hid (PIn.okT ⟨0, 0, true, 1, 0, 0, (N : Int), true, ⟨#[113]⟩⟩) := by show PIn.okT _; exact ⟨⟨w64 (n := 0) (by decide), w64 (n := 0) (by decide), w64 (n := 1) (by decide), w64 (n := 0) (by decide), w64 (n := 0) (by decide), w64 (n := (N : Int)) (by omega), by show (1 : Nat) ≤ maxLen; decide⟩, by show (1 : Nat) ≤ 281474976710656; decide⟩
    have HTS : Hid ((⟨#[]⟩ : ByteArray) = (⟨2, 8, false, ⟨1, 0, [], 0⟩, ⟨0, false⟩⟩ : TurnM).told ⟨0, 0, true, 1, 0, 0, (N : Int), true, ⟨#[113]⟩⟩) := by show _ = _; unfold TurnM.told; rw [hmiss.1]; rfl
    have HTO : Hid (false = (⟨2, 8, false, ⟨1, 0, [], 0⟩, ⟨0, false⟩⟩ : TurnM).tells ⟨0, 0, true, 1, 0, 0, (N : Int), true, ⟨#[113]⟩⟩) := by show _ = _; exact hmiss.1.symm
    have HTM : Hid ((⟨2, 8, true, ⟨1, 0, [], 0⟩, ⟨0, true⟩⟩ : TurnM) = (⟨2, 8, false, ⟨1, 0, [], 0⟩, ⟨0, false⟩⟩ : TurnM).take ⟨0, 0, true, 1, 0, 0, (N : Int), true, ⟨#[113]⟩⟩) := by show _ = _; exact hmiss.2.symm
    have HGN : Hid (1 = (⟨2, 8, true, ⟨1, 0, [], 0⟩, ⟨0, true⟩⟩ : TurnM).says.length) := by show _ = _; rfl
    have HGX : Hid (plcs [(⟨0, 0, false, 2, 2, 0, 0, true, ⟨#[]⟩⟩ : PIn)] = plcs (⟨2, 8, true, ⟨1, 0, [], 0⟩, ⟨0, true⟩⟩ : TurnM).says) := by show _ = _; rfl
    have HGM : Hid ((⟨2, 8, false, ⟨1, 0, [], 0⟩, ⟨0, true⟩⟩ : TurnM) = (⟨2, 8, true, ⟨1, 0, [], 0⟩, ⟨0, true⟩⟩ : TurnM).go) := by show _ = _; rfl
    have HEQ : Hid (∀ W, (binOp .eql 37 (.agg #[.int .i64 0, .int .i64 0, .bool false, .int .i64 2, .int .i64 2, .int .i64 0, .int .i64 0, .bool true, .string ⟨#[]⟩]) (.agg #[.int .i64 0, .int .i64 0, .bool false, .int .i64 2, .int .i64 2, .int .i64 0, .int .i64 0, .bool true, .string ⟨#[]⟩])).run Tryz.prog W = .ok (.bool true) W) := by show ∀ _, _; exact fun W => (eql_Pl 0 0 false 2 2 0 0 true ⟨#[]⟩ 0 0 false 2 2 0 0 true ⟨#[]⟩ W).trans (by simp)
    clear hmiss
    go_wp2_with (first
      | (go_at_call 17; ((with_reducible refine (begun12_any _ HC.out).mono ?_); rintro e w1 ⟨rfl, hb⟩; have HB1 := Lib.hid (hb); clear hb))
      | (go_at_call 28; ((with_reducible refine (TnNew_S (m := (⟨2, 8, false, ⟨1, 0, [], 0⟩, ⟨0, false⟩⟩ : TurnM)) (.inr rfl) (by decide) (by decide) rfl HB1.out).mono ?_); rintro e w2 ⟨a, rfl, hs⟩; have HS2 := Lib.hid hs; clear hs))
      | (go_at_call 37; ((with_reducible refine (TnTake_C (C := fun X => X) Fr.id_ (p := ⟨0, 0, true, 1, 0, 0, (N : Int), true, ⟨#[113]⟩⟩) HPK.out HTS.out HTO.out HTM.out HS2.out).mono ?_); rintro e w3 ⟨rfl, hs⟩; have HS3 := Lib.hid hs; clear hs))
      | (go_at_call 34; ((with_reducible refine (TnGo_C (C := fun X => X) Fr.id_ HGN.out HGX.out HGM.out HS3.out).mono ?_); rintro e w4 ⟨A, c, rfl, hc, hs⟩; have HS4 := Lib.hid hs; obtain ⟨_, hg⟩ := hs.get (C := fun X => Star (TurnW _ _) X) (Fr.r (TurnW.stab _ _) Fr.id_); obtain ⟨bl, ol, rfl⟩ := hg.addr0 (by decide); have HG4 := Lib.hid (SlW.plain (i := 0) (l := [(⟨0, 0, false, 2, 2, 0, 0, true, ⟨#[]⟩⟩ : PIn)]) hg rfl); clear hs hg)))
    refine regq (fun W => Below w4.heap.size w4 W) (by kernel_rfl) (by kernel_rfl) ((Below.refl _ _).drew) ?_
    refine q_take (v := ?_) (by rfl) ?_ ?_; rotate_left; (· intro W HW; go_simp; try with_reducible rfl)
    simp only [Act.put, List.setIfInBounds_toArray, List.set_cons_zero, List.set_cons_succ]
    refine q_take (v := ?_) (by rfl) ?_ ?_; rotate_left; (· intro W HW; go_simp; try with_reducible rfl)
    simp only [Act.put, List.setIfInBounds_toArray, List.set_cons_zero, List.set_cons_succ]
    refine q_take (v := .agg #[.int .i64 0, .int .i64 0, .bool false, .int .i64 2, .int .i64 2, .int .i64 0, .int .i64 0, .bool true, .string ⟨#[]⟩]) (by rfl) (fun W HW => exec_load_mid 37 (.tmp 46) rfl bl ol rfl (pcs (⟨0, 0, false, 2, 2, 0, 0, true, ⟨#[]⟩⟩ : PIn)) _ (range_below HG4.out HW) Tryz.underlying37 rfl (by kernel_rfl)) ?_
    simp only [Act.put, List.setIfInBounds_toArray, List.set_cons_zero, List.set_cons_succ]
    refine q_take (v := ?_) (by rfl) ?_ ?_; rotate_left; (· intro W HW; go_simp; try with_reducible rfl)
    simp only [Act.put, List.setIfInBounds_toArray, List.set_cons_zero, List.set_cons_succ]
    refine q_take (v := ?_) (by rfl) ?_ ?_; rotate_left; (· intro W HW; go_simp; try with_reducible rfl)
    simp only [Act.put, List.setIfInBounds_toArray, List.set_cons_zero, List.set_cons_succ]
    refine q_take (v := ?_) (by rfl) ?_ ?_; rotate_left; (· intro W HW; go_simp; try with_reducible rfl)
    simp only [Act.put, List.setIfInBounds_toArray, List.set_cons_zero, List.set_cons_succ]
    refine q_call 55 #[.bool false] (by rfl) (by intro W HW; go_simp) (from_same (fun W => B2i_any _ W)) ?_
    simp only [Act.put, List.setIfInBounds_toArray, List.set_cons_zero, List.set_cons_succ]
    refine q_take (v := ?_) (by rfl) ?_ ?_; rotate_left; (· intro W HW; go_simp; try with_reducible rfl)
    simp only [Act.put, List.setIfInBounds_toArray, List.set_cons_zero, List.set_cons_succ]
    refine q_take (v := .bool true) (by rfl) (fun W HW => exec_cmp (x := .tmp 47) (y := .tmp 52) rfl rfl rfl (guard_Pl _ _ _ _ _ W) (HEQ.out W)) ?_
    simp only [Act.put, List.setIfInBounds_toArray, List.set_cons_zero, List.set_cons_succ]
    refine q_take (v := ?_) (by rfl) ?_ ?_; rotate_left; (· intro W HW; go_simp; try with_reducible rfl)
    simp only [Act.put, List.setIfInBounds_toArray, List.set_cons_zero, List.set_cons_succ]
    refine q_done ?_
    intro w5 hb5
    have HS5 := Lib.hid (HS4.out.keep ((TurnW.stab _ _).star (SlW.stab _ _ _ _)) hb5)
    clear hb5
    go_wp2
    go_ret
    exact ⟨rfl, HS5.out.bel0⟩
end Go.Proofs.YtocjhpaackccpaaGreatDoor
