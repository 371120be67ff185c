/- Proved: for every input the law QueryAll answers true, and each argument reads as it did: tick by tick, what is asked; what comes in between. Conditions: none but those of the statement. -/
import Derived.Test.YtjddbjmcjhjpiaaGreatDoorL16sxQueryAll
import Derived.Test.YtjddbjmcjhjpiaaGreatDoorL16txQueryAll
import Derived.Test.YtjddbjmcjhjpiaaGreatDoorL16uxQueryAll
import Derived.Test.YtjddbjmcjhjpiaaGreatDoorL16vxQueryAll
import Derived.Test.YtjddbjmcjhjpiaaGreatDoorL16wxQueryAll
import Derived.Test.YtjddbjmcjhjpiaaGreatDoorL16xxQueryAll
import Derived.Test.YtjddbjmcjhjpiaaGreatDoorL16yxQueryAll
import Derived.Test.YtjddbjmcjhjpiaaGreatDoorL16zxQueryAll
import Derived.Test.YtjddbjmcjhjpiaaGreatDoorRows
import Derived.Test.YtjddbjmcjhjpiaaGreatDoorFacts
import Derived.Test.YtjddbjmcjhjpiaaGreatDoorTie
import Derived.Test.YtjddbjmcjhjpiaaGreatDoorCards
import Derived.Test.YtjddbjmcjhjpiaaGreatDoorLaidC
import Derived.Test.YtjddbjmcjhjpiaaGreatDoorN16J
import Derived.WalkKit
import Derived.ProofKit
import Derived.OpenShut
import Derived.ShutString
import Derived.ChangeOld
import Derived.Below
import Derived.SevenTiedAt
import Derived.LaidMore
import Derived.Stop.Joined

set_option linter.all false

namespace Go.Proofs.YtjddbjmcjhjpiaaGreatDoor.queryAll
open Go.ChangeShapes Go.WideShapes Go.ChangeAt Go.RowKit
open Go.ChangeMaps (open_string shut_string)
set_option linter.unusedVariables false

theorem walk (a0 : Int) (a1 : ByteArray) (a2 : Int) (a3 : Value) (l3 : List XIn) (a4 : Value) (l4 : List Int) (w : World) (w0 : (Lit.int .u32 a0).wf = true) (w1 : a1.size ≤ maxLen) (w2 : (Lit.int .i64 a2).wf = true) (w3 : RdG 6 w a3 l3.length (xcs l3)) (x3 : ∀ x ∈ l3, x.ok) (w4 : RdG 1 w a4 l4.length (ints l4)) (x4 : ∀ x ∈ l4, (Lit.int .i64 x).wf = true) (hC : Codes w) :
    Calls Tryz.prog 3 #[.int .u32 a0, .string a1, .int .i64 a2, a3, a4] w fun e w' => e = .returned (.bool true) ∧ Below w.heap.size w w' := by
  exact QueryAll_law a0 a1 a2 a3 a4 l3 l4 w w0 w1 w2 w3 x3 w4 hC

set_option maxRecDepth 100000 in
theorem lifted (os : Os) (started : os.Started) (H : Type) (enc : TypeId × Value → H) :
    ReturnsInHanded {} Tryz.checked os 3 .any (fun w args => (Rows.queryAllSpec.pre enc Tryz.prog Tryz.f3 [] false w args ∧ laidMetH Tryz.prog laidC w) ∧ sizedMet enc Tryz.prog Tryz.f3 (OpenSpec.ofChange Rows.queryAllSpec) false w args)
      (Rows.queryAllSpec.post enc Tryz.prog Tryz.f3 false true false false) := by
  refine returnsInHanded_of_change_and (C := Tryz.checked) (X := fun w _ => laidMetH Tryz.prog laidC w) (fun _ _ _ hh h => h.of_heap hh) own started (by kernel_rfl) Tryz.func3
    (ChangeSpec.witness_shaped (enc := enc) (C := Tryz.checked) (os := os) (X := fun w _ => laidMetH Tryz.prog laidC w) false (World.doorLaid Tryz.prog 400 os) #[.int .u32 0, .string ⟨#[]⟩, .int .i64 0, .slice none 0 0, .slice none 0 0] 8 rfl (World.shaped_of_RefB (by kernel_rfl) (by kernel_rfl)) (by kernel_rfl) (by kernel_rfl) (by kernel_rfl) (door_met os _)) ?_
  intro W base args ds gs before hval0 hW _ _ hL _
  have hval : ∀ (j : Nat) t v, Tryz.f3.params[j]? = some t → args[j]? = some v → Value.okWide Tryz.prog W .any base t v := hval0
  have hW' := hW
  have hC := codes_of_laid hL
  obtain ⟨p, q, hA0, hV, rfl, hfz, hnd⟩ := hW
  have hA : DataW.TrodAll enc Tryz.prog W 0 (fun _ => true) true Tryz.f3.params.toList args.toList ds p := hA0
  rw [Tryz.params3] at hA hval
  obtain ⟨v0, vs0, d0, ds0, p0, q0, hargs, rfl, rfl, h0, r0⟩ := trodAll_cons hA
  obtain ⟨v1, vs1, d1, ds1, p1, q1, rfl, rfl, rfl, h1, r1⟩ := trodAll_cons r0
  obtain ⟨v2, vs2, d2, ds2, p2, q2, rfl, rfl, rfl, h2, r2⟩ := trodAll_cons r1
  obtain ⟨v3, vs3, d3, ds3, p3, q3, rfl, rfl, rfl, h3, r3⟩ := trodAll_cons r2
  obtain ⟨v4, vs4, d4, ds4, p4, q4, rfl, rfl, rfl, h4, r4⟩ := trodAll_cons r3
  obtain ⟨rfl, rfl, rfl⟩ := trodAll_nil r4
  obtain rfl : args = #[v0, v1, v2, v3, v4] := by cases args; simp_all
  obtain ⟨rfl, rfl⟩ := trodVars_none hV
  obtain ⟨a0, rfl, rfl, rfl, w0⟩ := open_int Tryz.underlying22 (hval 0 22 v0 rfl rfl) h0
  obtain ⟨a1, rfl, rfl, rfl, w1⟩ := open_string Tryz.underlying9 (hval 1 9 v1 rfl rfl) h1
  obtain ⟨a2, rfl, rfl, rfl, w2⟩ := open_int Tryz.underlying3 (hval 2 3 v2 rfl rfl) h2
  have k3 := h3
  have lt3 : ∀ x ∈ p3, x.block < W.heap.size := by obtain ⟨m, hm⟩ := k3; exact DataW.trod_lt m _ _ _ hm
  obtain ⟨l3, w3, x3⟩ := open_xids (hval 3 23 v3 rfl rfl) h3
  have k4 := h4
  have lt4 : ∀ x ∈ p4, x.block < W.heap.size := by obtain ⟨m, hm⟩ := k4; exact DataW.trod_lt m _ _ _ hm
  obtain ⟨l4, w4, x4⟩ := open_ints_ (hval 4 24 v4 rfl rfl) h4
  clear hA0 hval0
  refine (walk a0 a1 a2 v3 l3 v4 l4 W w0 w1 w2 w3 x3 w4 x4 hC).mono fun e W' ⟨he, bel⟩ => ?_
  subst he
  exact ⟨_, rfl, _, _, _, [], _, [], hW', trodAll_mk1 (shut_bool Tryz.underlying4 _), (trodAll_cons_mk (shut_int Tryz.underlying22 w0) (trodAll_cons_mk (shut_string Tryz.underlying9 w1) (trodAll_cons_mk (shut_int Tryz.underlying3 w2) (trodAll_cons_mk (Below.trod laidOut (by kernel_rfl) (of_decide_eq_true (by kernel_rfl)) k3 bel lt3) (trodAll_cons_mk (Below.trod laidOut (by kernel_rfl) (of_decide_eq_true (by kernel_rfl)) k4 bel lt4) trodAll_mk0))))), rfl, bel.frame _, fun h => by cases h⟩

theorem over : Rows.queryAllRow.holds Tryz.pinned (OpenSpec.ofChange Rows.queryAllSpec) :=
  OpenClaim.holds_of_wide 3 Tryz.f3 rfl rfl rfl rfl rfl rfl rfl ⟨rfl, rfl, rfl, rfl, rfl⟩ rfl rfl rfl rfl rfl (by kernel_rfl) Tryz.func3 (by show joinedFacts Tryz.prog _ _ _ _ = true; unfold joinedFacts; rw [f_laid, f_rows, f_heard, f_may, f_final, f_make]; kernel_rfl)
    (of_decide_eq_true (by kernel_rfl)) (by unfold Func.isWrapper; first | (rw [if_pos (by decide +kernel)]; kernel_rfl) | (rw [if_neg (by decide +kernel)]; exact ⟨rfl, rfl⟩))
    (fun os started H enc _ => lifted os started H enc)
theorem queryAll_holds : Rows.QueryAllSaid := over

theorem queryAll_proved : Rows.QueryAllCardSaid :=
  Claim7.holds_tied_plain_at .later [] [.data] true _ _
    queryAll_holds (fun _ h => by cases h) (by kernel_rfl) (fun _ h => by cases h) queryAll_row_tie rfl ⟨rfl, rfl⟩ (f_main _ (by kernel_rfl)) rfl
    (fun f fn hf hfn => by
      obtain rfl : f = 3 := Option.some.inj ((show Tryz.prog.funcNamed "glowworm/glowwormlaw16.QueryAll" = some 3 by kernel_rfl).symm.trans hf) |>.symm
      obtain rfl : fn = Tryz.f3 := (Option.some.inj (Tryz.func3.symm.trans hfn)).symm
      exact ⟨by kernel_rfl, fun j t ht => by
        rw [Tryz.params3] at ht
        have hm : t ∈ [22, 9, 3, 23, 24] := by simpa using Array.mem_of_getElem? ht
        have hall : ([22, 9, 3, 23, 24].all fun u => !Tryz.prog.wantsStandIn u) = true := by kernel_rfl
        exact (show Tryz.prog.wantsStandIn t = false by simpa using List.all_eq_true.1 hall t hm)⟩)
    (by kernel_rfl)
#print axioms queryAll_proved
end Go.Proofs.YtjddbjmcjhjpiaaGreatDoor.queryAll
