/- What each law asks first: begun of layers 4 to 7 answers true. (Over what is awaited of package tuple: with Tup in the place of TupS this is Begun4.) -/
import Derived.Test.YtocjhpaackccpaaGreatDoorM4H
import Derived.Test.YtocjhpaackccpaaGreatDoorM4J
import Derived.Test.YtocjhpaackccpaaGreatDoorM4F
import Derived.Test.YtocjhpaackccpaaGreatDoorM4B
import Derived.Test.YtocjhpaackccpaaGreatDoorM4D

set_option linter.all false

namespace Go.Proofs.YtocjhpaackccpaaGreatDoor
open Go.RowKit M

/-- What a law's call leaves. -/
def Holds4 (w : World) (e : Ending) (w' : World) : Prop := e = .returned (.bool true) ∧ Below w.heap.size w w'

theorem Begun1_any (w : World) : Calls Tryz.prog 82 #[] w fun e w' => e = .returned (.bool true) ∧ Below w.heap.size w w' := by
  go_enter Tryz.func82, Tryz.ntmps82
  go_wp2_with (go_at_call 105; refine (begun_any _).mono ?_; rintro e w1 ⟨rfl, hb1⟩)
  go_ret
  exact ⟨rfl, hb1⟩

/-- begun's frame: everybody's, a command to begin, with one byte. -/
def bgF : PIn := ⟨127, 255, true, 3, 2, 0, 0, true, ⟨#[120]⟩⟩
theorem bgF_ok : bgF.ok := by
  refine ⟨?_, ?_, ?_, ?_, ?_, ?_, ?_⟩ <;> decide
theorem bgF_may : mayF bgF.pl := by decide +kernel
theorem bgF_put : putF bgF.pl = [255, 255, 147, 120] := by decide +kernel
abbrev bgV : Value := frV 127 255 true (uV 2 true) ⟨#[120]⟩
theorem bgF_val : frI bgF = bgV := rfl
theorem b4put (w : World) (hC : Codes w) : Calls Tryz.prog 74 #[bgV] w fun e w' => ∃ v, e = .returned (.tuple #[v, .bool true]) ∧ Own w' w.heap.size v [255, 255, 147, 120] ∧ Below w.heap.size w w' := by
  have h := FPut_yes bgF w bgF_may hC
  rw [bgF_put, bgF_val] at h
  exact h
theorem b4get (v : Value) (w : World) (hr : Rds w v [255, 255, 147, 120]) (hC : Codes w) : Calls Tryz.prog 75 #[v] w fun e w' => e = .returned (.tuple #[bgV, .bool true]) ∧ Below w.heap.size w w' :=
  FGet_yes v _ bgF.pl w hr (by rw [← bgF_put]; exact getF_pl bgF_may) hC
theorem b4plain (w : World) : Calls Tryz.prog 76 #[bgV] w fun e w' => e = .returned (.agg #[.int .i64 127, .int .i64 255, .bool true, .int .i64 3, .int .i64 2, .int .i64 0, .int .i64 0, .bool true, .string ⟨#[120]⟩]) ∧ Below w.heap.size w w' := FPlain_yes bgF w bgF_may
theorem b4of (w : World) (hC : Codes w) : Calls Tryz.prog 77 #[.agg #[.int .i64 127, .int .i64 255, .bool true, .int .i64 3, .int .i64 2, .int .i64 0, .int .i64 0, .bool true, .string ⟨#[120]⟩]] w fun e w' => e = .returned (.tuple #[bgV, .bool true]) ∧ Below w.heap.size w w' := FOf_yes bgF w bgF_ok bgF_may hC
theorem b4eq (w : World) : Calls Tryz.prog 83 #[bgV, bgV] w fun e w' => e = .returned (.bool true) ∧ Below w.heap.size w w' := by
  have h := FEq_any bgF bgF w bgF_may bgF_may
  rw [decide_eq_true rfl] at h
  exact h
def bgT : List Tp := [(3, [113])]
theorem b4tput (v : Value) (w : World) (hr : RdT w v bgT) : Calls Tryz.prog 78 #[v] w fun e w' => e = .returned (.tuple #[.string ⟨#[3, 1, 113]⟩, .bool true]) ∧ Below w.heap.size w w' := by
  have h := TPut_any v bgT w hr (by decide) (by decide)
  unfold PutTP at h
  rw [show putT bgT = some [3, 1, 113] by decide +kernel] at h
  exact h
theorem b4tget (w : World) : Calls Tryz.prog 79 #[.string ⟨#[3, 1, 113]⟩] w fun e w' => ∃ v, e = .returned (.tuple #[v, .bool true]) ∧ OwnT w' w.heap.size v bgT ∧ Below w.heap.size w w' := by
  have h := TGet_any ⟨#[3, 1, 113]⟩ w (by decide)
  unfold GetTP at h
  rw [show getT (⟨#[3, 1, 113]⟩ : ByteArray).data.toList = some bgT by decide +kernel] at h
  exact h
theorem b4tfind (v : Value) (w : World) (hr : RdT w v bgT) : Calls Tryz.prog 80 #[v, .int .i64 3] w fun e w' => e = .returned (.tuple #[.string ⟨#[113]⟩, .bool true]) ∧ Below w.heap.size w w' := by
  have h := TFind_any v bgT 3 w hr (by decide) (by decide)
  rw [show fnd bgT 3 = some [113] by decide +kernel] at h
  exact h
theorem b4get54 (w : World) (hC : Codes w) : Calls Tryz.prog 81 #[.int .u8 84] w fun e w' => e = .returned (.tuple #[iV 2 2 true, .bool true]) ∧ w = w' := by
  have h := CGet_any 84 (by omega) w hC
  unfold GetP at h
  rw [show gb 84 = some ⟨1, 0, 2, 2, true⟩ by decide +kernel] at h
  exact h
theorem eql_I22 (W : World) : (binOp .eql 102 (.agg #[.int .i64 2, .int .i64 2, .bool true]) (.agg #[.int .i64 2, .int .i64 2, .bool true])).run Tryz.prog W = .ok (.bool true) W := by
  rw [run_eql_struct]
  have h := ifIn_I 2 2 2 2 true true W
  obtain ⟨ms, hu⟩ := any_iface
  rw [show (10000 : Nat) = 9999 + 1 from rfl, eqIn_iface W 9999 _ _ hu cmp_I] at h
  have hS : Tryz.prog.underlying 102 = some (.struct (Tryz.prog.fieldsOf 102)) := by kernel_rfl
  have hp : Tryz.prog.stoodInHeld 102 = false := by kernel_rfl
  rw [show (9999 : Nat) = 9998 + 1 from rfl, run_equalIn_agg W 9998 102 _ _ hS hp] at h
  rw [show (10000 : Nat) = 9999 + 1 from rfl, run_equalIn_agg W 9999 102 _ _ hS hp]
  have u3 := Tryz.underlying3
  have u4 := Tryz.underlying4
  simp only [Program.fieldsOf, Tryz.underlying102]
  go_simp
theorem guard_I4 (op : BinOp) (x y : Operand) (xs ys : Array Value) (W : World) : (eqGuard op 102 x y (.agg xs) (.agg ys)).run Tryz.prog W = .ok () W := run_eqGuard_agg W op 102 x y xs ys (by kernel_rfl)
theorem bgT_rd (w : World) : RdT (w.alloc (.cells #[.int .i64 3, .string ⟨#[113]⟩] 116)) (.slice (some ⟨w.heap.size, 0, none⟩) 1 1) bgT := by
  refine ⟨_, 1, rfl, Nat.le_refl _, by simp [maxLen], fun _ => ⟨w.heap.size, 0, rfl, by simp, fun j u hu => ?_⟩⟩
  have e : tcs bgT = [.int .i64 3, .string ⟨#[113]⟩] := rfl
  rw [e] at hu
  rw [Nat.zero_add]
  exact cell_at (heap_alloc_new w _) j u (by simpa using hu)

set_option maxRecDepth 100000 in
set_option maxHeartbeats 8000000 in
theorem begun4_any (w : World) (hC : Codes w) : Calls Tryz.prog 69 #[] w fun e w' => e = .returned (.bool true) ∧ Below w.heap.size w w' := by
  have HC := Lib.hid hC
  clear hC
  go_enter Tryz.func69, Tryz.ntmps69
  go_wp2_with (first
    | (go_at_call 73; ((with_reducible refine (FAll_any _).mono ?_); rintro e w1 ⟨rfl, hb⟩; have HB1 := Lib.hid hb; clear hb))
    | ((with_reducible refine wpList_storeB rfl 107 (.tmp 1) _ rfl w1.heap.size #[.int .i64 127, .int .i64 255, .bool true, uV 2 true, .string ⟨#[120]⟩] rfl rfl 107 _ (heap_alloc_new w1 _) (by kernel_rfl) (by kernel_rfl) (by kernel_rfl) ?_); intro w2 hg hz hh; have HB2 := Lib.hid (bel_grown (bal HB1.out _) hg HB1.out.size); have HF2 := Lib.hid hh;  clear hg hz hh)
    | (with_reducible refine wpList_loadB rfl 107 (.tmp 1) rfl w1.heap.size rfl 107 #[.int .i64 127, .int .i64 255, .bool true, uV 2 true, .string ⟨#[120]⟩] HF2.out _ Tryz.underlying107 rfl (by kernel_rfl) ?_)
    | (go_at_call 74; ((with_reducible refine (b4put _ (HC.out.below HB2.out)).mono ?_); rintro e w3 ⟨v, rfl, hv, hb⟩; have HB3 := Lib.hid (bel_trans HB2.out hb); have HF3 := Lib.hid (keep_at HF2.out hb); have HV3 := Lib.hid hv.rds; obtain ⟨Av, cv1, hve, _⟩ := hv.rds; obtain rfl : v = .slice Av 4 cv1 := hve; clear hv hb))
    | (go_at_call 75; ((with_reducible refine (b4get _ _ HV3.out (HC.out.below HB3.out)).mono ?_); rintro e w4 ⟨rfl, hb⟩; have HB4 := Lib.hid (bel_trans HB3.out hb); have HF4 := Lib.hid (keep_at HF3.out hb); have HV4 := Lib.hid (HV3.out.below hb); clear hb))
    | ((with_reducible refine wpList_storeB rfl 107 (.tmp 4) _ rfl w4.heap.size #[.int .i64 127, .int .i64 255, .bool true, uV 2 true, .string ⟨#[120]⟩] rfl rfl 107 _ (heap_alloc_new w4 _) (by kernel_rfl) (by kernel_rfl) (by kernel_rfl) ?_); intro w5 hg hz hh; have HB5 := Lib.hid (bel_grown (bal HB4.out _) hg HB4.out.size); have HG5 := Lib.hid hh; have HF5 := Lib.hid (keep_grown (keep_at HF4.out (bal (bel0 w4) _)) hg (Nat.ne_of_lt (lt_at HF4.out))); have HV5 := Lib.hid ((HV4.out.alloc _).grown hg (HV4.out.apart_new (Nat.le_refl _))); clear hg hz hh)
    | (with_reducible refine wpList_loadB rfl 107 (.tmp 1) rfl w1.heap.size rfl 107 #[.int .i64 127, .int .i64 255, .bool true, uV 2 true, .string ⟨#[120]⟩] HF5.out _ Tryz.underlying107 rfl (by kernel_rfl) ?_)
    | (go_at_call 76; ((with_reducible refine (b4plain _).mono ?_); rintro e w6 ⟨rfl, hb⟩; have HB6 := Lib.hid (bel_trans HB5.out hb); have HF6 := Lib.hid (keep_at HF5.out hb); have HG6 := Lib.hid (keep_at HG5.out hb); have HV6 := Lib.hid (HV5.out.below hb); clear hb))
    | ((with_reducible refine wpList_storeB rfl 37 (.tmp 6) _ rfl w6.heap.size #[.int .i64 127, .int .i64 255, .bool true, .int .i64 3, .int .i64 2, .int .i64 0, .int .i64 0, .bool true, .string ⟨#[120]⟩] rfl rfl 37 _ (heap_alloc_new w6 _) (by kernel_rfl) (by kernel_rfl) (by kernel_rfl) ?_); intro w7 hg hz hh; have HB7 := Lib.hid (bel_grown (bal HB6.out _) hg HB6.out.size); have HP7 := Lib.hid hh; have HF7 := Lib.hid (keep_grown (keep_at HF6.out (bal (bel0 w6) _)) hg (Nat.ne_of_lt (lt_at HF6.out))); have HG7 := Lib.hid (keep_grown (keep_at HG6.out (bal (bel0 w6) _)) hg (Nat.ne_of_lt (lt_at HG6.out))); have HV7 := Lib.hid ((HV6.out.alloc _).grown hg (HV6.out.apart_new (Nat.le_refl _))); clear hg hz hh)
    | (with_reducible refine wpList_loadB rfl 37 (.tmp 6) rfl w6.heap.size rfl 37 #[.int .i64 127, .int .i64 255, .bool true, .int .i64 3, .int .i64 2, .int .i64 0, .int .i64 0, .bool true, .string ⟨#[120]⟩] HP7.out _ Tryz.underlying37 rfl (by kernel_rfl) ?_)
    | (go_at_call 77; ((with_reducible refine (b4of _ (HC.out.below HB7.out)).mono ?_); rintro e w8 ⟨rfl, hb⟩; have HB8 := Lib.hid (bel_trans HB7.out hb); have HF8 := Lib.hid (keep_at HF7.out hb); have HG8 := Lib.hid (keep_at HG7.out hb); have HP8 := Lib.hid (keep_at HP7.out hb); have HV8 := Lib.hid (HV7.out.below hb); clear hb))
    | ((with_reducible refine wpList_storeB rfl 107 (.tmp 7) _ rfl w8.heap.size #[.int .i64 127, .int .i64 255, .bool true, uV 2 true, .string ⟨#[120]⟩] rfl rfl 107 _ (heap_alloc_new w8 _) (by kernel_rfl) (by kernel_rfl) (by kernel_rfl) ?_); intro w9 hg hz hh; have HB9 := Lib.hid (bel_grown (bal HB8.out _) hg HB8.out.size); have HH9 := Lib.hid hh; have HF9 := Lib.hid (keep_grown (keep_at HF8.out (bal (bel0 w8) _)) hg (Nat.ne_of_lt (lt_at HF8.out))); have HG9 := Lib.hid (keep_grown (keep_at HG8.out (bal (bel0 w8) _)) hg (Nat.ne_of_lt (lt_at HG8.out))); have HP9 := Lib.hid (keep_grown (keep_at HP8.out (bal (bel0 w8) _)) hg (Nat.ne_of_lt (lt_at HP8.out))); have HV9 := Lib.hid ((HV8.out.alloc _).grown hg (HV8.out.apart_new (Nat.le_refl _))); clear hg hz hh)
    | (go_at_call 78; ((with_reducible refine (b4tput _ _ (bgT_rd w9)).mono ?_); rintro e wA ⟨rfl, hb⟩; have HBA := Lib.hid (bel_trans (bal HB9.out _) hb); have HFA := Lib.hid (keep_at (keep_at HF9.out (bal (bel0 w9) _)) hb); have HGA := Lib.hid (keep_at (keep_at HG9.out (bal (bel0 w9) _)) hb); have HPA := Lib.hid (keep_at (keep_at HP9.out (bal (bel0 w9) _)) hb); have HHA := Lib.hid (keep_at (keep_at HH9.out (bal (bel0 w9) _)) hb); have HVA := Lib.hid ((HV9.out.alloc _).below hb); clear hb))
    | (go_at_call 79; ((with_reducible refine (b4tget _).mono ?_); rintro e wB ⟨u, rfl, hu, hb⟩; have HBB := Lib.hid (bel_trans HBA.out hb); have HFB := Lib.hid (keep_at HFA.out hb); have HGB := Lib.hid (keep_at HGA.out hb); have HPB := Lib.hid (keep_at HPA.out hb); have HHB := Lib.hid (keep_at HHA.out hb); have HVB := Lib.hid (HVA.out.below hb); have HUB := Lib.hid hu.rd; obtain ⟨Au, cu, hue, _⟩ := hu.shape; obtain rfl : u = .slice Au 1 cu := hue; clear hu hb))
    | (go_at_call 80; ((with_reducible refine (b4tfind _ _ HUB.out).mono ?_); rintro e wC ⟨rfl, hb⟩; have HBC := Lib.hid (bel_trans HBB.out hb); have HFC := Lib.hid (keep_at HFB.out hb); have HGC := Lib.hid (keep_at HGB.out hb); have HPC := Lib.hid (keep_at HPB.out hb); have HHC := Lib.hid (keep_at HHB.out hb); have HVC := Lib.hid (HVB.out.below hb); clear hb))
    | (go_at_call 81; ((with_reducible refine (b4get54 _ (HC.out.below HBC.out)).mono ?_); rintro e wq ⟨rfl, rfl⟩))
    | (go_at_call 82; ((with_reducible refine (Begun1_any _).mono ?_); rintro e wD ⟨rfl, hb⟩; have HBD := Lib.hid (bel_trans HBC.out hb); have HFD := Lib.hid (keep_at HFC.out hb); have HGD := Lib.hid (keep_at HGC.out hb); have HPD := Lib.hid (keep_at HPC.out hb); have HHD := Lib.hid (keep_at HHC.out hb); have fd0 := cell_at HFD.out 0 _ rfl; have fd1 := cell_at HFD.out 1 _ rfl; have fd2 := cell_at HFD.out 2 _ rfl; have fd3 := cell_at HFD.out 3 _ rfl; have fd4 := cell_at HFD.out 4 _ rfl; have gd0 := cell_at HGD.out 0 _ rfl; have gd1 := cell_at HGD.out 1 _ rfl; have gd2 := cell_at HGD.out 2 _ rfl; have gd3 := cell_at HGD.out 3 _ rfl; have gd4 := cell_at HGD.out 4 _ rfl; have hstr := run_str (HVC.out.below hb); clear hb))
    | (with_reducible refine wpList_loadG (by kernel_rfl) 107 (.tmp 1) rfl w1.heap.size rfl 107 #[.int .i64 127, .int .i64 255, .bool true, uV 2 true, .string ⟨#[120]⟩] HFD.out _ Tryz.underlying107 rfl (by kernel_rfl) ?_)
    | (with_reducible refine wpList_loadG (by kernel_rfl) 107 (.tmp 4) rfl w4.heap.size rfl 107 #[.int .i64 127, .int .i64 255, .bool true, uV 2 true, .string ⟨#[120]⟩] HGD.out _ Tryz.underlying107 rfl (by kernel_rfl) ?_)
    | (go_at_call 83; first | ((with_reducible refine (b4eq wD).mono ?_); rintro e wE ⟨rfl, hb⟩; have HBE := Lib.hid (bel_trans HBD.out hb); have HFE := Lib.hid (keep_at HFD.out hb); have HGE := Lib.hid (keep_at HGD.out hb); have HPE := Lib.hid (keep_at HPD.out hb); have HHE := Lib.hid (keep_at HHD.out hb); have p3 := cell_at HPE.out 3 _ rfl; have p4 := cell_at HPE.out 4 _ rfl; have fe0 := cell_at HFE.out 0 _ rfl; have fe1 := cell_at HFE.out 1 _ rfl; have fe2 := cell_at HFE.out 2 _ rfl; have fe3 := cell_at HFE.out 3 _ rfl; have fe4 := cell_at HFE.out 4 _ rfl; have he0 := cell_at HHE.out 0 _ rfl; have he1 := cell_at HHE.out 1 _ rfl; have he2 := cell_at HHE.out 2 _ rfl; have he3 := cell_at HHE.out 3 _ rfl; have he4 := cell_at HHE.out 4 _ rfl; clear hb) | ((with_reducible refine (b4eq wE).mono ?_); rintro e wF ⟨rfl, hb⟩; have HBF := Lib.hid (bel_trans HBE.out hb); clear hb))
    | (with_reducible refine wpList_loadG (by kernel_rfl) 107 (.tmp 7) rfl w8.heap.size rfl 107 #[.int .i64 127, .int .i64 255, .bool true, uV 2 true, .string ⟨#[120]⟩] HHE.out _ Tryz.underlying107 rfl (by kernel_rfl) ?_)
    | (with_reducible refine wpList_loadG (by kernel_rfl) 107 (.tmp 1) rfl w1.heap.size rfl 107 #[.int .i64 127, .int .i64 255, .bool true, uV 2 true, .string ⟨#[120]⟩] HFE.out _ Tryz.underlying107 rfl (by kernel_rfl) ?_)
    | (go_at_call 84; ((with_reducible refine (MustI_good 2 2 true _).mono ?_); rintro e wG ⟨rfl, hb⟩; have HBG := Lib.hid (bel_trans HBF.out hb); clear hb))
    | (with_reducible refine wpList_cmpG (by kernel_rfl) rfl rfl rfl (guard_I4 _ _ _ _ _ _) (eql_I22 _) ?_)
    | (go_at_call 85; ((with_reducible refine (nb1 _).mono ?_); rintro e wH ⟨rfl, hb⟩; have HBH := Lib.hid (bel_trans HBG.out hb); clear hb))
    | (go_at_call 86; ((with_reducible refine (nb2 _).mono ?_); rintro e wI ⟨rfl, hb⟩; have HBI := Lib.hid (bel_trans HBH.out hb); clear hb))
    | (go_at_call 87; ((with_reducible refine (nb3 _).mono ?_); rintro e wJ ⟨rfl, hb⟩; have HBJ := Lib.hid (bel_trans HBI.out hb); clear hb))
    | (go_at_call 88; ((with_reducible refine (nb4 _).mono ?_); rintro e wK ⟨rfl, hb⟩; have HBK := Lib.hid (bel_trans HBJ.out hb); clear hb))
    | (go_at_call 89; ((with_reducible refine (nb5 _).mono ?_); rintro e wq2 ⟨rfl, rfl⟩)))
  go_ret
  exact ⟨rfl, HBK.out⟩
end Go.Proofs.YtocjhpaackccpaaGreatDoor
