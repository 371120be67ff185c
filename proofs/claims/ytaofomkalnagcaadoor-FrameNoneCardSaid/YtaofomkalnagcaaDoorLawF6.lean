/- The law FrameNone. -/
import Derived.Test.YtaofomkalnagcaaDoorM4H
import Derived.Test.YtaofomkalnagcaaDoorBegun4
import Derived.Test.YtaofomkalnagcaaDoorM4F
import Derived.Test.YtaofomkalnagcaaDoorM4J

set_option linter.all false

namespace Go.Proofs.YtaofomkalnagcaaDoor
open Go.RowKit M

theorem zn_get (w : World) (hC : Codes w) : Calls Tryd.prog 48 #[.slice none 0 0] w fun e w' => e = .returned (.tuple #[frZ, .bool false]) ∧ Below w.heap.size w w' := FGet_no _ [] w (Own.nil_ w 0).rds rfl hC
theorem zn_any : IsAny .nilIface ⟨0, 0, 0, 0, false⟩ := .inr (.inr (.inr ⟨rfl, .inl rfl⟩))
theorem zn_put (w : World) (hC : Codes w) : Calls Tryd.prog 35 #[.nilIface] w fun e w' => e = .returned (.tuple #[.int .u8 0, .bool false]) ∧ Below w.heap.size w w' := by
  have h := CPut_any zn_any w hC
  unfold CtlSays at h
  rw [show cb ⟨0, 0, 0, 0, false⟩ = none by decide] at h
  exact h
theorem zn_may (w : World) : Calls Tryd.prog 36 #[.nilIface] w fun e w' => e = .returned (.bool false) ∧ Below w.heap.size w w' := by
  have h := CMay_any zn_any w
  unfold MayP at h
  rw [mayZ] at h
  exact h
theorem zn_pf (w : World) : Calls Tryd.prog 38 #[.nilIface] w fun e w' => e = .returned (.bool false) ∧ Below w.heap.size w w' := CPF_any zn_any w
theorem zn_tget (w : World) : Calls Tryd.prog 58 #[.string ⟨#[]⟩] w fun e w' => ∃ v, e = .returned (.tuple #[v, .bool true]) ∧ OwnT w' w.heap.size v [] ∧ Below w.heap.size w w' := by
  have h := TGet_any ⟨#[]⟩ w (by decide)
  unfold GetTP at h
  rw [show getT (⟨#[]⟩ : ByteArray).data.toList = some [] by decide +kernel] at h
  exact h
theorem zn_find (w : World) : Calls Tryd.prog 60 #[.slice none 0 0, .int .i64 1] w fun e w' => e = .returned (.tuple #[.string ⟨#[]⟩, .bool false]) ∧ Below w.heap.size w w' := by
  have h := TFind_any (.slice none 0 0) [] 1 w (OwnT.nil_ w 0).rd (by decide) (by decide)
  exact h
def zP : PIn := ⟨0, 0, false, 0, 0, 0, 0, false, ⟨#[]⟩⟩
theorem zn_of (w : World) (hC : Codes w) : Calls Tryd.prog 45 #[.agg #[.int .i64 0, .int .i64 0, .bool false, .int .i64 0, .int .i64 0, .int .i64 0, .int .i64 0, .bool false, .string ⟨#[]⟩]] w fun e w' => e = .returned (.tuple #[frZ, .bool false]) ∧ Below w.heap.size w w' :=
  FOf_no zP w (by refine ⟨?_, ?_, ?_, ?_, ?_, ?_, ?_⟩ <;> decide) (by decide +kernel) hC
theorem zn1 (w : World) : Calls Tryd.prog 22 #[.string ⟨#[]⟩] w fun e w' => e = .returned (.bool true) ∧ Below w.heap.size w w' :=
  (May_any ⟨#[]⟩ w).mono fun _ _ h => ret_bool h (by decide +kernel)
theorem zn2 (w : World) : Calls Tryd.prog 24 #[.string ⟨#[]⟩] w fun e w' => e = .returned (.int .i64 0) ∧ Below w.heap.size w w' := by
  have h := Len_any ⟨#[]⟩ w (by decide)
  rw [show (rs (bl ⟨#[]⟩)).length = 0 by decide +kernel] at h
  exact h
theorem zn3 (w : World) : Calls Tryd.prog 28 #[.string ⟨#[]⟩] w fun e w' => e = .returned (.string ⟨#[]⟩) ∧ Below w.heap.size w w' := by
  have h := Plain_any ⟨#[]⟩ w (by decide)
  rw [show plainL (bl ⟨#[]⟩) = [] by decide +kernel] at h
  exact h
theorem zn4 (w : World) : Calls Tryd.prog 26 #[.string ⟨#[]⟩, .int .i64 5] w fun e w' => e = .returned (.string ⟨#[]⟩) ∧ Below w.heap.size w w' := by
  have h := Cut_any ⟨#[]⟩ 5 w (by decide) (by decide)
  rw [show (ByteArray.extract ⟨#[]⟩ 0 (cutL (bl ⟨#[]⟩) 5)) = ⟨#[]⟩ by decide +kernel] at h
  exact h
theorem zn_all (W : World) : (binOp .eql 32 (addrV 127 255) (addrV 127 255)).run Tryd.prog W = .ok (.bool true) W := by rw [eql_Addr]; rfl

set_option maxRecDepth 100000 in
set_option maxHeartbeats 8000000 in
theorem FrameNone_law (w : World) (hC : Codes w) : Calls Tryd.prog 10 #[] w (Holds4 w) := by
  have HC := Lib.hid hC
  clear hC
  go_enter Tryd.func10, Tryd.ntmps10
  go_wp2_with (first
    | (go_at_call 48; ((with_reducible refine (zn_get _ HC.out).mono ?_); rintro e w1 ⟨rfl, hb⟩; have HB1 := Lib.hid hb; clear hb))
    | ((with_reducible refine wpList_storeB rfl 60 (.tmp 1) _ rfl w1.heap.size #[.int .i64 0, .int .i64 0, .bool false, .nilIface, .string ⟨#[]⟩] rfl rfl 60 _ (heap_alloc_new w1 _) (by kernel_rfl) (by kernel_rfl) (by kernel_rfl) ?_); intro w2 hg hz hh; have HB2 := Lib.hid (bel_grown (bal HB1.out _) hg HB1.out.size); clear hg hz hh)
    | (go_at_call 35; ((with_reducible refine (zn_put _ (HC.out.below HB2.out)).mono ?_); rintro e w3 ⟨rfl, hb⟩; have HB3 := Lib.hid (bel_trans HB2.out hb); clear hb))
    | (go_at_call 58; ((with_reducible refine (zn_tget _).mono ?_); rintro e w4 ⟨u, rfl, hu, hb⟩; have HB4 := Lib.hid (bel_trans HB3.out hb); obtain ⟨Au, cu, hue, _⟩ := hu.shape; obtain rfl : u = .slice Au 0 cu := hue; clear hu hb))
    | (go_at_call 60; ((with_reducible refine (zn_find _).mono ?_); rintro e w5 ⟨rfl, hb⟩; have HB5 := Lib.hid (bel_trans HB4.out hb); clear hb))
    | (go_at_call 45; ((with_reducible refine (zn_of _ (HC.out.below HB5.out)).mono ?_); rintro e w6 ⟨rfl, hb⟩; have HB6 := Lib.hid (bel_trans HB5.out hb); clear hb))
    | ((with_reducible refine wpList_storeB rfl 60 (.tmp 9) _ rfl w6.heap.size #[.int .i64 0, .int .i64 0, .bool false, .nilIface, .string ⟨#[]⟩] rfl rfl 60 _ (heap_alloc_new w6 _) (by kernel_rfl) (by kernel_rfl) (by kernel_rfl) ?_); intro w7 hg hz hh; have HB7 := Lib.hid (bel_grown (bal HB6.out _) hg HB6.out.size); clear hg hz hh)
    | (go_at_call 20; ((with_reducible refine (begun4_any _ (HC.out.below HB7.out)).mono ?_); rintro e w8 ⟨rfl, hb⟩; have HB8 := Lib.hid (bel_trans HB7.out hb); clear hb))
    | (go_at_call 22; ((with_reducible refine (zn1 _).mono ?_); rintro e w9 ⟨rfl, hb⟩; have HB9 := Lib.hid (bel_trans HB8.out hb); clear hb))
    | (go_at_call 24; ((with_reducible refine (zn2 _).mono ?_); rintro e wA ⟨rfl, hb⟩; have HBA := Lib.hid (bel_trans HB9.out hb); clear hb))
    | (go_at_call 26; ((with_reducible refine (zn4 _).mono ?_); rintro e wB ⟨rfl, hb⟩; have HBB := Lib.hid (bel_trans HBA.out hb); clear hb))
    | (go_at_call 28; ((with_reducible refine (zn3 _).mono ?_); rintro e wC ⟨rfl, hb⟩; have HBC := Lib.hid (bel_trans HBB.out hb); clear hb))
    | (go_at_call 36; ((with_reducible refine (zn_may _).mono ?_); rintro e wD ⟨rfl, hb⟩; have HBD := Lib.hid (bel_trans HBC.out hb); clear hb))
    | (go_at_call 38; ((with_reducible refine (zn_pf _).mono ?_); rintro e wE ⟨rfl, hb⟩; have HBE := Lib.hid (bel_trans HBD.out hb); clear hb))
    | (go_at_call 62; ((with_reducible refine (FAll_any _).mono ?_); rintro e wF ⟨rfl, hb⟩; have HBF := Lib.hid (bel_trans HBE.out hb); clear hb))
    | (with_reducible refine wpList_cmpG (by kernel_rfl) rfl rfl rfl (guard_Addr _ _ _ _ _ _) (zn_all _) ?_))
  go_ret
  exact ⟨rfl, HBF.out⟩
end Go.Proofs.YtaofomkalnagcaaDoor
