/- The law QosCut. -/
import Derived.Test.YtcmjdbljdkabpaaGreatDoorQ8S
import Derived.Test.YtcmjdbljdkabpaaGreatDoorM8E
import Derived.Test.YtcmjdbljdkabpaaGreatDoorM8M
import Derived.Test.YtcmjdbljdkabpaaGreatDoorBegun8

set_option linter.all false

namespace Go.Proofs.YtcmjdbljdkabpaaGreatDoor
open Go.RowKit M

theorem ba_to (l : List UInt8) (k : Nat) : ((⟨l.toArray⟩ : ByteArray).extract 0 k).data.toList = l.take k := by
  rw [ba_ext]
  simp
set_option maxRecDepth 100000 in
set_option maxHeartbeats 4000000 in
theorem QosCut_law (o : Of5) (at_ : Int) (w : World) (ho : o.ok) (ha : (Lit.int .i64 at_).wf = true) (hC : Codes w) : Calls Tryz.prog 18 #[o.val, .int .i64 at_] w (Holds8 w) := by
  have HC := Lib.hid hC
  have hqp := fun w => QPut_any o w ho
  have hrm := fun w => RMayO_any o w
  unfold PutR at hqp
  clear hC
  by_cases hm : mayO o = true
  · have hput : putO o = some (bytesO o) := by unfold putO; rw [if_pos hm]
    rw [hput] at hqp
    rw [hm] at hrm
    simp only [Option.getD_some, Option.isSome_some] at hqp
    obtain ⟨p, hp⟩ : ∃ p : ByteArray, p = ⟨(bytesO o).toArray⟩ := ⟨_, rfl⟩
    rw [← hp] at hqp
    have hps : p.size = 15 := by rw [hp]; rfl
    have HQP := Lib.hid hqp
    have HRM := Lib.hid hrm
    by_cases h0 : at_ < 0
    · clear hqp hrm hp hps ha ho hm hput
      obtain ⟨b, s, wi, z, wa⟩ := o
      go_enter Tryz.func18, Tryz.ntmps18
      go_wp2_with (first
        | ((with_reducible refine wpList_boxS rfl 23 _ (.tmp 0) rfl rfl (run_boxOf ⟨b, s, wi, z, wa⟩) ?_); intro w1 hb1 hlt1 hh1; have HB1 := Lib.hid hb1; have HH1 := Lib.hid hh1; clear hb1 hh1)
        | (go_at_call 21; (with_reducible refine (begun8_any _ (HC.out.below HB1.out)).mono ?_); rintro e w2 ⟨rfl, hb⟩; have HB2 := Lib.hid (bel_trans HB1.out hb); have HH2 := Lib.hid (keep_at HH1.out hb); clear hb)
        | (with_reducible refine wpList_loadB rfl 23 (.tmp 2) rfl w.heap.size rfl 23 _ HH2.out _ Tryz.underlying23 rfl (by kernel_rfl) ?_)
        | (go_at_call 23; (with_reducible refine (HQP.out _).mono ?_); rintro e w4 ⟨rfl, hb⟩; have HB4 := Lib.hid (bel_trans HB2.out hb); have HH4 := Lib.hid (keep_at HH2.out hb); clear hb)
        | (with_reducible refine wpList_loadB rfl 23 (.tmp 2) rfl w.heap.size rfl 23 _ HH4.out _ Tryz.underlying23 rfl (by kernel_rfl) ?_)
        | (go_at_call 58; (with_reducible refine (HRM.out _).mono ?_); rintro e w5 ⟨rfl, hb⟩; have HB5 := Lib.hid (bel_trans HB4.out hb); clear hb))
      go_ret
      exact ⟨rfl, HB5.out⟩
    · obtain ⟨k, hk⟩ : ∃ k : Nat, at_.tmod 15 = (k : Int) ∧ k < 15 := by
        refine ⟨(at_ % 15).toNat, ?_, by omega⟩
        rw [Int.tmod_eq_emod_of_nonneg (by omega)]
        omega
      obtain ⟨hk, hk15⟩ := hk
      have hz : (p.extract 0 k).size = k := by rw [ByteArray.size_extract]; omega
      have hg1 := fun w => QGet_any (p.extract 0 k) w (by rw [hz]; unfold maxLen; omega)
      have hg2 := fun w => QGet_any p w (by rw [hps]; unfold maxLen; omega)
      unfold OfferR at hg1 hg2
      have e1 : getO (p.extract 0 k).data.toList = none := by rw [hp, ba_to]; exact getO_cut k hk15
      have e2 : getO p.data.toList = some o := by rw [hp]; exact getO_bytes hm
      rw [e1] at hg1
      rw [e2] at hg2
      simp only [Option.getD_some, Option.isSome_some, Option.getD_none, Option.isSome_none] at hg1 hg2
      have HG1 := Lib.hid hg1
      have HG2 := Lib.hid hg2
      have v1 : (p.size : Int) = 15 := by omega
      have v2 : (0 : Int) ≤ (k : Int) := by omega
      have v3 : (k : Int) ≤ (p.size : Int) := by omega
      have v4 : IntKind.i64.wrap (k : Int) = (k : Int) := IntWalk.i64_in _ (by omega)
      clear hqp hrm hp ha ho hm hput hz hg1 hg2 e1 e2
      obtain ⟨b, s, wi, z, wa⟩ := o
      have HEQ := Lib.hid (fun W => eql_Of5 ⟨b, s, wi, z, wa⟩ ⟨b, s, wi, z, wa⟩ W)
      go_enter Tryz.func18, Tryz.ntmps18
      go_wp2_with (first
        | ((with_reducible refine wpList_boxS rfl 23 _ (.tmp 0) rfl rfl (run_boxOf ⟨b, s, wi, z, wa⟩) ?_); intro w1 hb1 hlt1 hh1; have HB1 := Lib.hid hb1; have HH1 := Lib.hid hh1; clear hb1 hh1)
        | (go_at_call 21; (with_reducible refine (begun8_any _ (HC.out.below HB1.out)).mono ?_); rintro e w2 ⟨rfl, hb⟩; have HB2 := Lib.hid (bel_trans HB1.out hb); have HH2 := Lib.hid (keep_at HH1.out hb); clear hb)
        | (with_reducible refine wpList_loadB rfl 23 (.tmp 2) rfl w.heap.size rfl 23 _ HH2.out _ Tryz.underlying23 rfl (by kernel_rfl) ?_)
        | (go_at_call 23; (with_reducible refine (HQP.out _).mono ?_); rintro e w4 ⟨rfl, hb⟩; have HB4 := Lib.hid (bel_trans HB2.out hb); have HH4 := Lib.hid (keep_at HH2.out hb); clear hb)
        | (go_at_call 38; first
          | ((with_reducible refine (HG1.out _).mono ?_); rintro e w5 ⟨rfl, hb⟩; have HB5 := Lib.hid (bal (bel_trans HB4.out hb) (.cells #[.int .i64 0, .int .i64 0, .int .i64 0, .int .i64 0, .int .i64 0] 23)); have HH5 := Lib.hid (keep_at (keep_at HH4.out hb) (bal (bel0 w5) (.cells #[.int .i64 0, .int .i64 0, .int .i64 0, .int .i64 0, .int .i64 0] 23))); clear hb)
          | ((with_reducible refine (HG2.out _).mono ?_); rintro e w6 ⟨rfl, hb⟩; have HB6 := Lib.hid (bal (bel_trans HB5.out hb) (.cells #[.int .i64 b, .int .i64 s, .int .i64 wi, .int .i64 z, .int .i64 wa] 23)); have HH6 := Lib.hid (keep_at (keep_at HH5.out hb) (bal (bel0 w6) (.cells #[.int .i64 b, .int .i64 s, .int .i64 wi, .int .i64 z, .int .i64 wa] 23))); have HN6 := Lib.hid (heap_alloc_new w6 (.cells #[.int .i64 b, .int .i64 s, .int .i64 wi, .int .i64 z, .int .i64 wa] 23)); clear hb))
        | (with_reducible refine wpList_loadG (by kernel_rfl) 23 (.tmp 10) rfl w6.heap.size rfl 23 #[.int .i64 b, .int .i64 s, .int .i64 wi, .int .i64 z, .int .i64 wa] HN6.out _ Tryz.underlying23 rfl (by kernel_rfl) ?_)
        | (with_reducible refine wpList_loadG (by kernel_rfl) 23 (.tmp 2) rfl w.heap.size rfl 23 #[.int .i64 b, .int .i64 s, .int .i64 wi, .int .i64 z, .int .i64 wa] HH6.out _ Tryz.underlying23 rfl (by kernel_rfl) ?_)
        | (with_reducible refine wpList_cmpG (by kernel_rfl) rfl rfl rfl (guard_Of5 _ _ _ _ _ _) (HEQ.out _) ?_))
      go_ret
      refine ⟨?_, HB6.out⟩
      simp
  · have hput : putO o = none := by unfold putO; rw [if_neg hm]
    have hm' : mayO o = false := by simpa using hm
    rw [hput] at hqp
    rw [hm'] at hrm
    simp only [Option.getD_none, Option.isSome_none] at hqp
    have HQP := Lib.hid hqp
    have HRM := Lib.hid hrm
    clear hqp hrm ha ho hm hm' hput
    obtain ⟨b, s, wi, z, wa⟩ := o
    go_enter Tryz.func18, Tryz.ntmps18
    go_wp2_with (first
      | ((with_reducible refine wpList_boxS rfl 23 _ (.tmp 0) rfl rfl (run_boxOf ⟨b, s, wi, z, wa⟩) ?_); intro w1 hb1 hlt1 hh1; have HB1 := Lib.hid hb1; have HH1 := Lib.hid hh1; clear hb1 hh1)
      | (go_at_call 21; (with_reducible refine (begun8_any _ (HC.out.below HB1.out)).mono ?_); rintro e w2 ⟨rfl, hb⟩; have HB2 := Lib.hid (bel_trans HB1.out hb); have HH2 := Lib.hid (keep_at HH1.out hb); clear hb)
      | (with_reducible refine wpList_loadB rfl 23 (.tmp 2) rfl w.heap.size rfl 23 _ HH2.out _ Tryz.underlying23 rfl (by kernel_rfl) ?_)
      | (go_at_call 23; (with_reducible refine (HQP.out _).mono ?_); rintro e w4 ⟨rfl, hb⟩; have HB4 := Lib.hid (bel_trans HB2.out hb); have HH4 := Lib.hid (keep_at HH2.out hb); clear hb)
      | (with_reducible refine wpList_loadB rfl 23 (.tmp 2) rfl w.heap.size rfl 23 _ HH4.out _ Tryz.underlying23 rfl (by kernel_rfl) ?_)
      | (go_at_call 58; (with_reducible refine (HRM.out _).mono ?_); rintro e w5 ⟨rfl, hb⟩; have HB5 := Lib.hid (bel_trans HB4.out hb); clear hb))
    go_ret
    exact ⟨rfl, HB5.out⟩
end Go.Proofs.YtcmjdbljdkabpaaGreatDoor
