/- Package setup (as landed at 3ea5f42): which parts ahead of the offer may be. -/
import Derived.Test.YtcmjdbljdkabpaaGreatDoorM8G
import Derived.Test.YtcmjdbljdkabpaaGreatDoorM8J

set_option linter.all false

namespace Go.Proofs.YtcmjdbljdkabpaaGreatDoor
open Go.RowKit M

theorem run_boxA (a b : Int) (w : World) : (Instr.box 62 (.agg #[.int .i64 a, .int .i64 b])).run Tryz.prog w = .ok (.pointer (some ⟨w.heap.size, 0, none⟩)) (w.alloc (.cells #[.int .i64 a, .int .i64 b] 62)) := by
  kernel_rfl
def addrOk (a b : Int) : Bool := decide (0 ≤ a ∧ a < 8) && decide (0 ≤ b ∧ b ≤ 249)
def fineS (s : St) : Bool := ownN s.from_ && ownN s.to_ && addrOk s.seat s.count
theorem maySt_fine (s : St) : maySt s = (fineS s && mayO s.o) := by
  unfold maySt fineS addrOk
  simp only [Bool.and_assoc]
set_option maxRecDepth 100000 in
set_option maxHeartbeats 4000000 in
theorem SisAddress_any (a b : Int) (w : World) : Calls Tryz.prog 111 #[.agg #[.int .i64 a, .int .i64 b]] w fun e w' => e = .returned (.bool (addrOk a b)) ∧ Below w.heap.size w w' := by
  obtain ⟨q, hq⟩ : ∃ q, q = addrOk a b := ⟨_, rfl⟩
  rw [← hq]
  have HQ : Hid (∀ c : Bool, (c = true ↔ (0 ≤ a ∧ a < 8 ∧ 0 ≤ b ∧ b ≤ 249)) → Ending.returned (.bool c) = .returned (.bool q)) := by
    show ∀ _, _
    intro c h
    congr 2
    rw [Bool.eq_iff_iff, h, hq]
    unfold addrOk
    rw [Bool.and_eq_true, decide_eq_true_eq, decide_eq_true_eq, and_assoc]
  clear hq
  go_enter Tryz.func111, Tryz.ntmps111
  go_wp2_with (with_reducible refine wpList_boxS rfl 62 _ (.tmp 0) rfl rfl (run_boxA a b) ?_)
  intro w1 hb1 hlt1 hh1
  have c0 : w1.cell? ⟨w.heap.size, 0, none⟩ = some (.int .i64 a) := cell_at hh1 0 _ rfl
  have c1 : w1.cell? ⟨w.heap.size, 1, none⟩ = some (.int .i64 b) := cell_at hh1 1 _ rfl
  have HB := Lib.hid hb1
  clear hb1 hh1
  go_wp2
  all_goals
    go_ret
    refine ⟨HQ.out _ ?_, HB.out⟩
    clear HQ HB c0 c1
    first | (simp at *; done) | (simp at *; omega) | omega
set_option maxRecDepth 100000 in
set_option maxHeartbeats 4000000 in
theorem SareFine_any (s : St) (w : World) : Calls Tryz.prog 94 #[s.val] w fun e w' => e = .returned (.bool (fineS s)) ∧ Below w.heap.size w w' := by
  obtain ⟨fr, tt, se, co, ⟨b, si, wi, z, wa⟩⟩ := s
  obtain ⟨r, hr⟩ : ∃ r, r = fineS ⟨fr, tt, se, co, ⟨b, si, wi, z, wa⟩⟩ := ⟨_, rfl⟩
  rw [← hr]
  have hf := fun w => XisId_any fr w
  have ht := fun w => XisId_any tt w
  have ha := fun w => SisAddress_any se co w
  unfold fineS at hr
  simp only at hr
  generalize ownN fr = o1 at *
  generalize ownN tt = o2 at *
  generalize addrOk se co = o3 at *
  have HR := Lib.hid hr
  have HF := Lib.hid hf
  have HT := Lib.hid ht
  have HA := Lib.hid ha
  clear hr hf ht ha
  go_enter Tryz.func94, Tryz.ntmps94
  go_wp2_with (with_reducible refine wpList_boxS rfl 64 _ (.tmp 0) rfl rfl (run_boxS ⟨fr, tt, se, co, ⟨b, si, wi, z, wa⟩⟩) ?_)
  intro w1 hb1 hlt1 hh1
  have c0 : w1.cell? ⟨w.heap.size, 0, none⟩ = some (.int .u32 fr) := cell_at hh1 0 _ rfl
  have c1 : w1.cell? ⟨w.heap.size, 1, none⟩ = some (.int .u32 tt) := cell_at hh1 1 _ rfl
  have c2 : w1.cell? ⟨w.heap.size, 2, none⟩ = some (.int .i64 se) := cell_at hh1 2 _ rfl
  have c3 : w1.cell? ⟨w.heap.size, 3, none⟩ = some (.int .i64 co) := cell_at hh1 3 _ rfl
  have HB := Lib.hid hb1
  clear hb1 hh1
  go_wp2_with (first
    | (go_at_call 83; first | ((with_reducible refine (HF.out _).mono ?_); rintro e w' ⟨rfl, rfl⟩) | ((with_reducible refine (HT.out _).mono ?_); rintro e w' ⟨rfl, rfl⟩))
    | (go_at_call 111; (with_reducible refine (HA.out _).mono ?_); rintro e w2 ⟨rfl, hb⟩; have HB2 := Lib.hid (bel_trans HB.out hb); clear hb))
  all_goals
    go_ret
    refine ⟨?_, by first | exact HB2.out | exact HB.out⟩
    have h := HR.out
    clear HB HF HT HA HR c0 c1 c2 c3
    cases o1 <;> cases o2 <;> cases o3 <;> simp_all
end Go.Proofs.YtcmjdbljdkabpaaGreatDoor
