/- The walk of the laws' back. -/
import Derived.Test.YtaofomkalnagcaaDoorM4J
import Derived.Test.YtaofomkalnagcaaDoorBegun4

set_option linter.all false

namespace Go.Proofs.YtaofomkalnagcaaDoor
open Go.RowKit M

theorem getT_len {s : List UInt8} {l : List Tp} (h : getT s = some l) : l.length ≤ 64 ∧ ∀ t ∈ l, t.2.length ≤ 1000 := by
  have hp := putT_getT h
  unfold putT at hp
  split at hp
  · rename_i hc
    refine ⟨?_, fun t ht => ?_⟩
    · have : ∀ l : List Tp, l.length ≤ (flat l).length := by
        intro l
        induction l with
        | nil => simp
        | cons t l ih => rw [flat_cons, List.length_append, tb_len, List.length_cons]; omega
      exact Nat.le_trans (this l) hc.2
    · have := (hc.1 t ht).2.2; omega
  · cases hp
theorem bytes_same (s : ByteArray) : (⟨s.data.toList.toArray⟩ : ByteArray) = s := rfl

theorem putTP_lit {f : FuncId} {args : Array Value} {l : List Tp} {s : ByteArray} {w : World} (h : Calls Tryd.prog f args w (PutTP l w)) (hp : putT l = some s.data.toList) : Calls Tryd.prog f args w fun e w' => e = .returned (.tuple #[.string s, .bool true]) ∧ Below w.heap.size w w' := by
  unfold PutTP at h
  rw [hp] at h
  exact h

set_option maxRecDepth 100000 in
set_option maxHeartbeats 4000000 in
theorem back_any (s : ByteArray) (w : World) (hs : s.size ≤ maxLen) : Calls Tryd.prog 61 #[.string s] w fun e w' => e = .returned (.bool true) ∧ Below w.heap.size w w' := by
  have hg1 := fun w => TGet_any s w hs
  have hg2 := fun w => RefGetT_any s w hs
  unfold GetTP at hg1 hg2
  rcases hg : getT s.data.toList with _ | l
  · rw [hg] at hg1 hg2
    have HG1 := Lib.hid hg1
    have HG2 := Lib.hid hg2
    have hpu : ∀ (w : World), Calls Tryd.prog 56 #[.slice none 0 0] w (PutTP [] w) := fun w => TPut_any _ [] w (OwnT.nil_ w 0).rd (by simp) (fun t ht => by simp at ht)
    have HPU := Lib.hid hpu
    clear hg1 hg2 hg hpu hs
    go_enter Tryd.func61, Tryd.ntmps61
    go_wp2_with (first
      | (go_at_call 58; refine (HG1.out _).mono ?_; rintro e w1 ⟨v1, rfl, ho1, hb1⟩; have HB1 := Lib.hid hb1; have HR1 := Lib.hid ho1.rd; obtain ⟨A1, c1, rfl, _, _⟩ := ho1.shape; clear ho1 hb1)
      | (go_at_call 92; refine (HG2.out _).mono ?_; rintro e w2 ⟨v2, rfl, ho2, hb2⟩; have HB2 := Lib.hid (bel_trans HB1.out hb2); have HR2 := Lib.hid ho2.rd; have HR12 := Lib.hid (HR1.out.below hb2); obtain ⟨A2, c2, rfl, _, _⟩ := ho2.shape; clear ho2 hb2)
      | (go_at_call 59; refine (eqT_any _ _ _ _ _ HR12.out HR2.out).mono ?_; rintro e w3 ⟨rfl, hb3⟩; have HB3 := Lib.hid (bel_trans HB2.out hb3); have HR13 := Lib.hid (HR12.out.below hb3); clear hb3)
      | (go_at_call 56; refine (TPut_any _ _ _ HR13.out (by simp) (fun t ht => by simp at ht)).mono ?_; rintro e w4 ⟨rfl, hb4⟩; have HB4 := Lib.hid (bel_trans HB3.out hb4); clear hb4))
    go_ret
    exact ⟨rfl, HB4.out⟩
  · have hl := getT_len hg
    have hpt := putT_getT hg
    rw [hg] at hg1 hg2
    have HG1 := Lib.hid hg1
    have HG2 := Lib.hid hg2
    have HL := Lib.hid hl
    have HPT := Lib.hid hpt
    have hdec : decide (l = l) = true := decide_eq_true rfl
    clear hg1 hg2 hg hs hl hpt
    go_enter Tryd.func61, Tryd.ntmps61
    go_wp2_with (first
      | (go_at_call 58; refine (HG1.out _).mono ?_; rintro e w1 ⟨v1, rfl, ho1, hb1⟩; have HB1 := Lib.hid hb1; have HR1 := Lib.hid ho1.rd; obtain ⟨A1, c1, rfl, _, _⟩ := ho1.shape; clear ho1 hb1)
      | (go_at_call 92; refine (HG2.out _).mono ?_; rintro e w2 ⟨v2, rfl, ho2, hb2⟩; have HB2 := Lib.hid (bel_trans HB1.out hb2); have HR2 := Lib.hid ho2.rd; have HR12 := Lib.hid (HR1.out.below hb2); obtain ⟨A2, c2, rfl, _, _⟩ := ho2.shape; clear ho2 hb2)
      | (go_at_call 59; refine (eqT_any _ _ _ _ _ HR12.out HR2.out).mono ?_; rintro e w3 ⟨rfl, hb3⟩; have HB3 := Lib.hid (bel_trans HB2.out hb3); have HR13 := Lib.hid (HR12.out.below hb3); clear hb3)
      | (go_at_call 56; refine (putTP_lit (TPut_any _ _ _ HR13.out (by have := HL.out.1; simp only [Option.getD_some]; omega) HL.out.2) HPT.out).mono ?_; rintro e w4 ⟨rfl, hb4⟩; have HB4 := Lib.hid (bel_trans HB3.out hb4); clear hb4))
    go_ret
    exact ⟨rfl, HB4.out⟩
end Go.Proofs.YtaofomkalnagcaaDoor
