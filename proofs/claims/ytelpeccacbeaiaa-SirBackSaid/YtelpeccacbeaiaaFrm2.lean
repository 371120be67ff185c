/- What SirBack says of frames. -/
import Derived.Test.YtelpeccacbeaiaaFrm
namespace Go.Proofs.Ytelpeccacbeaiaa.M

def cnt (l : List UInt8) : Nat := (l.filter fun x => x == 192 || x == 193).length
theorem cnt_append (l m : List UInt8) : cnt (l ++ m) = cnt l + cnt m := by simp [cnt]
theorem cnt_zero {l : List UInt8} (h : ∀ x ∈ l, x ≠ 192 ∧ x ≠ 193) : cnt l = 0 := by
  unfold cnt
  rw [List.length_eq_zero_iff, List.filter_eq_nil_iff]
  intro x hx
  have := h x hx
  simp [this.1, this.2]
theorem cnt_one (x : UInt8) : cnt [x] = if x = 192 ∨ x = 193 then 1 else 0 := by
  unfold cnt
  by_cases h1 : x = 192
  · subst h1; rfl
  · by_cases h2 : x = 193
    · subst h2; rfl
    · simp [h1, h2]
theorem cnt_wrap (l : List UInt8) (e : Int) : cnt (cwrap l e) = 2 := by
  unfold cwrap
  have h : (192 : UInt8) :: cesc (cput l) = [192] ++ cesc (cput l) := rfl
  rw [h, cnt_append, cnt_append, cnt_append, cnt_zero (l := List.replicate _ _), cnt_zero (l := cesc (cput l)) (fun x hx => cesc_clean _ x hx)]
  · decide
  · intro x hx
    rw [(List.mem_replicate.1 hx).2]
    decide
theorem back (a b c : List UInt8) (e : Int) (hb : b.length ≤ 100) : ((rall (R.new 100) (a ++ cwrap b e ++ c)).1.any (· == b)) = decide (0 < b.length) := by
  have hm : (R.new 100).most = 100 := by decide
  by_cases h0 : 0 < b.length
  · rw [decide_eq_true h0, rall_append, rall_append, rall_wrap _ b e (by rw [rall_most, hm]; exact hb) h0]
    simp
  · rw [decide_eq_false h0]
    have hb0 : b = [] := List.eq_nil_of_length_eq_zero (by omega)
    rw [List.any_eq_false]
    intro x hx
    have := rall_ne _ _ x hx
    rw [hb0]
    simpa using this
theorem any_take (LL : List (List UInt8)) (b : List UInt8) (k : Nat) (h : k < LL.length) : (LL.take (k + 1)).any (· == b) = ((LL.take k).any (· == b) || (LL.getD k [] == b)) := by
  rw [List.take_succ_eq_append_getElem h, List.any_append]
  simp [h]
end Go.Proofs.Ytelpeccacbeaiaa.M
