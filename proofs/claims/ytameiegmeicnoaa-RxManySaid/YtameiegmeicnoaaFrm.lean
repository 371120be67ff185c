/- Frames on the air and from it. -/
import Derived.Test.YtameiegmeicnoaaLin
namespace Go.Proofs.Ytameiegmeicnoaa.M

theorem rput_c0 (r : R) : rput r 192 = (⟨r.most, true, false, []⟩, [], 0, false) := by simp [rput]
theorem rput_ext (r : R) : told (rput r 255) = [] ∧ (rput r 255).1.most = r.most := by
  unfold rput
  rw [if_neg (by decide)]
  split
  · exact ⟨rfl, rfl⟩
  · rw [if_neg (by decide), if_neg (by simp)]
    split
    · exact ⟨rfl, rfl⟩
    · exact ⟨rfl, rfl⟩
theorem rall_ext : ∀ (n : Nat) (r : R), (rall r (List.replicate n 255)).1 = [] ∧ (rall r (List.replicate n 255)).2.most = r.most
  | 0, r => ⟨rfl, rfl⟩
  | n + 1, r => by
    have h := rall_ext n (rput r 255).1
    have h1 := rput_ext r
    simp only [List.replicate_succ, rall]
    rw [h1.1, h.1, h.2, h1.2]
    exact ⟨rfl, rfl⟩
theorem rput_add {most : Nat} {esc : Bool} {f : List UInt8} {b : UInt8} (h1 : b ≠ 192) (h2 : b ≠ 193) (h3 : ¬ (b = 125 ∧ esc = false)) (hl : f.length < most + 2) :
    rput ⟨most, true, esc, f⟩ b = (⟨most, true, false, f ++ [if esc = true then b ^^^ 32 else b]⟩, [], 0, false) := by
  unfold rput
  rw [if_neg h1, if_neg (by simp), if_neg h2]
  simp only
  rw [if_neg h3, if_neg (by omega)]
theorem rput_esc (most : Nat) (f : List UInt8) : rput ⟨most, true, false, f⟩ 125 = (⟨most, true, true, f⟩, [], 0, false) := by simp [rput]
theorem rall_esc : ∀ (l f : List UInt8) (most : Nat), f.length + l.length ≤ most + 2 → rall ⟨most, true, false, f⟩ (cesc l) = ([], ⟨most, true, false, f ++ l⟩)
  | [], f, most, _ => by simp [cesc, rall]
  | x :: l, f, most, h => by
    simp only [List.length_cons] at h
    have hf : f ++ x :: l = (f ++ [x]) ++ l := by simp
    rw [hf]
    have ih := rall_esc l (f ++ [x]) most (by simp; omega)
    simp only [cesc]
    split
    · rename_i hs
      simp only [rall, rput_esc, told, List.nil_append]
      have hy : (x ^^^ 32) ≠ 192 ∧ (x ^^^ 32) ≠ 193 ∧ (x ^^^ 32) ^^^ 32 = x := by
        rcases (special_iff x).1 hs with rfl | rfl | rfl <;> decide
      rw [rput_add hy.1 hy.2.1 (by simp) (by omega)]
      simp only [if_true, hy.2.2, List.nil_append, ih]
    · rename_i hs
      have h1 : x ≠ 192 := fun e => hs ((special_iff x).2 (.inl e))
      have h2 : x ≠ 193 := fun e => hs ((special_iff x).2 (.inr (.inl e)))
      have h3 : x ≠ 125 := fun e => hs ((special_iff x).2 (.inr (.inr e)))
      simp only [rall]
      rw [rput_add h1 h2 (fun h => h3 h.1) (by omega)]
      simp only [Bool.false_eq_true, if_false, told, List.nil_append, ih]
theorem rall_body (r : R) (l : List UInt8) (e : Int) (h : l.length ≤ r.most) : rall r (List.replicate (extras e) 255 ++ 192 :: cesc (cput l)) = ([], ⟨r.most, true, false, cput l⟩) := by
  have h1 := rall_ext (extras e) r
  rw [rall_append, h1.1]
  simp only [rall, rput_c0, told, List.nil_append, h1.2]
  rw [rall_esc _ _ _ (by rw [cput_length]; simp; omega)]
  rfl
theorem rput_end (most : Nat) (esc : Bool) (f : List UInt8) : rput ⟨most, true, esc, f⟩ 193 = (⟨most, false, esc, f⟩, (rend esc f).1, (rend esc f).2, true) := by simp [rput]
theorem rend_cput (l : List UInt8) (h : 0 < l.length) : rend false (cput l) = (l, 0) := by
  unfold rend
  rw [if_neg (by simp), if_neg (by rw [cfine_cput, cput_length]; rintro (h' | h'); omega; cases h'), cput_length, Nat.add_sub_cancel]
  unfold cput
  rw [List.take_left]
theorem rall_wrap (r : R) (l : List UInt8) (e : Int) (h : l.length ≤ r.most) (h0 : 0 < l.length) : rall r (cwrap l e) = ([l], ⟨r.most, false, false, cput l⟩) := by
  unfold cwrap
  rw [rall_append, rall_body r l e h]
  simp only [rall, rput_end, rend_cput l h0, told, List.nil_append]
  rfl
theorem rall_wrap_nil (r : R) (e : Int) : rall r (cwrap [] e) = ([], ⟨r.most, false, false, cput []⟩) := by
  unfold cwrap
  rw [rall_append, rall_body r [] e (by simp)]
  have h : rend false (cput []) = ([], 8) := by decide
  simp only [rall, rput_end, h, told, List.nil_append]
theorem rall_abort (r : R) (l : List UInt8) (h : l.length ≤ r.most + 2) : (rall r (cabort l)).1 = [] := by
  unfold cabort
  rw [rall_append]
  simp only [rall, rput_c0, told, List.nil_append]
  rw [rall_esc _ _ _ (by simpa using h)]
  simp only [rput_esc, List.nil_append, rput_end]
  rfl
theorem rall_take_nil {r : R} {p q : List UInt8} (h : (rall r (p ++ q)).1 = []) : (rall r p).1 = [] := by
  rw [rall_append] at h
  exact (List.append_eq_nil_iff.1 h).1
theorem rall_cut (r : R) (l : List UInt8) (e : Int) (k : Nat) (h : l.length ≤ r.most) (hk : k < (cwrap l e).length) : (rall r ((cwrap l e).take k)).1 = [] := by
  have h1 : (cwrap l e).take k = (List.replicate (extras e) 255 ++ 192 :: cesc (cput l)).take k := by
    unfold cwrap at hk ⊢
    rw [List.take_append_of_le_length]
    simp only [List.length_append, List.length_cons, List.length_nil] at hk ⊢
    omega
  rw [h1]
  refine rall_take_nil (q := (List.replicate (extras e) 255 ++ 192 :: cesc (cput l)).drop k) ?_
  rw [List.take_append_drop, rall_body r l e h]
theorem rput_most (r : R) (b : UInt8) : (rput r b).1.most = r.most := by
  unfold rput
  repeat' split
  all_goals rfl
theorem rall_most : ∀ (l : List UInt8) (r : R), (rall r l).2.most = r.most
  | [], r => rfl
  | b :: l, r => by
    simp only [rall]
    rw [rall_most l, rput_most]
theorem told_ne (r : R) (b : UInt8) : ∀ f ∈ told (rput r b), f ≠ [] := by
  intro f hf
  by_cases h1 : b = 192
  · subst h1; rw [rput_c0] at hf; simp [told] at hf
  · by_cases h2 : r.ins = false
    · have : rput r b = (r, [], 0, false) := by unfold rput; rw [if_neg h1, if_pos h2]
      rw [this] at hf; simp [told] at hf
    · by_cases h3 : b = 193
      · have : rput r b = (⟨r.most, false, r.esc, r.f⟩, (rend r.esc r.f).1, (rend r.esc r.f).2, true) := by unfold rput; rw [if_neg h1, if_neg h2, if_pos h3]
        rw [this] at hf
        unfold rend at hf
        split at hf
        · simp [told] at hf
        · split at hf
          · simp [told] at hf
          · rename_i h5
            simp only [told, List.mem_singleton] at hf
            rintro rfl
            have : (r.f.take (r.f.length - 2)).length = 0 := by rw [← hf]; rfl
            rw [List.length_take] at this
            apply h5
            left
            omega
      · have : told (rput r b) = [] := by
          unfold rput
          rw [if_neg h1, if_neg h2, if_neg h3]
          split
          · rfl
          · split <;> rfl
        rw [this] at hf; simp at hf
theorem rall_ne : ∀ (l : List UInt8) (r : R), ∀ f ∈ (rall r l).1, f ≠ []
  | [], r, f, h => by simp [rall] at h
  | b :: l, r, f, h => by
    simp only [rall, List.mem_append] at h
    rcases h with h | h
    · exact told_ne r b f h
    · exact rall_ne l _ f h
end Go.Proofs.Ytameiegmeicnoaa.M
