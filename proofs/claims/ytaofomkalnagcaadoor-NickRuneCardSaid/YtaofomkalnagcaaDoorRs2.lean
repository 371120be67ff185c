/- Runes of texts that are joined, cut, made plain. -/
import Derived.Test.YtaofomkalnagcaaDoorM4E

set_option linter.all false

namespace Go.Proofs.YtaofomkalnagcaaDoor.M
open Go.Proofs.YtaofomkalnagcaaDoor (kind kind_ascii plain_len plainOf_len)

theorem at_take {l m : List UInt8} {w k : Nat} (hk : k < w) (hw : w ≤ l.length) : at_ (l.take w ++ m) k = at_ l k := by
  unfold at_
  simp only [List.getD_eq_getElem?_getD]
  rw [List.getElem?_append_left (by rw [List.length_take]; omega), List.getElem?_take_of_lt hk]
theorem cont_take {l m : List UInt8} {w k : Nat} (hk : k < w) (hw : w ≤ l.length) : cont (l.take w ++ m) k = cont l k := by
  unfold cont
  rw [at_take hk hw]
  congr 1
  simp only [List.length_append, List.length_take]
  apply propext
  omega
set_option maxRecDepth 100000 in
/-- A rune hangs on its own bytes alone. -/
theorem dec_own_bytes {l : List UInt8} (h0 : l ≠ []) (hb : dec l ≠ (65533, 1)) (m : List UInt8) : dec (l.take (dec l).2 ++ m) = dec l := by
  have hw := dec_width h0
  obtain ⟨w, hwd⟩ : ∃ w, w = (dec l).2 := ⟨_, rfl⟩
  rw [← hwd] at hw ⊢
  have ha : ∀ k, k < w → at_ (l.take w ++ m) k = at_ l k := fun k hk => at_take hk hw.2
  have hc : ∀ k, k < w → cont (l.take w ++ m) k = cont l k := fun k hk => cont_take hk hw.2
  have ha0 := ha 0 (by omega)
  generalize l.take w ++ m = l' at *
  have key : ∀ x, dec l = x → x.2 = w → dec l' = x := by
    intro x hx hxw
    rw [dec_eq] at hx ⊢
    rw [ha0]
    split at hx
    · rename_i h1
      rw [if_pos h1]
      exact hx
    · rename_i h1
      rw [if_neg h1]
      split at hx
      · rename_i h2
        split at hx
        · rename_i h3
          subst hx
          simp only at hxw
          rw [hc 1 (by omega), ha 1 (by omega), if_pos h2, if_pos h3]
        · exact absurd (by rw [dec_eq, if_neg h1, if_pos h2]; rename_i h3; rw [if_neg h3]) hb
      · rename_i h2
        split at hx
        · rename_i h3
          split at hx
          · rename_i h4
            subst hx
            simp only at hxw
            rw [hc 1 (by omega), hc 2 (by omega), ha 1 (by omega), ha 2 (by omega), if_neg h2, if_pos h3, if_pos h4]
          · exact absurd (by rw [dec_eq, if_neg h1, if_neg h2, if_pos h3]; rename_i h4; rw [if_neg h4]) hb
        · rename_i h3
          split at hx
          · rename_i h4
            split at hx
            · rename_i h5
              subst hx
              simp only at hxw
              rw [hc 1 (by omega), hc 2 (by omega), hc 3 (by omega), ha 1 (by omega), ha 2 (by omega), ha 3 (by omega), if_neg h2, if_neg h3, if_pos h4, if_pos h5]
            · exact absurd (by rw [dec_eq, if_neg h1, if_neg h2, if_neg h3, if_pos h4]; rename_i h5; rw [if_neg h5]) hb
          · exact absurd (by rw [dec_eq, if_neg h1, if_neg h2, if_neg h3]; rename_i h4; rw [if_neg h4]) hb
  exact key _ rfl hwd.symm
set_option maxRecDepth 100000 in
/-- A rune that is cut is broken. -/
theorem dec_cut {l : List UInt8} (h0 : l ≠ []) (hb : dec l ≠ (65533, 1)) {j : Nat} (h1 : 0 < j) (h2 : j < (dec l).2) : dec (l.take j) = (65533, 1) := by
  have hw := dec_width h0
  have ha0 : at_ (l.take j) 0 = at_ l 0 := by have := at_take (l := l) (m := []) (w := j) (k := 0) (by omega) (by omega); rwa [List.append_nil] at this
  have hc : ∀ k, j ≤ k → cont (l.take j) k = false := by
    intro k hk
    unfold cont
    simp only [List.length_take, decide_eq_false_iff_not]
    omega
  have hlt : at_ l 0 < 256 := (l.getD 0 0).toNat_lt
  have hcl : (dec l).2 = 1 ∧ at_ l 0 < 128 ∨ (dec l).2 = 2 ∧ 194 ≤ at_ l 0 ∧ at_ l 0 < 224 ∨ (dec l).2 = 3 ∧ 224 ≤ at_ l 0 ∧ at_ l 0 < 240 ∨ (dec l).2 = 4 ∧ 240 ≤ at_ l 0 ∧ at_ l 0 < 245 := by
    rcases (show at_ l 0 < 128 ∨ (194 ≤ at_ l 0 ∧ at_ l 0 < 224) ∨ (224 ≤ at_ l 0 ∧ at_ l 0 < 240) ∨ (240 ≤ at_ l 0 ∧ at_ l 0 < 245) ∨ ((128 ≤ at_ l 0 ∧ at_ l 0 < 194) ∨ 245 ≤ at_ l 0) by omega) with h | h | h | h | h
    · left; rw [dec1 h]; exact ⟨rfl, h⟩
    · right; left
      rcases hcc : cont l 1 with _ | _
      · exact absurd (dec2n ⟨by omega, h.2⟩ (.inl hcc)) hb
      · rw [dec2 h hcc]; exact ⟨rfl, h⟩
    · right; right; left
      rcases hcc : cont l 1 with _ | _
      · exact absurd (dec3n h (.inl hcc)) hb
      · rcases hcc2 : cont l 2 with _ | _
        · exact absurd (dec3n h (.inr hcc2)) hb
        · have := dec3 h hcc hcc2
          split at this
          · exact absurd this hb
          · rw [this]; exact ⟨rfl, h⟩
    · right; right; right
      rcases hcc : cont l 1 with _ | _
      · exact absurd (dec4n h (.inl hcc)) hb
      · rcases hcc2 : cont l 2 with _ | _
        · exact absurd (dec4n h (.inr (.inl hcc2))) hb
        · rcases hcc3 : cont l 3 with _ | _
          · exact absurd (dec4n h (.inr (.inr hcc3))) hb
          · have := dec4 h hcc hcc2 hcc3
            split at this
            · exact absurd this hb
            · rw [this]; exact ⟨rfl, h⟩
    · exact absurd (dec5 h) hb
  rcases hcl with ⟨e, _⟩ | ⟨e, h⟩ | ⟨e, h⟩ | ⟨e, h⟩
  · omega
  · exact dec2n (by rw [ha0]; omega) (.inl (hc 1 (by omega)))
  · refine dec3n (by rw [ha0]; exact h) ?_
    rcases (show j = 1 ∨ j = 2 by omega) with e | e
    · exact .inl (hc 1 (by omega))
    · exact .inr (hc 2 (by omega))
  · refine dec4n (by rw [ha0]; exact h) ?_
    rcases (show j = 1 ∨ j = 2 ∨ j = 3 by omega) with e | e | e
    · exact .inl (hc 1 (by omega))
    · exact .inr (.inl (hc 2 (by omega)))
    · exact .inr (.inr (hc 3 (by omega)))
theorem ok_not_broken {l : List UInt8} (h0 : l ≠ []) (h : okRunes l = true) : dec l ≠ (65533, 1) ∧ kind (dec l).1 ≠ 0 ∧ okRunes (l.drop (dec l).2) = true := by
  unfold okRunes at h
  rw [rs_cons h0] at h
  simp only [List.all_cons, Bool.and_eq_true, bne_iff_ne] at h
  refine ⟨fun e => h.1 ?_, h.1, h.2⟩
  rw [e]
  decide
theorem ok_cons {l : List UInt8} (h0 : l ≠ []) : okRunes l = ((kind (dec l).1 != 0) && okRunes (l.drop (dec l).2)) := by
  unfold okRunes
  rw [rs_cons h0]
  rfl
/-- A name, and another text. -/
theorem rs_join : ∀ (n : Nat) (a b : List UInt8), a.length ≤ n → okRunes a = true → rs (a ++ b) = rs a ++ rs b
  | 0, a, b, h, _ => by
    have : a = [] := List.eq_nil_of_length_eq_zero (by omega)
    subst this; rfl
  | n + 1, a, b, h, hok => by
    by_cases h0 : a = []
    · subst h0; rfl
    · obtain ⟨h1, h2, h3⟩ := ok_not_broken h0 hok
      have hw := dec_width h0
      have e : a ++ b = a.take (dec a).2 ++ (a.drop (dec a).2 ++ b) := by rw [← List.append_assoc, List.take_append_drop]
      have hd : dec (a ++ b) = dec a := by rw [e]; exact dec_own_bytes h0 h1 _
      have hne : a ++ b ≠ [] := by intro e; exact h0 (List.append_eq_nil_iff.1 e).1
      rw [rs_cons hne, rs_cons h0, hd, List.drop_append_of_le_length hw.2, rs_join n _ b (by simp; omega) h3]
      rfl
theorem cut_le : ∀ (n : Nat) (l : List UInt8) (m : Int), l.length ≤ n → cutL l m ≤ l.length ∧ ((cutL l m : Nat) : Int) ≤ max m 0
  | 0, l, m, h => by
    have : l = [] := List.eq_nil_of_length_eq_zero (by omega)
    subst this
    rw [cutL_stop (.inl rfl)]
    simp
    omega
  | n + 1, l, m, h => by
    by_cases hs : l = [] ∨ dec l = (65533, 1) ∨ m < ((dec l).2 : Int)
    · rw [cutL_stop hs]; simp; omega
    · have h0 : l ≠ [] := fun e => hs (.inl e)
      have hw := dec_width h0
      have := cut_le n (l.drop (dec l).2) (m - (dec l).2) (by simp; omega)
      rw [cutL_go hs]
      simp only [List.length_drop] at this
      omega
/-- What is cut twice. -/
theorem cut_take : ∀ (k : Nat) (l : List UInt8) (n m : Int), l.length ≤ k → cutL (l.take (cutL l n)) m = cutL l (min n m)
  | 0, l, n, m, h => by
    have : l = [] := List.eq_nil_of_length_eq_zero (by omega)
    subst this
    rw [List.take_nil, cutL_stop (m := m) (.inl rfl), cutL_stop (m := min n m) (.inl rfl)]
  | k + 1, l, n, m, h => by
    by_cases hs : l = [] ∨ dec l = (65533, 1) ∨ n < ((dec l).2 : Int)
    · rw [cutL_stop hs, List.take_zero, cutL_stop (.inl rfl), cutL_stop]
      rcases hs with e | e | e
      · exact .inl e
      · exact .inr (.inl e)
      · exact .inr (.inr (by omega))
    · have h0 : l ≠ [] := fun e => hs (.inl e)
      have hb : dec l ≠ (65533, 1) := fun e => hs (.inr (.inl e))
      have hw := dec_width h0
      have ih := cut_take k (l.drop (dec l).2) (n - (dec l).2) (m - (dec l).2) (by simp; omega)
      rw [cutL_go hs, List.take_add]
      have hd : dec (l.take (dec l).2 ++ (l.drop (dec l).2).take (cutL (l.drop (dec l).2) (n - (dec l).2))) = dec l := dec_own_bytes h0 hb _
      by_cases hm : m < ((dec l).2 : Int)
      · rw [cutL_stop (l := _ ++ _) (.inr (.inr (by rw [hd]; exact hm))), cutL_stop (.inr (.inr (by omega)))]
      · have hne : l.take (dec l).2 ++ (l.drop (dec l).2).take (cutL (l.drop (dec l).2) (n - (dec l).2)) ≠ [] := by
          intro e
          have := congrArg List.length e
          simp at this
          rcases this.1 with e | e
          · omega
          · exact h0 e
        rw [cutL_go (l := _ ++ _) (by rw [hd]; rintro (e | e | e); exact hne e; exact hb e; exact hm e), hd, List.drop_left' (by simp; omega), ih, cutL_go (l := l) (m := min n m) (by rintro (e | e | e); exact h0 e; exact hb e; omega)]
        congr 2
        omega
theorem ok_cut : ∀ (k : Nat) (l : List UInt8) (n : Int), l.length ≤ k → okRunes l = true → okRunes (l.take (cutL l n)) = true
  | 0, l, n, h, _ => by
    have : l = [] := List.eq_nil_of_length_eq_zero (by omega)
    subst this
    simp [okRunes, rs_nil]
  | k + 1, l, n, h, hok => by
    by_cases hs : l = [] ∨ dec l = (65533, 1) ∨ n < ((dec l).2 : Int)
    · rw [cutL_stop hs]; rfl
    · have h0 : l ≠ [] := fun e => hs (.inl e)
      obtain ⟨hb, hk, hok2⟩ := ok_not_broken h0 hok
      have hw := dec_width h0
      have ih := ok_cut k (l.drop (dec l).2) (n - (dec l).2) (by simp; omega) hok2
      rw [cutL_go hs, List.take_add]
      have hd : dec (l.take (dec l).2 ++ (l.drop (dec l).2).take (cutL (l.drop (dec l).2) (n - (dec l).2))) = dec l := dec_own_bytes h0 hb _
      have hne : l.take (dec l).2 ++ (l.drop (dec l).2).take (cutL (l.drop (dec l).2) (n - (dec l).2)) ≠ [] := by
        intro e
        have := congrArg List.length e
        simp at this
        rcases this.1 with e | e
        · omega
        · exact h0 e
      rw [ok_cons hne, hd, List.drop_left' (by simp; omega), ih]
      simpa using hk
/-- ASCII's runes. -/
theorem rs_ascii : ∀ l : List UInt8, (∀ x ∈ l, x.toNat < 128) → rs l = l.map fun x => (x.toNat, 1)
  | [], _ => rfl
  | x :: l, h => by
    have hd : dec (x :: l) = (x.toNat, 1) := dec1 (l := x :: l) (h x (by simp))
    rw [rs_cons (by simp), hd]
    simp only [List.drop_succ_cons, List.drop_zero, List.map_cons]
    rw [rs_ascii l fun y hy => h y (by simp [hy])]
theorem plain_bytes (l : List UInt8) : ∀ x ∈ plainL l, 1 ≤ kind (x.toNat : Nat) ∧ kind (x.toNat : Nat) ≤ 3 := by
  intro x hx
  unfold plainL at hx
  rw [List.mem_flatMap] at hx
  obtain ⟨d, _, hx⟩ := hx
  unfold plainOf at hx
  split at hx
  · rename_i h
    rw [List.mem_singleton] at hx
    have := kind_ascii h
    rw [hx, UInt8.toNat_ofNat', Nat.mod_eq_of_lt (by omega)]
    exact h
  · rw [List.mem_singleton] at hx
    rw [hx]
    decide
theorem plain_plain (l : List UInt8) : plainL (plainL l) = plainL l := by
  have hb := plain_bytes l
  generalize plainL l = p at *
  unfold plainL
  rw [rs_ascii p fun x hx => kind_ascii (hb x hx)]
  clear l
  induction p with
  | nil => rfl
  | cons x p ih =>
    simp only [List.map_cons, List.flatMap_cons]
    rw [ih fun y hy => hb y (by simp [hy])]
    have hx := hb x (by simp)
    unfold plainOf
    rw [if_pos hx]
    simp
theorem plain_ok (l : List UInt8) : okRunes (plainL l) = true := by
  have hb := plain_bytes l
  generalize plainL l = p at *
  unfold okRunes
  rw [rs_ascii p fun x hx => kind_ascii (hb x hx), List.all_map, List.all_eq_true]
  intro x hx
  have := hb x hx
  simp only [Function.comp, bne_iff_ne]
  omega
end Go.Proofs.YtaofomkalnagcaaDoor.M
