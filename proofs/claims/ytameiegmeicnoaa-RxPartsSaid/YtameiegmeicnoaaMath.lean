/- Plain lists and numbers of layers 1 to 3: sums of bytes, escapes, frames. No program is named here. -/
namespace Go.Proofs.Ytameiegmeicnoaa.M

/-- One bit of a sum. -/
def cstep (c : Nat) : Nat := if c % 2 = 1 then (c / 2) ^^^ 33800 else c / 2
def csteps : Nat → Nat → Nat
  | 0, c => c
  | k + 1, c => cstep (csteps k c)
/-- P1.1: a byte added. -/
def cadd (c b : Nat) : Nat := csteps 8 (c ^^^ b)
def caddAll : Nat → List UInt8 → Nat
  | c, [] => c
  | c, b :: l => caddAll (cadd c b.toNat) l
def cof (l : List UInt8) : Nat := 65535 - caddAll 65535 l
def cput (l : List UInt8) : List UInt8 := l ++ [UInt8.ofNat (cof l % 256), UInt8.ofNat (cof l / 256)]
def cfine (l : List UInt8) : Bool := decide (2 ≤ l.length) && (cput (l.take (l.length - 2)) == l)

theorem xor_lt {a b : Nat} (ha : a < 65536) (hb : b < 65536) : a ^^^ b < 65536 := Nat.xor_lt_two_pow (n := 16) ha hb
theorem cstep_lt {c : Nat} (h : c < 65536) : cstep c < 65536 := by
  unfold cstep
  split
  · exact xor_lt (by omega) (by decide)
  · omega
theorem csteps_lt {c : Nat} (h : c < 65536) : ∀ k, csteps k c < 65536
  | 0 => h
  | k + 1 => cstep_lt (csteps_lt h k)
theorem cadd_lt {c b : Nat} (h : c < 65536) (hb : b < 256) : cadd c b < 65536 := csteps_lt (xor_lt h (by omega)) 8
theorem caddAll_lt : ∀ (l : List UInt8) {c : Nat}, c < 65536 → caddAll c l < 65536
  | [], _, h => h
  | b :: l, _, h => caddAll_lt l (cadd_lt h b.toNat_lt)
theorem cof_lt (l : List UInt8) : cof l < 65536 := by unfold cof; omega
theorem caddAll_append : ∀ (l m : List UInt8) (c : Nat), caddAll c (l ++ m) = caddAll (caddAll c l) m
  | [], _, _ => rfl
  | b :: l, m, c => caddAll_append l m (cadd c b.toNat)
theorem caddAll_snoc (l : List UInt8) (b : UInt8) (c : Nat) : caddAll c (l ++ [b]) = cadd (caddAll c l) b.toNat := caddAll_append l [b] c


theorem two_split (l : List UInt8) (h : 2 ≤ l.length) : l = l.take (l.length - 2) ++ [l.getD (l.length - 2) 0, l.getD (l.length - 1) 0] := by
  have h1 : l.drop (l.length - 2) = [l.getD (l.length - 2) 0, l.getD (l.length - 1) 0] := by
    apply List.ext_getElem
    · simp; omega
    · intro i h2 h3
      simp at h2 h3
      rcases i with _ | _ | i
      · simp [show l.length - 2 < l.length by omega]
      · simp [show l.length - 1 < l.length by omega, show l.length - 2 + 1 = l.length - 1 by omega]
      · omega
  rw [← h1, List.take_append_drop]
theorem cfine_short (l : List UInt8) (h : l.length < 2) : cfine l = false := by
  unfold cfine; simp; omega
theorem cfine_long (l : List UInt8) (h : 2 ≤ l.length) : cfine l = (decide (l.getD (l.length - 2) 0 = UInt8.ofNat (cof (l.take (l.length - 2)) % 256)) && decide (l.getD (l.length - 1) 0 = UInt8.ofNat (cof (l.take (l.length - 2)) / 256))) := by
  have e : (cput (l.take (l.length - 2)) == l) = (decide (l.getD (l.length - 2) 0 = UInt8.ofNat (cof (l.take (l.length - 2)) % 256)) && decide (l.getD (l.length - 1) 0 = UInt8.ofNat (cof (l.take (l.length - 2)) / 256))) := by
    rw [Bool.eq_iff_iff, beq_iff_eq]
    conv => lhs; rhs; rw [two_split l h]
    unfold cput
    simp only [List.append_cancel_left_eq, List.cons.injEq, and_true, Bool.and_eq_true, decide_eq_true_eq]
    exact ⟨fun h => ⟨h.1.symm, h.2.symm⟩, fun h => ⟨h.1.symm, h.2.symm⟩⟩
  unfold cfine
  rw [e]
  simp [h]


/-- P2.1: bytes escaped. -/
def special (x : UInt8) : Bool := x == 192 || x == 193 || x == 125
def cesc : List UInt8 → List UInt8
  | [] => []
  | x :: l => if special x = true then 125 :: (x ^^^ 32) :: cesc l else x :: cesc l
theorem cesc_append : ∀ l m : List UInt8, cesc (l ++ m) = cesc l ++ cesc m
  | [], _ => rfl
  | x :: l, m => by
    simp only [List.cons_append, cesc, cesc_append l m]
    split <;> rfl
theorem cesc_length : ∀ l : List UInt8, l.length ≤ (cesc l).length ∧ (cesc l).length ≤ 2 * l.length
  | [] => by simp [cesc]
  | x :: l => by
    have := cesc_length l
    simp only [cesc]
    split <;> simp only [List.length_cons] <;> omega
/-- How many extras. -/
def extras (extra : Int) : Nat := (min (max extra 0) 10).toNat
def cwrap (l : List UInt8) (extra : Int) : List UInt8 := List.replicate (extras extra) 255 ++ (192 :: cesc (cput l)) ++ [193]
def cabort (l : List UInt8) : List UInt8 := (192 :: cesc l) ++ [125, 193]


/-- P3.1: what an Rx keeps. -/
structure R where
  most : Nat
  ins : Bool
  esc : Bool
  f : List UInt8
def R.new (most : Int) : R := ⟨(min (max most 1) 200).toNat, false, false, []⟩
/-- A frame's end: its bytes, and why. -/
def rend (mk : Bool) (f : List UInt8) : List UInt8 × Nat :=
  if mk = true then ([], 9) else if f.length ≤ 2 ∨ cfine f = false then ([], 8) else (f.take (f.length - 2), 0)
/-- A byte: the state behind it; the bytes told, why, whether. -/
def rput (r : R) (b : UInt8) : R × List UInt8 × Nat × Bool :=
  if b = 192 then (⟨r.most, true, false, []⟩, [], 0, false)
  else if r.ins = false then (r, [], 0, false)
  else if b = 193 then (⟨r.most, false, r.esc, r.f⟩, (rend r.esc r.f).1, (rend r.esc r.f).2, true)
  else if b = 125 ∧ r.esc = false then (⟨r.most, r.ins, true, r.f⟩, [], 0, false)
  else if r.most + 2 ≤ r.f.length then (⟨r.most, false, r.esc, r.f⟩, [], 7, true)
  else (⟨r.most, r.ins, false, r.f ++ [if r.esc = true then b ^^^ 32 else b]⟩, [], 0, false)
def R.ok (r : R) : Prop := 1 ≤ r.most ∧ r.most ≤ 200 ∧ r.f.length ≤ r.most + 2
theorem R.new_ok (most : Int) : (R.new most).ok := by
  refine ⟨?_, ?_, ?_⟩ <;> simp only [R.new, List.length_nil] <;> omega
theorem rput_ok (r : R) (b : UInt8) (h : r.ok) : (rput r b).1.ok := by
  obtain ⟨h1, h2, h3⟩ := h
  unfold rput
  split
  · exact ⟨h1, h2, by simp⟩
  · split
    · exact ⟨h1, h2, h3⟩
    · split
      · exact ⟨h1, h2, h3⟩
      · split
        · exact ⟨h1, h2, h3⟩
        · split
          · exact ⟨h1, h2, h3⟩
          · refine ⟨h1, h2, ?_⟩
            simp only [List.length_append, List.length_cons, List.length_nil]
            omega
/-- The frame told by one byte, if it is OK. -/
def told : R × List UInt8 × Nat × Bool → List (List UInt8)
  | (_, l, 0, true) => [l]
  | _ => []
/-- The frames told by the bytes, one behind the other, and the state behind them. -/
def rall : R → List UInt8 → List (List UInt8) × R
  | r, [] => ([], r)
  | r, b :: l => (told (rput r b) ++ (rall (rput r b).1 l).1, (rall (rput r b).1 l).2)
theorem rall_append : ∀ (l m : List UInt8) (r : R), rall r (l ++ m) = ((rall r l).1 ++ (rall (rall r l).2 m).1, (rall (rall r l).2 m).2)
  | [], m, r => rfl
  | b :: l, m, r => by simp only [List.cons_append, rall, rall_append l m (rput r b).1, List.append_assoc]
theorem rall_snoc (l : List UInt8) (r : R) (x : UInt8) : rall r (l ++ [x]) = ((rall r l).1 ++ told (rput (rall r l).2 x), (rput (rall r l).2 x).1) := by
  rw [rall_append]
  simp only [rall, List.append_nil]
theorem told_len : ∀ x, (told x).length ≤ 1
  | (_, _, 0, true) => by simp [told]
  | (_, _, _ + 1, _) => by simp [told]
  | (_, _, 0, false) => by simp [told]
theorem rall_len : ∀ (l : List UInt8) (r : R), (rall r l).1.length ≤ l.length
  | [], r => Nat.zero_le _
  | b :: l, r => by
    have h := rall_len l (rput r b).1
    have := told_len (rput r b)
    simp only [rall, List.length_cons, List.length_append]
    omega

theorem cput_length (l : List UInt8) : (cput l).length = l.length + 2 := by simp [cput]
theorem cfine_cput (l : List UInt8) : cfine (cput l) = true := by
  unfold cfine
  have h : (cput l).take ((cput l).length - 2) = l := by
    rw [cput_length, Nat.add_sub_cancel]
    unfold cput
    exact List.take_left
  rw [h]
  simp [cput_length]

theorem special_iff (x : UInt8) : special x = true ↔ x = 192 ∨ x = 193 ∨ x = 125 := by
  simp [special, Bool.or_eq_true, beq_iff_eq, or_assoc]
theorem cesc_clean : ∀ (l : List UInt8) (x : UInt8), x ∈ cesc l → x ≠ 192 ∧ x ≠ 193
  | [], x, h => by simp [cesc] at h
  | y :: l, x, h => by
    simp only [cesc] at h
    split at h
    · rename_i hs
      rcases List.mem_cons.1 h with rfl | h
      · decide
      · rcases List.mem_cons.1 h with rfl | h
        · rcases (special_iff y).1 hs with rfl | rfl | rfl <;> decide
        · exact cesc_clean l x h
    · rename_i hs
      rcases List.mem_cons.1 h with rfl | h
      · exact ⟨fun e => hs ((special_iff _).2 (.inl e)), fun e => hs ((special_iff _).2 (.inr (.inl e)))⟩
      · exact cesc_clean l x h
theorem cesc_last (l : List UInt8) (k : Nat) (hk : k + 1 = (cesc l).length) : (cesc l).getD k 0 ≠ 125 := by
  rcases List.eq_nil_or_concat l with rfl | ⟨m, y, rfl⟩
  · simp [cesc] at hk
  · rw [List.concat_eq_append, cesc_append] at hk ⊢
    have h1 : cesc [y] = if special y = true then [125, y ^^^ 32] else [y] := by simp only [cesc]
    rw [h1] at hk ⊢
    split at hk
    · rename_i hs
      rw [if_pos hs]
      have e : k = (cesc m).length + 1 := by simp at hk; omega
      subst e
      simp only [List.getD_eq_getElem?_getD]
      rw [List.getElem?_append_right (by omega), show (cesc m).length + 1 - (cesc m).length = 1 by omega]
      rcases (special_iff y).1 hs with rfl | rfl | rfl <;> decide
    · rename_i hs
      rw [if_neg hs]
      have e : k = (cesc m).length := by simp at hk; omega
      subst e
      simp only [List.getD_eq_getElem?_getD]
      rw [List.getElem?_append_right (Nat.le_refl _), Nat.sub_self]
      intro e
      apply hs
      exact (special_iff y).2 (.inr (.inr (by simpa using e)))

end Go.Proofs.Ytameiegmeicnoaa.M
