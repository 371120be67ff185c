/- Sums are linear: what a turned bit does to them. -/
import Derived.Test.YtameiegmeicnoaaMath
namespace Go.Proofs.Ytameiegmeicnoaa.M

theorem xor_half (a b : Nat) : (a ^^^ b) / 2 = a / 2 ^^^ b / 2 := by
  have h := Nat.shiftRight_xor_distrib (a := a) (b := b) (i := 1)
  simpa [Nat.shiftRight_eq_div_pow] using h
theorem xor_mod2 (a b : Nat) : (a ^^^ b) % 2 = (a % 2 + b % 2) % 2 := by
  have := Nat.xor_mod_two_pow (a := a) (b := b) (n := 1)
  simp only [Nat.pow_one] at this
  rw [this]
  rcases Nat.mod_two_eq_zero_or_one a with h | h <;> rcases Nat.mod_two_eq_zero_or_one b with h' | h' <;> rw [h, h'] <;> rfl

theorem cstep_xor (a b : Nat) : cstep (a ^^^ b) = cstep a ^^^ cstep b := by
  unfold cstep
  rw [xor_mod2, xor_half]
  rcases Nat.mod_two_eq_zero_or_one a with h | h <;> rcases Nat.mod_two_eq_zero_or_one b with h' | h' <;> simp [h, h']
  · rw [Nat.xor_assoc]
  · rw [Nat.xor_assoc, Nat.xor_comm (b / 2) 33800, ← Nat.xor_assoc]
  · rw [Nat.xor_assoc, ← Nat.xor_assoc 33800 (b / 2) 33800, Nat.xor_comm 33800 (b / 2), Nat.xor_assoc (b / 2), Nat.xor_self, Nat.xor_zero]
theorem csteps_xor (a b : Nat) : ∀ k, csteps k (a ^^^ b) = csteps k a ^^^ csteps k b
  | 0 => rfl
  | k + 1 => by simp only [csteps]; rw [csteps_xor a b k, cstep_xor]
theorem cstep_zero : cstep 0 = 0 := by decide
theorem csteps_zero : ∀ k, csteps k 0 = 0
  | 0 => rfl
  | k + 1 => by simp only [csteps]; rw [csteps_zero k, cstep_zero]
theorem cstep_ne {c : Nat} (hc : c < 65536) (h : c ≠ 0) : cstep c ≠ 0 := by
  unfold cstep
  split
  · intro e
    have h1 : c / 2 = 33800 := by
      have := congrArg (· ^^^ 33800) e
      simpa [Nat.xor_assoc] using this
    omega
  · omega
theorem csteps_ne {c : Nat} (hc : c < 65536) (h : c ≠ 0) : ∀ k, csteps k c ≠ 0
  | 0 => h
  | k + 1 => cstep_ne (csteps_lt hc k) (csteps_ne hc h k)
theorem csteps_add (c : Nat) (m : Nat) : ∀ k, csteps (k + m) c = csteps k (csteps m c)
  | 0 => by rw [Nat.zero_add]; rfl
  | k + 1 => by rw [Nat.add_right_comm]; simp only [csteps]; rw [csteps_add c m k]

theorem csteps_two_pow (y : Nat) : ∀ k, csteps k (2 ^ k * y) = y
  | 0 => by simp [csteps]
  | k + 1 => by
    rw [csteps_add _ 1 k]
    have h : csteps 1 (2 ^ (k + 1) * y) = 2 ^ k * y := by
      show cstep (2 ^ (k + 1) * y) = _
      have h2 : 2 ^ (k + 1) * y = 2 * (2 ^ k * y) := by rw [Nat.pow_succ, Nat.mul_comm (2 ^ k) 2, Nat.mul_assoc]
      rw [h2]
      generalize 2 ^ k * y = z
      unfold cstep
      rw [if_neg (by omega)]
      omega
    rw [h, csteps_two_pow y k]
theorem csteps_bit {m k : Nat} (h : k ≤ m) : csteps m (2 ^ k) = csteps (m - k) 1 := by
  have e : m = (m - k) + k := by omega
  rw [e, csteps_add, Nat.add_sub_cancel]
  congr 1
  have := csteps_two_pow 1 k
  rwa [Nat.mul_one] at this
theorem cadd_start (c d x : Nat) : cadd (c ^^^ d) x = cadd c x ^^^ csteps 8 d := by
  unfold cadd
  rw [Nat.xor_assoc, Nat.xor_comm d x, ← Nat.xor_assoc, csteps_xor]
/-- What a sum begins with goes through as so many steps. -/
theorem caddAll_start : ∀ (l : List UInt8) (d c : Nat), caddAll (c ^^^ d) l = caddAll c l ^^^ csteps (8 * l.length) d
  | [], d, c => rfl
  | x :: l, d, c => by
    have h1 := caddAll_start l (csteps 8 d) (cadd c x.toNat)
    have h2 : 8 * (x :: l).length = 8 * l.length + 8 := by rw [List.length_cons]; omega
    have h3 : caddAll (c ^^^ d) (x :: l) = caddAll (cadd (c ^^^ d) x.toNat) l := rfl
    have h4 : caddAll c (x :: l) = caddAll (cadd c x.toNat) l := rfl
    rw [h2, csteps_add, h3, h4, cadd_start, h1]
/-- The bit p is turned. -/
def flip (l : List UInt8) (p : Nat) : List UInt8 := l.set (p / 8) (l.getD (p / 8) 0 ^^^ UInt8.ofNat (2 ^ (p % 8)))
theorem flip_length (l : List UInt8) (p : Nat) : (flip l p).length = l.length := by simp [flip]
theorem pow_lt8 (k : Nat) (h : k < 8) : 2 ^ k < 256 := by
  have : 2 ^ k < 2 ^ 8 := Nat.pow_lt_pow_right (by decide) h
  exact this
theorem caddAll_flip : ∀ (l : List UInt8) (p c : Nat), p < 8 * l.length → caddAll c (flip l p) = caddAll c l ^^^ csteps (8 * l.length - p) 1
  | [], p, c, h => by simp at h
  | x :: l, p, c, h => by
    simp only [List.length_cons] at h
    by_cases hp : p < 8
    · have h0 : p / 8 = 0 := by omega
      have h1 : p % 8 = p := by omega
      have hf : flip (x :: l) p = (x ^^^ UInt8.ofNat (2 ^ p)) :: l := by
        unfold flip
        rw [h0, h1]
        rfl
      have h4 : caddAll c (flip (x :: l) p) = caddAll (cadd c (x ^^^ UInt8.ofNat (2 ^ p)).toNat) l := by rw [hf]; rfl
      have h5 : caddAll c (x :: l) = caddAll (cadd c x.toNat) l := rfl
      rw [h4, h5, List.length_cons]
      have h2 : (x ^^^ UInt8.ofNat (2 ^ p)).toNat = x.toNat ^^^ 2 ^ p := by
        rw [UInt8.toNat_xor, UInt8.toNat_ofNat']
        rw [Nat.mod_eq_of_lt (pow_lt8 p hp)]
      have h3 : cadd c (x.toNat ^^^ 2 ^ p) = cadd c x.toNat ^^^ csteps 8 (2 ^ p) := by
        unfold cadd
        rw [← Nat.xor_assoc, csteps_xor]
      rw [h2, h3, caddAll_start, ← csteps_add, csteps_bit (by omega), show 8 * l.length + 8 - p = 8 * (l.length + 1) - p by omega]
    · have h0 : p / 8 = (p - 8) / 8 + 1 := by omega
      have h1 : p % 8 = (p - 8) % 8 := by omega
      have h2 : flip (x :: l) p = x :: flip l (p - 8) := by
        unfold flip
        rw [h0, h1]
        simp only [List.set_cons_succ, List.getD_cons_succ]
      have h4 : caddAll c (x :: flip l (p - 8)) = caddAll (cadd c x.toNat) (flip l (p - 8)) := rfl
      have h5 : caddAll c (x :: l) = caddAll (cadd c x.toNat) l := rfl
      rw [h2, h4, h5, List.length_cons, caddAll_flip l (p - 8) _ (by omega), show 8 * l.length - (p - 8) = 8 * (l.length + 1) - p by omega]
theorem xor_top {c : Nat} (hc : c < 65536) : 65535 ^^^ c = 65535 - c := by
  have h1 : (65535#16 ^^^ BitVec.ofNat 16 c).toNat = (~~~ (BitVec.ofNat 16 c)).toNat := by
    rw [show (65535#16) = BitVec.allOnes 16 by decide, BitVec.allOnes_xor]
  rw [BitVec.toNat_xor, BitVec.toNat_not] at h1
  simpa [Nat.mod_eq_of_lt hc] using h1
theorem xor_join (o : Nat) : (o % 256) ^^^ (256 * (o / 256)) = o := by
  apply Nat.eq_of_testBit_eq
  intro i
  rw [Nat.testBit_xor, show 256 = 2 ^ 8 by decide, Nat.testBit_mod_two_pow, Nat.testBit_two_pow_mul, Nat.testBit_div_two_pow]
  by_cases h : i < 8
  · simp [h, show ¬ 8 ≤ i by omega]
  · simp [h, show 8 ≤ i by omega, show i - 8 + 8 = i by omega]
theorem two_bytes (s x y : Nat) : cadd (cadd s x) y = csteps (8 + 8) (s ^^^ (x ^^^ 256 * y)) := by
  have h : csteps 8 (256 * y) = y := csteps_two_pow y 8
  have h1 : cadd (cadd s x) y = csteps 8 (csteps 8 (s ^^^ x) ^^^ csteps 8 (256 * y)) := by rw [h]; rfl
  rw [h1, ← csteps_xor, csteps_add, Nat.xor_assoc]
theorem put_bytes (s o : Nat) (ho : o < 65536) : cadd (cadd s (UInt8.ofNat (o % 256)).toNat) (UInt8.ofNat (o / 256)).toNat = csteps (8 + 8) (s ^^^ o) := by
  have e1 : (UInt8.ofNat (o % 256)).toNat = o % 256 := by simp
  have e2 : (UInt8.ofNat (o / 256)).toNat = o / 256 := by simp; omega
  rw [e1, e2, two_bytes, xor_join]
theorem xor_inv {c o T : Nat} (h : T ^^^ c = o) : c ^^^ o = T := by
  rw [← h, Nat.xor_comm T c, ← Nat.xor_assoc, Nat.xor_self, Nat.zero_xor]
/-- The sum of what has its sum behind it. -/
theorem cput_residue (l : List UInt8) : caddAll 65535 (cput l) = csteps (8 + 8) 65535 := by
  have h1 : caddAll 65535 (cput l) = cadd (cadd (caddAll 65535 l) (UInt8.ofNat (cof l % 256)).toNat) (UInt8.ofNat (cof l / 256)).toNat := caddAll_append l _ 65535
  have h2 : caddAll 65535 l ^^^ cof l = 65535 := xor_inv (xor_top (caddAll_lt l (by decide)))
  rw [h1, put_bytes _ _ (cof_lt l), h2]
theorem not_fine {q : List UInt8} (h : caddAll 65535 q ≠ csteps (8 + 8) 65535) : cfine q = false := by
  rcases hf : cfine q with _ | _
  · rfl
  · exfalso
    unfold cfine at hf
    simp only [Bool.and_eq_true, beq_iff_eq] at hf
    rw [← hf.2, cput_residue] at h
    exact h rfl
theorem csteps_inj {a b : Nat} (ha : a < 65536) (hb : b < 65536) (m : Nat) (h : csteps m a = csteps m b) : a = b := by
  by_cases e : a ^^^ b = 0
  · have := congrArg (· ^^^ b) e
    simpa [Nat.xor_assoc] using this
  · exact absurd (by rw [csteps_xor, h, Nat.xor_self]) (csteps_ne (xor_lt ha hb) e m)
/-- The first so many of the bits. -/
def flips (l : List UInt8) (k bits : Nat) : Nat → List UInt8
  | 0 => l
  | i + 1 => if bits / 2 ^ i % 2 = 1 then flip (flips l k bits i) (k + i) else flips l k bits i
theorem flips_length (l : List UInt8) (k bits : Nat) : ∀ i, (flips l k bits i).length = l.length
  | 0 => rfl
  | i + 1 => by
    simp only [flips]
    split
    · rw [flip_length, flips_length l k bits i]
    · exact flips_length l k bits i
theorem xor_low (b i : Nat) (h : b / 2 ^ i % 2 = 1) : b % 2 ^ (i + 1) = b % 2 ^ i ^^^ 2 ^ i := by
  apply Nat.eq_of_testBit_eq
  intro j
  have hb : b.testBit i = true := by rw [Nat.testBit_eq_decide_div_mod_eq, h]; rfl
  rw [Nat.testBit_xor, Nat.testBit_mod_two_pow, Nat.testBit_mod_two_pow, Nat.testBit_two_pow]
  by_cases h1 : j < i
  · simp [h1, show j < i + 1 by omega, show ¬ i = j by omega]
  · by_cases h2 : j = i
    · subst h2; simp [hb]
    · simp [h1, show ¬ j < i + 1 by omega, show ¬ i = j by omega]
theorem low_same (b i : Nat) (h : ¬ b / 2 ^ i % 2 = 1) : b % 2 ^ (i + 1) = b % 2 ^ i := by
  apply Nat.eq_of_testBit_eq
  intro j
  have hb : b.testBit i = false := by rw [Nat.testBit_eq_decide_div_mod_eq]; simp [h]
  rw [Nat.testBit_mod_two_pow, Nat.testBit_mod_two_pow]
  by_cases h1 : j < i
  · simp [h1, show j < i + 1 by omega]
  · by_cases h2 : j = i
    · subst h2; simp [hb]
    · simp [h1, show ¬ j < i + 1 by omega]
theorem caddAll_flips (l : List UInt8) (k bits c : Nat) (hk : k + 16 ≤ 8 * l.length) : ∀ i, i ≤ 16 → caddAll c (flips l k bits i) = caddAll c l ^^^ csteps (8 * l.length - k) (bits % 2 ^ i)
  | 0, _ => by simp [flips, Nat.mod_one, csteps_zero]
  | i + 1, hi => by
    have ih := caddAll_flips l k bits c hk i (by omega)
    simp only [flips]
    split
    · rename_i h
      rw [caddAll_flip _ _ _ (by rw [flips_length]; omega), flips_length, ih, xor_low bits i h, csteps_xor, Nat.xor_assoc, csteps_bit (by omega), show 8 * l.length - k - i = 8 * l.length - (k + i) by omega]
    · rename_i h
      rw [ih, low_same bits i h]
theorem flips_not_fine (l : List UInt8) (k bits : Nat) (hk : k + 16 ≤ 8 * (cput l).length) (hb : bits ≠ 0) (hb' : bits < 65536) : cfine (flips (cput l) k bits 16) = false := by
  apply not_fine
  rw [caddAll_flips _ _ _ _ hk 16 (Nat.le_refl _), cput_residue, Nat.mod_eq_of_lt hb']
  intro e
  have h1 := csteps_ne hb' hb (8 * (cput l).length - k)
  apply h1
  have := congrArg (csteps (8 + 8) 65535 ^^^ ·) e
  simpa [← Nat.xor_assoc] using this
/-- No two bits turn a sum alike. -/
theorem round_trip : ∀ t, t < 480 → 0 < t → csteps t 1 ≠ 1 := by decide +kernel
theorem cof_flip_ne (l : List UInt8) (p : Nat) (hp : p < 8 * l.length) : cof (flip l p) ≠ cof l := by
  have h1 := caddAll_lt l (c := 65535) (by decide)
  have h2 := caddAll_lt (flip l p) (c := 65535) (by decide)
  intro e
  have e' : caddAll 65535 (flip l p) = caddAll 65535 l := by unfold cof at e; omega
  rw [caddAll_flip l p _ hp] at e'
  apply csteps_ne (c := 1) (by decide) (by decide) (8 * l.length - p)
  have := congrArg (caddAll 65535 l ^^^ ·) e'
  simpa [← Nat.xor_assoc] using this
theorem cof_flip_inj (l : List UInt8) (i k : Nat) (hi : i < 8 * l.length) (hk : k < 8 * l.length) (hl : l.length ≤ 60) : cof (flip l i) = cof (flip l k) ↔ i = k := by
  constructor
  · intro e
    have h1 := caddAll_lt (flip l i) (c := 65535) (by decide)
    have h2 := caddAll_lt (flip l k) (c := 65535) (by decide)
    have e' : caddAll 65535 (flip l i) = caddAll 65535 (flip l k) := by unfold cof at e; omega
    rw [caddAll_flip l i _ hi, caddAll_flip l k _ hk] at e'
    have e2 : csteps (8 * l.length - i) 1 = csteps (8 * l.length - k) 1 := by
      have := congrArg (caddAll 65535 l ^^^ ·) e'
      simpa [← Nat.xor_assoc] using this
    have key : ∀ i k : Nat, i < k → k < 8 * l.length → csteps (8 * l.length - i) 1 ≠ csteps (8 * l.length - k) 1 := by
      intro i k h hk e
      have h3 : 8 * l.length - i = (8 * l.length - k) + (k - i) := by omega
      rw [h3, csteps_add] at e
      have h4 := csteps_inj (csteps_lt (c := 1) (by decide) (k - i)) (by decide) _ e
      exact round_trip (k - i) (by omega) (by omega) h4
    rcases Nat.lt_trichotomy i k with h | h | h
    · exact absurd e2 (key i k h hk)
    · exact h
    · exact absurd e2.symm (key k i h hi)
  · rintro rfl; rfl
end Go.Proofs.Ytameiegmeicnoaa.M
