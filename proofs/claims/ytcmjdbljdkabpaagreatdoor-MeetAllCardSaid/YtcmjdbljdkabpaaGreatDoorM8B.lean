/- Of layer 8: BitM, TickM, MeetM, Q8W, Ref8a, Ref8b, QA1. -/
import Derived.Test.YtcmjdbljdkabpaaGreatDoorM8A
import Derived.Test.YtcmjdbljdkabpaaGreatDoorM4I
import Derived.Test.YtcmjdbljdkabpaaGreatDoorM4A
import Derived.Test.YtcmjdbljdkabpaaGreatDoorM4G
import Derived.Laws.BitsAllLaws
import Derived.Laws.BitsLemmas

set_option linter.all false

namespace Go.Proofs.YtcmjdbljdkabpaaGreatDoor

theorem i64_and_mask (k : Nat) (hk : k ≤ 62) (n : Int) : bits .and .i64 n (2 ^ k - 1) = n % 2 ^ k := by
  have hp : (2 : Nat) ^ k ≤ 2 ^ 62 := Nat.pow_le_pow_right (by decide) hk
  have hp1 : 1 ≤ (2 : Nat) ^ k := Nat.one_le_two_pow
  have e62 : (2 : Nat) ^ 62 = 4611686018427387904 := by decide
  have hm : (BitVec.ofInt 64 ((2 : Int) ^ k - 1)).toNat = 2 ^ k - 1 := by
    rw [BitVec.toNat_ofInt, show ((2 : Int) ^ k - 1) = ((2 ^ k - 1 : Nat) : Int) by push_cast [Int.natCast_sub hp1]; rfl]
    have : ((2 ^ 64 : Nat) : Int) = 18446744073709551616 := by decide
    rw [this]
    omega
  have key : (BitVec.ofInt 64 n &&& BitVec.ofInt 64 ((2 : Int) ^ k - 1)).toNat = (n % ((2 ^ 64 : Nat) : Int)).toNat % 2 ^ k := by
    rw [BitVec.toNat_and, BitVec.toNat_ofInt, hm, Nat.and_two_pow_sub_one_eq_mod]
  show IntKind.i64.wrap ((BitVec.ofInt 64 n &&& BitVec.ofInt 64 ((2 : Int) ^ k - 1)).toNat : Nat) = _
  have hd : ((2 : Int) ^ k) ∣ ((2 ^ 64 : Nat) : Int) := by
    rw [show ((2 ^ 64 : Nat) : Int) = (2 : Int) ^ 64 by decide]
    exact ⟨(2 : Int) ^ (64 - k), by rw [← Int.pow_add, show k + (64 - k) = 64 by omega]⟩
  have hn0 : 0 ≤ n % ((2 ^ 64 : Nat) : Int) := Int.emod_nonneg _ (by decide)
  have e : (((n % ((2 ^ 64 : Nat) : Int)).toNat % 2 ^ k : Nat) : Int) = n % 2 ^ k := by
    rw [Int.natCast_emod, Int.toNat_of_nonneg hn0, show (((2 : Nat) ^ k : Nat) : Int) = (2 : Int) ^ k by push_cast; rfl, Int.emod_emod_of_dvd _ hd]
  rw [key, e, IntKind.wrap_i64]
  have h1 : 0 ≤ n % (2 : Int) ^ k := Int.emod_nonneg _ (by have : (0 : Int) < 2 ^ k := Int.pow_pos (by decide); omega)
  have h2 : n % (2 : Int) ^ k < 2 ^ k := Int.emod_lt_of_pos _ (Int.pow_pos (by decide))
  have hc : (2 : Int) ^ k = (((2 : Nat) ^ k : Nat) : Int) := by push_cast; rfl
  rw [e62] at hp
  rw [hc] at h1 h2 ⊢
  omega
theorem i64_and1 (n : Int) : bits .and .i64 n 1 = n % 2 := i64_and_mask 1 (by decide) n
theorem i64_and255 (n : Int) : bits .and .i64 n 255 = n % 256 := i64_and_mask 8 (by decide) n
theorem i64_and65535 (n : Int) : bits .and .i64 n 65535 = n % 65536 := i64_and_mask 16 (by decide) n

theorem i64_and_nat (a b : Nat) (ha : a < 9223372036854775808) (hb : b < 9223372036854775808) : bits .and .i64 (a : Int) (b : Int) = ((a &&& b : Nat) : Int) := by
  show IntKind.i64.wrap ((BitVec.ofInt 64 (a : Int) &&& BitVec.ofInt 64 (b : Int)).toNat : Nat) = _
  rw [BitVec.toNat_and, ofInt_u64 a (by omega), ofInt_u64 b (by omega), IntKind.wrap_i64]
  have : a &&& b ≤ a := Nat.and_le_left
  omega
/-- Bits that are not there. -/
theorem atB_small {n : Int} {m i : Nat} (h0 : 0 ≤ n) (h : n < 2 ^ m) (hi : m ≤ i) : atB n i = false := by
  unfold atB
  have h2 : (2 : Int) ^ m ≤ 2 ^ i := by
    have : (2 : Nat) ^ m ≤ 2 ^ i := Nat.pow_le_pow_right (by decide) hi
    exact_mod_cast this
  rw [Int.ediv_eq_zero_of_lt h0 (by omega)]
  rfl
theorem highB_div {n : Int} (h0 : 0 ≤ n) : ∀ k, n < 2 ^ k → (n = 0 ∧ highB n k = -1) ∨ (0 ≤ highB n k ∧ n / 2 ^ (highB n k).toNat = 1)
  | 0, h => by left; exact ⟨by simp at h; omega, rfl⟩
  | k + 1, h => by
    have hp : (0 : Int) < 2 ^ k := Int.pow_pos (by decide)
    rw [Int.pow_succ] at h
    by_cases hb : atB n k = true
    · right
      unfold highB
      rw [if_pos hb]
      refine ⟨by omega, ?_⟩
      show n / 2 ^ ((k : Int).toNat) = 1
      rw [Int.toNat_natCast]
      have h1 : n / 2 ^ k < 2 := Int.ediv_lt_of_lt_mul hp (by omega)
      have h2 : 0 ≤ n / 2 ^ k := Int.ediv_nonneg h0 (by omega)
      unfold atB at hb
      rw [beq_iff_eq] at hb
      omega
    · have hn : n < 2 ^ k := by
        unfold atB at hb
        rw [beq_iff_eq] at hb
        have h1 : n / 2 ^ k < 2 := Int.ediv_lt_of_lt_mul hp (by omega)
        have h2 : 0 ≤ n / 2 ^ k := Int.ediv_nonneg h0 (by omega)
        have h3 : n / 2 ^ k = 0 := by omega
        have := Int.emod_add_mul_ediv n (2 ^ k)
        rw [h3] at this
        have h4 := Int.emod_lt_of_pos n hp
        omega
      unfold highB
      rw [if_neg hb]
      exact highB_div h0 k hn
/-- No bit below j: nought behind. -/
theorem mod_pow_zero (n : Int) : ∀ j, (∀ i, i < j → atB n i = false) → n % 2 ^ j = 0
  | 0, _ => by simp
  | j + 1, h => by
    have ih := mod_pow_zero n j (fun i hi => h i (by omega))
    have hj := h j (by omega)
    unfold atB at hj
    rw [beq_eq_false_iff_ne] at hj
    have h1 := Int.emod_add_mul_ediv n (2 ^ j)
    rw [ih, Int.zero_add] at h1
    have h2 := Int.emod_add_mul_ediv (n / 2 ^ j) 2
    have h3 : n / 2 ^ j % 2 = 0 := by omega
    rw [h3, Int.zero_add] at h2
    rw [← h1, ← h2, ← Int.mul_assoc, ← Int.pow_succ]
    exact Int.mul_emod_right _ _
end Go.Proofs.YtcmjdbljdkabpaaGreatDoor

namespace Go.Proofs.YtcmjdbljdkabpaaGreatDoor

theorem ticks_eq {b d : Int} (hb : 1 ≤ b) (hd : 1 ≤ d) : ticks b d = (b + d - 1) / d := by unfold ticks; rw [if_neg (by omega)]
theorem ticks_le {b d n : Int} (hb : 1 ≤ b) (hd : 1 ≤ d) (h : b ≤ n * d) : ticks b d ≤ n := by
  rw [ticks_eq hb hd]
  refine Int.lt_add_one_iff.1 (Int.ediv_lt_of_lt_mul (by omega) ?_)
  rw [Int.add_mul]; omega
theorem ticks_holds {b d : Int} (hb : 1 ≤ b) (hd : 1 ≤ d) : b ≤ ticks b d * d ∧ (ticks b d - 1) * d < b := by
  rw [ticks_eq hb hd]
  have h1 := Int.emod_add_mul_ediv (b + d - 1) d
  have h2 := Int.emod_nonneg (b + d - 1) (show d ≠ 0 by omega)
  have h3 := Int.emod_lt_of_pos (b + d - 1) (show 0 < d by omega)
  rw [Int.mul_comm] at h1
  rw [Int.sub_mul]
  omega
theorem ticks_mono {b c d : Int} (hb : 1 ≤ b) (hd : 1 ≤ d) (h : b ≤ c) : ticks b d ≤ ticks c d :=
  ticks_le hb hd (Int.le_trans h (ticks_holds (by omega) hd).1)
theorem ticks_twice {b d : Int} (hb : 1 ≤ b) (hd : 1 ≤ d) : ticks b (2 * d) ≤ ticks b d := by
  have h1 := (ticks_holds hb hd).1
  have h2 := ticks_pos hb hd
  have h3 : 0 ≤ ticks b d * d := Int.mul_nonneg (by omega) (by omega)
  refine ticks_le hb (by omega) ?_
  rw [Int.mul_left_comm]
  omega
/-- By parts. -/
theorem ticks_parts {b d : Int} (hb : 1 ≤ b) (hd : 1 ≤ d) : ticks b d = if b % d = 0 then b / d else b / d + 1 := by
  have h1 := Int.emod_add_mul_ediv b d
  have h2 := Int.emod_nonneg b (show d ≠ 0 by omega)
  have h3 := Int.emod_lt_of_pos b (show 0 < d by omega)
  obtain ⟨t1, t2⟩ := ticks_holds hb hd
  split
  · rename_i h0
    rw [h0, Int.zero_add, Int.mul_comm] at h1
    have e1 : ticks b d ≤ b / d := ticks_le hb hd (by omega)
    have e2 : b / d ≤ ticks b d := by
      rcases Int.lt_or_le (ticks b d) (b / d) with h | h
      · have := Int.mul_lt_mul_of_pos_right h (show 0 < d by omega)
        omega
      · exact h
    omega
  · rename_i h0
    rw [Int.mul_comm] at h1
    have e1 : ticks b d ≤ b / d + 1 := ticks_le hb hd (by rw [Int.add_mul]; omega)
    have e2 : b / d < ticks b d := by
      rcases Int.lt_or_le (b / d) (ticks b d) with h | h
      · exact h
      · have := Int.mul_le_mul_of_nonneg_right h (show 0 ≤ d by omega)
        omega
    omega
end Go.Proofs.YtcmjdbljdkabpaaGreatDoor

namespace Go.Proofs.YtcmjdbljdkabpaaGreatDoor

theorem high_bound {n : Int} (h1 : 1 ≤ n) (m : Nat) (hm : m ≤ 16) (h2 : n < 2 ^ m) : 0 ≤ high n ∧ high n < m := by
  have h16 : n < 2 ^ 16 := by
    have : (2 : Nat) ^ m ≤ 2 ^ 16 := Nat.pow_le_pow_right (by decide) hm
    have : (2 : Int) ^ m ≤ 2 ^ 16 := by exact_mod_cast this
    omega
  rcases highB_div (show 0 ≤ n by omega) 16 h16 with ⟨h, _⟩ | ⟨h, hd⟩
  · omega
  · refine ⟨h, ?_⟩
    unfold high
    rcases Int.lt_or_le (highB n 16) m with hl | hl
    · exact hl
    · have h3 := highB_at n 16 (by omega)
      rw [atB_small (m := m) (by omega) h2 (by omega)] at h3
      cases h3
theorem mayO_parts {o : Of5} (h : mayO o = true) : (1 ≤ o.baud ∧ o.baud ≤ 15 ∧ o.baud % 2 = 1) ∧ (1 ≤ o.silent ∧ o.silent ≤ 7 ∧ o.silent % 2 = 1) ∧ (1 ≤ o.win ∧ o.win ≤ 127) ∧ (1 ≤ o.size ∧ o.size ≤ 15) ∧ (1 ≤ o.wait ∧ o.wait ≤ 7) := by
  unfold mayO at h
  exact of_decide_eq_true h
/-- All that a deal is within. -/
theorem dealD_bounds {a b : Of5} (ha : mayO a = true) (hb : mayO b = true) :
    (32 ≤ (dealD a b).baud ∧ (dealD a b).baud ≤ 256) ∧ (0 ≤ (dealD a b).size ∧ (dealD a b).size ≤ 64) ∧ (1 ≤ frameM (dealD a b).size (dealD a b).baud ∧ frameM (dealD a b).size (dealD a b).baud ≤ 5) ∧ (1 ≤ (dealD a b).win ∧ (dealD a b).win ≤ high b.win + 1 ∧ (dealD a b).win ≤ 7) ∧ (dealD a b).win * frameM (dealD a b).size (dealD a b).baud ≤ 30 := by
  have ba := (mayO_bits ha).1
  have bb := (mayO_bits hb).1
  obtain ⟨_, _, b1, b2⟩ := baud_pos ba bb
  have hs := sizeQ_bound (high b.size)
  have hf := frameM_bound hs b1
  have hw := high_bound (mayO_parts hb).2.2.1.1 7 (by decide) (by have := (mayO_parts hb).2.2.1.2; show b.win < 128; omega)
  have hg := winM_ge (frameM (sizeQ (high b.size)) (baud (hi2 a.baud b.baud 4))) (high b.win + 1).toNat
  exact ⟨⟨b1, b2⟩, hs, hf, ⟨hg.1, by show winM _ _ ≤ _; omega, by show winM _ _ ≤ _; omega⟩, winM_fits (by omega) _⟩
theorem baud_mono {i j : Int} (h0 : 0 ≤ i) (h : i ≤ j) (hj : j ≤ 3) : baud i ≤ baud j := by
  unfold baud
  repeat' split
  all_goals omega
theorem silent_mono {i j : Int} (h0 : 0 ≤ i) (h : i ≤ j) (hj : j ≤ 2) : silent i ≤ silent j := by
  unfold silent
  repeat' split
  all_goals omega
theorem deal_best {a b : Of5} (ha : mayO a = true) (hb : mayO b = true) :
    (∀ i : Nat, i < 4 → both a.baud b.baud i = true → baud i ≤ (dealD a b).baud) ∧ (∀ i : Nat, i < 3 → both a.silent b.silent i = true → (dealD a b).silent ≤ silent i) ∧
      (high b.win + 1 < (dealD a b).win + 1 ∨ 30 < ((dealD a b).win + 1) * frameM (dealD a b).size (dealD a b).baud) := by
  have ba := (mayO_bits ha).1
  have bb := (mayO_bits hb).1
  obtain ⟨p0, p3, _, _⟩ := baud_pos ba bb
  obtain ⟨_, _, hf, hw, _⟩ := dealD_bounds ha hb
  refine ⟨fun i hi h => baud_mono (by omega) (hi2_some _ _ 4 i hi h) p3, fun i hi h => ?_, ?_⟩
  · obtain ⟨l0, l1⟩ := lo2_some 3 a.silent b.silent hi h
    exact silent_mono l0 l1 (by omega)
  · rcases Int.lt_or_le (high b.win + 1) ((dealD a b).win + 1) with h | h
    · exact .inl h
    · right
      have hk := winM_best (f := frameM (sizeQ (high b.size)) (baud (hi2 a.baud b.baud 4))) (by have := hf.1; unfold dealD at this; simp only at this; omega) (high b.win + 1).toNat ((dealD a b).win + 1).toNat
        (by show (dealD a b).win < _; have := hw.1; omega) (by omega)
      rw [Int.toNat_of_nonneg (by have := hw.1; omega)] at hk
      exact hk
theorem deal_sym {a b : Of5} : (dealD a b).baud = (dealD b a).baud ∧ (dealD a b).silent = (dealD b a).silent := by
  unfold dealD
  simp only
  rw [hi2_comm, lo2_comm]
  exact ⟨rfl, rfl⟩
/-- With the least offer. -/
theorem both_one (x : Int) (i : Nat) : both x 1 i = (atB x i && (i == 0)) := by
  unfold both
  congr 1
  rcases i with _ | i
  · rfl
  · rw [atB_small (n := 1) (m := 1) (by decide) (by decide) (by omega)]; rfl
theorem deal_least {a : Of5} (ha : mayO a = true) : dealD a ⟨1, 1, 1, 1, 1⟩ = ⟨32, 200, 1, 8, 0⟩ := by
  obtain ⟨h1, h2⟩ := mayO_bits ha
  have e1 : hi2 a.baud 1 4 = 0 := by unfold hi2 hi2 hi2 hi2; simp [both_one, h1]
  have e2 : lo2 3 a.silent 1 3 = 0 := by
    unfold lo2
    simp [both_one, h2]
  have e3 : high 1 = 0 := by decide +kernel
  have e4 : low 1 = 0 := by decide +kernel
  unfold dealD
  simp only [e1, e2, e3, e4]
  rfl
theorem least_deal {a : Of5} (ha : mayO a = true) : (dealD ⟨1, 1, 1, 1, 1⟩ a).baud = 32 ∧ (dealD ⟨1, 1, 1, 1, 1⟩ a).silent = 200 := by
  have h := @deal_sym ⟨1, 1, 1, 1, 1⟩ a
  rw [deal_least ha] at h
  exact h
/-- Bits of a set below 65536. -/
theorem bits_set {n : Int} (h0 : 1 ≤ n) (h : n < 65536) : 0 ≤ low n ∧ low n ≤ high n ∧ high n ≤ 15 ∧ n / 2 ^ (high n).toNat = 1 ∧ n / 2 ^ (low n).toNat % 2 = 1 ∧ n % 2 ^ (low n).toNat = 0 := by
  have hb := high_bound h0 16 (Nat.le_refl _) h
  have hd : n / 2 ^ (high n).toNat = 1 := by
    rcases highB_div (show 0 ≤ n by omega) 16 h with ⟨e, _⟩ | ⟨_, e⟩
    · omega
    · exact e
  have hat := highB_at n 16 (by unfold high at hb; omega)
  have hl := lowB_ge n 16 (Nat.le_refl _)
  have hl2 : lowB n 16 ≠ -1 := by
    intro e
    have := lowB_below n 16 (highB n 16).toNat (Nat.le_refl _) (by omega) (by unfold high at hb; omega) (.inl e)
    rw [this] at hat
    cases hat
  have hlh : lowB n 16 ≤ highB n 16 := by
    rcases Int.lt_or_le (highB n 16) (lowB n 16) with hlt | hle
    · have := lowB_below n 16 (highB n 16).toNat (Nat.le_refl _) (by omega) (by unfold high at hb; omega) (.inr (by unfold high at hb; omega))
      rw [this] at hat
      cases hat
    · exact hle
  have hla := lowB_at n 16 hl2
  refine ⟨by unfold low; omega, hlh, by omega, hd, ?_, ?_⟩
  · unfold atB at hla
    exact beq_iff_eq.1 hla
  · refine mod_pow_zero n _ (fun i hi => ?_)
    unfold low at hi
    exact lowB_below n 16 i (Nat.le_refl _) (by omega) (by omega) (.inr (by omega))
end Go.Proofs.YtcmjdbljdkabpaaGreatDoor

namespace Go.Proofs.YtcmjdbljdkabpaaGreatDoor
open Go.RowKit

abbrev Of5.zero : Of5 := ⟨0, 0, 0, 0, 0⟩
abbrev De5.zero : De5 := ⟨0, 0, 0, 0, 0⟩
abbrev Xd.zero : Xd := ⟨0, 0, 0, 0, false, []⟩
abbrev St.zero : St := ⟨0, 0, 0, 0, Of5.zero⟩
def PutR (r : Option (List UInt8)) (w : World) (e : Ending) (w' : World) : Prop := e = .returned (.tuple #[.string ⟨(r.getD []).toArray⟩, .bool r.isSome]) ∧ Below w.heap.size w w'
def OfferR (r : Option Of5) (w : World) (e : Ending) (w' : World) : Prop := e = .returned (.tuple #[(r.getD Of5.zero).val, .bool r.isSome]) ∧ Below w.heap.size w w'
def DealR (r : Option De5) (w : World) (e : Ending) (w' : World) : Prop := e = .returned (.tuple #[(r.getD De5.zero).val, .bool r.isSome]) ∧ Below w.heap.size w w'
def XidR (r : Option Xd) (w : World) (e : Ending) (w' : World) : Prop := e = .returned (.tuple #[(r.getD Xd.zero).xin.val, .bool r.isSome]) ∧ Below w.heap.size w w'
def SetupR (r : Option St) (w : World) (e : Ending) (w' : World) : Prop := e = .returned (.tuple #[(r.getD St.zero).val, .bool r.isSome]) ∧ Below w.heap.size w w'
def FreshR (l m : List Int) (w : World) (e : Ending) (w' : World) : Prop := e = .returned (.tuple #[.int .u32 (freshM l m).1, .int .i64 ((freshM l m).2 : Int)]) ∧ Below w.heap.size w w'
theorem putR_none {r : Option (List UInt8)} {w w' : World} (h : r = none) (hb : Below w.heap.size w w') : PutR r w (.returned (.tuple #[.string ⟨#[]⟩, .bool false])) w' := by subst h; exact ⟨rfl, hb⟩
theorem putR_some {r : Option (List UInt8)} {s : ByteArray} {w w' : World} (h : r = some s.data.toList) (hb : Below w.heap.size w w') : PutR r w (.returned (.tuple #[.string s, .bool true])) w' := by subst h; exact ⟨rfl, hb⟩
theorem offerR_none {r : Option Of5} {w w' : World} (h : r = none) (hb : Below w.heap.size w w') : OfferR r w (.returned (.tuple #[Of5.zero.val, .bool false])) w' := by subst h; exact ⟨rfl, hb⟩
theorem offerR_some {r : Option Of5} {o : Of5} {w w' : World} (h : r = some o) (hb : Below w.heap.size w w') : OfferR r w (.returned (.tuple #[o.val, .bool true])) w' := by subst h; exact ⟨rfl, hb⟩
theorem dealR_none {r : Option De5} {w w' : World} (h : r = none) (hb : Below w.heap.size w w') : DealR r w (.returned (.tuple #[De5.zero.val, .bool false])) w' := by subst h; exact ⟨rfl, hb⟩
theorem dealR_some {r : Option De5} {o : De5} {w w' : World} (h : r = some o) (hb : Below w.heap.size w w') : DealR r w (.returned (.tuple #[o.val, .bool true])) w' := by subst h; exact ⟨rfl, hb⟩
theorem xidR_none {r : Option Xd} {w w' : World} (h : r = none) (hb : Below w.heap.size w w') : XidR r w (.returned (.tuple #[Xd.zero.xin.val, .bool false])) w' := by subst h; exact ⟨rfl, hb⟩
theorem setupR_none {r : Option St} {w w' : World} (h : r = none) (hb : Below w.heap.size w w') : SetupR r w (.returned (.tuple #[St.zero.val, .bool false])) w' := by subst h; exact ⟨rfl, hb⟩
theorem setupR_some {r : Option St} {s : St} {w w' : World} (h : r = some s) (hb : Below w.heap.size w w') : SetupR r w (.returned (.tuple #[s.val, .bool true])) w' := by subst h; exact ⟨rfl, hb⟩
theorem XIn.u {x : XIn} (h : x.ok) : u32 x.xd.from_ ∧ u32 x.xd.to_ := by
  obtain ⟨h1, h2, _⟩ := h
  have := bounds_u32 h1
  have := bounds_u32 h2
  show u32 x.from_ ∧ u32 x.to_
  unfold u32
  omega
theorem St.u {s : St} (h : s.ok) : u32 s.from_ ∧ u32 s.to_ := by
  obtain ⟨h1, h2, _⟩ := h
  have := bounds_u32 h1
  have := bounds_u32 h2
  unfold u32
  omega
theorem XIn.back (x : XIn) : x.xd.xin.val = x.val := by
  obtain ⟨a, b, c, d, e, ⟨⟨n⟩⟩⟩ := x
  rfl
theorem wf64 {n : Int} (h : -9223372036854775808 ≤ n ∧ n ≤ 9223372036854775807) : (Lit.int .i64 n).wf = true := by
  have h1 : IntKind.i64.min = -9223372036854775808 := by decide
  have h2 : IntKind.i64.max = 9223372036854775807 := by decide
  show (decide (IntKind.i64.min ≤ n) && decide (n ≤ IntKind.i64.max)) = true
  rw [h1, h2, decide_eq_true h.1, decide_eq_true h.2]
  rfl
theorem wf32 {n : Int} (h : u32 n) : (Lit.int .u32 n).wf = true := by
  have h1 : IntKind.u32.min = 0 := by decide
  have h2 : IntKind.u32.max = 4294967295 := by decide
  unfold u32 at h
  show (decide (IntKind.u32.min ≤ n) && decide (n ≤ IntKind.u32.max)) = true
  rw [h1, h2, decide_eq_true h.1, decide_eq_true (by omega)]
  rfl
/-- What may be stands within its kinds. -/
theorem Of5.ok_of {o : Of5} (h : mayO o = true) : o.ok := by
  obtain ⟨h1, h2, h3, h4, h5⟩ := mayO_parts h
  exact ⟨wf64 (by omega), wf64 (by omega), wf64 (by omega), wf64 (by omega), wf64 (by omega)⟩
end Go.Proofs.YtcmjdbljdkabpaaGreatDoor

namespace Go.Proofs.YtcmjdbljdkabpaaGreatDoor
open Go.RowKit

theorem Rat_any (n : Int) (i : Nat) (w : World) (hi : i ≤ 15) : Calls Tryz.prog 65 #[.int .i64 n, .int .i64 (i : Int)] w fun e w' => e = .returned (.bool (atB n i)) ∧ w' = w := by
  have h1 : min i 64 = i := by omega
  have h2 := i64_and1 (n / 2 ^ i)
  go_enter Tryz.func65, Tryz.ntmps65
  go_wp2
  go_ret
  exact ⟨rfl, rfl⟩

theorem highB_f {n : Int} {k : Nat} (h : atB n k = false) : highB n (k + 1) = highB n k := by
  show (if atB n k then (k : Int) else highB n k) = _
  rw [h]; rfl
theorem highB_t {n : Int} {k : Nat} (h : atB n k = true) : highB n (k + 1) = (k : Int) := by
  show (if atB n k then (k : Int) else highB n k) = _
  rw [h]; rfl
theorem lowB_f {n : Int} {k : Nat} (h : atB n (15 - k) = false) : lowB n (k + 1) = lowB n k := by
  show (if atB n (15 - k) then ((15 - k : Nat) : Int) else lowB n k) = _
  rw [h]; rfl
theorem lowB_t {n : Int} {k : Nat} (h : atB n (15 - k) = true) : lowB n (k + 1) = ((15 - k : Nat) : Int) := by
  show (if atB n (15 - k) then ((15 - k : Nat) : Int) else lowB n k) = _
  rw [h]; rfl
set_option maxRecDepth 100000 in
theorem RHigh_any (n : Int) (w : World) : Calls Tryz.prog 27 #[.int .i64 n] w fun e w' => e = .returned (.int .i64 (high n)) ∧ w' = w := by
  obtain ⟨h, hh⟩ : ∃ h, h = high n := ⟨_, rfl⟩
  rw [← hh]
  have HH := Lib.hid hh
  clear hh
  go_enter Tryz.func27, Tryz.ntmps27
  go_wp2
  go_loopw [2, 3] (fun q i wr => wr = w ∧ q = .int .i64 0 ∧ ∃ k : Nat, k ≤ 16 ∧ i = .int .i64 ((k : Int) - 1) ∧ highB n k = h) (fun _ i _ => (intOf i + 1).toNat)
  case atStart => exact ⟨rfl, rfl, 16, by omega, rfl, HH.out.symm⟩
  case round =>
    obtain ⟨rfl, rfl, k, hk, rfl, hq⟩ := hrel
    rcases k with _ | k
    · have HQ : Hid (h = -1) := hq.symm
      clear hq
      rw [show (((0 : Nat) : Int) - 1) = -1 from rfl]
      go_wp2
      go_ret
      exact ⟨by rw [HQ.out]; rfl, rfl⟩
    · have e1 : (((k + 1 : Nat) : Int) - 1) = (k : Int) := by omega
      rw [e1]
      have td : decide ((0 : Int) ≤ (k : Int)) = true := decide_eq_true (by omega)
      have hat := fun w => Rat_any n k w (by omega)
      rcases hb : atB n k with _ | _
      · have HQ : Hid (highB n k = h) := (highB_f hb).symm.trans hq
        rw [hb] at hat
        have HAT := Lib.hid hat
        clear hq hb hat
        go_wp2_with (go_at_call 65; refine (HAT.out _).mono ?_; rintro e w' ⟨rfl, rfl⟩)
        go_roundw
        case rel => exact ⟨trivial, rfl, k, by omega, by go_num, HQ.out⟩
        case measure => simp [intOf] <;> omega
      · have HQ : Hid (h = (k : Int)) := hq.symm.trans (highB_t hb)
        rw [hb] at hat
        have HAT := Lib.hid hat
        clear hq hb hat
        go_wp2_with (go_at_call 65; refine (HAT.out _).mono ?_; rintro e w' ⟨rfl, rfl⟩)
        go_ret
        exact ⟨by rw [HQ.out]; rfl, rfl⟩

set_option maxRecDepth 100000 in
set_option maxHeartbeats 1000000 in
theorem RLow_any (n : Int) (w : World) : Calls Tryz.prog 29 #[.int .i64 n] w fun e w' => e = .returned (.int .i64 (low n)) ∧ w' = w := by
  obtain ⟨h, hh⟩ : ∃ h, h = low n := ⟨_, rfl⟩
  rw [← hh]
  have HH := Lib.hid hh
  clear hh
  go_enter Tryz.func29, Tryz.ntmps29
  go_wp2
  go_loopw [2, 3] (fun q i wr => wr = w ∧ q = .int .i64 0 ∧ ∃ k : Nat, k ≤ 16 ∧ i = .int .i64 ((16 - k : Nat) : Int) ∧ lowB n k = h) (fun _ i _ => (16 - intOf i).toNat)
  case atStart => exact ⟨rfl, rfl, 16, by omega, rfl, HH.out.symm⟩
  case round =>
    obtain ⟨rfl, rfl, k, hk, rfl, hq⟩ := hrel
    rcases k with _ | k
    · have HQ : Hid (h = -1) := hq.symm
      clear hq
      go_wp2
      go_ret
      exact ⟨by rw [HQ.out]; rfl, rfl⟩
    · obtain ⟨j, hj⟩ : ∃ j, j = 15 - k := ⟨_, rfl⟩
      have e1 : 16 - (k + 1) = j := by omega
      rw [e1]
      have hj15 : j ≤ 15 := by omega
      have HJ : Hid (((16 - k : Nat) : Int) = (j : Int) + 1) := by show ((16 - k : Nat) : Int) = (j : Int) + 1; omega
      clear e1
      have td : decide ((j : Int) ≤ 15) = true := decide_eq_true (by omega)
      have hat := fun w => Rat_any n j w hj15
      rcases hb : atB n j with _ | _
      · have HQ : Hid (lowB n k = h) := (lowB_f (hj ▸ hb)).symm.trans hq
        rw [hb] at hat
        have HAT := Lib.hid hat
        clear hq hb hat hj
        go_wp2_with (go_at_call 65; refine (HAT.out _).mono ?_; rintro e w' ⟨rfl, rfl⟩)
        go_roundw
        case rel => exact ⟨trivial, rfl, k, by omega, congrArg (Value.int .i64) HJ.out.symm, HQ.out⟩
        case measure => simp [intOf] <;> omega
      · have HQ : Hid (h = (j : Int)) := by show h = (j : Int); rw [hj]; exact hq.symm.trans (lowB_t (hj ▸ hb))
        rw [hb] at hat
        have HAT := Lib.hid hat
        clear hq hb hat hj
        go_wp2_with (go_at_call 65; refine (HAT.out _).mono ?_; rintro e w' ⟨rfl, rfl⟩)
        go_ret
        exact ⟨by rw [HQ.out]; rfl, rfl⟩

theorem RBaud_any (i : Int) (w : World) : Calls Tryz.prog 31 #[.int .i64 i] w fun e w' => e = .returned (.int .i64 (baud i)) ∧ Below w.heap.size w w' := by
  rcases (show i < 0 ∨ 3 < i ∨ i = 0 ∨ i = 1 ∨ i = 2 ∨ i = 3 by omega) with h | h | rfl | rfl | rfl | rfl
  · have e : baud i = 0 := by unfold baud; rw [if_neg (by omega), if_neg (by omega), if_neg (by omega), if_neg (by omega)]
    rw [e]; clear e
    go_enter Tryz.func31, Tryz.ntmps31
    go_wp2
    go_ret
    exact ⟨rfl, Below.refl _ _⟩
  · have e : baud i = 0 := by unfold baud; rw [if_neg (by omega), if_neg (by omega), if_neg (by omega), if_neg (by omega)]
    rw [e]; clear e
    have h0 : ¬ i < 0 := by omega
    go_enter Tryz.func31, Tryz.ntmps31
    go_wp2
    go_ret
    exact ⟨rfl, Below.refl _ _⟩
  all_goals
    go_enter Tryz.func31, Tryz.ntmps31
    go_wp2
    go_ret
    exact ⟨rfl, bal (bel0 w) _⟩
theorem RSize_any (i : Int) (w : World) : Calls Tryz.prog 35 #[.int .i64 i] w fun e w' => e = .returned (.int .i64 (sizeQ i)) ∧ Below w.heap.size w w' := by
  rcases (show i < 0 ∨ 3 < i ∨ i = 0 ∨ i = 1 ∨ i = 2 ∨ i = 3 by omega) with h | h | rfl | rfl | rfl | rfl
  · have e : sizeQ i = 0 := by unfold sizeQ; rw [if_neg (by omega), if_neg (by omega), if_neg (by omega), if_neg (by omega)]
    rw [e]; clear e
    go_enter Tryz.func35, Tryz.ntmps35
    go_wp2
    go_ret
    exact ⟨rfl, Below.refl _ _⟩
  · have e : sizeQ i = 0 := by unfold sizeQ; rw [if_neg (by omega), if_neg (by omega), if_neg (by omega), if_neg (by omega)]
    rw [e]; clear e
    have h0 : ¬ i < 0 := by omega
    go_enter Tryz.func35, Tryz.ntmps35
    go_wp2
    go_ret
    exact ⟨rfl, Below.refl _ _⟩
  all_goals
    go_enter Tryz.func35, Tryz.ntmps35
    go_wp2
    go_ret
    exact ⟨rfl, bal (bel0 w) _⟩
theorem RSilent_any (i : Int) (w : World) : Calls Tryz.prog 33 #[.int .i64 i] w fun e w' => e = .returned (.int .i64 (silent i)) ∧ Below w.heap.size w w' := by
  rcases (show i < 0 ∨ 2 < i ∨ i = 0 ∨ i = 1 ∨ i = 2 by omega) with h | h | rfl | rfl | rfl
  · have e : silent i = 0 := by unfold silent; rw [if_neg (by omega), if_neg (by omega), if_neg (by omega)]
    rw [e]; clear e
    go_enter Tryz.func33, Tryz.ntmps33
    go_wp2
    go_ret
    exact ⟨rfl, Below.refl _ _⟩
  · have e : silent i = 0 := by unfold silent; rw [if_neg (by omega), if_neg (by omega), if_neg (by omega)]
    rw [e]; clear e
    have h0 : ¬ i < 0 := by omega
    go_enter Tryz.func33, Tryz.ntmps33
    go_wp2
    go_ret
    exact ⟨rfl, Below.refl _ _⟩
  all_goals
    go_enter Tryz.func33, Tryz.ntmps33
    go_wp2
    go_ret
    exact ⟨rfl, bal (bel0 w) _⟩
end Go.Proofs.YtcmjdbljdkabpaaGreatDoor

namespace Go.Proofs.YtcmjdbljdkabpaaGreatDoor
open Go.RowKit

theorem RTicks_any (b d : Int) (w : World) (hb : (Lit.int .i64 b).wf = true) (hd : (Lit.int .i64 d).wf = true) : Calls Tryz.prog 37 #[.int .i64 b, .int .i64 d] w fun e w' => e = .returned (.int .i64 (ticks b d)) ∧ w' = w := by
  have bb := bounds_i64 hb
  have bd := bounds_i64 hd
  clear hb hd
  by_cases h1 : b < 1
  · have e : ticks b d = 0 := by unfold ticks; rw [if_pos (.inl h1)]
    rw [e]; clear e
    go_enter Tryz.func37, Tryz.ntmps37
    go_wp2
    go_ret
    exact ⟨rfl, rfl⟩
  · by_cases h2 : d < 1
    · have e : ticks b d = 0 := by unfold ticks; rw [if_pos (.inr h2)]
      rw [e]; clear e
      go_enter Tryz.func37, Tryz.ntmps37
      go_wp2
      go_ret
      exact ⟨rfl, rfl⟩
    · have hp := ticks_parts (b := b) (d := d) (by omega) (by omega)
      have q0 : ¬ d = 0 := by omega
      have q1 : b.tdiv d = b / d := Int.tdiv_eq_ediv_of_nonneg (by omega)
      have q2 : b.tmod d = b % d := Int.tmod_eq_emod_of_nonneg (by omega)
      have q3 : 0 ≤ b / d := Int.ediv_nonneg (by omega) (by omega)
      have q4 : b / d ≤ b := Int.ediv_le_self _ (by omega)
      have q5 : IntKind.i64.wrap (b / d) = b / d := IntWalk.i64_in _ (by omega)
      have HP := Lib.hid hp
      clear hp
      by_cases h0 : b % d = 0
      · have HT : Hid (ticks b d = b / d) := by show ticks b d = _; rw [HP.out, if_pos h0]
        go_enter Tryz.func37, Tryz.ntmps37
        go_wp2
        go_ret
        exact ⟨by rw [HT.out]; rfl, rfl⟩
      · have HT : Hid (ticks b d = b / d + 1) := by show ticks b d = _; rw [HP.out, if_neg h0]
        have hd2 : 2 ≤ d := by
          rcases (show d = 1 ∨ 2 ≤ d by omega) with rfl | h
          · exact absurd (Int.emod_one b) h0
          · exact h
        have q6 : b / d < 9223372036854775807 := Int.ediv_lt_of_lt_mul (by omega) (by omega)
        have q7 : IntKind.i64.wrap (b / d + 1) = b / d + 1 := IntWalk.i64_in _ (by omega)
        clear hd2
        go_enter Tryz.func37, Tryz.ntmps37
        go_wp2
        go_ret
        exact ⟨by rw [HT.out]; rfl, rfl⟩

theorem run_boxOf (o : Of5) (w : World) : (Instr.box 23 o.val).run Tryz.prog w = .ok (.pointer (some ⟨w.heap.size, 0, none⟩)) (w.alloc (.cells o.cs 23)) := by
  obtain ⟨a, b, c, d, e⟩ := o
  kernel_rfl
set_option maxRecDepth 100000 in
set_option maxHeartbeats 4000000 in
theorem RMayO_any (o : Of5) (w : World) : Calls Tryz.prog 58 #[o.val] w fun e w' => e = .returned (.bool (mayO o)) ∧ Below w.heap.size w w' := by
  obtain ⟨b, s, wi, z, wa⟩ := o
  have hfin : ∀ q : Bool, (q = true ↔ ((1 ≤ b ∧ b ≤ 15 ∧ b % 2 = 1) ∧ (1 ≤ s ∧ s ≤ 7 ∧ s % 2 = 1) ∧ (1 ≤ wi ∧ wi ≤ 127) ∧ (1 ≤ z ∧ z ≤ 15) ∧ (1 ≤ wa ∧ wa ≤ 7))) → Ending.returned (.bool q) = .returned (.bool (mayO ⟨b, s, wi, z, wa⟩)) := by
    intro q h
    congr 2
    unfold mayO
    cases q
    · exact (decide_eq_false (fun hh => by cases h.2 hh)).symm
    · exact (decide_eq_true (h.1 rfl)).symm
  have HF := Lib.hid hfin
  clear hfin
  go_enter Tryz.func58, Tryz.ntmps58
  go_wp2_with (with_reducible refine wpList_boxS rfl 23 _ (.tmp 0) rfl rfl (run_boxOf ⟨b, s, wi, z, wa⟩) ?_)
  intro w1 hb1 hlt1 hh1
  have c0 : w1.cell? ⟨w.heap.size, 0, none⟩ = some (.int .i64 b) := cell_at hh1 0 _ rfl
  have c1 : w1.cell? ⟨w.heap.size, 1, none⟩ = some (.int .i64 s) := cell_at hh1 1 _ rfl
  have c2 : w1.cell? ⟨w.heap.size, 2, none⟩ = some (.int .i64 wi) := cell_at hh1 2 _ rfl
  have c3 : w1.cell? ⟨w.heap.size, 3, none⟩ = some (.int .i64 z) := cell_at hh1 3 _ rfl
  have c4 : w1.cell? ⟨w.heap.size, 4, none⟩ = some (.int .i64 wa) := cell_at hh1 4 _ rfl
  have HB := Lib.hid hb1
  clear hb1 hh1
  go_wp2
  all_goals
    go_ret
    refine ⟨HF.out _ ?_, HB.out⟩
    clear HF HB
    simp
    omega
end Go.Proofs.YtcmjdbljdkabpaaGreatDoor

namespace Go.Proofs.YtcmjdbljdkabpaaGreatDoor
open Go.RowKit

theorem Qhas_any (n : Int) (i : Nat) (w : World) (hi : i ≤ 15) : Calls Tryz.prog 64 #[.int .i64 n, .int .i64 (i : Int)] w fun e w' => e = .returned (.bool (atB n i)) ∧ w' = w := by
  have h1 : min i 64 = i := by omega
  have h2 := i64_and1 (n / 2 ^ i)
  go_enter Tryz.func64, Tryz.ntmps64
  go_wp2
  go_ret
  exact ⟨rfl, rfl⟩
theorem Qset_any (n a : Int) (w : World) : Calls Tryz.prog 63 #[.int .i64 n, .int .i64 a] w fun e w' => e = .returned (.bool (decide (1 ≤ n ∧ n ≤ a))) ∧ w' = w := by
  obtain ⟨q, hq⟩ : ∃ q, q = decide (1 ≤ n ∧ n ≤ a) := ⟨_, rfl⟩
  rw [← hq]
  by_cases h1 : 1 ≤ n
  · by_cases h2 : n ≤ a
    · have HQ : Hid (q = true) := by show q = true; rw [hq]; exact decide_eq_true ⟨h1, h2⟩
      clear hq
      go_enter Tryz.func63, Tryz.ntmps63
      go_wp2
      go_ret
      exact ⟨by rw [HQ.out]; rfl, rfl⟩
    · have HQ : Hid (q = false) := by show q = false; rw [hq]; exact decide_eq_false (fun h => h2 h.2)
      clear hq
      go_enter Tryz.func63, Tryz.ntmps63
      go_wp2
      go_ret
      exact ⟨by rw [HQ.out]; rfl, rfl⟩
  · have HQ : Hid (q = false) := by show q = false; rw [hq]; exact decide_eq_false (fun h => h1 h.1)
    clear hq
    go_enter Tryz.func63, Tryz.ntmps63
    go_wp2
    go_ret
    exact ⟨by rw [HQ.out]; rfl, rfl⟩

/-- The one at place i; 0: there is none. -/
def pickL (l : List Int) (i : Int) : Int := if i < 0 then 0 else (l[i.toNat]?).getD 0
theorem baud_pick (i : Int) : pickL [32, 64, 128, 256] i = baud i := by
  unfold pickL baud
  split
  · rw [if_neg (by omega), if_neg (by omega), if_neg (by omega), if_neg (by omega)]
  · obtain ⟨k, rfl⟩ : ∃ k : Nat, i = k := ⟨i.toNat, by omega⟩
    match k with
    | 0 => rfl
    | 1 => rfl
    | 2 => rfl
    | 3 => rfl
    | k + 4 => rw [if_neg (by omega), if_neg (by omega), if_neg (by omega), if_neg (by omega), Int.toNat_natCast]; rfl
theorem size_pick (i : Int) : pickL [8, 16, 32, 64] i = sizeQ i := by
  unfold pickL sizeQ
  split
  · rw [if_neg (by omega), if_neg (by omega), if_neg (by omega), if_neg (by omega)]
  · obtain ⟨k, rfl⟩ : ∃ k : Nat, i = k := ⟨i.toNat, by omega⟩
    match k with
    | 0 => rfl
    | 1 => rfl
    | 2 => rfl
    | 3 => rfl
    | k + 4 => rw [if_neg (by omega), if_neg (by omega), if_neg (by omega), if_neg (by omega), Int.toNat_natCast]; rfl
theorem silent_pick (i : Int) : pickL [200, 300, 500] i = silent i := by
  unfold pickL silent
  split
  · rw [if_neg (by omega), if_neg (by omega), if_neg (by omega)]
  · obtain ⟨k, rfl⟩ : ∃ k : Nat, i = k := ⟨i.toNat, by omega⟩
    match k with
    | 0 => rfl
    | 1 => rfl
    | 2 => rfl
    | k + 3 => rw [if_neg (by omega), if_neg (by omega), if_neg (by omega), Int.toNat_natCast]; rfl
set_option maxRecDepth 100000 in
theorem Qpick_any (i : Int) (g n : Nat) (cs : Array Value) (l : List Int) (t : TypeId) (w : World) (hg : w.heap[g]? = some (.cells cs t (0, 0))) (hcs : cs = (l.map (Value.int .i64)).toArray) (hn : l.length = n) (hn10 : n ≤ 10) :
    Calls Tryz.prog 66 #[.int .i64 i, .slice (some ⟨g, 0, none⟩) n n] w fun e w' => e = .returned (.int .i64 (pickL l i)) ∧ w' = w := by
  obtain ⟨q, hq⟩ : ∃ q, q = pickL l i := ⟨_, rfl⟩
  rw [← hq]
  by_cases h1 : i < 0
  · have HQ : Hid (q = 0) := by show q = 0; rw [hq]; unfold pickL; rw [if_pos h1]
    clear hq hg hcs hn hn10
    go_enter Tryz.func66, Tryz.ntmps66
    go_wp2
    go_ret
    exact ⟨by rw [HQ.out]; rfl, rfl⟩
  · obtain ⟨k, rfl⟩ : ∃ k : Nat, i = k := ⟨i.toNat, by omega⟩
    by_cases h2 : k < n
    · have hk : k < l.length := by omega
      have HQ : Hid (q = l[k]) := by show q = _; rw [hq]; unfold pickL; rw [if_neg h1]; simp [hk]
      have c : w.cell? ⟨g, k, none⟩ = some (.int .i64 l[k]) := cell_at hg k _ (by subst hcs; simp [hk])
      have t1 : decide ((n : Int) ≤ (k : Int)) = false := decide_eq_false (by omega)
      have t2 : (k : Int) < (n : Int) := by omega
      generalize l[k] = y at HQ c
      clear hq hg hcs hn hn10 h2 hk
      go_enter Tryz.func66, Tryz.ntmps66
      go_wp2
      go_ret
      exact ⟨by rw [HQ.out]; rfl, rfl⟩
    · have HQ : Hid (q = 0) := by show q = 0; rw [hq]; unfold pickL; rw [if_neg h1]; simp [show l.length ≤ k by omega]
      have t1 : n ≤ k := by omega
      clear hq hg hcs hn hn10 h2
      go_enter Tryz.func66, Tryz.ntmps66
      go_wp2
      go_ret
      exact ⟨by rw [HQ.out]; rfl, rfl⟩
theorem QBaud_any (n : Int) (w : World) (hn : (Lit.int .i64 n).wf = true) : Calls Tryz.prog 30 #[.int .i64 n] w fun e w' => e = .returned (.int .i64 (baud n)) ∧ Below w.heap.size w w' := by
  rw [← baud_pick]
  clear hn
  go_enter Tryz.func30, Tryz.ntmps30
  go_wp2_with (go_at_call 66; refine (Qpick_any n w.heap.size 4 _ [32, 64, 128, 256] _ _ (heap_alloc_new w _) rfl rfl (by decide)).mono ?_; rintro e w' ⟨rfl, rfl⟩)
  go_ret
  exact ⟨rfl, bal (bel0 w) _⟩
theorem QSilent_any (n : Int) (w : World) (hn : (Lit.int .i64 n).wf = true) : Calls Tryz.prog 32 #[.int .i64 n] w fun e w' => e = .returned (.int .i64 (silent n)) ∧ Below w.heap.size w w' := by
  rw [← silent_pick]
  clear hn
  go_enter Tryz.func32, Tryz.ntmps32
  go_wp2_with (go_at_call 66; refine (Qpick_any n w.heap.size 3 _ [200, 300, 500] _ _ (heap_alloc_new w _) rfl rfl (by decide)).mono ?_; rintro e w' ⟨rfl, rfl⟩)
  go_ret
  exact ⟨rfl, bal (bel0 w) _⟩
theorem QSize_any (n : Int) (w : World) (hn : (Lit.int .i64 n).wf = true) : Calls Tryz.prog 34 #[.int .i64 n] w fun e w' => e = .returned (.int .i64 (sizeQ n)) ∧ Below w.heap.size w w' := by
  rw [← size_pick]
  clear hn
  go_enter Tryz.func34, Tryz.ntmps34
  go_wp2_with (go_at_call 66; refine (Qpick_any n w.heap.size 4 _ [8, 16, 32, 64] _ _ (heap_alloc_new w _) rfl rfl (by decide)).mono ?_; rintro e w' ⟨rfl, rfl⟩)
  go_ret
  exact ⟨rfl, bal (bel0 w) _⟩

theorem QTicks_any (b d : Int) (w : World) (hb : (Lit.int .i64 b).wf = true) (hd : (Lit.int .i64 d).wf = true) : Calls Tryz.prog 36 #[.int .i64 b, .int .i64 d] w fun e w' => e = .returned (.int .i64 (ticks b d)) ∧ Below w.heap.size w w' := by
  have bb := bounds_i64 hb
  have bd := bounds_i64 hd
  clear hb hd
  by_cases h1 : b < 1
  · have e : ticks b d = 0 := by unfold ticks; rw [if_pos (.inl h1)]
    rw [e]; clear e
    go_enter Tryz.func36, Tryz.ntmps36
    go_wp2
    go_ret
    exact ⟨rfl, Below.refl _ _⟩
  · by_cases h2 : d < 1
    · have e : ticks b d = 0 := by unfold ticks; rw [if_pos (.inr h2)]
      rw [e]; clear e
      go_enter Tryz.func36, Tryz.ntmps36
      go_wp2
      go_ret
      exact ⟨rfl, Below.refl _ _⟩
    · have hT : ticks b d = (b - 1) / d + 1 := by
        unfold ticks
        rw [if_neg (by omega), show b + d - 1 = b - 1 + 1 * d by omega, Int.add_mul_ediv_right _ _ (by omega)]
      have q0 : ¬ d = 0 := by omega
      have q1 : (b - 1).tdiv d = (b - 1) / d := Int.tdiv_eq_ediv_of_nonneg (by omega)
      have q3 : 0 ≤ (b - 1) / d := Int.ediv_nonneg (by omega) (by omega)
      have q4 : (b - 1) / d ≤ b - 1 := Int.ediv_le_self _ (by omega)
      have q2 : IntKind.i64.wrap (b - 1) = b - 1 := IntWalk.i64_in _ (by omega)
      have q5 : IntKind.i64.wrap ((b - 1) / d) = (b - 1) / d := IntWalk.i64_in _ (by omega)
      have q6 : IntKind.i64.wrap ((b - 1) / d + 1) = (b - 1) / d + 1 := IntWalk.i64_in _ (by omega)
      have HT := Lib.hid hT
      clear hT
      go_enter Tryz.func36, Tryz.ntmps36
      go_wp2
      go_ret
      exact ⟨by rw [HT.out]; rfl, Below.refl _ _⟩
end Go.Proofs.YtcmjdbljdkabpaaGreatDoor
