/- The walks of package crc and of its reference. -/
import Derived.Test.YtameiegmeicnoaaProg
import Derived.Test.YtameiegmeicnoaaMath
import Derived.WalkKit
import Derived.ProofKit
import Derived.Below
import Derived.Lib.Hide
import Derived.Test.YtameiegmeicnoaaWords
namespace Go.Proofs.Ytameiegmeicnoaa
open Go.RowKit M

theorem u16_not (c : Nat) (hc : c < 65536) : bits .xor .u16 IntKind.u16.max (c : Int) = ((65535 - c : Nat) : Int) := by
  show bits .xor .u16 ((65535 : Nat) : Int) (c : Int) = _
  rw [u16_xor_nat 65535 c (by decide) hc]
  have h : 65535 ^^^ c = 65535 - c := by
    have h1 : (65535#16 ^^^ BitVec.ofNat 16 c).toNat = (~~~ (BitVec.ofNat 16 c)).toNat := by
      rw [show (65535#16) = BitVec.allOnes 16 by decide, BitVec.allOnes_xor]
    rw [BitVec.toNat_xor, BitVec.toNat_not] at h1
    simpa [Nat.mod_eq_of_lt hc] using h1
  rw [h]
theorem u16_and_one (s : Nat) (hs : s < 65536) : bits .and .u16 (s : Int) 1 = ((s % 2 : Nat) : Int) := by
  rw [u16_and s 1 (by omega) (by omega) (by omega) (by omega)]
  simp

set_option maxHeartbeats 400000 in
theorem Add_any (c b : Nat) (w : World) (hc : c < 65536) (hb : b < 256) :
    Calls Try.prog 22 #[.int .u16 (c : Int), .int .u8 (b : Int)] w fun e w' => e = .returned (.int .u16 (cadd c b : Nat)) ∧ w = w' := by
  go_enter Try.func22, Try.ntmps22
  go_wp2
  go_loop [0, 10] (fun t i => ∃ k : Nat, k ≤ 8 ∧ i = .int .i64 k ∧ t = .int .u16 (csteps k (c ^^^ b) : Nat)) (fun _ i => 8 - (intOf i).toNat)
  case atStart => exact ⟨0, by omega, rfl, by rw [u16_xor_nat c b hc (by omega)]; rfl⟩
  case round =>
    obtain ⟨k, hk, rfl, rfl⟩ := hrel
    have hs := csteps_lt (xor_lt hc (show b < 65536 by omega)) k
    generalize hS : csteps k (c ^^^ b) = s at *
    have HS := Lib.hid hS
    clear hS
    have hst : csteps (k + 1) (c ^^^ b) = cstep s := by rw [← HS.out]; rfl
    have HST := Lib.hid hst
    clear hst
    by_cases hlt : k < 8
    · by_cases h1 : s % 2 = 1
      · have e1 : (bits .and .u16 (s : Int) 1 == 1) = true := by rw [u16_and_one s hs, h1]; rfl
        have e2 : bits .xor .u16 ((s : Int) / 2) 33800 = ((s / 2 ^^^ 33800 : Nat) : Int) := u16_xor_nat (s / 2) 33800 (by omega) (by decide)
        have H1 := Lib.hid h1
        clear h1
        go_wp2
        go_round
        case rel => exact ⟨k + 1, by omega, by go_num, by rw [HST.out]; unfold cstep; rw [if_pos H1.out]⟩
        case measure => simp [intOf]; omega
      · have e1 : (bits .and .u16 (s : Int) 1 == 1) = false := by rw [u16_and_one s hs, show s % 2 = 0 by omega]; rfl
        have H1 := Lib.hid h1
        clear h1
        go_wp2
        go_round
        case rel => exact ⟨k + 1, by omega, by go_num, by rw [HST.out]; unfold cstep; rw [if_neg H1.out]; go_num⟩
        case measure => simp [intOf]; omega
    · obtain rfl : k = 8 := by omega
      go_wp2
      go_ret
      exact ⟨by rw [← HS.out]; rfl, rfl⟩

set_option maxHeartbeats 400000 in
theorem RefAdd_any (c b : Nat) (w : World) (hc : c < 65536) (hb : b < 256) :
    Calls Try.prog 23 #[.int .u16 (c : Int), .int .u8 (b : Int)] w fun e w' => e = .returned (.int .u16 (cadd c b : Nat)) ∧ w = w' := by
  have e0 : bits .xor .u16 (c : Int) (b : Int) = ((c ^^^ b : Nat) : Int) := u16_xor_nat c b hc (by omega)
  go_enter Try.func23, Try.ntmps23
  go_wp2
  go_loop [0, 5] (fun t i => ∃ k : Nat, k ≤ 8 ∧ i = .int .i64 k ∧ t = .int .u16 (csteps k (c ^^^ b) : Nat)) (fun _ i => 8 - (intOf i).toNat)
  case atStart => exact ⟨0, by omega, rfl, rfl⟩
  case round =>
    obtain ⟨k, hk, rfl, rfl⟩ := hrel
    have hs := csteps_lt (xor_lt hc (show b < 65536 by omega)) k
    generalize hS : csteps k (c ^^^ b) = s at *
    have HS := Lib.hid hS
    clear hS
    have hst : csteps (k + 1) (c ^^^ b) = cstep s := by rw [← HS.out]; rfl
    have HST := Lib.hid hst
    clear hst
    by_cases hlt : k < 8
    · by_cases h1 : s % 2 = 1
      · have e1 : ((s : Int) % 2 == 1) = true := by rw [beq_iff_eq]; omega
        have e2 : bits .xor .u16 ((s : Int) / 2) 33800 = ((s / 2 ^^^ 33800 : Nat) : Int) := u16_xor_nat (s / 2) 33800 (by omega) (by decide)
        have H1 := Lib.hid h1
        clear h1
        go_wp2
        go_round
        case rel => exact ⟨k + 1, by omega, by go_num, by rw [HST.out]; unfold cstep; rw [if_pos H1.out]⟩
        case measure => simp [intOf]; omega
      · have e1 : ((s : Int) % 2 == 1) = false := by rw [beq_eq_false_iff_ne]; omega
        have H1 := Lib.hid h1
        clear h1
        go_wp2
        go_round
        case rel => exact ⟨k + 1, by omega, by go_num, by rw [HST.out]; unfold cstep; rw [if_neg H1.out]; go_num⟩
        case measure => simp [intOf]; omega
    · obtain rfl : k = 8 := by omega
      go_wp2
      go_ret
      exact ⟨by rw [← HS.out]; rfl, rfl⟩

theorem getD_eq_getElem (l : List UInt8) (k : Nat) (h : k < l.length) : l.getD k 0 = l[k] := by simp [h]

set_option maxHeartbeats 400000 in
theorem Of_any (v : Value) (l : List UInt8) (w : World) (hv : Rds w v l) :
    Calls Try.prog 20 #[v] w fun e w' => e = .returned (.int .u16 (cof l : Nat)) ∧ w = w' := by
  have hl := hv.len
  obtain ⟨A, cap, rfl, h1, h2, hr⟩ := hv
  unfold maxLen at hl
  have HR := Lib.hid hr
  clear hr h1 h2
  go_enter Try.func20, Try.ntmps20
  go_wp2
  go_loop [3, 8] (fun t i => ∃ k : Nat, k ≤ l.length ∧ i = .int .i64 k ∧ t = .int .u16 (caddAll 65535 (l.take k) : Nat)) (fun _ i => l.length - (intOf i).toNat)
  case atStart => exact ⟨0, by omega, rfl, rfl⟩
  case round =>
    obtain ⟨k, hk, rfl, rfl⟩ := hrel
    have hs := caddAll_lt (l.take k) (c := 65535) (by decide)
    by_cases hlt : k < l.length
    · obtain ⟨b, off, rfl, hc⟩ := HR.out (by omega)
      have hcell := hc k hlt
      unfold bc at hcell
      clear hc
      have hx := (l.getD k 0).toNat_lt
      have ht : caddAll 65535 (l.take (k + 1)) = cadd (caddAll 65535 (l.take k)) (l.getD k 0).toNat := by
        rw [List.take_succ_eq_append_getElem hlt, caddAll_snoc, getD_eq_getElem l k hlt]
      have HT := Lib.hid ht
      clear ht
      generalize (l.getD k 0).toNat = x at *
      generalize caddAll 65535 (l.take k) = s at *
      go_wp2_with (go_at_call 22; refine (Add_any s x _ hs hx).mono ?_; rintro e w' ⟨rfl, rfl⟩)
      go_round
      case rel => exact ⟨k + 1, by omega, by go_num, by rw [HT.out]⟩
      case measure => simp [intOf]; omega
    · obtain rfl : k = l.length := by omega
      go_wp2
      go_ret
      exact ⟨by
        exact congrArg (fun n => Ending.returned (.int .u16 n)) (u16_not _ (caddAll_lt l (by decide))), rfl⟩
end Go.Proofs.Ytameiegmeicnoaa
