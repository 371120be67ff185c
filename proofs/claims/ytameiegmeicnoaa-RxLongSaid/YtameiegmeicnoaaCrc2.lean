/- The walks of Short, of package crc's Put and Fine, and of their references. -/
import Derived.Test.YtameiegmeicnoaaCrc
import Derived.Deep.QuietTactic
import Derived.BigQuiet
namespace Go.Proofs.Ytameiegmeicnoaa
open Go.RowKit M

/-- What a call leaves that makes new bytes. -/
def Makes (w : World) (l : List UInt8) (e : Ending) (w' : World) : Prop := ∃ v, e = .returned v ∧ Own w' w.heap.size v l ∧ Below w.heap.size w w'

theorem Rds.take {w : World} {A : Option Addr} {n cap : Nat} {l : List UInt8} (h : Rds w (.slice A n cap) l) (k : Nat) (hk : k ≤ n) : Rds w (.slice A k cap) (l.take k) := by
  obtain ⟨A', cap', he, h1, h2, h3⟩ := h
  injection he with e1 e2 e3
  subst e1 e3 e2
  have hl : (l.take k).length = k := by rw [List.length_take]; omega
  refine ⟨A, cap, by rw [hl], by omega, h2, fun h0 => ?_⟩
  obtain ⟨b, off, rfl, hc⟩ := h3 (by omega)
  refine ⟨b, off, rfl, fun j hj => ?_⟩
  rw [hc j (by omega)]
  simp [show j < k by omega]

set_option maxHeartbeats 400000 in
theorem Short_any (v : Value) (l : List UInt8) (n : Int) (w : World) (hv : Rds w v l) (h0 : 0 ≤ n) (h1 : n ≤ 1000000) :
    Calls Try.prog 19 #[v, .int .i64 n] w (Makes w (l.take n.toNat)) := by
  have hl := hv.len
  have hv0 := hv
  obtain ⟨A, cap, rfl, hc, hm, hr⟩ := hv
  have hs : Rds w (.slice A (if n < (l.length : Int) then n else (l.length : Int)).toNat cap) (l.take n.toNat) := by
    have e : l.take n.toNat = l.take (if n < (l.length : Int) then n else (l.length : Int)).toNat := by
      by_cases h : n < (l.length : Int)
      · rw [if_pos h]
      · rw [if_neg h, Int.toNat_natCast, List.take_length, List.take_of_length_le (by omega)]
    rw [e]
    exact hv0.take _ (by split <;> omega)
  have hlen : (l.take n.toNat).length ≤ 1000000 := by rw [List.length_take]; omega
  have HS := Lib.hid hs
  clear hr hv0 hs
  generalize l.take n.toNat = m at *
  unfold maxLen at hl hm
  go_enter Try.func19, Try.ntmps19
  go_wp2_with (at_builtin; refine wpList_app rfl (.const (.slice none 0 0)) (.tmp 10) rfl w.heap.size (.slice none 0 0) _ [] m rfl rfl (Own.nil_ w _) HS.out (by simp only [List.length_nil]; omega) (Nat.le_refl _) ?_; intro v1 w1 hown hg hat)
  all_goals
    go_ret
    exact ⟨v1, rfl, hown, below_of_grown hg⟩

set_option maxHeartbeats 400000 in
theorem RefOf_any (v : Value) (l : List UInt8) (w : World) (hv : Rds w v l) :
    Calls Try.prog 21 #[v] w fun e w' => e = .returned (.int .u16 (cof l : Nat)) ∧ w = w' := by
  have hl := hv.len
  obtain ⟨A, cap, rfl, h1, h2, hr⟩ := hv
  unfold maxLen at hl
  have HR := Lib.hid hr
  clear hr h1 h2
  go_enter Try.func21, Try.ntmps21
  go_wp2
  go_loop [3, 4] (fun t i => ∃ k : Nat, k ≤ l.length ∧ i = .int .i64 k ∧ t = .int .u16 (caddAll 65535 (l.take k) : Nat)) (fun _ i => l.length - (intOf i).toNat)
  case atStart => exact ⟨0, by omega, rfl, rfl⟩
  case round =>
    obtain ⟨k, hk, rfl, rfl⟩ := hrel
    have hs := caddAll_lt (l.take k) (c := 65535) (by decide)
    by_cases hlt : k < l.length
    · obtain ⟨b, off, rfl, hc⟩ := HR.out (by omega)
      have hcell := hc k hlt
      unfold bc at hcell
      clear hc
      have hx := (l.getD k 0).toNat_lt
      have ht : caddAll 65535 (l.take (k + 1)) = cadd (caddAll 65535 (l.take k)) (l.getD k 0).toNat := by
        rw [List.take_succ_eq_append_getElem hlt, caddAll_snoc, getD_eq_getElem l k hlt]
      have HT := Lib.hid ht
      clear ht
      generalize (l.getD k 0).toNat = x at *
      generalize caddAll 65535 (l.take k) = s at *
      go_wp2_with (go_at_call 23; refine (RefAdd_any s x _ hs hx).mono ?_; rintro e w' ⟨rfl, rfl⟩)
      go_round
      case rel => exact ⟨k + 1, by omega, by go_num, by rw [HT.out]⟩
      case measure => simp [intOf]; omega
    · obtain rfl : k = l.length := by omega
      go_wp2
      go_ret
      exact ⟨by
        have := caddAll_lt l (c := 65535) (by decide)
        refine congrArg (fun n => Ending.returned (.int .u16 n)) ?_
        unfold cof
        rw [IntKind.wrap_u16]
        omega, rfl⟩

theorem u16_lo (c : Nat) : IntKind.u8.wrap (c : Int) = (((UInt8.ofNat (c % 256)).toNat : Nat) : Int) := by
  rw [IntKind.wrap_u8]
  simp
theorem u16_hi (c : Nat) (_ : c < 65536) : IntKind.u8.wrap ((c : Int) / 256) = (((UInt8.ofNat (c / 256)).toNat : Nat) : Int) := by
  rw [IntKind.wrap_u8]
  simp

set_option maxHeartbeats 400000 in
theorem Put_any (v : Value) (l : List UInt8) (w : World) (hv : Rds w v l) (hlen : l.length ≤ 1000000) :
    Calls Try.prog 24 #[v] w (Makes w (cput l)) := by
  have hv0 := hv
  obtain ⟨A, cap, rfl, hc, hm, hr⟩ := hv
  have HS := Lib.hid hv0
  clear hv0
  have hof := cof_lt l
  obtain ⟨i0, hi, hz0, hz1, hz2⟩ := info_parts byte_info
  have hmk := fun w => run_make (P := Try.prog) w 22 5 i0 (.int .u8 0) Try.underlying22 hi hz0 .i64 .i64 l.length (l.length + 2) (by omega) (by omega) (by rw [hz2]; omega) (by omega)
  rw [hz1] at hmk
  clear hi hz0 hz1 hz2
  unfold maxLen at hm
  obtain ⟨x, hx⟩ : ∃ x, x = UInt8.ofNat (cof l % 256) := ⟨_, rfl⟩
  obtain ⟨y, hy⟩ : ∃ y, y = UInt8.ofNat (cof l / 256) := ⟨_, rfl⟩
  have e1 : IntKind.u8.wrap (cof l : Int) = (x.toNat : Int) := by rw [hx]; exact u16_lo _
  have e2 : IntKind.u8.wrap ((cof l : Int) / 256) = (y.toNat : Int) := by rw [hy]; exact u16_hi _ hof
  have hput : cput l = l ++ [x, y] := by rw [hx, hy]; rfl
  have HP := Lib.hid hput
  clear hput hx hy
  go_enter Try.func24, Try.ntmps24
  go_wp2_with (first
    | (at_builtin; (refine wpList_app rfl (.tmp 16) (.tmp 22) rfl w.heap.size (.slice (some ⟨w.heap.size, 0, none⟩) l.length (l.length + 2)) (.slice (some ⟨w1.heap.size, 0, none⟩) 2 2) l _ rfl rfl (hown.alloc _) (Own.rds (Own.built w1 [x, y] 0 (by omega) (by simp [maxLen]))) (by simp; omega) (by have := hb1.size; simp; omega) ?_; intro v2 w2 hown2 hg2 hat2))
    | (with_reducible refine wpList_copyB rfl (.tmp 11) (.tmp 12) rfl w.heap.size (l.length + 2) w.heap.size w _ (.slice A l.length cap) l rfl rfl (heap_alloc_new w _) (size_madeCells _ _) (by omega) (by unfold maxLen; omega) (HS.out.alloc _) ((Below.refl _ _).alloc (Nat.le_refl _) _) (Nat.le_refl _) ?_; intro w1 hown hb1)
    | (go_at_call 20; refine (Of_any _ l _ (HS.out.below hb1)).mono ?_; rintro e w' ⟨rfl, rfl⟩))
  go_ret
  exact ⟨v2, rfl, by rw [HP.out]; exact hown2, (hb1.alloc (by have := hb1.size; omega) _).grown hg2 (by have := hb1.size; simp; omega) (by simp [Value.ownBlock])⟩

theorem retb {a b : Bool} (h : a = b) : Ending.returned (.bool a) = .returned (.bool b) := by rw [h]
theorem toNat_beq (x y : UInt8) : ((x.toNat : Int) == (y.toNat : Int)) = decide (x = y) := by
  rw [Bool.eq_iff_iff, beq_iff_eq, decide_eq_true_eq]
  constructor
  · intro h
    exact UInt8.toNat_inj.1 (by omega)
  · rintro rfl
    rfl

set_option maxHeartbeats 400000 in
theorem Fine_any (v : Value) (l : List UInt8) (w : World) (hv : Rds w v l) :
    Calls Try.prog 26 #[v] w fun e w' => e = .returned (.bool (cfine l)) ∧ w = w' := by
  have hl := hv.len
  have hv0 := hv
  obtain ⟨A, cap, rfl, hc, hm, hr⟩ := hv
  unfold maxLen at hl hm
  by_cases h2 : l.length < 2
  · have hf := cfine_short l h2
    have HF := Lib.hid hf
    clear hf hr hv0
    go_enter Try.func26, Try.ntmps26
    go_wp2
    go_ret
    exact ⟨retb HF.out.symm, rfl⟩
  · obtain ⟨n, hn⟩ : ∃ n, l.length = n + 2 := ⟨l.length - 2, by omega⟩
    obtain ⟨b, off, rfl, hcell⟩ := hr (by omega)
    have c1 := hcell n (by omega)
    have c2 := hcell (n + 1) (by omega)
    have hf := cfine_long l (by omega)
    have hs := hv0.take n (by omega)
    have hof := cof_lt (l.take n)
    rw [show l.length - 2 = n by omega, show l.length - 1 = n + 1 by omega] at hf
    rw [hn] at hc hl ⊢
    clear hcell hr hv0 h2 hn
    obtain ⟨x, hx⟩ : ∃ x, x = UInt8.ofNat (cof (l.take n) % 256) := ⟨_, rfl⟩
    obtain ⟨y, hy⟩ : ∃ y, y = UInt8.ofNat (cof (l.take n) / 256) := ⟨_, rfl⟩
    have e1 : IntKind.u8.wrap (cof (l.take n) : Int) = (x.toNat : Int) := by rw [hx]; exact u16_lo _
    have e2 : IntKind.u8.wrap ((cof (l.take n) : Int) / 256) = (y.toNat : Int) := by rw [hy]; exact u16_hi _ hof
    rw [← hx, ← hy] at hf
    unfold bc at c1 c2
    generalize l.getD n 0 = p at *
    generalize l.getD (n + 1) 0 = q at *
    generalize l.take n = t at *
    have HF := Lib.hid hf
    have HS := Lib.hid hs
    clear hf hs hx hy
    have b1 := toNat_beq p x
    have b2 := toNat_beq q y
    by_cases h1 : p = x
    · by_cases h2 : q = y
      · rw [decide_eq_true h1] at b1
        rw [decide_eq_true h2] at b2
        have H1 := Lib.hid h1
        have H2 := Lib.hid h2
        clear h1 h2
        go_enter Try.func26, Try.ntmps26
        go_wp2_with (go_at_call 20; refine (Of_any _ _ _ HS.out).mono ?_; rintro e w' ⟨rfl, rfl⟩)
        go_ret
        exact ⟨retb (by rw [HF.out, decide_eq_true H1.out, decide_eq_true H2.out]; rfl), rfl⟩
      · rw [decide_eq_true h1] at b1
        rw [decide_eq_false h2] at b2
        have H1 := Lib.hid h1
        have H2 := Lib.hid h2
        clear h1 h2
        go_enter Try.func26, Try.ntmps26
        go_wp2_with (go_at_call 20; refine (Of_any _ _ _ HS.out).mono ?_; rintro e w' ⟨rfl, rfl⟩)
        go_ret
        exact ⟨retb (by rw [HF.out, decide_eq_true H1.out, decide_eq_false H2.out]; rfl), rfl⟩
    · rw [decide_eq_false h1] at b1
      have H1 := Lib.hid h1
      clear h1 b2
      go_enter Try.func26, Try.ntmps26
      go_wp2_with (go_at_call 20; refine (Of_any _ _ _ HS.out).mono ?_; rintro e w' ⟨rfl, rfl⟩)
      go_ret
      exact ⟨retb (by rw [HF.out, decide_eq_false H1.out]; rfl), rfl⟩
end Go.Proofs.Ytameiegmeicnoaa
