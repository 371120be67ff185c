/- Of layer 8: ZB4, ZB5, ZB6, Ref8j. -/
import Derived.Test.YtcmjdbljdkabpaaGreatDoorM8I
import Derived.Test.YtcmjdbljdkabpaaGreatDoorM8G
import Derived.Test.YtcmjdbljdkabpaaGreatDoorM8C

set_option linter.all false

namespace Go.Proofs.YtcmjdbljdkabpaaGreatDoor
open Go.RowKit

set_option maxRecDepth 1000000 in
set_option maxHeartbeats 2000000 in
theorem Xlen64_any (n : Nat) (w : World) (hn : n ≤ 12) : Calls Tryz.prog 146 #[.int .u64 (n : Int)] w fun e w' => (∃ k, e = .returned (.int .i64 k)) ∧ w' = w := by
  rcases (show n = 0 ∨ n = 1 ∨ n = 2 ∨ n = 3 ∨ n = 4 ∨ n = 5 ∨ n = 6 ∨ n = 7 ∨ n = 8 ∨ n = 9 ∨ n = 10 ∨ n = 11 ∨ n = 12 by omega) with rfl | rfl | rfl | rfl | rfl | rfl | rfl | rfl | rfl | rfl | rfl | rfl | rfl <;>
  · go_enter Tryz.func146, Tryz.ntmps146
    go_wp2
    go_ret
    exact ⟨⟨_, rfl⟩, rfl⟩
theorem Xlen_any (n : Nat) (w : World) (hn : n ≤ 12) : Calls Tryz.prog 132 #[.int .u64 (n : Int)] w fun e w' => (∃ k, e = .returned (.int .i64 k)) ∧ w' = w := by
  have h := fun w => Xlen64_any n w hn
  have H := Lib.hid h
  clear h
  go_enter Tryz.func132, Tryz.ntmps132
  go_wp2_with (go_at_call 146; (with_reducible refine (H.out _).mono ?_); rintro e w2 ⟨⟨k, rfl⟩, rfl⟩)
  go_ret
  exact ⟨⟨k, rfl⟩, rfl⟩
theorem Xins_nil (w : World) : Calls Tryz.prog 147 #[.slice none 0 0, .int .i64 0, .int .i64 0] w fun e w' => e = .returned (.tuple #[]) ∧ w' = w := by
  go_enter Tryz.func147, Tryz.ntmps147
  go_wp2
  go_loopw [6] (fun i wr => wr = w ∧ i = .int .i64 1) (fun _ _ => 0)
  case atStart => exact ⟨rfl, rfl⟩
  case round =>
    obtain ⟨rfl, rfl⟩ := hrel
    go_wp2
    go_end0
    exact ⟨rfl, rfl⟩
set_option maxRecDepth 100000 in
set_option maxHeartbeats 2000000 in
theorem Xpdq_of (A : Option Addr) (n cap : Nat) (lim : Int) (w : World) (hn : n ≤ 12) (R : World → Prop)
    (h : Calls Tryz.prog 147 #[.slice A n cap, .int .i64 0, .int .i64 (n : Int)] w fun e w' => e = .returned (.tuple #[]) ∧ R w') :
    Calls Tryz.prog 131 #[.slice A n cap, .int .i64 0, .int .i64 (n : Int), .int .i64 lim] w fun e w' => e = .returned (.tuple #[]) ∧ R w' := by
  have td : decide ((n : Int) ≤ (12 : Int)) = true := decide_eq_true (by omega)
  have wn : IntKind.i64.wrap (n : Int) = (n : Int) := IntWalk.i64_in _ (by omega)
  have H := Lib.hid h
  clear h hn
  go_enter Tryz.func131, Tryz.ntmps131
  go_wp2
  go_loopw [1, 2] (fun a b wr => wr = w ∧ a = .int .i64 0 ∧ b = .int .i64 (n : Int)) (fun _ _ _ => 0)
  case atStart => exact ⟨rfl, rfl, rfl⟩
  case round =>
    obtain ⟨rfl, rfl, rfl⟩ := hrel
    go_wp2_with (go_at_call 147; (with_reducible refine (H.out).mono ?_); rintro e w2 ⟨rfl, hr⟩; have HR := Lib.hid hr; clear hr)
    refine bodyPost_ret (results_none rfl _ _ _) rfl ?_
    exact ⟨rfl, HR.out⟩
/-- A slice of the call's own, empty or cell by cell. -/
def SlU (base : Nat) (w : World) (v : Value) (l : List Int) : Prop := (v = .slice none 0 0 ∧ l = []) ∨ ∃ g cap, v = .slice (some ⟨g, 0, none⟩) l.length cap ∧ base ≤ g ∧ g < w.heap.size ∧ Row w g l
theorem SlU.of_own {base : Nat} {w : World} {v : Value} {l : List Int} (h : OwnU w base v l) : SlU base w v l := by
  have h' := h
  rcases h'.2 with ⟨hv, hl⟩ | ⟨g, cap, cur, rfl, hb, hg, hc, -⟩
  · exact .inl ⟨hv, by cases l with | nil => rfl | cons x l => simp at hl⟩
  · refine .inr ⟨g, cap, rfl, hb, lt_at hg, fun k hk => ⟨?_, by simp [World.frozen?, hg]⟩⟩
    have hx : (l.map (Value.int .u32))[k]? = some (.int .u32 (gd l k)) := by
      rw [gd_at hk]; simp [hk]
    have := World.ownsRow.cells h (g := g) rfl k _ hx
    rw [addr_add, Nat.zero_add] at this
    exact this
theorem SlU.below {base : Nat} {w w' : World} {v : Value} {l : List Int} (h : SlU base w v l) (hb : Below w.heap.size w w') : SlU base w' v l := by
  rcases h with h | ⟨g, cap, e, h1, h2, h3⟩
  · exact .inl h
  · exact .inr ⟨g, cap, e, h1, Nat.lt_of_lt_of_le h2 hb.size, fun k hk => ⟨(hb.cell (p := ⟨g, k, none⟩) h2).trans (h3 k hk).1, ((below_cell hb).2 g k h2).trans (h3 k hk).2⟩⟩
/-- What the sort leaves. -/
def Sorts (base : Nat) (l : List Int) (v : Value) (w w' : World) : Prop := ∃ m, m.length = l.length ∧ (∀ x, x ∈ m ↔ x ∈ l) ∧ Srt m m.length ∧ SlU base w' v m ∧ Below base w w'
theorem Xins_sorts (base : Nat) (A : Option Addr) (cap : Nat) (l : List Int) (w : World) (hl : l.length ≤ 1000) (h : SlU base w (.slice A l.length cap) l) (hb : base ≤ w.heap.size) :
    Calls Tryz.prog 147 #[.slice A l.length cap, .int .i64 0, .int .i64 (l.length : Int)] w fun e w' => e = .returned (.tuple #[]) ∧ Sorts base l (.slice A l.length cap) w w' := by
  rcases h with ⟨h, rfl⟩ | ⟨g, cap', h, h1, h2, h3⟩
  · injection h with hA _ hC
    subst hA; subst hC
    refine (Xins_nil w).mono ?_
    rintro e w' ⟨rfl, rfl⟩
    exact ⟨rfl, [], rfl, fun _ => Iff.rfl, fun a b h1 h2 => absurd h2 (by simp), .inl ⟨rfl, rfl⟩, Below.refl _ _⟩
  · injection h with hA _ hC
    subst hA; subst hC
    refine (Xins_any g cap l w hl h3).mono ?_
    rintro e w' ⟨rfl, m, hm, hmem, hs, hr, hbl⟩
    exact ⟨rfl, m, hm, hmem, hs, .inr ⟨g, cap, by rw [hm], h1, Nat.lt_of_lt_of_le h2 hbl.size, hr⟩, hbl.mono h1⟩
set_option maxRecDepth 100000 in
set_option maxHeartbeats 2000000 in
theorem Xsort_any (base : Nat) (A : Option Addr) (cap : Nat) (l : List Int) (w : World) (hl : l.length ≤ 12) (h : SlU base w (.slice A l.length cap) l) (hb : base ≤ w.heap.size) :
    Calls Tryz.prog 107 #[.slice A l.length cap] w fun e w' => e = .returned (.tuple #[]) ∧ Sorts base l (.slice A l.length cap) w w' := by
  have hp := fun lim => Xpdq_of A l.length cap lim w hl _ (Xins_sorts base A cap l w (by omega) h hb)
  have hq := fun w => Xlen_any l.length w hl
  have wn : IntKind.u64.wrap (l.length : Int) = (l.length : Int) := by rw [IntKind.wrap_u64]; omega
  have HP := Lib.hid hp
  have HQ := Lib.hid hq
  clear hp hq h hb
  go_enter Tryz.func107, Tryz.ntmps107
  go_wp2_with (first
    | (go_at_call 132; (with_reducible refine (HQ.out _).mono ?_); rintro e w2 ⟨⟨k, rfl⟩, rfl⟩)
    | (go_at_call 131; (with_reducible refine (HP.out _).mono ?_); rintro e w2 ⟨rfl, hr⟩; have HR := Lib.hid hr; clear hr))
  go_end0
  exact ⟨rfl, HR.out⟩
set_option maxRecDepth 100000 in
set_option maxHeartbeats 2000000 in
theorem Xsorted_any (Bs : Nat) (A : Option Addr) (cap : Nat) (zs : List Int) (hlen : zs.length ≤ 12) (w : World) (hBs : Bs < w.heap.size)
    (hc : w.cell? ⟨Bs, 0, none⟩ = some (.slice A zs.length cap)) (hI : RdB w.heap.size w A zs) :
    Calls Tryz.prog 89 #[.func (.func 108) #[] #[.pointer (some ⟨Bs, 0, none⟩)]] w fun e w' => ∃ v, e = .returned v ∧ Sorts w.heap.size zs v w w' := by
  have HA := Lib.hid (Xcol_any Bs A cap zs (by omega) w hBs hc hI)
  have hs : ∀ w2, ∀ A2 cap2, SlU w.heap.size w2 (.slice A2 zs.length cap2) zs → Below w.heap.size w w2 → Calls Tryz.prog 107 #[.slice A2 zs.length cap2] w2 fun e w' => e = .returned (.tuple #[]) ∧ Sorts w.heap.size zs (.slice A2 zs.length cap2) w2 w' := fun w2 A2 cap2 h hb => Xsort_any w.heap.size A2 cap2 zs w2 hlen h hb.size
  have HS := Lib.hid hs
  clear hc hI hs
  go_enter Tryz.func89, Tryz.ntmps89
  go_wp2_with (first
    | (go_at_call 106; (with_reducible refine (HA.out).mono ?_); rintro e w2 ⟨v, rfl, ho, hb⟩; obtain ⟨A2, cap2, rfl⟩ : ∃ A2 cap2, v = .slice A2 zs.length cap2 := (by rcases SlU.of_own ho with ⟨h1, h2⟩ | ⟨g, c, h1, _⟩; (· exact ⟨none, 0, by rw [h1, h2]; rfl⟩); (· exact ⟨_, c, h1⟩)); have HO := Lib.hid (SlU.of_own ho); have HB := Lib.hid hb; clear ho hb)
    | (go_at_call 107; (with_reducible refine (HS.out _ _ _ HO.out HB.out).mono ?_); rintro e w3 ⟨rfl, hr⟩; have HR := Lib.hid hr; clear hr))
  go_ret
  obtain ⟨m, h1, h2, h3, h4, h5⟩ := HR.out
  exact ⟨_, rfl, m, h1, h2, h3, h4, HB.out.trans h5⟩
end Go.Proofs.YtcmjdbljdkabpaaGreatDoor

namespace Go.Proofs.YtcmjdbljdkabpaaGreatDoor
open Go.RowKit

theorem SlU.at_ {base : Nat} {w : World} {A : Option Addr} {cap : Nat} {l : List Int} (h : SlU base w (.slice A l.length cap) l) {k : Nat} (hk : k < l.length) : ∃ g, A = some ⟨g, 0, none⟩ ∧ w.cell? ⟨g, k, none⟩ = some (.int .u32 (gd l k)) := by
  rcases h with ⟨_, rfl⟩ | ⟨g, cap', h, _, _, h3⟩
  · simp at hk
  · injection h with hA
    exact ⟨g, hA, (h3 k hk).1⟩
set_option maxRecDepth 100000 in
set_option maxHeartbeats 4000000 in
theorem Xbin_any (base : Nat) (A : Option Addr) (cap : Nat) (l : List Int) (x : Int) (w : World) (hl : l.length ≤ 1000) (h : SlU base w (.slice A l.length cap) l) (hs : Srt l l.length) :
    Calls Tryz.prog 91 #[.slice A l.length cap, .int .u32 x] w fun e w' => (∃ k, e = .returned (.tuple #[.int .i64 k, .bool (decide (x ∈ l))])) ∧ w' = w := by
  have HH := Lib.hid h
  have HS := Lib.hid hs
  have hn := fun w => XsNaN_any x w
  obtain ⟨q, hq⟩ : ∃ q, q = decide (x ∈ l) := ⟨_, rfl⟩
  rw [← hq]
  have HQ := Lib.hid hq
  clear h hs hq
  go_enter Tryz.func91, Tryz.ntmps91
  go_wp2
  go_loopw [7, 8] (fun i j wr => wr = w ∧ ∃ a b : Nat, i = .int .i64 (a : Int) ∧ j = .int .i64 (b : Int) ∧ Half l x a b) (fun i j _ => (intOf j).toNat - (intOf i).toNat)
  case atStart => exact ⟨rfl, 0, l.length, rfl, rfl, half_start l x⟩
  case round =>
    obtain ⟨rfl, a, b, rfl, rfl, hh⟩ := hrel
    have hab := hh.1
    have hbl := hh.2.1
    have HF := Lib.hid hh
    clear hh
    by_cases hlt : a < b
    · have td : decide ((a : Int) < (b : Int)) = true := decide_eq_true (by omega)
      obtain ⟨m, hm⟩ : ∃ m, m = (a + b) / 2 := ⟨_, rfl⟩
      have m1 : a ≤ m ∧ m < b := by omega
      have w1 : IntKind.i64.wrap ((a : Int) + (b : Int)) = (a : Int) + (b : Int) := IntWalk.i64_in _ (by omega)
      have w2 : IntKind.u64.wrap ((a : Int) + (b : Int)) = (a : Int) + (b : Int) := by rw [IntKind.wrap_u64]; omega
      have w3 : ((a : Int) + (b : Int)) / 2 = (m : Int) := by omega
      have w4 : IntKind.i64.wrap (m : Int) = (m : Int) := IntWalk.i64_in _ (by omega)
      have w5 : IntKind.i64.wrap ((m : Int) + 1) = (m : Int) + 1 := IntWalk.i64_in _ (by omega)
      obtain ⟨g, rfl, c1⟩ := HH.out.at_ (k := m) (by omega)
      have jz : (m : Int) < (l.length : Int) := by omega
      have HM := Lib.hid hm
      clear hm
      have hless := fun w => Xless_any (gd l m) x w
      by_cases hc : gd l m < x
      · rw [decide_eq_true hc] at hless
        have HL := Lib.hid hless
        have HU := Lib.hid (half_up HS.out HF.out m1.1 m1.2 hc)
        clear hless hc
        go_wp2_with (go_at_call 109; (with_reducible refine (HL.out _).mono ?_); rintro e w' ⟨rfl, rfl⟩)
        go_roundw
        case rel => exact ⟨trivial, m + 1, b, by go_num, rfl, HU.out⟩
        case measure => simp [intOf] <;> omega
      · rw [decide_eq_false hc] at hless
        have HL := Lib.hid hless
        have HU := Lib.hid (half_down HS.out HF.out m1.1 m1.2 hc)
        clear hless hc
        go_wp2_with (go_at_call 109; (with_reducible refine (HL.out _).mono ?_); rintro e w' ⟨rfl, rfl⟩)
        go_roundw
        case rel => exact ⟨trivial, a, m, rfl, rfl, HU.out⟩
        case measure => simp [intOf] <;> omega
    · have td : decide ((a : Int) < (b : Int)) = false := decide_eq_false (by omega)
      obtain rfl : a = b := by omega
      have hin := half_in HS.out HF.out
      by_cases hal : a < l.length
      · have t2 : decide ((a : Int) < (l.length : Int)) = true := decide_eq_true (by omega)
        have jz : (a : Int) < (l.length : Int) := by omega
        obtain ⟨g, rfl, c1⟩ := HH.out.at_ hal
        obtain ⟨y, hy⟩ : ∃ y, gd l a = y := ⟨_, rfl⟩
        rw [hy] at c1 hin
        clear hy
        rcases he : (y == x) with _ | _
        · have HQ2 : Hid (q = false) := by show q = false; rw [HQ.out]; exact decide_eq_false (fun h => beq_eq_false_iff_ne.1 he (hin.1 h).2)
          have HN := Lib.hid (fun w => XsNaN_any y w)
          clear hin
          go_wp2_with (go_at_call 110; (with_reducible refine (HN.out _).mono ?_); rintro e w' ⟨rfl, rfl⟩)
          go_ret2
          exact ⟨⟨(a : Int), by rw [HQ2.out]; rfl⟩, rfl⟩
        · have HQ2 : Hid (q = true) := by show q = true; rw [HQ.out]; exact decide_eq_true (hin.2 ⟨hal, beq_iff_eq.1 he⟩)
          clear hin
          go_wp2
          go_ret2
          exact ⟨⟨(a : Int), by rw [HQ2.out]; rfl⟩, rfl⟩
      · have t2 : decide ((a : Int) < (l.length : Int)) = false := decide_eq_false (by omega)
        have HQ2 : Hid (q = false) := by show q = false; rw [HQ.out]; exact decide_eq_false (fun h => hal (hin.1 h).1)
        clear hin
        go_wp2
        go_ret2
        exact ⟨⟨(a : Int), by rw [HQ2.out]; rfl⟩, rfl⟩

set_option maxRecDepth 100000 in
set_option maxHeartbeats 4000000 in
theorem Xleast_any (base : Nat) (A : Option Addr) (cap : Nat) (l : List Int) (w : World) (hl : l.length ≤ 1000) (h : SlU base w (.slice A l.length cap) l) :
    Calls Tryz.prog 92 #[.slice A l.length cap] w fun e w' => e = .returned (.int .u32 (leastS l 1)) ∧ w' = w := by
  have HH := Lib.hid h
  clear h
  go_enter Tryz.func92, Tryz.ntmps92
  go_wp2
  go_loopw [3, 8] (fun n i wr => wr = w ∧ ∃ k : Nat, k ≤ l.length ∧ i = .int .i64 (k : Int) ∧ n = .int .u32 (leastS (l.take k) 1)) (fun _ i _ => l.length - (intOf i).toNat)
  case atStart => exact ⟨rfl, 0, by omega, rfl, rfl⟩
  case round =>
    obtain ⟨rfl, k, hk, rfl, rfl⟩ := hrel
    have hb := leastS_len l k
    by_cases hlt : k < l.length
    · have td : decide ((k : Int) < (l.length : Int)) = true := decide_eq_true (by omega)
      obtain ⟨g, rfl, c1⟩ := HH.out.at_ hlt
      have hst := leastS_take l k 1 hlt
      obtain ⟨n, hn⟩ : ∃ n, n = leastS (l.take k) 1 := ⟨_, rfl⟩
      rw [← hn] at hst hb ⊢
      have wn : IntKind.u32.wrap (n + 1) = n + 1 := by rw [IntKind.wrap_u32']; omega
      clear hn
      obtain ⟨y, hy⟩ : ∃ y, gd l k = y := ⟨_, rfl⟩
      rw [hy] at c1 hst
      clear hy
      rcases he : (y == n) with _ | _
      · have HN : Hid (n = leastS (l.take (k + 1)) 1) := by show _ = _; rw [hst, if_neg (beq_eq_false_iff_ne.1 he)]
        clear hst
        go_wp2
        go_roundw
        case rel => exact ⟨trivial, k + 1, by omega, by go_num, by rw [← HN.out]⟩
        case measure => simp [intOf] <;> omega
      · have HN : Hid (n + 1 = leastS (l.take (k + 1)) 1) := by show _ = _; rw [hst, if_pos (beq_iff_eq.1 he)]
        clear hst
        go_wp2
        go_roundw
        case rel => exact ⟨trivial, k + 1, by omega, by go_num, by rw [← HN.out]⟩
        case measure => simp [intOf] <;> omega
    · have td : decide ((k : Int) < (l.length : Int)) = false := decide_eq_false (by omega)
      have HT : Hid (l.take k = l) := by show _ = _; exact List.take_of_length_le (by omega)
      obtain ⟨n, hn⟩ : ∃ n, n = leastS (l.take k) 1 := ⟨_, rfl⟩
      rw [← hn]
      have HN := Lib.hid hn
      clear hn hb
      go_wp2
      go_ret
      exact ⟨by rw [show leastS l 1 = n by rw [HN.out, HT.out]]; rfl, rfl⟩
end Go.Proofs.YtcmjdbljdkabpaaGreatDoor

namespace Go.Proofs.YtcmjdbljdkabpaaGreatDoor
open Go.RowKit

theorem SlU.zero {base : Nat} {w : World} {v : Value} {l : List Int} (h : SlU base w v l) : SlU 0 w v l := by
  rcases h with h | ⟨g, cap, e, _, h2, h3⟩
  · exact .inl h
  · exact .inr ⟨g, cap, e, Nat.zero_le _, h2, h3⟩
theorem RdU.gd {w : World} {A : Option Addr} {cap : Nat} {l : List Int} (h : RdU w (.slice A l.length cap) l) {k : Nat} (hk : k < l.length) : ∃ b off, A = some ⟨b, off, none⟩ ∧ w.cell? ⟨b, off + k, none⟩ = some (.int .u32 (gd l k)) := by
  obtain ⟨b, off, e, _, hc⟩ := h.at_ hk
  exact ⟨b, off, e, by rw [gd_at hk]; exact hc⟩
set_option maxRecDepth 100000 in
set_option maxHeartbeats 4000000 in
theorem XFresh_any (v u : Value) (l m : List Int) (w : World) (hv : RdU w v l) (hu : RdU w u m) (hl : l.length ≤ 1000) (hm : m.length ≤ 12) : Calls Tryz.prog 52 #[v, u] w (FreshR l m w) := by
  obtain ⟨B, cb, rfl, -, -, -, hB⟩ := hu
  have hv2 := hv
  obtain ⟨A, cap, rfl, -, -, -, -⟩ := hv2
  have hrb : ∀ w2, Below w.heap.size w w2 → RdB w2.heap.size w2 B m := fun w2 hb h0 => by
    obtain ⟨b, off, e, hlt, hc⟩ := hB h0
    exact ⟨b, off, e, Nat.lt_of_lt_of_le hlt hb.size, fun j hj => (hb.cell (p := ⟨b, off + j, none⟩) hlt).trans (hc j hj)⟩
  have HV := Lib.hid hv
  have HVAL := Lib.hid (Xval_any B m.length cb w)
  have hb1 : Below w.heap.size w (w.alloc (.cells #[.slice B m.length cb] 52)) := bal (bel0 w) _
  have HB1 := Lib.hid hb1
  have HSO := Lib.hid (Xsorted_any w.heap.size B cb m hm (w.alloc (.cells #[.slice B m.length cb] 52)) (by simp) (by simp) (hrb _ hb1))
  clear hB hrb hv hb1
  go_enter Tryz.func52, Tryz.ntmps52
  go_wp2_with (first
    | (go_at_call 90; (with_reducible refine (HVAL.out).mono ?_); rintro e w1 ⟨rfl, rfl⟩)
    | (go_at_call 89; (with_reducible refine (HSO.out).mono ?_); rintro e w2 ⟨v, rfl, S, hSl, hSm, hSs, hSu, hSb⟩; obtain ⟨C, cc, rfl⟩ : ∃ C cc, v = .slice C S.length cc := (by rcases hSu with ⟨h1, h2⟩ | ⟨g, c, h1, _⟩; (· exact ⟨none, 0, by rw [h1, h2]; rfl⟩); (· exact ⟨_, c, h1⟩)); have HSL := Lib.hid hSl; have HSM := Lib.hid hSm; have HSS := Lib.hid hSs; have HSU := Lib.hid hSu.zero; have HSB := Lib.hid (HB1.out.trans (hSb.mono HB1.out.size)); clear hSl hSm hSs hSu hSb))
  have hS12 : S.length ≤ 1000 := by rw [HSL.out]; omega
  have HVB := Lib.hid (HV.out.below HSB.out)
  go_loopw [4, 5, 16] (fun a b i wr => wr = w2 ∧ a = .int .u32 0 ∧ b = .int .i64 0 ∧ ∃ k : Nat, k ≤ l.length ∧ i = .int .i64 (k : Int) ∧ ∀ j, j < k → (ownN (gd l j) && !m.contains (gd l j)) = false) (fun _ _ i _ => l.length - (intOf i).toNat)
  case atStart => exact ⟨rfl, rfl, rfl, 0, by omega, rfl, fun j h => absurd h (by omega)⟩
  case round =>
    obtain ⟨rfl, rfl, rfl, k, hk, rfl, hno⟩ := hrel
    have HNO := Lib.hid hno
    clear hno
    by_cases hlt : k < l.length
    · have td : decide ((k : Int) < (l.length : Int)) = true := decide_eq_true (by omega)
      obtain ⟨b, off, rfl, c1⟩ := HVB.out.gd hlt
      have w5 : IntKind.i64.wrap ((k : Int) + 1) = (k : Int) + 1 := IntWalk.i64_in _ (by omega)
      have hbin := fun w h => Xbin_any 0 C cc S (gd l k) w hS12 h HSS.out
      have hown := fun w => XisId_any (gd l k) w
      have hct := contains_of HSM.out (gd l k)
      rcases ho : ownN (gd l k) with _ | _
      · have HN : Hid (∀ j, j < k + 1 → (ownN (gd l j) && !m.contains (gd l j)) = false) := by
          show ∀ _, _
          intro j hj
          by_cases e : j = k
          · subst e; rw [ho]; rfl
          · exact HNO.out j (by omega)
        rw [ho] at hown
        have HBIN := Lib.hid hbin
        have HOWN := Lib.hid hown
        clear hbin hown hct ho
        generalize gd l k = y at *
        go_wp2_with (first
          | (go_at_call 91; (with_reducible refine (HBIN.out _ HSU.out).mono ?_); rintro e w' ⟨⟨q, rfl⟩, rfl⟩)
          | (go_at_call 83; (with_reducible refine (HOWN.out _).mono ?_); rintro e w' ⟨rfl, rfl⟩))
        go_roundw
        case rel => exact ⟨trivial, rfl, rfl, k + 1, by omega, by go_num, HN.out⟩
        case measure => simp [intOf] <;> omega
      · rw [ho] at hown
        have HOWN := Lib.hid hown
        rcases hi : decide (gd l k ∈ S) with _ | _
        · have HF : Hid (freshM l m = (gd l k, k + 1)) := by show _ = _; exact fresh_found hlt HNO.out (by rw [ho, hct, hi]; rfl)
          rw [hi] at hbin
          have HBIN := Lib.hid hbin
          clear hbin hown hct ho hi
          go_wp2_with (first
            | (go_at_call 91; (with_reducible refine (HBIN.out _ HSU.out).mono ?_); rintro e w' ⟨⟨q, rfl⟩, rfl⟩)
            | (go_at_call 83; (with_reducible refine (HOWN.out _).mono ?_); rintro e w' ⟨rfl, rfl⟩))
          go_ret2
          refine ⟨?_, HSB.out⟩
          rw [HF.out]
          rfl
        · have HN : Hid (∀ j, j < k + 1 → (ownN (gd l j) && !m.contains (gd l j)) = false) := by
            show ∀ _, _
            intro j hj
            by_cases e : j = k
            · subst e; rw [ho, hct, hi]; rfl
            · exact HNO.out j (by omega)
          rw [hi] at hbin
          have HBIN := Lib.hid hbin
          clear hbin hown hct ho hi
          go_wp2_with (first
            | (go_at_call 91; (with_reducible refine (HBIN.out _ HSU.out).mono ?_); rintro e w' ⟨⟨q, rfl⟩, rfl⟩)
            | (go_at_call 83; (with_reducible refine (HOWN.out _).mono ?_); rintro e w' ⟨rfl, rfl⟩))
          go_roundw
          case rel => exact ⟨trivial, rfl, rfl, k + 1, by omega, by go_num, HN.out⟩
          case measure => simp [intOf] <;> omega
    · have td : decide ((k : Int) < (l.length : Int)) = false := decide_eq_false (by omega)
      have HF : Hid (freshM l m = (leastS S 1, l.length)) := by
        show _ = _
        rw [least_sorted HSS.out HSM.out]
        exact fresh_none (fun i hi => HNO.out i (by omega))
      have HLE := Lib.hid (fun w h => Xleast_any 0 C cc S w hS12 h)
      go_wp2_with (go_at_call 92; (with_reducible refine (HLE.out _ HSU.out).mono ?_); rintro e w' ⟨rfl, rfl⟩)
      go_ret2
      refine ⟨?_, HSB.out⟩
      rw [HF.out]
      rfl
end Go.Proofs.YtcmjdbljdkabpaaGreatDoor

namespace Go.Proofs.YtcmjdbljdkabpaaGreatDoor
open Go.RowKit M

theorem run_boxS (s : St) (w : World) : (Instr.box 64 s.val).run Tryz.prog w = .ok (.pointer (some ⟨w.heap.size, 0, none⟩)) (w.alloc (.cells #[.int .u32 s.from_, .int .u32 s.to_, .int .i64 s.seat, .int .i64 s.count, .int .i64 s.o.baud, .int .i64 s.o.silent, .int .i64 s.o.win, .int .i64 s.o.size, .int .i64 s.o.wait] 64)) := by
  obtain ⟨a, b, c, d, ⟨e, f, g, h, i⟩⟩ := s
  kernel_rfl
theorem mayS_iff (s : St) : maySt s = true ↔ ownN s.from_ = true ∧ ownN s.to_ = true ∧ (0 ≤ s.seat ∧ s.seat < 8) ∧ (0 ≤ s.count ∧ s.count ≤ 249) ∧ mayO s.o = true := by
  unfold maySt
  rw [Bool.and_eq_true, Bool.and_eq_true, Bool.and_eq_true, Bool.and_eq_true, decide_eq_true_eq, decide_eq_true_eq, and_assoc, and_assoc, and_assoc]
set_option maxRecDepth 100000 in
set_option maxHeartbeats 4000000 in
theorem RMayS_any (s : St) (w : World) : Calls Tryz.prog 95 #[s.val] w fun e w' => e = .returned (.bool (maySt s)) ∧ Below w.heap.size w w' := by
  have hi := mayS_iff s
  obtain ⟨fr, tt, se, co, ⟨b, si, wi, z, wa⟩⟩ := s
  simp only at hi
  have hown := fun w => ROwn_any fr w
  have hown2 := fun w => ROwn_any tt w
  have hmay := fun w => RMayO_any ⟨b, si, wi, z, wa⟩ w
  generalize maySt ⟨fr, tt, se, co, ⟨b, si, wi, z, wa⟩⟩ = res at *
  generalize ownN fr = ow at *
  generalize ownN tt = ow2 at *
  generalize mayO ⟨b, si, wi, z, wa⟩ = ml at *
  have hfin : ∀ q : Bool, (q = true ↔ (ow = true ∧ ow2 = true ∧ (0 ≤ se ∧ se < 8) ∧ (0 ≤ co ∧ co ≤ 249) ∧ ml = true)) → Ending.returned (.bool q) = .returned (.bool res) := by
    intro q h
    congr 2
    rw [Bool.eq_iff_iff, h, hi]
  have HF := Lib.hid hfin
  have HOWN := Lib.hid hown
  have HOWN2 := Lib.hid hown2
  have HMAY := Lib.hid hmay
  clear hfin hown hown2 hmay hi
  go_enter Tryz.func95, Tryz.ntmps95
  go_wp2_with (with_reducible refine wpList_boxS rfl 64 _ (.tmp 0) rfl rfl (run_boxS ⟨fr, tt, se, co, ⟨b, si, wi, z, wa⟩⟩) ?_)
  intro w1 hb1 hlt1 hh1
  have c0 : w1.cell? ⟨w.heap.size, 0, none⟩ = some (.int .u32 fr) := cell_at hh1 0 _ rfl
  have c1 : w1.cell? ⟨w.heap.size, 1, none⟩ = some (.int .u32 tt) := cell_at hh1 1 _ rfl
  have c2 : w1.cell? ⟨w.heap.size, 2, none⟩ = some (.int .i64 se) := cell_at hh1 2 _ rfl
  have c3 : w1.cell? ⟨w.heap.size, 3, none⟩ = some (.int .i64 co) := cell_at hh1 3 _ rfl
  have c4 : w1.cell? ⟨w.heap.size, 4, none⟩ = some (.int .i64 b) := cell_at hh1 4 _ rfl
  have c5 : w1.cell? ⟨w.heap.size, 5, none⟩ = some (.int .i64 si) := cell_at hh1 5 _ rfl
  have c6 : w1.cell? ⟨w.heap.size, 6, none⟩ = some (.int .i64 wi) := cell_at hh1 6 _ rfl
  have c7 : w1.cell? ⟨w.heap.size, 7, none⟩ = some (.int .i64 z) := cell_at hh1 7 _ rfl
  have c8 : w1.cell? ⟨w.heap.size, 8, none⟩ = some (.int .i64 wa) := cell_at hh1 8 _ rfl
  have HB := Lib.hid hb1
  clear hb1 hh1
  go_wp2_with (first
    | (go_at_call 59; first | ((with_reducible refine (HOWN.out _).mono ?_); rintro e w' ⟨rfl, rfl⟩) | ((with_reducible refine (HOWN2.out _).mono ?_); rintro e w' ⟨rfl, rfl⟩))
    | (go_at_call 58; (with_reducible refine (HMAY.out _).mono ?_); rintro e w2 ⟨rfl, hb⟩; have HB2 := Lib.hid (bel_trans HB.out hb); clear hb))
  all_goals
    go_ret
    refine ⟨HF.out _ ?_, by first | exact HB2.out | exact HB.out⟩
    clear HF HB
    clear HOWN HOWN2 HMAY c0 c1 c2 c3 c4 c5 c6 c7 c8
    cases ow <;> cases ow2 <;> cases ml <;> (first | (simp at *; done) | (simp at *; omega) | (simp; omega) | omega)
end Go.Proofs.YtcmjdbljdkabpaaGreatDoor
