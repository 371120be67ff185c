/- The walks of package rx: finish, Put, In. -/
import Derived.Test.YtameiegmeicnoaaRxA
import Derived.Test.YtameiegmeicnoaaSir
namespace Go.Proofs.Ytameiegmeicnoaa
open Go.RowKit M

/-- What finish leaves. -/
def FinDone (w : World) (g : Nat) (r : R) (l : List UInt8) (err : Nat) (e : Ending) (w' : World) : Prop :=
  ∃ v, e = .returned (.tuple #[v, .int .i64 (err : Int)]) ∧ Own w' w.heap.size v l ∧ IsRx w' g r ∧ w.grownBy w' (some g)

theorem IsRx.rds {w : World} {g : Nat} {r : R} (h : IsRx w g r) : Rds w (.slice (some ⟨g, 4, none⟩) r.f.length 202) r.f :=
  ⟨_, 202, rfl, by have := h.ok; obtain ⟨_, h1, h2⟩ := this; omega, by simp [maxLen], fun _ => ⟨g, 4, rfl, fun j hj => h.held j hj⟩⟩

set_option maxRecDepth 100000 in
set_option maxHeartbeats 1000000 in
theorem finish_any (g : Nat) (r : R) (w : World) (h : IsRx w g r) :
    Calls Try.prog 43 #[.pointer (some ⟨g, 0, none⟩)] w (FinDone w g ⟨r.most, false, r.esc, r.f⟩ (rend r.esc r.f).1 (rend r.esc r.f).2) := by
  obtain ⟨most, ins, esc, f⟩ := r
  rcases esc with _ | _
  · have h1 := h.c1
    have h2 := h.c2
    have h3 := h.c3
    have f1 := h.free 1
    have hok := h.ok
    obtain ⟨_, hm, hl⟩ := hok
    have i1 := h.set1 false
    have g1 := grown_set (p := ⟨g, 1, none⟩) (grownBy_refl w (some g)) rfl (.bool false)
    have hz : g < w.heap.size := h.lt
    have hzs : (w.setCell ⟨g, 1, none⟩ (.bool false)).heap.size = w.heap.size := by simp [World.setCell]
    have HZ := Lib.hid hzs
    clear hzs
    have I1 := Lib.hid i1
    have G1 := Lib.hid g1
    clear h i1 g1
    simp only at *
    have q1 : (0 : Int) ≤ (f.length : Int) := by omega
    have q2 : (f.length : Int) ≤ 202 := by omega
    by_cases hs : f.length ≤ 2
    · have hd : decide ((f.length : Int) ≤ 2) = true := by simp; omega
      have hend : rend false f = ([], 8) := by simp [rend, hs]
      have HE := Lib.hid hend
      clear hend
      rw [HE.out]
      go_enter Try.func43, Try.ntmps43
      go_wp2
      go_quiet (fail)
      go_wp2
      go_ret2
      have g2 := G1.out
      exact ⟨_, rfl, Own.nil_ _ _, I1.out, g2.os, g2.tape, g2.output, g2.size, g2.block⟩
    · have hd : decide ((f.length : Int) ≤ 2) = false := by simp; omega
      have hrd : Rds (w.setCell ⟨g, 1, none⟩ (.bool false)) (.slice (some ⟨g, 4, none⟩) f.length 202) f := I1.out.rds
      have hrt := hrd.take (f.length - 2) (by omega)
      have HRT := Lib.hid hrt
      have HR := Lib.hid hrd
      clear hrt hrd
      have hlt : (f.take (f.length - 2)).length ≤ 1000000 := by rw [List.length_take]; omega
      rcases hf : cfine f with _ | _
      · have hend : rend false f = ([], 8) := by simp [rend, hf]
        have HE := Lib.hid hend
        clear hend
        rw [HE.out]
        go_enter Try.func43, Try.ntmps43
        go_wp2
        go_quiet (fail)
        go_wp2_with (go_at_call 26; refine (Fine_any _ f _ (HR.out.below (below_drewN (Below.refl _ _) nq))).mono ?_; rintro e w' ⟨rfl, rfl⟩)
        go_ret2
        have g2 := G1.out
        exact ⟨_, rfl, Own.nil_ _ _, I1.out, g2.os, g2.tape, g2.output, g2.size, g2.block⟩
      · have hend : rend false f = (f.take (f.length - 2), 0) := by simp [rend, hf]; omega
        have HE := Lib.hid hend
        clear hend
        rw [HE.out]
        have q3 : (0 : Int) ≤ (f.length : Int) - 2 := by omega
        go_enter Try.func43, Try.ntmps43
        go_wp2
        go_quiet (fail)
        go_wp2_with (first
          | (go_at_call 26; refine (Fine_any _ f _ (HR.out.below (below_drewN (Below.refl _ _) nq))).mono ?_; rintro e w' ⟨rfl, rfl⟩)
          | (go_at_call 47; (refine (Clone_any _ _ 202 (f.take (f.length - 2)) _ (HRT.out.below (below_drewN (Below.refl _ _) nq)) hlt).mono ?_; rintro e w1 ⟨v1, rfl, hown, hb⟩)))
        go_ret2
        have g2 := G1.out
        refine ⟨v1, rfl, hown.more (by rw [show ((w.setCell ⟨g, 1, none⟩ (.bool false)).drewN nq).heap.size = w.heap.size from HZ.out]; exact Nat.le_refl _), (I1.out.drewN nq).below hb, ?_⟩
        exact grown_trans (grown_drewN g2 nq) (grownBy_of_below hb none) (.inr (by simp))
  · have hend : rend true f = ([], 9) := rfl
    simp only [hend]
    refine (finish_esc g _ w h rfl).mono ?_
    rintro e w' ⟨rfl, hi, hg⟩
    exact ⟨_, rfl, Own.nil_ _ _, hi, hg⟩

set_option maxHeartbeats 400000 in
theorem In_any (g : Nat) (r : R) (w : World) (h : IsRx w g r) :
    Calls Try.prog 37 #[.pointer (some ⟨g, 0, none⟩)] w fun e w' => e = .returned (.bool r.ins) ∧ w = w' := by
  have h1 := h.c1
  have hn : ∀ w, (binOp .neq 39 (.pointer (some ⟨g, 0, none⟩)) (.pointer none)).run Try.prog w = .ok (.bool true) w := by intro w; kernel_rfl
  clear h
  go_enter Try.func37, Try.ntmps37
  go_wp2
  go_ret
  exact ⟨rfl, rfl⟩

set_option maxHeartbeats 400000 in
theorem In_nil (w : World) :
    Calls Try.prog 37 #[.pointer none] w fun e w' => e = .returned (.bool false) ∧ w = w' := by
  go_enter Try.func37, Try.ntmps37
  go_wp2
  go_ret
  exact ⟨rfl, rfl⟩

set_option maxHeartbeats 400000 in
theorem RxPut_nil (b : Int) (w : World) :
    Calls Try.prog 36 #[.pointer none, .int .u8 b] w fun e w' => e = .returned (.tuple #[.slice none 0 0, .int .i64 6, .bool false]) ∧ w = w' := by
  go_enter Try.func36, Try.ntmps36
  go_wp2
  go_ret3
  exact ⟨rfl, rfl⟩

theorem rxdone_add {most : Nat} {ins esc : Bool} {f : List UInt8} {b : UInt8} (h1 : b ≠ 192) (h2 : ins = true) (h3 : b ≠ 193) (h4 : ¬ (b = 125 ∧ esc = false)) :
    rput ⟨most, ins, esc, f⟩ b = if most + 2 ≤ f.length then (⟨most, false, esc, f⟩, [], 7, true) else (⟨most, ins, false, f ++ [if esc = true then b ^^^ 32 else b]⟩, [], 0, false) := by
  unfold rput
  simp only [h1, h2, h3, if_false, h4]
  simp

theorem add_any (g : Nat) (most : Nat) (ins esc : Bool) (f : List UInt8) (b : UInt8) (w : World) (h : IsRx w g ⟨most, ins, esc, f⟩) (h1 : b ≠ 192) (h2 : ins = true) (h3 : b ≠ 193) (h4 : ¬ (b = 125 ∧ esc = false)) :
    Calls Try.prog 44 #[.pointer (some ⟨g, 0, none⟩), .int .u8 (b.toNat : Int)] w (RxDone w g (rput ⟨most, ins, esc, f⟩ b).1 (rput ⟨most, ins, esc, f⟩ b).2.1 (rput ⟨most, ins, esc, f⟩ b).2.2.1 (rput ⟨most, ins, esc, f⟩ b).2.2.2) := by
  rw [rxdone_add h1 h2 h3 h4]
  by_cases hr : most + 2 ≤ f.length
  · rw [if_pos hr]
    exact add_range g _ b w h hr
  · rw [if_neg hr]
    exact add_fits g _ b w h (by simp only; omega)

set_option maxHeartbeats 1000000 in
theorem RxPut_any (g : Nat) (r : R) (b : UInt8) (w : World) (h : IsRx w g r) :
    Calls Try.prog 36 #[.pointer (some ⟨g, 0, none⟩), .int .u8 (b.toNat : Int)] w (RxDone w g (rput r b).1 (rput r b).2.1 (rput r b).2.2.1 (rput r b).2.2.2) := by
  obtain ⟨most, ins, esc, f⟩ := r
  have h1 := h.c1
  have h2 := h.c2
  have f2 := h.free 2
  have H := Lib.hid h
  clear h
  simp only at h1 h2
  by_cases b1 : b = 192
  · subst b1
    have e : rput ⟨most, ins, esc, f⟩ 192 = (⟨most, true, false, []⟩, [], 0, false) := by simp [rput]
    rw [e]
    clear e
    go_enter Try.func36, Try.ntmps36
    go_wp2_with (go_at_call 42; refine (start_any g _ _ H.out).mono ?_; rintro e w1 ⟨rfl, hi, hg⟩)
    go_ret3
    exact ⟨_, rfl, Own.nil_ _ _, hi, hg⟩
  · have t1 := toNat_beq b 192
    rw [decide_eq_false b1] at t1
    replace t1 : ((b.toNat : Int) == 192) = false := t1
    rcases ins with _ | _
    · have e : rput ⟨most, false, esc, f⟩ b = (⟨most, false, esc, f⟩, [], 0, false) := by simp [rput, b1]
      rw [e]
      clear e b1
      go_enter Try.func36, Try.ntmps36
      go_wp2
      go_ret3
      exact ⟨_, rfl, Own.nil_ _ _, H.out, grownBy_refl w _⟩
    · by_cases b2 : b = 193
      · subst b2
        have e : rput ⟨most, true, esc, f⟩ 193 = (⟨most, false, esc, f⟩, (rend esc f).1, (rend esc f).2, true) := by simp [rput]
        rw [e]
        clear e b1
        go_enter Try.func36, Try.ntmps36
        go_wp2_with (go_at_call 43; refine (finish_any g _ _ H.out).mono ?_; rintro e w1 ⟨v1, rfl, ho, hi, hg⟩)
        go_ret3
        exact ⟨_, rfl, ho, hi, hg⟩
      · have t2 := toNat_beq b 193
        rw [decide_eq_false b2] at t2
        replace t2 : ((b.toNat : Int) == 193) = false := t2
        by_cases b3 : b = 125
        · subst b3
          rcases esc with _ | _
          · have e : rput ⟨most, true, false, f⟩ 125 = (⟨most, true, true, f⟩, [], 0, false) := by simp [rput]
            rw [e]
            clear e b1 b2
            go_enter Try.func36, Try.ntmps36
            go_wp2
            go_ret3
            exact ⟨_, rfl, Own.nil_ _ _, H.out.set2 true, grown_set (p := ⟨g, 2, none⟩) (grownBy_refl w (some g)) rfl (.bool true)⟩
          · have hadd := add_any g most true true f 125 w H.out b1 rfl b2 (by simp)
            have HA := Lib.hid hadd
            clear hadd b1 b2
            generalize rput ⟨most, true, true, f⟩ 125 = x at *
            go_enter Try.func36, Try.ntmps36
            go_wp2_with (go_at_call 44; refine HA.out.mono ?_; rintro e w1 ⟨v1, rfl, ho, hi, hg⟩)
            go_ret3
            exact ⟨_, rfl, ho, hi, hg⟩
        · have t3 := toNat_beq b 125
          rw [decide_eq_false b3] at t3
          replace t3 : ((b.toNat : Int) == 125) = false := t3
          have hadd := add_any g most true esc f b w H.out b1 rfl b2 (by simp [b3])
          have HA := Lib.hid hadd
          clear hadd b1 b2 b3
          generalize rput ⟨most, true, esc, f⟩ b = x at *
          go_enter Try.func36, Try.ntmps36
          go_wp2_with (go_at_call 44; refine HA.out.mono ?_; rintro e w1 ⟨v1, rfl, ho, hi, hg⟩)
          go_ret3
          exact ⟨_, rfl, ho, hi, hg⟩
end Go.Proofs.Ytameiegmeicnoaa
