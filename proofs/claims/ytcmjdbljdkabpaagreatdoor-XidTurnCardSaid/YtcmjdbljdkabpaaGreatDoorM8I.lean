/- Of layer 8: ZB1, FreshS, ZB2, ZB3. -/
import Derived.Test.YtcmjdbljdkabpaaGreatDoorM4A
import Derived.Test.YtcmjdbljdkabpaaGreatDoorM8A
import Derived.Test.YtcmjdbljdkabpaaGreatDoorM8F
import Derived.RangeFuncBox
import Derived.RangeFuncLeaves
import Derived.Shelf.Abstract
import Derived.WalkKit
import Derived.OwnWalkIn
import Derived.TacticsInMore
import Derived.LoopNIn
import Derived.LoopIn
import Derived.Maps.AppendAt
import Derived.Lib.Hide
import Derived.BigRegion

set_option linter.all false

namespace Go.Proofs.YtcmjdbljdkabpaaGreatDoor
open Go.RowKit Go.Shelf

attribute [local go_sem] Oper.semAt_some

/-- At A, in a block below n₀, stand the numbers zs. -/
def RdB (n₀ : Nat) (W : World) (A : Option Addr) (zs : List Int) : Prop :=
  0 < zs.length → ∃ b off, A = some ⟨b, off, none⟩ ∧ b < n₀ ∧ ∀ j (h : j < zs.length), W.cell? ⟨b, off + j, none⟩ = some (.int .u32 zs[j])
theorem RdB.below {n₀ : Nat} {W W' : World} (h : Below n₀ W W') {A : Option Addr} {zs : List Int} (hI : RdB n₀ W A zs) : RdB n₀ W' A zs := fun h0 => by
  obtain ⟨b, off, e, hb, hc⟩ := hI h0
  exact ⟨b, off, e, hb, fun j hj => (h.cell (p := ⟨b, off + j, none⟩) hb).trans (hc j hj)⟩
theorem take_snocI {zs : List Int} {k : Nat} (h : k < zs.length) : zs.take k ++ [zs[k]] = zs.take (k + 1) := (List.take_succ_eq_append_getElem h).symm

set_option maxRecDepth 100000 in
set_option maxHeartbeats 2000000 in
theorem Xval1_in (F : Fence) (n : Nat) (h7 : F.fn 108) (hro : F.round = none) (hn : 1 ≤ n) (l Bs n₀ : Nat) (A : Option Addr) (cap : Nat) (zs : List Int) (hlen : zs.length ≤ 1000) (J Jx : List Int → World → Prop)
    (hY : ∀ pre x W, J pre W → pre.length < zs.length → YieldAt F (n - 1) Tryz.prog l #[.int .u32 x] W fun e W' =>
      (e = .returned (.bool true) ∧ J (pre ++ [x]) W' ∧ Below n₀ W W') ∨ (e = .returned (.bool false) ∧ Jx (pre ++ [x]) W'))
    (W : World) (hBs : W.cell? ⟨Bs, 0, none⟩ = some (.slice A zs.length cap)) (hI : RdB n₀ W A zs) (h0 : J [] W) :
    CallsIn F n Tryz.prog 108 #[.func (.yield l) #[] #[], .pointer (some ⟨Bs, 0, none⟩)] W fun e W' => (∃ v, e = .returned v) ∧
      ((∃ ys, ys = zs ∧ J ys W') ∨ (∃ pre, pre <+: zs ∧ Jx pre W')) := by
  refine callsIn_of_wp Tryz.func108 rfl h7 ?_ hro
  simp only [Tryz.ntmps108, List.size_toArray, List.length_cons, List.length_nil, Nat.reduceAdd, Nat.reduceSub, Array.replicate_succ, Array.replicate_zero, List.push_toArray, List.append_toArray, List.nil_append, List.cons_append]
  gi_wp2
  gi_loopw [7] (fun i wr => ∃ k : Nat, k ≤ zs.length ∧ i = .int .i64 k ∧ J (zs.take k) wr ∧ Below n₀ W wr)
    (fun i _ => zs.length - (intOf i).toNat)
  case atStart => exact ⟨0, Nat.zero_le _, rfl, by rw [List.take_zero]; exact h0, Below.refl _ _⟩
  case round =>
    obtain ⟨k, hk, rfl, hJs, hnx⟩ := hrel
    by_cases hlt : k < zs.length
    · obtain ⟨b, off, rfl, hb, hc⟩ := hI (by omega)
      have hcx := (hnx.cell (p := ⟨b, off + k, none⟩) hb).trans (hc k hlt)
      have hsn := take_snocI hlt
      obtain ⟨x, hx⟩ : ∃ x, zs[k] = x := ⟨_, rfl⟩
      rw [hx] at hcx hsn
      have HSN := Lib.hid hsn
      have HBS := Lib.hid hBs
      have td : decide ((k : Int) < (zs.length : Int)) = true := decide_eq_true (by omega)
      obtain ⟨fn, tmps, assign, body, hy, hR⟩ := hY _ x wr hJs (by rw [List.length_take]; omega)
      clear hx hsn hBs hc
      gi_wp2
      refine hR.mono ?_
      rintro e W3 (⟨rfl, hJ3, hk3⟩ | ⟨rfl, hJx3⟩)
      · gi_wp2
        go_roundw
        case rel => exact ⟨k + 1, by omega, by simp, HSN.out ▸ hJ3, hnx.trans hk3⟩
        case measure => simp [intOf]; omega
      · gi_wp2
        refine bodyPost_ret (results_none rfl _ _ _) rfl ?_
        exact ⟨⟨_, rfl⟩, .inr ⟨_, (by rw [HSN.out]; exact List.take_prefix _ _), hJx3⟩⟩
    · have td : decide ((k : Int) < (zs.length : Int)) = false := decide_eq_false (by omega)
      have HT : Hid (zs.take k = zs) := by show zs.take k = zs; exact List.take_of_length_le (by omega)
      gi_wp2
      go_end0
      exact ⟨⟨_, rfl⟩, .inl ⟨_, rfl, HT.out ▸ hJs⟩⟩

theorem Xval_stops (F : Fence) (n : Nat) (h7 : F.fn 108) (hro : F.round = none) (hn : 1 ≤ n) (Bs n₀ : Nat) (A : Option Addr) (cap : Nat) (zs : List Int) (hlen : zs.length ≤ 1000) (w : World) (hBs : Bs < w.heap.size) (hn₀ : n₀ ≤ w.heap.size)
    (hc : w.cell? ⟨Bs, 0, none⟩ = some (.slice A zs.length cap)) (hI : RdB n₀ w A zs) :
    SeqStopsK F n Tryz.prog 108 #[.pointer (some ⟨Bs, 0, none⟩)] (fun x : Int => #[Value.int .u32 x]) (Below n₀) (fun ys => ys = zs) (fun pre => pre <+: zs) zs.length w := fun l J Jx W hW _ _ hY h0 =>
  Xval1_in F n h7 hro hn l Bs n₀ A cap zs hlen J Jx hY W ((hW.cell (p := ⟨Bs, 0, none⟩) hBs).trans hc) (hI.below (hW.mono hn₀)) h0

theorem u32_info : (Tryz.prog.info? 49).map (fun i => (i.zero, i.size, i.bytes)) = some (some (.int .u32 0), 1, 4) := by kernel_rfl

set_option maxRecDepth 100000 in
set_option maxHeartbeats 2000000 in
theorem Xapp_in (F : Fence) (n : Nat) (hA : F.fn 130) (h7 : F.fn 108) (hro : F.round = none) (hn : 3 ≤ n) (Bs : Nat) (A : Option Addr) (cap : Nat) (zs : List Int) (hlen : zs.length ≤ 1000) (w : World) (hBs : Bs < w.heap.size)
    (hc : w.cell? ⟨Bs, 0, none⟩ = some (.slice A zs.length cap)) (hI : RdB w.heap.size w A zs) :
    CallsIn F n Tryz.prog 130 #[.slice none 0 0, .func (.func 108) #[] #[.pointer (some ⟨Bs, 0, none⟩)]] w fun e W' => ∃ v, e = .returned v ∧ W'.ownsRow w.heap.size 49 1 v zs.length (zs.map (Value.int .u32)) ∧ Below w.heap.size w W' := by
  have h1 : 1 ≤ n := by omega
  obtain ⟨i0, hi, hz0, hz1, hz2⟩ := info_parts u32_info
  refine callsIn_of_wp_marks Tryz.func130 rfl hA ?_ hro
  simp only [Tryz.ntmps130, List.size_toArray, List.length_cons, List.length_nil, Nat.reduceAdd, Nat.reduceSub, Array.replicate_succ, Array.replicate_zero, List.push_toArray, List.append_toArray, List.nil_append, List.cons_append]
  gi_wp2
  have bO := Boxed.new w 52 (.slice none 0 0)
  have hB0 : Below w.heap.size w (w.alloc (.cells #[.slice none 0 0] 52)) := (Below.refl _ w).alloc (Nat.le_refl _) _
  refine wpIn_rangeFunc_ownG hro h1 (gf := 108) (lb := #[.pointer (some ⟨Bs, 0, none⟩)]) rfl h7 (enters_of Tryz.func108 (by kernel_rfl) rfl)
    (Xval_stops F (n - 1) h7 hro (by omega) Bs w.heap.size A cap zs hlen _ (by simp; omega) (by simp) ((hB0.cell (p := ⟨Bs, 0, none⟩) hBs).trans hc) (hI.below hB0)) belowK_t (belowK_b (by simp)) (Below.refl _ _) (fun _ => rfl)
    (fun (pre : List Int) (W : World) => (∃ v, Boxed W w.heap.size 52 v ∧ W.ownsRow w.heap.size 49 1 v pre.length (pre.map (Value.int .u32)) ∧ True) ∧ Below w.heap.size w W)
    (fun _ _ _ => False)
    (OwnFrom.and (Own.from (holdsRow_own w.heap.size w.heap.size 52 49 1 (fun pre : List Int => pre.length) (fun pre : List Int => pre.map (Value.int .u32)) (fun _ _ => True)) _) (ownFrom_below (Nat.le_refl _) (by simp)))
    (fun _ _ _ _ _ hs _ _ => hs)
    ⟨⟨_, bO, World.ownsRow_nil _ _ _ _, trivial⟩, hB0⟩
    (fun x => { tmps := #[.slice none 0 0, .func (.func 108) #[] #[.pointer (some ⟨Bs, 0, none⟩)], .pointer (some ⟨w.heap.size, 0, none⟩), undef, .slice none 0 0, .int .u32 x, .func (.func 108) #[] #[.pointer (some ⟨Bs, 0, none⟩)], .int .u32 x, undef, undef, undef, undef, undef], defers := [] }) ?assign ?body ?done ?stop
  case assign =>
    intro l x W K hK
    gi_wp2
    exact hK
  case body =>
    rintro l pre x W ⟨⟨v, hv, hrow, -⟩, hB⟩ hlt
    have hc := hv.cell
    gi_wp2_with (gi_at_builtin; refine wpListIn_append_own _ rfl _ _ 52 rfl w.heap.size 49 i0 (.int .u32 0) 1 4 Tryz.underlying52 hi hz0 hz1 hz2 rfl (by decide) _ _ _ rfl (hrow.alloc _) ⟨W.heap.size, 0, none⟩ 1 1 [.int .u32 x] rfl rfl (cell_one_new _ _ _) (by simp [Value.oneCell']) (by simp only [maxLen]; omega) (by omega) (by have := hB.size; simp; omega) ?_; intro v' w1 hown' hgrow _; obtain ⟨g', cap', rfl⟩ := ownsRow_succ hown'; obtain ⟨hv1, hv2, hr2, hk2, hb2⟩ := hv.appended (by decide) hrow hB.size (Nat.le_refl _) hown' hgrow; have hc1 := hv1.cell; have hf1 := hv1.frozen)
    exact ⟨hk2.from _, hb2, ⟨_, hv2, by simpa using hr2, trivial⟩, hB.trans hb2⟩
  case done =>
    rintro D ys W hD rfl ⟨⟨v, hv, hrow, -⟩, hB⟩ hK
    have hc := hv.cell
    gi_wp2
    refine ⟨by simp, .inl ⟨_, _, rfl, run_takeDeferred hK, ?_⟩⟩
    exact ⟨_, results_tmp rfl _ _ _, v, rfl, ownsRow_putObj hrow _ hK rfl, hB.trans (belowK_b (w := w) (Nat.le_refl _) W D _ _ (by simp at hD; omega) hK rfl rfl)⟩
  case stop =>
    rintro D c pre W _ _ h _
    exact h.elim

/-- A slice of the call's own. -/
def OwnU (w : World) (base : Nat) (v : Value) (l : List Int) : Prop := w.ownsRow base 49 1 v l.length (l.map (Value.int .u32))
theorem Xval_any (A : Option Addr) (n cap : Nat) (w : World) : Calls Tryz.prog 90 #[.slice A n cap] w fun e w' => e = .returned (.func (.func 108) #[] #[.pointer (some ⟨w.heap.size, 0, none⟩)]) ∧ w' = w.alloc (.cells #[.slice A n cap] 52) := by
  go_enter Tryz.func90, Tryz.ntmps90
  go_wp2
  go_ret
  exact ⟨rfl, rfl⟩
theorem Xapp_any (Bs : Nat) (A : Option Addr) (cap : Nat) (zs : List Int) (hlen : zs.length ≤ 1000) (w : World) (hBs : Bs < w.heap.size)
    (hc : w.cell? ⟨Bs, 0, none⟩ = some (.slice A zs.length cap)) (hI : RdB w.heap.size w A zs) :
    Calls Tryz.prog 130 #[.slice none 0 0, .func (.func 108) #[] #[.pointer (some ⟨Bs, 0, none⟩)]] w fun e w' => ∃ v, e = .returned v ∧ OwnU w' w.heap.size v zs ∧ Below w.heap.size w w' :=
  callsIn_wide.1 (Xapp_in Fence.wide 3 trivial trivial rfl (Nat.le_refl _) Bs A cap zs hlen w hBs hc hI)
theorem Xcol_any (Bs : Nat) (A : Option Addr) (cap : Nat) (zs : List Int) (hlen : zs.length ≤ 1000) (w : World) (hBs : Bs < w.heap.size)
    (hc : w.cell? ⟨Bs, 0, none⟩ = some (.slice A zs.length cap)) (hI : RdB w.heap.size w A zs) :
    Calls Tryz.prog 106 #[.func (.func 108) #[] #[.pointer (some ⟨Bs, 0, none⟩)]] w fun e w' => ∃ v, e = .returned v ∧ OwnU w' w.heap.size v zs ∧ Below w.heap.size w w' := by
  have HA := Lib.hid (Xapp_any Bs A cap zs hlen w hBs hc hI)
  clear hc hI
  go_enter Tryz.func106, Tryz.ntmps106
  go_wp2_with (go_at_call 130; (with_reducible refine (HA.out).mono ?_); rintro e w2 ⟨v, rfl, ho, hb⟩; have HO := Lib.hid ho; have HB := Lib.hid hb; clear ho hb)
  go_ret
  exact ⟨v, rfl, HO.out, HB.out⟩
end Go.Proofs.YtcmjdbljdkabpaaGreatDoor

namespace Go.Proofs.YtcmjdbljdkabpaaGreatDoor

/-- The number at place k. -/
def gd (l : List Int) (k : Nat) : Int := l.getD k 0
theorem gd_at {l : List Int} {k : Nat} (h : k < l.length) : gd l k = l[k] := by unfold gd; simp [h]
theorem gd_mem {l : List Int} {k : Nat} (h : k < l.length) : gd l k ∈ l := by rw [gd_at h]; exact List.getElem_mem h
theorem mem_gd {l : List Int} {x : Int} (h : x ∈ l) : ∃ k, k < l.length ∧ gd l k = x := by
  obtain ⟨k, hk, e⟩ := List.getElem_of_mem h
  exact ⟨k, hk, by rw [gd_at hk]; exact e⟩
/-- The numbers at places j + 1 and j exchanged. -/
def sw (l : List Int) (j : Nat) : List Int := (l.set (j + 1) (gd l j)).set j (gd l (j + 1))
theorem sw_len (l : List Int) (j : Nat) : (sw l j).length = l.length := by unfold sw; simp
theorem gd_set (l : List Int) (i k : Nat) (v : Int) : gd (l.set i v) k = if i = k ∧ k < l.length then v else gd l k := by
  unfold gd
  by_cases h : k < l.length
  · rw [List.getD_eq_getElem?_getD, List.getD_eq_getElem?_getD, List.getElem?_set]
    by_cases e : i = k
    · subst e; simp [h]
    · simp [e]
  · have h1 : l.length ≤ k := by omega
    simp [h, h1]
theorem gd_sw {l : List Int} {j : Nat} (h : j + 1 < l.length) (k : Nat) : gd (sw l j) k = if k = j then gd l (j + 1) else if k = j + 1 then gd l j else gd l k := by
  unfold sw
  rw [gd_set, gd_set, List.length_set]
  by_cases e : k = j
  · subst e; rw [if_pos ⟨rfl, by omega⟩, if_pos rfl]
  · rw [if_neg (fun x => e x.1.symm), if_neg e]
    by_cases e2 : k = j + 1
    · subst e2; rw [if_pos ⟨rfl, h⟩, if_pos rfl]
    · rw [if_neg (fun x => e2 x.1.symm), if_neg e2]
theorem mem_sw {l : List Int} {j : Nat} (h : j + 1 < l.length) (x : Int) : x ∈ sw l j ↔ x ∈ l := by
  constructor
  · intro hx
    obtain ⟨k, hk, e⟩ := mem_gd hx
    rw [sw_len] at hk
    rw [gd_sw h] at e
    split at e
    · rw [← e]; exact gd_mem h
    · split at e
      · rw [← e]; exact gd_mem (by omega)
      · rw [← e]; exact gd_mem hk
  · intro hx
    obtain ⟨k, hk, e⟩ := mem_gd hx
    by_cases e1 : k = j
    · subst e1
      have := gd_mem (l := sw l k) (k := k + 1) (by rw [sw_len]; exact h)
      rw [gd_sw h, if_neg (by omega), if_pos rfl, e] at this
      exact this
    · by_cases e2 : k = j + 1
      · subst e2
        have := gd_mem (l := sw l j) (k := j) (by rw [sw_len]; omega)
        rw [gd_sw h, if_pos rfl, e] at this
        exact this
      · have := gd_mem (l := sw l j) (k := k) (by rw [sw_len]; exact hk)
        rw [gd_sw h, if_neg e1, if_neg e2, e] at this
        exact this
/-- The first i are in order. -/
def Srt (l : List Int) (i : Nat) : Prop := ∀ a b, a < b → b < i → gd l a ≤ gd l b
/-- The first i + 1 are in order but for the one at j, which none behind it is less than. -/
def Ins (l : List Int) (i j : Nat) : Prop := (∀ a b, a < b → b ≤ i → a ≠ j → b ≠ j → gd l a ≤ gd l b) ∧ ∀ b, j < b → b ≤ i → gd l j ≤ gd l b
theorem srt_one (l : List Int) : Srt l 1 := fun a b h1 h2 => absurd h2 (by omega)
theorem srt_ins {l : List Int} {i : Nat} (h : Srt l i) : Ins l i i := ⟨fun a b h1 h2 _ h4 => h a b h1 (by omega), fun b h1 h2 => absurd h2 (by omega)⟩
theorem ins_stop {l : List Int} {i j : Nat} (h : Ins l i j) (hj : j ≤ i) (hs : j = 0 ∨ gd l (j - 1) ≤ gd l j) : Srt l (i + 1) := by
  intro a b h1 h2
  by_cases ea : a = j
  · subst ea; exact h.2 b h1 (by omega)
  · by_cases eb : b = j
    · subst eb
      rcases hs with rfl | hs
      · omega
      · by_cases e : a = b - 1
        · subst e; exact hs
        · have := h.1 a (b - 1) (by omega) (by omega) ea (by omega)
          omega
    · exact h.1 a b h1 (by omega) ea eb
theorem ins_step {l : List Int} {i j : Nat} (h : Ins l i (j + 1)) (hj : j + 1 ≤ i) (hi : i < l.length) (hs : gd l (j + 1) < gd l j) : Ins (sw l j) i j := by
  have hl : j + 1 < l.length := by omega
  constructor
  · intro a b h1 h2 h3 h4
    rw [gd_sw hl, gd_sw hl, if_neg h3, if_neg h4]
    by_cases ea : a = j + 1
    · rw [if_pos ea, if_neg (by omega)]
      exact h.1 j b (by omega) h2 (by omega) (by omega)
    · rw [if_neg ea]
      by_cases eb : b = j + 1
      · rw [if_pos eb]
        exact h.1 a j (by omega) (by omega) ea (by omega)
      · rw [if_neg eb]
        exact h.1 a b h1 h2 ea eb
  · intro b h1 h2
    rw [gd_sw hl, gd_sw hl, if_pos rfl, if_neg (by omega)]
    by_cases eb : b = j + 1
    · rw [if_pos eb]; omega
    · rw [if_neg eb]; exact h.2 b (by omega) h2

/-- A list in order, and a search in it: what stands ahead of i is less, what stands from j on is not. -/
def Half (l : List Int) (x : Int) (i j : Nat) : Prop := i ≤ j ∧ j ≤ l.length ∧ (∀ k, k < i → gd l k < x) ∧ ∀ k, j ≤ k → k < l.length → x ≤ gd l k
theorem half_start (l : List Int) (x : Int) : Half l x 0 l.length := ⟨by omega, by omega, fun k h => absurd h (by omega), fun k h1 h2 => absurd h2 (by omega)⟩
theorem half_up {l : List Int} {x : Int} {i j m : Nat} (hs : Srt l l.length) (h : Half l x i j) (h1 : i ≤ m) (h2 : m < j) (hm : gd l m < x) : Half l x (m + 1) j := by
  refine ⟨by omega, h.2.1, fun k hk => ?_, h.2.2.2⟩
  by_cases e : k = m
  · subst e; exact hm
  · have := hs k m (by omega) (by have := h.2.1; omega)
    omega
theorem half_down {l : List Int} {x : Int} {i j m : Nat} (hs : Srt l l.length) (h : Half l x i j) (h1 : i ≤ m) (h2 : m < j) (hm : ¬ gd l m < x) : Half l x i m := by
  refine ⟨h1, by have := h.2.1; omega, h.2.2.1, fun k hk hl => ?_⟩
  by_cases e : k = m
  · subst e; omega
  · have := hs m k (by omega) hl
    omega
theorem half_in {l : List Int} {x : Int} {i : Nat} (hs : Srt l l.length) (h : Half l x i i) : x ∈ l ↔ i < l.length ∧ gd l i = x := by
  constructor
  · intro hx
    obtain ⟨k, hk, e⟩ := mem_gd hx
    have hik : i ≤ k := by
      by_cases c : k < i
      · have := h.2.2.1 k c; omega
      · omega
    have h1 := h.2.2.2 i (Nat.le_refl _) (by omega)
    refine ⟨by omega, ?_⟩
    by_cases c : i = k
    · subst c; exact e
    · have := hs i k (by omega) hk
      omega
  · rintro ⟨h1, rfl⟩
    exact gd_mem h1

/-- One walk over a list in order finds the least number from n on that is not in it. -/
def leastS : List Int → Int → Int
  | [], n => n
  | t :: r, n => leastS r (if t = n then n + 1 else n)
theorem leastS_none {r : List Int} {n : Int} (h : ∀ t ∈ r, n < t) : leastS r n = n := by
  induction r with
  | nil => rfl
  | cons t r ih =>
    unfold leastS
    have := h t (List.mem_cons_self ..)
    rw [if_neg (by omega)]
    exact ih (fun u hu => h u (List.mem_cons_of_mem _ hu))
theorem leastS_spec : ∀ (r : List Int) (n : Int), r.Pairwise (· ≤ ·) → n ≤ leastS r n ∧ leastS r n ≤ n + r.length ∧ (∀ j, n ≤ j → j < leastS r n → j ∈ r) ∧ leastS r n ∉ r
  | [], n, _ => ⟨Int.le_refl _, by simp [leastS], fun j h1 h2 => absurd h2 (by unfold leastS; omega), by simp⟩
  | t :: r, n, hp => by
    obtain ⟨ht, hr⟩ := List.pairwise_cons.1 hp
    unfold leastS
    by_cases e : t = n
    · rw [if_pos e]
      obtain ⟨h1, h2, h3, h4⟩ := leastS_spec r (n + 1) hr
      refine ⟨by omega, by simp only [List.length_cons]; omega, fun j hj1 hj2 => ?_, fun hm => ?_⟩
      · by_cases c : j = n
        · rw [c, ← e]; exact List.mem_cons_self ..
        · exact List.mem_cons_of_mem _ (h3 j (by omega) hj2)
      · rcases List.mem_cons.1 hm with hm | hm
        · omega
        · exact h4 hm
    · rw [if_neg e]
      obtain ⟨h1, h2, h3, h4⟩ := leastS_spec r n hr
      refine ⟨h1, by simp only [List.length_cons]; omega, fun j hj1 hj2 => List.mem_cons_of_mem _ (h3 j hj1 hj2), fun hm => ?_⟩
      rcases List.mem_cons.1 hm with hm | hm
      · by_cases c : t < n
        · omega
        · have := leastS_none (r := r) (n := n) (fun u hu => by have := ht u hu; omega)
          omega
      · exact h4 hm
theorem srt_pair {l : List Int} (h : Srt l l.length) : l.Pairwise (· ≤ ·) := by
  rw [List.pairwise_iff_getElem]
  intro a b ha hb hab
  have := h a b hab hb
  rw [gd_at ha, gd_at hb] at this
  exact this
theorem least_sorted {l m : List Int} (h : Srt l l.length) (hm : ∀ x, x ∈ l ↔ x ∈ m) : leastS l 1 = leastN m m.length 1 := by
  obtain ⟨h1, _, h3, h4⟩ := leastS_spec l 1 (srt_pair h)
  exact (leastN_least m 1 h1 (fun hx => h4 ((hm _).2 hx)) (fun j hj1 hj2 => (hm _).1 (h3 j hj1 hj2))).symm
theorem leastS_take (l : List Int) (k : Nat) (n : Int) (h : k < l.length) : leastS (l.take (k + 1)) n = (if gd l k = leastS (l.take k) n then leastS (l.take k) n + 1 else leastS (l.take k) n) := by
  have ap : ∀ (a : List Int) (x n : Int), leastS (a ++ [x]) n = if x = leastS a n then leastS a n + 1 else leastS a n := by
    intro a x
    induction a with
    | nil => intro n; rfl
    | cons t a ih => intro n; show leastS (a ++ [x]) _ = _; rw [ih]; rfl
  rw [List.take_succ_eq_append_getElem h, ap, gd_at h]
theorem leastS_len (l : List Int) (k : Nat) : 1 ≤ leastS (l.take k) 1 ∧ leastS (l.take k) 1 ≤ 1 + k := by
  have g : ∀ (r : List Int) (n : Int), n ≤ leastS r n ∧ leastS r n ≤ n + r.length := by
    intro r
    induction r with
    | nil => intro n; simp [leastS]
    | cons t r ih =>
      intro n
      have := ih (if t = n then n + 1 else n)
      unfold leastS
      simp only [List.length_cons]
      split at this <;> rename_i e <;> simp only [e, if_true, if_false] at * <;> omega
  have := g (l.take k) 1
  have hl : (l.take k).length ≤ k := by rw [List.length_take]; omega
  omega
theorem drawn_cons (nots : List Int) (d : Int) (r : List Int) (n : Nat) : drawn nots (d :: r) n = if ownN d && !nots.contains d then some (d, n + 1) else drawn nots r (n + 1) := rfl
/-- Draws that were looked at, and none was it. -/
theorem drawn_skip (nots : List Int) : ∀ (l : List Int) (k n : Nat), k ≤ l.length → (∀ i, i < k → (ownN (gd l i) && !nots.contains (gd l i)) = false) → drawn nots l n = drawn nots (l.drop k) (n + k)
  | _, 0, _, _, _ => by simp
  | [], k + 1, _, h, _ => by simp at h
  | d :: r, k + 1, n, h, hs => by
    have h0 := hs 0 (by omega)
    have hr := drawn_skip nots r k (n + 1) (by simp at h; omega) (fun i hi => by have := hs (i + 1) (by omega); exact this)
    have h0' : (ownN d && !nots.contains d) = false := h0
    rw [drawn_cons, if_neg (by rw [h0']; simp), hr, List.drop_succ_cons, show n + 1 + k = n + (k + 1) by omega]
theorem fresh_found {l nots : List Int} {k : Nat} (hk : k < l.length) (hs : ∀ i, i < k → (ownN (gd l i) && !nots.contains (gd l i)) = false) (h : (ownN (gd l k) && !nots.contains (gd l k)) = true) : freshM l nots = (gd l k, k + 1) := by
  unfold freshM
  rw [drawn_skip nots l k 0 (by omega) hs, List.drop_eq_getElem_cons hk, drawn_cons, ← gd_at hk, if_pos h]
  simp
theorem fresh_none {l nots : List Int} (hs : ∀ i, i < l.length → (ownN (gd l i) && !nots.contains (gd l i)) = false) : freshM l nots = (leastN nots nots.length 1, l.length) := by
  unfold freshM
  rw [drawn_skip nots l l.length 0 (Nat.le_refl _) hs]
  simp [drawn]
theorem contains_of {l m : List Int} (hm : ∀ x, x ∈ l ↔ x ∈ m) (x : Int) : m.contains x = decide (x ∈ l) := by
  rw [List.contains_eq_mem]
  exact decide_eq_decide.2 (hm x).symm
end Go.Proofs.YtcmjdbljdkabpaaGreatDoor

namespace Go.Proofs.YtcmjdbljdkabpaaGreatDoor
open Go.RowKit

theorem XcNaN_any (x : Int) (w : World) : Calls Tryz.prog 133 #[.int .u32 x] w fun e w' => e = .returned (.bool false) ∧ w' = w := by
  have t : (x != x) = false := by simp
  go_enter Tryz.func133, Tryz.ntmps133
  go_wp2
  go_ret
  exact ⟨rfl, rfl⟩
theorem XsNaN_any (x : Int) (w : World) : Calls Tryz.prog 110 #[.int .u32 x] w fun e w' => e = .returned (.bool false) ∧ w' = w := by
  have t : (x != x) = false := by simp
  go_enter Tryz.func110, Tryz.ntmps110
  go_wp2
  go_ret
  exact ⟨rfl, rfl⟩
theorem Xless_any (x y : Int) (w : World) : Calls Tryz.prog 109 #[.int .u32 x, .int .u32 y] w fun e w' => e = .returned (.bool (decide (x < y))) ∧ w' = w := by
  have hn := fun w => XcNaN_any x w
  have HN := Lib.hid hn
  clear hn
  obtain ⟨q, hq⟩ : ∃ q, q = decide (x < y) := ⟨_, rfl⟩
  rw [← hq]
  have HQ : Hid (decide (x < y) = q) := hq.symm
  go_enter Tryz.func109, Tryz.ntmps109
  clear hq
  go_wp2_with (go_at_call 133; (with_reducible refine (HN.out _).mono ?_); rintro e w' ⟨rfl, rfl⟩)
  all_goals
    go_ret
    refine ⟨?_, rfl⟩
    first | (rw [← HQ.out]; rfl) | (rw [← HQ.out]; simp; omega) | (rw [← HQ.out]; congr 2; simp; omega)

/-- Block g holds the numbers l, cell by cell. -/
def Row (w : World) (g : Nat) (l : List Int) : Prop := ∀ k, k < l.length → w.cell? ⟨g, k, none⟩ = some (.int .u32 (gd l k)) ∧ w.frozen? ⟨g, k, none⟩ = false
theorem Row.drew {w : World} {g : Nat} {l : List Int} (h : Row w g l) : Row w.drew g l := h
theorem Row.swap {w : World} {g : Nat} {l : List Int} (h : Row w g l) {j : Nat} (hj : j + 1 < l.length) :
    Row ((w.setCell ⟨g, j + 1, none⟩ (.int .u32 (gd l j))).setCell ⟨g, j, none⟩ (.int .u32 (gd l (j + 1)))) g (sw l j) := by
  intro k hk
  rw [sw_len] at hk
  refine ⟨?_, by rw [World.frozen?_setCell, World.frozen?_setCell]; exact (h k hk).2⟩
  rw [gd_sw hj]
  by_cases e1 : k = j
  · subst e1
    rw [if_pos rfl]
    refine World.cell?_setCell_same' _ _ _ ?_
    rw [World.cell?_setCell_other _ _ _ _ (by intro e; simp only [Addr.mk.injEq] at e; omega), (h k (by omega)).1]
    rfl
  · rw [if_neg e1, World.cell?_setCell_other _ _ _ _ (by intro e; simp only [Addr.mk.injEq] at e; omega)]
    by_cases e2 : k = j + 1
    · subst e2
      rw [if_pos rfl]
      exact World.cell?_setCell_same' _ _ _ (by rw [(h (j + 1) hj).1]; rfl)
    · rw [if_neg e2, World.cell?_setCell_other _ _ _ _ (by intro e; simp only [Addr.mk.injEq] at e; omega)]
      exact (h k hk).1

end Go.Proofs.YtcmjdbljdkabpaaGreatDoor

namespace Go.Proofs.YtcmjdbljdkabpaaGreatDoor
open Go.RowKit

set_option maxRecDepth 100000 in
set_option maxHeartbeats 4000000 in
theorem Xins_any (g cap : Nat) (l : List Int) (w : World) (hl : l.length ≤ 1000) (hR : Row w g l) :
    Calls Tryz.prog 147 #[.slice (some ⟨g, 0, none⟩) l.length cap, .int .i64 0, .int .i64 (l.length : Int)] w fun e w' => e = .returned (.tuple #[]) ∧ ∃ m, m.length = l.length ∧ (∀ x, x ∈ m ↔ x ∈ l) ∧ Srt m m.length ∧ Row w' g m ∧ Below g w w' := by
  obtain ⟨n, hn⟩ : ∃ n, n = l.length := ⟨_, rfl⟩
  have HL := Lib.hid hn
  have HR := Lib.hid hR
  rw [← hn] at hl ⊢
  clear hR hn
  go_enter Tryz.func147, Tryz.ntmps147
  go_wp2
  go_loopw [6] (fun i wr => ∃ (k : Nat) (m : List Int), i = .int .i64 (k : Int) ∧ 1 ≤ k ∧ (k ≤ n ∨ k = 1) ∧ m.length = n ∧ (∀ x, x ∈ m ↔ x ∈ l) ∧ Srt m k ∧ Row wr g m ∧ Below g w wr) (fun i _ => n + 1 - (intOf i).toNat)
  case atStart => exact ⟨1, l, rfl, by omega, by omega, HL.out.symm, fun _ => Iff.rfl, srt_one l, HR.out, Below.refl _ _⟩
  case round =>
    obtain ⟨k, m, rfl, hk1, hkn, hm, hmem, hs, hr, hb⟩ := hrel
    have HM := Lib.hid hm
    have HMEM := Lib.hid hmem
    have HS := Lib.hid hs
    have HROW := Lib.hid hr
    have HB := Lib.hid hb
    clear hm hmem hs hr hb
    by_cases hlt : k < n
    · have td : decide ((k : Int) < (n : Int)) = true := decide_eq_true (by omega)
      go_wp2
      go_loopw [7] (fun i wr => ∃ (j : Nat) (m : List Int), i = .int .i64 (j : Int) ∧ j ≤ k ∧ m.length = n ∧ (∀ x, x ∈ m ↔ x ∈ l) ∧ Ins m k j ∧ Row wr g m ∧ Below g w wr) (fun i _ => (intOf i).toNat)
      case atStart => exact ⟨k, m, rfl, Nat.le_refl _, HM.out, HMEM.out, srt_ins HS.out, HROW.out, HB.out⟩
      case round =>
        clear HM HMEM HS HROW HB m
        obtain ⟨j, m, rfl, hjk, hm, hmem, hins, hr, hb⟩ := hrel
        have HM := Lib.hid hm
        have HMEM := Lib.hid hmem
        have HINS := Lib.hid hins
        have HB := Lib.hid hb
        have HROW := Lib.hid hr
        clear hm hmem hins hb hr
        rcases Nat.eq_zero_or_pos j with hj | hj
        · have HJ := Lib.hid hj
          have td0 : decide ((0 : Int) < (j : Int)) = false := decide_eq_false (by omega)
          have td1 : ¬ (0 : Int) < (j : Int) := by omega
          have td2 : ¬ 0 < j := by omega
          clear hj
          go_wp2_with fail
          -- R4A
          refine regq (fun W => Row W g m ∧ Below g w W) (by kernel_rfl) (by kernel_rfl) (⟨HROW.out, HB.out.drew⟩) ?_
          refine q_take (v := ?_) (by rfl) ?_ ?_; rotate_left; (· intro W HW; go_simp; try with_reducible rfl)
          simp only [Act.put, List.setIfInBounds_toArray, List.set_cons_zero, List.set_cons_succ]
          refine q_take (v := ?_) (by rfl) ?_ ?_; rotate_left; (· intro W HW; go_simp; try with_reducible rfl)
          simp only [Act.put, List.setIfInBounds_toArray, List.set_cons_zero, List.set_cons_succ]
          refine q_take (v := ?_) (by rfl) ?_ ?_; rotate_left; (· intro W HW; go_simp; try with_reducible rfl)
          simp only [Act.put, List.setIfInBounds_toArray, List.set_cons_zero, List.set_cons_succ]
          refine q_take (v := ?_) (by rfl) ?_ ?_; rotate_left; (· intro W HW; go_simp; try with_reducible rfl)
          simp only [Act.put, List.setIfInBounds_toArray, List.set_cons_zero, List.set_cons_succ]
          refine q_skip (by rfl) ?_
          simp only [Act.put, List.setIfInBounds_toArray, List.set_cons_zero, List.set_cons_succ]
          refine q_skip (by rfl) ?_
          simp only [Act.put, List.setIfInBounds_toArray, List.set_cons_zero, List.set_cons_succ]
          refine q_skip (by rfl) ?_
          simp only [Act.put, List.setIfInBounds_toArray, List.set_cons_zero, List.set_cons_succ]
          refine q_skip (by rfl) ?_
          simp only [Act.put, List.setIfInBounds_toArray, List.set_cons_zero, List.set_cons_succ]
          refine q_skip (by rfl) ?_
          simp only [Act.put, List.setIfInBounds_toArray, List.set_cons_zero, List.set_cons_succ]
          refine q_skip (by rfl) ?_
          simp only [Act.put, List.setIfInBounds_toArray, List.set_cons_zero, List.set_cons_succ]
          refine q_skip (by rfl) ?_
          simp only [Act.put, List.setIfInBounds_toArray, List.set_cons_zero, List.set_cons_succ]
          refine q_skip (by rfl) ?_
          simp only [Act.put, List.setIfInBounds_toArray, List.set_cons_zero, List.set_cons_succ]
          refine q_skip (by rfl) ?_
          simp only [Act.put, List.setIfInBounds_toArray, List.set_cons_zero, List.set_cons_succ]
          refine q_skip (by rfl) ?_
          simp only [Act.put, List.setIfInBounds_toArray, List.set_cons_zero, List.set_cons_succ]
          refine q_take (v := ?_) (by rfl) ?_ ?_; rotate_left; (· intro W HW; go_simp; try with_reducible rfl)
          simp only [Act.put, List.setIfInBounds_toArray, List.set_cons_zero, List.set_cons_succ]
          refine q_done ?_
          -- END
          rintro w' ⟨hr', hb'⟩
          have HR' := Lib.hid hr'
          have HB' := Lib.hid hb'
          clear hr' hb'
          go_wp2
          go_roundw
          case rel => exact ⟨k + 1, m, by go_num, by omega, .inl (by omega), HM.out, HMEM.out, ins_stop HINS.out hjk (.inl HJ.out), HR'.out, HB'.out⟩
          case measure => simp [intOf] <;> omega
        · obtain ⟨p, rfl⟩ : ∃ p, j = p + 1 := ⟨j - 1, by omega⟩
          have hp1 : p + 1 < m.length := by rw [HM.out]; omega
          have hp0 : p < m.length := by omega
          have hless := fun w => Xless_any (gd m (p + 1)) (gd m p) w
          have hwp : IntKind.i64.wrap (p : Int) = (p : Int) := IntWalk.i64_in _ (by omega)
          have jz : (p : Int) + 1 < (n : Int) := by omega
          have jz1 : (p : Int) < (n : Int) := by omega
          have p0 : (0 : Int) ≤ (p : Int) + 1 := by omega
          have p1 : (0 : Int) < (p : Int) + 1 := by omega
          have e0 : ((p : Int) + 1).toNat = p + 1 := by omega
          by_cases hq : gd m (p + 1) < gd m p
          · have hless2 := hless
            rw [decide_eq_true hq] at hless2
            have HLESS := Lib.hid hless2
            clear hless2
            go_wp2_with fail
            -- R4B
            refine regq (fun W => Row W g m ∧ Below g w W) (by kernel_rfl) (by kernel_rfl) (⟨HROW.out, HB.out.drew⟩) ?_
            refine q_take (v := ?_) (by rfl) ?_ ?_; rotate_left; (· intro W HW; go_simp; try with_reducible rfl)
            simp only [Act.put, List.setIfInBounds_toArray, List.set_cons_zero, List.set_cons_succ]
            refine q_take (v := ?_) (by rfl) ?_ ?_; rotate_left; (· intro W HW; go_simp; try with_reducible rfl)
            simp only [Act.put, List.setIfInBounds_toArray, List.set_cons_zero, List.set_cons_succ]
            refine q_take (v := ?_) (by rfl) ?_ ?_; rotate_left; (· intro W HW; go_simp; try with_reducible rfl)
            simp only [Act.put, List.setIfInBounds_toArray, List.set_cons_zero, List.set_cons_succ]
            refine q_take (v := ?_) (by rfl) ?_ ?_; rotate_left; (· intro W HW; go_simp; try with_reducible rfl)
            simp only [Act.put, List.setIfInBounds_toArray, List.set_cons_zero, List.set_cons_succ]
            refine q_take (v := ?_) (by rfl) ?_ ?_; rotate_left; (· intro W HW; go_simp; try with_reducible rfl)
            simp only [Act.put, List.setIfInBounds_toArray, List.set_cons_zero, List.set_cons_succ]
            refine q_take (v := ?_) (by rfl) ?_ ?_; rotate_left; (· intro W HW; go_simp; try with_reducible rfl)
            simp only [Act.put, List.setIfInBounds_toArray, List.set_cons_zero, List.set_cons_succ]
            refine q_take (v := ?_) (by rfl) ?_ ?_; rotate_left; (· intro W HW; go_simp; try with_reducible rfl)
            simp only [Act.put, List.setIfInBounds_toArray, List.set_cons_zero, List.set_cons_succ]
            refine q_take (v := ?_) (by rfl) ?_ ?_; rotate_left; (· intro W HW; have cw1 := (HW.1 (p + 1) hp1).1; go_simp; try with_reducible rfl)
            simp only [Act.put, List.setIfInBounds_toArray, List.set_cons_zero, List.set_cons_succ]
            refine q_take (v := ?_) (by rfl) ?_ ?_; rotate_left; (· intro W HW; go_simp; try with_reducible rfl)
            simp only [Act.put, List.setIfInBounds_toArray, List.set_cons_zero, List.set_cons_succ]
            refine q_take (v := ?_) (by rfl) ?_ ?_; rotate_left; (· intro W HW; go_simp; try with_reducible rfl)
            simp only [Act.put, List.setIfInBounds_toArray, List.set_cons_zero, List.set_cons_succ]
            refine q_take (v := ?_) (by rfl) ?_ ?_; rotate_left; (· intro W HW; go_simp; try with_reducible rfl)
            simp only [Act.put, List.setIfInBounds_toArray, List.set_cons_zero, List.set_cons_succ]
            refine q_take (v := ?_) (by rfl) ?_ ?_; rotate_left; (· intro W HW; go_simp; try with_reducible rfl)
            simp only [Act.put, List.setIfInBounds_toArray, List.set_cons_zero, List.set_cons_succ]
            refine q_take (v := ?_) (by rfl) ?_ ?_; rotate_left; (· intro W HW; have cw0 := (HW.1 p hp0).1; go_simp; try with_reducible rfl)
            simp only [Act.put, List.setIfInBounds_toArray, List.set_cons_zero, List.set_cons_succ]
            refine q_call 109 #[.int .u32 (gd m (p + 1)), .int .u32 (gd m p)] (by rfl) (by intro W HW; go_simp) (fun W HW => (HLESS.out W).mono fun e W2 h2 => ⟨h2.1, by rw [h2.2]; exact HW⟩) ?_
            simp only [Act.put, List.setIfInBounds_toArray, List.set_cons_zero, List.set_cons_succ]
            refine q_take (v := ?_) (by rfl) ?_ ?_; rotate_left; (· intro W HW; go_simp; try with_reducible rfl)
            simp only [Act.put, List.setIfInBounds_toArray, List.set_cons_zero, List.set_cons_succ]
            refine q_done ?_
            -- END
            rintro w' ⟨hr', hb'⟩
            obtain ⟨c1, f1⟩ := hr' (p + 1) hp1
            obtain ⟨c0, f0⟩ := hr' p hp0
            have HSW := Lib.hid (Row.swap hr' hp1)
            have HBS := Lib.hid ((hb'.setCell (p := ⟨g, p + 1, none⟩) (Nat.le_refl _) (.int .u32 (gd m p))).setCell (p := ⟨g, p, none⟩) (Nat.le_refl _) (.int .u32 (gd m (p + 1))))
            have HSTEP := Lib.hid (ins_step HINS.out hjk (by rw [HM.out]; omega) hq)
            have HMS : Hid ((sw m p).length = n) := by show _ = _; rw [sw_len]; exact HM.out
            have HMM : Hid (∀ x, x ∈ sw m p ↔ x ∈ l) := by show ∀ _, _; intro x; rw [mem_sw hp1]; exact HMEM.out x
            have HQ := Lib.hid hq
            clear hr' hb' hq hless HLESS HINS HM HMEM HROW HB
            obtain ⟨j1, hj1⟩ : ∃ j1, j1 = p + 1 := ⟨_, rfl⟩
            rw [← hj1] at c1 f1 e0
            have J1 := Lib.hid hj1
            obtain ⟨x1, hx1⟩ : ∃ x, x = gd m (p + 1) := ⟨_, rfl⟩
            obtain ⟨x0, hx0⟩ : ∃ x, x = gd m p := ⟨_, rfl⟩
            rw [hj1, ← hx1] at c1
            rw [← hx0] at c0
            rw [← hx1, ← hx0] at HSW HBS
            have X1 := Lib.hid hx1
            have X0 := Lib.hid hx0
            rw [← hj1] at c1
            clear hj1 hx1 hx0
            go_wp2_with fail
            go_big_region
            all_goals go_wp2
            refine ⟨⟨p, sw m p, rfl, by omega, HMS.out, HMM.out, HSTEP.out, ?_, ?_⟩, by simp [intOf] <;> omega⟩
            · rw [J1.out]; exact HSW.out.drew
            · rw [J1.out]; exact HBS.out.drew
          · have hq2 : decide (gd m (p + 1) < gd m p) = false := decide_eq_false hq
            have hless2 := hless
            rw [hq2] at hless2
            have HLESS := Lib.hid hless2
            have HQ := Lib.hid hq
            clear hless hless2 hq2 hq
            go_wp2_with fail
            -- R4B
            refine regq (fun W => Row W g m ∧ Below g w W) (by kernel_rfl) (by kernel_rfl) (⟨HROW.out, HB.out.drew⟩) ?_
            refine q_take (v := ?_) (by rfl) ?_ ?_; rotate_left; (· intro W HW; go_simp; try with_reducible rfl)
            simp only [Act.put, List.setIfInBounds_toArray, List.set_cons_zero, List.set_cons_succ]
            refine q_take (v := ?_) (by rfl) ?_ ?_; rotate_left; (· intro W HW; go_simp; try with_reducible rfl)
            simp only [Act.put, List.setIfInBounds_toArray, List.set_cons_zero, List.set_cons_succ]
            refine q_take (v := ?_) (by rfl) ?_ ?_; rotate_left; (· intro W HW; go_simp; try with_reducible rfl)
            simp only [Act.put, List.setIfInBounds_toArray, List.set_cons_zero, List.set_cons_succ]
            refine q_take (v := ?_) (by rfl) ?_ ?_; rotate_left; (· intro W HW; go_simp; try with_reducible rfl)
            simp only [Act.put, List.setIfInBounds_toArray, List.set_cons_zero, List.set_cons_succ]
            refine q_take (v := ?_) (by rfl) ?_ ?_; rotate_left; (· intro W HW; go_simp; try with_reducible rfl)
            simp only [Act.put, List.setIfInBounds_toArray, List.set_cons_zero, List.set_cons_succ]
            refine q_take (v := ?_) (by rfl) ?_ ?_; rotate_left; (· intro W HW; go_simp; try with_reducible rfl)
            simp only [Act.put, List.setIfInBounds_toArray, List.set_cons_zero, List.set_cons_succ]
            refine q_take (v := ?_) (by rfl) ?_ ?_; rotate_left; (· intro W HW; go_simp; try with_reducible rfl)
            simp only [Act.put, List.setIfInBounds_toArray, List.set_cons_zero, List.set_cons_succ]
            refine q_take (v := ?_) (by rfl) ?_ ?_; rotate_left; (· intro W HW; have cw1 := (HW.1 (p + 1) hp1).1; go_simp; try with_reducible rfl)
            simp only [Act.put, List.setIfInBounds_toArray, List.set_cons_zero, List.set_cons_succ]
            refine q_take (v := ?_) (by rfl) ?_ ?_; rotate_left; (· intro W HW; go_simp; try with_reducible rfl)
            simp only [Act.put, List.setIfInBounds_toArray, List.set_cons_zero, List.set_cons_succ]
            refine q_take (v := ?_) (by rfl) ?_ ?_; rotate_left; (· intro W HW; go_simp; try with_reducible rfl)
            simp only [Act.put, List.setIfInBounds_toArray, List.set_cons_zero, List.set_cons_succ]
            refine q_take (v := ?_) (by rfl) ?_ ?_; rotate_left; (· intro W HW; go_simp; try with_reducible rfl)
            simp only [Act.put, List.setIfInBounds_toArray, List.set_cons_zero, List.set_cons_succ]
            refine q_take (v := ?_) (by rfl) ?_ ?_; rotate_left; (· intro W HW; go_simp; try with_reducible rfl)
            simp only [Act.put, List.setIfInBounds_toArray, List.set_cons_zero, List.set_cons_succ]
            refine q_take (v := ?_) (by rfl) ?_ ?_; rotate_left; (· intro W HW; have cw0 := (HW.1 p hp0).1; go_simp; try with_reducible rfl)
            simp only [Act.put, List.setIfInBounds_toArray, List.set_cons_zero, List.set_cons_succ]
            refine q_call 109 #[.int .u32 (gd m (p + 1)), .int .u32 (gd m p)] (by rfl) (by intro W HW; go_simp) (fun W HW => (HLESS.out W).mono fun e W2 h2 => ⟨h2.1, by rw [h2.2]; exact HW⟩) ?_
            simp only [Act.put, List.setIfInBounds_toArray, List.set_cons_zero, List.set_cons_succ]
            refine q_take (v := ?_) (by rfl) ?_ ?_; rotate_left; (· intro W HW; go_simp; try with_reducible rfl)
            simp only [Act.put, List.setIfInBounds_toArray, List.set_cons_zero, List.set_cons_succ]
            refine q_done ?_
            -- END
            rintro w' ⟨hr', hb'⟩
            have HR' := Lib.hid hr'
            have HB' := Lib.hid hb'
            clear hr' hb'
            go_wp2
            go_roundw
            case rel => exact ⟨k + 1, m, by go_num, by omega, .inl (by omega), HM.out, HMEM.out, ins_stop HINS.out hjk (.inr (by show gd m (p + 1 - 1) ≤ _; rw [Nat.add_sub_cancel]; have := HQ.out; omega)), HR'.out, HB'.out⟩
            case measure => simp [intOf] <;> omega
    · have td : decide ((k : Int) < (n : Int)) = false := decide_eq_false (by omega)
      go_wp2
      go_end0
      refine ⟨rfl, m, HM.out, HMEM.out, ?_, HROW.out, HB.out⟩
      rw [HM.out]
      intro a b h1 h2
      rcases hkn with h | h
      · exact HS.out a b h1 (by omega)
      · omega
end Go.Proofs.YtcmjdbljdkabpaaGreatDoor
