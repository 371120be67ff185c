/- Of layer 8: QA4, MA1, RegQ. -/
import Derived.Test.YtcmjdbljdkabpaaGreatDoorM8E
import Derived.Test.YtcmjdbljdkabpaaGreatDoorM8C
import Derived.Test.YtcmjdbljdkabpaaGreatDoorM8B
import Derived.Test.YtcmjdbljdkabpaaGreatDoorM4A
import Derived.Deep.Quiet

set_option linter.all false

namespace Go.Proofs.YtcmjdbljdkabpaaGreatDoor
open Go.RowKit M

set_option maxRecDepth 100000 in
set_option maxHeartbeats 2000000 in
theorem Qfirst_any (v : Value) (l : List Tp) (id : Int) (w : World) (hr : RdT w v l) (hl : l.length ≤ 1000) (hz : ∀ t ∈ l, t.2.length ≤ 1000) : Calls Tryz.prog 68 #[v, .int .i64 id] w fun e w' => e = .returned (.int .i64 (valT l id)) ∧ Below w.heap.size w w' := by
  have hf := TFind_any v l id w hr hl hz
  obtain ⟨A, cap, rfl, -, -, -⟩ := hr
  clear hl hz
  obtain ⟨q, hq⟩ : ∃ q, q = valT l id := ⟨_, rfl⟩
  rw [← hq]
  have e0 : fnd1 l id = fnd l id := rfl
  cases hfn : fnd l id with
  | none =>
    rw [hfn] at hf
    simp only [Option.getD_none, Option.isSome_none] at hf
    have HF := Lib.hid hf
    have HQ : Hid (q = 0) := by show q = 0; rw [hq]; exact valT_none (e0.trans hfn)
    clear hf hq hfn e0
    go_enter Tryz.func68, Tryz.ntmps68
    go_wp2_with (go_at_call 98; refine (HF.out).mono ?_; rintro e w2 ⟨rfl, hb⟩; have HB2 := Lib.hid hb; clear hb)
    go_ret
    exact ⟨by rw [HQ.out]; rfl, HB2.out⟩
  | some t =>
    rw [hfn] at hf
    simp only [Option.getD_some, Option.isSome_some] at hf
    obtain ⟨T, hT⟩ : ∃ T : ByteArray, T = ⟨t.toArray⟩ := ⟨_, rfl⟩
    have hTs : T.size = t.length := by rw [hT]; show (t.toArray).size = _; simp
    rw [← hT] at hf
    have HF := Lib.hid hf
    clear hf
    by_cases h1 : T.size = 1
    · have hp0 : 0 < T.size := by omega
      obtain ⟨a, ha⟩ : ∃ a, T[0]'hp0 = a := ⟨_, rfl⟩
      have HQ : Hid (q = (a.toNat : Int)) := by
        show q = _
        rw [hq]
        match t, hT, hTs, hfn with
        | [], _, hTs, _ => exact absurd (hTs.symm.trans h1) (by simp)
        | [x], hT, _, hfn =>
          subst hT
          rw [← ha]
          exact valT_one (e0.trans hfn)
        | _ :: _ :: _, _, hTs, _ => exact absurd (hTs.symm.trans h1) (by simp)
      have hal := a.toNat_lt
      have v0 : (0 : Int) < (T.size : Int) := by omega
      have v1 : IntKind.i64.wrap (a.toNat : Int) = (a.toNat : Int) := IntWalk.i64_in _ (by omega)
      have v2 : ((T.size : Int) == 1) = true := by rw [h1]; rfl
      clear hq hfn e0 hT hTs h1
      go_enter Tryz.func68, Tryz.ntmps68
      go_wp2_with (go_at_call 98; refine (HF.out).mono ?_; rintro e w2 ⟨rfl, hb⟩; have HB2 := Lib.hid hb; clear hb)
      go_ret
      exact ⟨by rw [HQ.out]; rfl, HB2.out⟩
    · have HQ : Hid (q = 0) := by show q = 0; rw [hq]; exact valT_not (e0.trans hfn) (by omega)
      have v2 : ((T.size : Int) == 1) = false := by rw [beq_eq_false_iff_ne]; omega
      clear hq hfn e0 hT hTs h1
      go_enter Tryz.func68, Tryz.ntmps68
      go_wp2_with (go_at_call 98; refine (HF.out).mono ?_; rintro e w2 ⟨rfl, hb⟩; have HB2 := Lib.hid hb; clear hb)
      go_ret
      exact ⟨by rw [HQ.out]; rfl, HB2.out⟩
set_option maxRecDepth 100000 in
set_option maxHeartbeats 4000000 in
theorem QGet_none (s : ByteArray) (w : World) (hs : s.size ≤ maxLen) (hg : getT s.data.toList = none) : Calls Tryz.prog 38 #[.string s] w (OfferR (getO s.data.toList) w) := by
  have hgt := fun w => TGet_any s w hs
  unfold GetTP at hgt
  rw [hg] at hgt
  simp only [Option.isSome_none, Option.getD_none] at hgt
  have HGT := Lib.hid hgt
  have HO : Hid (getO s.data.toList = none) := by show getO _ = _; unfold getO; rw [hg]; rfl
  clear hgt hg hs
  go_enter Tryz.func38, Tryz.ntmps38
  go_wp2_with (first
    | (go_at_call 67; (with_reducible refine (HGT.out _).mono ?_); rintro e w2 ⟨v, rfl, ho, hb⟩; obtain ⟨A, cap, rfl, _, _⟩ := ho.shape; have HB2 := Lib.hid (bel_trans (bal (bel0 w) _) hb); have HR2 := Lib.hid (keep_at (heap_alloc_new w _) hb); clear hb ho)
    | ((with_reducible refine wpList_storeB rfl 23 (.tmp 2) _ rfl w.heap.size #[.int .i64 0, .int .i64 0, .int .i64 0, .int .i64 0, .int .i64 0] rfl rfl 23 _ HR2.out (by kernel_rfl) (by kernel_rfl) (by kernel_rfl) ?_); intro w6 hg6 hz6 hh6; have HB6 := Lib.hid (bel_grown HB2.out hg6 (Nat.le_refl _)); have HR6 := Lib.hid hh6; clear hg6 hz6 hh6))
  exact ⟨rfl, _, results_cell2 rfl _ _ w.heap.size _ _ _ _ (.bool false) rfl rfl HR6.out Tryz.underlying23 rfl (by kernel_rfl), offerR_none HO.out HB6.out⟩
set_option maxRecDepth 100000 in
set_option maxHeartbeats 8000000 in
theorem QGet_some (s : ByteArray) (w : World) (l : List Tp) (hs : s.size ≤ maxLen) (hg : getT s.data.toList = some l) : Calls Tryz.prog 38 #[.string s] w (OfferR (getO s.data.toList) w) := by
  have hgt := fun w => TGet_any s w hs
  unfold GetTP at hgt
  rw [hg] at hgt
  simp only [Option.isSome_some, Option.getD_some] at hgt
  have HGT := Lib.hid hgt
  obtain ⟨hll, hok⟩ := getT_small hg
  have hzz : ∀ t ∈ l, t.2.length ≤ 1000 := fun t ht => by have := (hok t ht).2.2; omega
  have hG : getO s.data.toList = if mayO (offerT l) then some (offerT l) else none := by unfold getO; rw [hg]; rfl
  have hfs := fun id v W (h : RdT W v l) => Qfirst_any v l id W h (by omega) hzz
  have f1 := hfs 1
  have f2 := hfs 2
  have f3 := hfs 3
  have f4 := hfs 4
  have f5 := hfs 5
  have b1 := valT_bound l 1
  have b2 := valT_bound l 2
  have b3 := valT_bound l 3
  have b4 := valT_bound l 4
  have b5 := valT_bound l 5
  unfold offerT at hG
  generalize valT l 1 = x1 at f1 b1 hG
  generalize valT l 2 = x2 at f2 b2 hG
  generalize valT l 3 = x3 at f3 b3 hG
  generalize valT l 4 = x4 at f4 b4 hG
  generalize valT l 5 = x5 at f5 b5 hG
  have HF1 := Lib.hid (fun W {v} h => f1 v W h)
  have HF2 := Lib.hid (fun W {v} h => f2 v W h)
  have HF3 := Lib.hid (fun W {v} h => f3 v W h)
  have HF4 := Lib.hid (fun W {v} h => f4 v W h)
  have HF5 := Lib.hid (fun W {v} h => f5 v W h)
  have hmay := fun w => QMay_any ⟨x1, x2, x3, x4, x5⟩ w ⟨wf64 (n := x1) (by omega), wf64 (n := x2) (by omega), wf64 (n := x3) (by omega), wf64 (n := x4) (by omega), wf64 (n := x5) (by omega)⟩
  have HONE : Hid ((#[.int .i64 x1, .int .i64 x2, .int .i64 x3, .int .i64 x4, .int .i64 x5] : Array Value).all (·.oneCell') = true) := by show _ = true; simp [Value.oneCell']
  by_cases hm : mayO ⟨x1, x2, x3, x4, x5⟩ = true
  · rw [hm] at hmay
    have HMAY := Lib.hid hmay
    have HO : Hid (getO s.data.toList = some ⟨x1, x2, x3, x4, x5⟩) := by show getO _ = _; rw [hG]; exact if_pos hm
    clear hmay hm hG hgt hg hs hok hzz hfs f1 f2 f3 f4 f5 b1 b2 b3 b4 b5
    go_enter Tryz.func38, Tryz.ntmps38
    go_wp2_with (first
      | (go_at_call 67; (with_reducible refine (HGT.out _).mono ?_); rintro e w2 ⟨v, rfl, ho, hb⟩; obtain ⟨A, cap, rfl, _, _⟩ := ho.shape; have HB2 := Lib.hid (bel_trans (bal (bel0 w) _) hb); have HR2 := Lib.hid (keep_at (heap_alloc_new w _) hb); have HRD2 := Lib.hid ho.rd; clear hb ho)
      | (go_at_call 68; first
        | ((with_reducible refine (HF1.out _ HRD2.out).mono ?_); rintro e w3 ⟨rfl, hb⟩; have HB3 := Lib.hid (bel_trans HB2.out hb); have HR3 := Lib.hid (keep_at HR2.out hb); have HRD3 := Lib.hid (HRD2.out.below hb); clear hb)
        | ((with_reducible refine (HF2.out _ HRD3.out).mono ?_); rintro e w4 ⟨rfl, hb⟩; have HB4 := Lib.hid (bel_trans HB3.out hb); have HR4 := Lib.hid (keep_at HR3.out hb); have HRD4 := Lib.hid (HRD3.out.below hb); clear hb)
        | ((with_reducible refine (HF3.out _ HRD4.out).mono ?_); rintro e w5 ⟨rfl, hb⟩; have HB5 := Lib.hid (bel_trans HB4.out hb); have HR5 := Lib.hid (keep_at HR4.out hb); have HRD5 := Lib.hid (HRD4.out.below hb); clear hb)
        | ((with_reducible refine (HF4.out _ HRD5.out).mono ?_); rintro e w6 ⟨rfl, hb⟩; have HB6 := Lib.hid (bel_trans HB5.out hb); have HR6 := Lib.hid (keep_at HR5.out hb); have HRD6 := Lib.hid (HRD5.out.below hb); clear hb)
        | ((with_reducible refine (HF5.out _ HRD6.out).mono ?_); rintro e w7 ⟨rfl, hb⟩; have HB7 := Lib.hid (bel_trans HB6.out hb); have HR7 := Lib.hid (keep_at HR6.out hb); have HRD7 := Lib.hid (HRD6.out.below hb); clear hb))
      | ((with_reducible refine wpList_storeB rfl 23 (.tmp 6) _ rfl w7.heap.size #[.int .i64 x1, .int .i64 x2, .int .i64 x3, .int .i64 x4, .int .i64 x5] rfl rfl 23 _ (heap_alloc_new w7 (.cells #[.int .i64 0, .int .i64 0, .int .i64 0, .int .i64 0, .int .i64 0] 23)) (by kernel_rfl) (by kernel_rfl) HONE.out ?_); intro w8 hg8 hz8 hh8; have HB8 := Lib.hid (bel_grown (bal HB7.out (.cells #[.int .i64 0, .int .i64 0, .int .i64 0, .int .i64 0, .int .i64 0] 23)) hg8 (HB7.out.size)); have HR8 := Lib.hid (keep_grown (keep_at HR7.out (bal (bel0 w7) (.cells #[.int .i64 0, .int .i64 0, .int .i64 0, .int .i64 0, .int .i64 0] 23))) hg8 (Nat.ne_of_lt (lt_at HR7.out))); have HK8 := Lib.hid hh8; clear hg8 hz8 hh8)
      | (with_reducible refine wpList_loadB rfl 23 (.tmp 6) rfl w7.heap.size rfl 23 _ HK8.out _ Tryz.underlying23 rfl (by kernel_rfl) ?_)
      | (go_at_call 25; (with_reducible refine (HMAY.out _).mono ?_); rintro e w9 ⟨rfl, hb⟩; have HB9 := Lib.hid (bel_trans HB8.out hb); have HR9 := Lib.hid (keep_at HR8.out hb); have HK9 := Lib.hid (keep_at HK8.out hb); clear hb)
      | (with_reducible refine wpList_loadB rfl 23 (.tmp 6) rfl w7.heap.size rfl 23 _ HK9.out _ Tryz.underlying23 rfl (by kernel_rfl) ?_)
      | ((with_reducible refine wpList_storeB rfl 23 (.tmp 2) _ rfl w.heap.size #[.int .i64 x1, .int .i64 x2, .int .i64 x3, .int .i64 x4, .int .i64 x5] rfl rfl 23 _ HR9.out (by kernel_rfl) (by kernel_rfl) HONE.out ?_); intro w10 hg hz hh; have HB10 := Lib.hid (bel_grown HB9.out hg (Nat.le_refl _)); have HR10 := Lib.hid hh; clear hg hz hh))
    exact ⟨rfl, _, results_cell2 rfl _ _ w.heap.size _ _ _ _ (.bool true) rfl rfl HR10.out Tryz.underlying23 rfl (by kernel_rfl), offerR_some HO.out HB10.out⟩
  · have hm' : mayO ⟨x1, x2, x3, x4, x5⟩ = false := by simpa using hm
    rw [hm'] at hmay
    have HMAY := Lib.hid hmay
    have HO : Hid (getO s.data.toList = none) := by show getO _ = _; rw [hG]; exact if_neg hm
    clear hmay hm hm' hG hgt hg hs hok hzz hfs f1 f2 f3 f4 f5 b1 b2 b3 b4 b5
    go_enter Tryz.func38, Tryz.ntmps38
    go_wp2_with (first
      | (go_at_call 67; (with_reducible refine (HGT.out _).mono ?_); rintro e w2 ⟨v, rfl, ho, hb⟩; obtain ⟨A, cap, rfl, _, _⟩ := ho.shape; have HB2 := Lib.hid (bel_trans (bal (bel0 w) _) hb); have HR2 := Lib.hid (keep_at (heap_alloc_new w _) hb); have HRD2 := Lib.hid ho.rd; clear hb ho)
      | (go_at_call 68; first
        | ((with_reducible refine (HF1.out _ HRD2.out).mono ?_); rintro e w3 ⟨rfl, hb⟩; have HB3 := Lib.hid (bel_trans HB2.out hb); have HR3 := Lib.hid (keep_at HR2.out hb); have HRD3 := Lib.hid (HRD2.out.below hb); clear hb)
        | ((with_reducible refine (HF2.out _ HRD3.out).mono ?_); rintro e w4 ⟨rfl, hb⟩; have HB4 := Lib.hid (bel_trans HB3.out hb); have HR4 := Lib.hid (keep_at HR3.out hb); have HRD4 := Lib.hid (HRD3.out.below hb); clear hb)
        | ((with_reducible refine (HF3.out _ HRD4.out).mono ?_); rintro e w5 ⟨rfl, hb⟩; have HB5 := Lib.hid (bel_trans HB4.out hb); have HR5 := Lib.hid (keep_at HR4.out hb); have HRD5 := Lib.hid (HRD4.out.below hb); clear hb)
        | ((with_reducible refine (HF4.out _ HRD5.out).mono ?_); rintro e w6 ⟨rfl, hb⟩; have HB6 := Lib.hid (bel_trans HB5.out hb); have HR6 := Lib.hid (keep_at HR5.out hb); have HRD6 := Lib.hid (HRD5.out.below hb); clear hb)
        | ((with_reducible refine (HF5.out _ HRD6.out).mono ?_); rintro e w7 ⟨rfl, hb⟩; have HB7 := Lib.hid (bel_trans HB6.out hb); have HR7 := Lib.hid (keep_at HR6.out hb); have HRD7 := Lib.hid (HRD6.out.below hb); clear hb))
      | ((with_reducible refine wpList_storeB rfl 23 (.tmp 6) _ rfl w7.heap.size #[.int .i64 x1, .int .i64 x2, .int .i64 x3, .int .i64 x4, .int .i64 x5] rfl rfl 23 _ (heap_alloc_new w7 (.cells #[.int .i64 0, .int .i64 0, .int .i64 0, .int .i64 0, .int .i64 0] 23)) (by kernel_rfl) (by kernel_rfl) HONE.out ?_); intro w8 hg8 hz8 hh8; have HB8 := Lib.hid (bel_grown (bal HB7.out (.cells #[.int .i64 0, .int .i64 0, .int .i64 0, .int .i64 0, .int .i64 0] 23)) hg8 (HB7.out.size)); have HR8 := Lib.hid (keep_grown (keep_at HR7.out (bal (bel0 w7) (.cells #[.int .i64 0, .int .i64 0, .int .i64 0, .int .i64 0, .int .i64 0] 23))) hg8 (Nat.ne_of_lt (lt_at HR7.out))); have HK8 := Lib.hid hh8; clear hg8 hz8 hh8)
      | (with_reducible refine wpList_loadB rfl 23 (.tmp 6) rfl w7.heap.size rfl 23 _ HK8.out _ Tryz.underlying23 rfl (by kernel_rfl) ?_)
      | (go_at_call 25; (with_reducible refine (HMAY.out _).mono ?_); rintro e w9 ⟨rfl, hb⟩; have HB9 := Lib.hid (bel_trans HB8.out hb); have HR9 := Lib.hid (keep_at HR8.out hb); have HK9 := Lib.hid (keep_at HK8.out hb); clear hb)
      | ((with_reducible refine wpList_storeB rfl 23 (.tmp 2) _ rfl w.heap.size #[.int .i64 0, .int .i64 0, .int .i64 0, .int .i64 0, .int .i64 0] rfl rfl 23 _ HR9.out (by kernel_rfl) (by kernel_rfl) (by kernel_rfl) ?_); intro w10 hg hz hh; have HB10 := Lib.hid (bel_grown HB9.out hg (Nat.le_refl _)); have HR10 := Lib.hid hh; clear hg hz hh))
    exact ⟨rfl, _, results_cell2 rfl _ _ w.heap.size _ _ _ _ (.bool false) rfl rfl HR10.out Tryz.underlying23 rfl (by kernel_rfl), offerR_none HO.out HB10.out⟩
theorem QGet_any (s : ByteArray) (w : World) (hs : s.size ≤ maxLen) : Calls Tryz.prog 38 #[.string s] w (OfferR (getO s.data.toList) w) := by
  cases hg : getT s.data.toList with
  | none => exact QGet_none s w hs hg
  | some l => exact QGet_some s w l hs hg
end Go.Proofs.YtcmjdbljdkabpaaGreatDoor

namespace Go.Proofs.YtcmjdbljdkabpaaGreatDoor
open Go.RowKit

theorem winM_t {f : Int} {m : Nat} (h : ((m : Int) + 1) * f ≤ 30) : winM f (m + 1) = (m : Int) + 1 := by
  show (if ((m : Int) + 1) * f ≤ 30 then (m : Int) + 1 else winM f m) = _
  rw [if_pos h]
theorem winM_f {f : Int} {m : Nat} (h : ¬ ((m : Int) + 1) * f ≤ 30) : winM f (m + 1) = winM f m := by
  show (if ((m : Int) + 1) * f ≤ 30 then (m : Int) + 1 else winM f m) = _
  rw [if_neg h]
theorem winM_one (f : Int) : winM f 1 = 1 := by
  show (if (((0 : Nat) : Int) + 1) * f ≤ 30 then ((0 : Nat) : Int) + 1 else (1 : Int)) = 1
  split <;> rfl
theorem winM_at {f : Int} {n : Nat} (h1 : 1 ≤ n) (h : (n : Int) * f ≤ 30) : winM f n = (n : Int) := by
  obtain ⟨m, rfl⟩ : ∃ m, n = m + 1 := ⟨n - 1, by omega⟩
  have e : ((m + 1 : Nat) : Int) = (m : Int) + 1 := by omega
  rw [e] at h ⊢
  exact winM_t h
theorem winM_dec {f : Int} {n : Nat} (h1 : 1 ≤ n) (h : ¬ (n : Int) * f ≤ 30) : winM f n = winM f (n - 1) := by
  obtain ⟨m, rfl⟩ : ∃ m, n = m + 1 := ⟨n - 1, by omega⟩
  have e : ((m + 1 : Nat) : Int) = (m : Int) + 1 := by omega
  rw [e] at h
  exact winM_f h
theorem mul_small {n f : Int} (hn : 0 ≤ n ∧ n ≤ 7) (hf : 0 ≤ f ∧ f ≤ 1000) : 0 ≤ n * f ∧ n * f ≤ 7000 := by
  refine ⟨Int.mul_nonneg hn.1 hf.1, ?_⟩
  have h1 : n * f ≤ 7 * f := Int.mul_le_mul_of_nonneg_right hn.2 hf.1
  omega
set_option maxRecDepth 100000 in
theorem Mwin_any (k : Nat) (f : Int) (w : World) (hk : 1 ≤ k ∧ k ≤ 7) (hf : 0 ≤ f ∧ f ≤ 1000) : Calls Tryz.prog 75 #[.int .i64 (k : Int), .int .i64 f] w fun e w' => e = .returned (.int .i64 (winM f k)) ∧ w' = w := by
  obtain ⟨r, hr⟩ : ∃ r, r = winM f k := ⟨_, rfl⟩
  rw [← hr]
  have HR := Lib.hid hr.symm
  have HF := Lib.hid hf
  have HK := Lib.hid hk
  clear hr hf hk
  go_enter Tryz.func75, Tryz.ntmps75
  go_wp2
  go_loopw [5] (fun i wr => wr = w ∧ ∃ n : Nat, 1 ≤ n ∧ n ≤ 7 ∧ i = .int .i64 (n : Int) ∧ winM f n = r) (fun i _ => (intOf i).toNat)
  case atStart => exact ⟨rfl, k, HK.out.1, HK.out.2, rfl, HR.out⟩
  case round =>
    obtain ⟨rfl, n, h1, h7, rfl, hq⟩ := hrel
    by_cases hn : 1 < n
    · have hs := mul_small (n := (n : Int)) (by omega) HF.out
      have td : decide ((1 : Int) < (n : Int)) = true := decide_eq_true (by omega)
      have ew : IntKind.i64.wrap ((n : Int) * f) = (n : Int) * f := IntWalk.i64_in _ (by omega)
      by_cases h30 : (n : Int) * f ≤ 30
      · have HQ : Hid (r = (n : Int)) := by show r = _; rw [← hq, winM_at h1 h30]
        have t3 : decide ((30 : Int) < (n : Int) * f) = false := decide_eq_false (by omega)
        clear hq
        go_wp2
        go_ret
        exact ⟨by rw [HQ.out]; rfl, rfl⟩
      · have HQ : Hid (winM f (n - 1) = r) := by show winM f (n - 1) = r; rw [← hq, winM_dec h1 h30]
        have t3 : decide ((30 : Int) < (n : Int) * f) = true := decide_eq_true (by omega)
        have e2 : IntKind.i64.wrap ((n : Int) - 1) = ((n - 1 : Nat) : Int) := by rw [IntWalk.i64_in _ (by omega)]; omega
        have HV : Hid (((n : Int) - 1) = ((n - 1 : Nat) : Int)) := by show _ = _; omega
        clear hq h30
        go_wp2
        go_roundw
        case rel => exact ⟨trivial, n - 1, by omega, by omega, by first | rfl | (rw [HV.out]), HQ.out⟩
        case measure => simp [intOf] <;> omega
    · have HQ : Hid (r = (n : Int)) := by
        obtain rfl : n = 1 := by omega
        show r = _
        rw [← hq, winM_one]; rfl
      have td : decide ((1 : Int) < (n : Int)) = false := decide_eq_false (by omega)
      clear hq
      go_wp2
      go_ret
      exact ⟨by rw [HQ.out]; rfl, rfl⟩
set_option maxRecDepth 100000 in
theorem MFrame_any (s d : Int) (w : World) (hs : 0 ≤ s ∧ s ≤ 1000) (hd : (Lit.int .i64 d).wf = true) : Calls Tryz.prog 44 #[.int .i64 s, .int .i64 d] w fun e w' => e = .returned (.int .i64 (frameM s d)) ∧ Below w.heap.size w w' := by
  have t1 : decide (s < (-5 : Int)) = false := decide_eq_false (by omega)
  have t2 : decide (s ≤ (4611686018427387897 : Int)) = true := decide_eq_true (by omega)
  have e1 : IntKind.i64.wrap (s + 5) = s + 5 := IntWalk.i64_in _ (by omega)
  have e2 : IntKind.i64.wrap (2 * (s + 5)) = 2 * (s + 5) := IntWalk.i64_in _ (by omega)
  have e3 : IntKind.i64.wrap (2 * (s + 5) + 2) = 2 * (s + 5) + 2 := IntWalk.i64_in _ (by omega)
  have HT := Lib.hid (QTicks_any (2 * (s + 5) + 2) d w (wf64 (by omega)) hd)
  clear hs hd
  go_enter Tryz.func44, Tryz.ntmps44
  go_wp2_with (go_at_call 36; (with_reducible refine (HT.out).mono ?_); rintro e w2 ⟨rfl, hb⟩; have HB2 := Lib.hid hb; clear hb)
  go_ret
  exact ⟨rfl, HB2.out⟩
theorem and_hi2 {x y : Int} (hx : 0 ≤ x ∧ x ≤ 15) (hy : 0 ≤ y ∧ y ≤ 15) : high (bits .and .i64 x y) = hi2 x y 4 := by
  obtain ⟨m, rfl⟩ : ∃ m : Nat, x = m := ⟨x.toNat, by omega⟩
  obtain ⟨n, rfl⟩ : ∃ n : Nat, y = n := ⟨y.toNat, by omega⟩
  rw [i64_and_nat m n (by omega) (by omega)]
  have h : ∀ a b : Fin 16, high ((a.1 &&& b.1 : Nat) : Int) = hi2 (a.1 : Int) (b.1 : Int) 4 := by decide +kernel
  exact h ⟨m, by omega⟩ ⟨n, by omega⟩
theorem and_lo2 {x y : Int} (hx : 0 ≤ x ∧ x ≤ 7) (hy : 0 ≤ y ∧ y ≤ 7) : low (bits .and .i64 x y) = lo2 3 x y 3 := by
  obtain ⟨m, rfl⟩ : ∃ m : Nat, x = m := ⟨x.toNat, by omega⟩
  obtain ⟨n, rfl⟩ : ∃ n : Nat, y = n := ⟨y.toNat, by omega⟩
  rw [i64_and_nat m n (by omega) (by omega)]
  have h : ∀ a b : Fin 8, low ((a.1 &&& b.1 : Nat) : Int) = lo2 3 (a.1 : Int) (b.1 : Int) 3 := by decide +kernel
  exact h ⟨m, by omega⟩ ⟨n, by omega⟩
theorem and_wf (x y : Int) : (Lit.int .i64 (bits .and .i64 x y)).wf = true := by
  show (Lit.int .i64 (IntKind.i64.wrap ((BitVec.ofInt 64 x &&& BitVec.ofInt 64 y).toNat : Nat))).wf = true
  rw [IntKind.wrap_i64]
  refine wf64 ?_
  omega
end Go.Proofs.YtcmjdbljdkabpaaGreatDoor

namespace Go.Proofs.YtcmjdbljdkabpaaGreatDoor
open Go.RowKit

section
variable {P : Program} {ops : Array Oper} {C : World → Prop}
/-- wpQuiet under a name that nothing unfolds (where a guard says no it would reckon on by itself). -/
structure WQ (P : Program) (ops : Array Oper) (C : World → Prop) (Q : Act → Prop) (l : List Oper) (a : Act) : Prop where
  out : wpQuiet P ops C Q l a
theorem regq {id : Nat} {Q : Exit → Act → World → Prop} {a : Act} {w : World} {l : List Oper} (C : World → Prop) (hm : P.follows .mixedOrders = true) (hB : Region.lexB .any l.toArray = true) (hC : C w.drew)
    (h : WQ P l.toArray C (fun a' => ∀ w', C w' → Q .normal a' w') l a) : (Code.region id l.toArray true).wp P Q a w :=
  wp_region_quiet (C := C) hm hB hC (by simpa using h.out)
theorem q_done {Q : Act → Prop} {a : Act} (h : Q a) : WQ P ops C Q [] a := ⟨h⟩
theorem q_take {Q : Act → Prop} {a : Act} {o : Oper} {rest : List Oper} {v : Value} (hw : Region.wanted o (yielded ops a.tmps) = true) (hy : ∀ W, C W → (execOp a.eval o).run P W = .ok (.value v) W)
    (h : WQ P ops C Q rest (a.put o.dst v)) : WQ P ops C Q (o :: rest) a := by
  constructor
  unfold wpQuiet
  rw [if_pos hw]
  refine ⟨v, fun W hW => ?_, h.out⟩
  unfold Oper.quietAt
  rw [hy W hW]
  exact ⟨rfl, rfl⟩
theorem q_skip {Q : Act → Prop} {a : Act} {o : Oper} {rest : List Oper} (hw : Region.wanted o (yielded ops a.tmps) = false)
    (h : WQ P ops C Q rest (a.put o.dst undef)) : WQ P ops C Q (o :: rest) a := by
  constructor
  unfold wpQuiet
  rw [if_neg (by rw [hw]; decide)]
  exact h.out
theorem q_call {Q : Act → Prop} {a : Act} {o : Oper} {rest : List Oper} {v : Value} (f : FuncId) (args : Array Value) (hw : Region.wanted o (yielded ops a.tmps) = true) (he : ∀ W, C W → (execOp a.eval o).run P W = .ok (.enter f args) W)
    (hc : ∀ W, C W → Calls P f args W fun e W' => e = .returned v ∧ C W')
    (h : WQ P ops C Q rest (a.put o.dst v)) : WQ P ops C Q (o :: rest) a := by
  constructor
  unfold wpQuiet
  rw [if_pos hw]
  refine ⟨v, fun W hW => ?_, h.out⟩
  unfold Oper.quietAt
  rw [he W hW]
  exact ⟨rfl, hc W hW⟩
end
end Go.Proofs.YtcmjdbljdkabpaaGreatDoor
