/- The law XidFresh. -/
import Derived.Test.YtcmjdbljdkabpaaGreatDoorQ8S
import Derived.Test.YtcmjdbljdkabpaaGreatDoorM8O
import Derived.Test.YtcmjdbljdkabpaaGreatDoorM8C
import Derived.Test.YtcmjdbljdkabpaaGreatDoorBegun8

set_option linter.all false

namespace Go.Proofs.YtcmjdbljdkabpaaGreatDoor
open Go.RowKit M

set_option maxRecDepth 100000 in
set_option maxHeartbeats 8000000 in
theorem XidFresh_law (v u : Value) (l0 m0 : List Int) (w : World) (hv : RdU w v l0) (hu : RdU w u m0) (hC : Codes w) : Calls Tryz.prog 16 #[v, u] w (Holds8 w) := by
  have HC := Lib.hid hC
  obtain ⟨A, ca, rfl, ha1, ha2, -⟩ := id hv
  obtain ⟨B, cb, rfl, hb1, hb2, -⟩ := id hu
  obtain ⟨ka, hka⟩ : ∃ k : Nat, min l0.length 10 = k := ⟨_, rfl⟩
  obtain ⟨kb, hkb⟩ : ∃ k : Nat, min m0.length 10 = k := ⟨_, rfl⟩
  have hv2 := hv.cut (k := ka) (by omega)
  have hu2 := hu.cut (k := kb) (by omega)
  have ml : min (l0.length : Int) 10 = (ka : Int) := by omega
  have mm : min (m0.length : Int) 10 = (kb : Int) := by omega
  have b1 : (ka : Int) ≤ (ca : Int) := by omega
  have b2 : (kb : Int) ≤ (cb : Int) := by omega
  obtain ⟨L, hL⟩ : ∃ L, l0.take ka = L := ⟨_, rfl⟩
  obtain ⟨M, hM⟩ : ∃ M, m0.take kb = M := ⟨_, rfl⟩
  have hLl : L.length = ka := by rw [← hL, List.length_take]; omega
  have hMl : M.length = kb := by rw [← hM, List.length_take]; omega
  rw [hL] at hv2
  rw [hM] at hu2
  have hLs : L.length ≤ 10 := by omega
  have hMs : M.length ≤ 10 := by omega
  rw [← hLl] at hv2 ml b1
  rw [← hMl] at hu2 mm b2
  obtain ⟨s1, s2, s3, s4, s5⟩ := fresh_spec (l := L) (m := M) (by omega)
  have hu32 : ∀ w' (h1 : RdU w' (.slice A L.length ca) L) (h2 : RdU w' (.slice B M.length cb) M), Calls Tryz.prog 52 #[.slice A L.length ca, .slice B M.length cb] w' (FreshR L M w') := fun w' h1 h2 => XFresh_any _ _ L M w' h1 h2 (by omega) (by omega)
  unfold FreshR at hu32
  have s6 : (freshM L M).2 = L.length ∨ L[(freshM L M).2 - 1]? = some (freshM L M).1 := by
    rcases s5 with h | ⟨h, e⟩
    · exact .inl h
    · right; rw [List.getElem?_eq_getElem h, e]
  clear s5
  obtain ⟨n, hn⟩ : ∃ n, (freshM L M).1 = n := ⟨_, rfl⟩
  obtain ⟨j, hj⟩ : ∃ j, (freshM L M).2 = j := ⟨_, rfl⟩
  rw [hn] at s1 s2 s4 s6 hu32
  rw [hj] at s3 s4 s6 hu32
  have hown := fun w => ROwn_any n w
  rw [s1] at hown
  have HOWN := Lib.hid hown
  have HFR := Lib.hid hu32
  have HS2 := Lib.hid s2
  have HS4 := Lib.hid s4
  have HS5 := Lib.hid s6
  have HV := Lib.hid hv2
  have HU := Lib.hid hu2
  have d1 : ¬ (L.length : Int) < (j : Int) := by omega
  clear hv hu hv2 hu2 hC ha1 hb1 ha2 hb2 hka hkb hL hM hLl hMl s1 s2 s4 s6 hn hj hu32 hown
  go_enter Tryz.func16, Tryz.ntmps16
  go_wp2_with (go_at_call 21; (with_reducible refine (begun8_any _ HC.out).mono ?_); rintro e w2 ⟨rfl, hb⟩; have HB2 := Lib.hid hb; clear hb)
  refine rest_begin (by kernel_rfl) ?_
  refine rest_take 0 (oi := _) (v := ?_) (by simp only [List.getElem?_toArray, List.getElem?_cons_zero]; rfl) (by kernel_rfl) (by kernel_rfl) (by kernel_rfl) (by exact fun _ _ _ h => h) (by rfl) ?_ ?_; rotate_left; (· intro W HW; go_simp; try with_reducible rfl)
  simp only [Act.put, List.setIfInBounds_toArray, List.set_cons_zero, List.set_cons_succ]
  refine rest_take 1 (oi := _) (v := ?_) (by simp only [List.getElem?_toArray, List.getElem?_cons_succ, List.getElem?_cons_zero]; rfl) (by kernel_rfl) (by kernel_rfl) (by kernel_rfl) (by exact fun _ _ _ h => h) (by rfl) ?_ ?_; rotate_left; (· intro W HW; go_simp; try with_reducible rfl)
  simp only [Act.put, List.setIfInBounds_toArray, List.set_cons_zero, List.set_cons_succ]
  refine rest_take 2 (oi := _) (v := ?_) (by simp only [List.getElem?_toArray, List.getElem?_cons_succ, List.getElem?_cons_zero]; rfl) (by kernel_rfl) (by kernel_rfl) (by kernel_rfl) (by exact fun _ _ _ h => h) (by rfl) ?_ ?_; rotate_left; (· intro W HW; go_simp; try with_reducible rfl)
  simp only [Act.put, List.setIfInBounds_toArray, List.set_cons_zero, List.set_cons_succ]
  refine rest_take 3 (oi := _) (v := ?_) (by simp only [List.getElem?_toArray, List.getElem?_cons_succ, List.getElem?_cons_zero]; rfl) (by kernel_rfl) (by kernel_rfl) (by kernel_rfl) (by exact fun _ _ _ h => h) (by rfl) ?_ ?_; rotate_left; (· intro W HW; go_simp; try with_reducible rfl)
  simp only [Act.put, List.setIfInBounds_toArray, List.set_cons_zero, List.set_cons_succ]
  refine rest_take 4 (oi := _) (v := ?_) (by simp only [List.getElem?_toArray, List.getElem?_cons_succ, List.getElem?_cons_zero]; rfl) (by kernel_rfl) (by kernel_rfl) (by kernel_rfl) (by exact fun _ _ _ h => h) (by rfl) ?_ ?_; rotate_left; (· intro W HW; go_simp; try with_reducible rfl)
  simp only [Act.put, List.setIfInBounds_toArray, List.set_cons_zero, List.set_cons_succ]
  refine rest_take 5 (oi := _) (v := ?_) (by simp only [List.getElem?_toArray, List.getElem?_cons_succ, List.getElem?_cons_zero]; rfl) (by kernel_rfl) (by kernel_rfl) (by kernel_rfl) (by exact fun _ _ _ h => h) (by rfl) ?_ ?_; rotate_left; (· intro W HW; go_simp; try with_reducible rfl)
  simp only [Act.put, List.setIfInBounds_toArray, List.set_cons_zero, List.set_cons_succ]
  refine rest_take 6 (oi := _) (v := ?_) (by simp only [List.getElem?_toArray, List.getElem?_cons_succ, List.getElem?_cons_zero]; rfl) (by kernel_rfl) (by kernel_rfl) (by kernel_rfl) (by exact fun _ _ _ h => h) (by rfl) ?_ ?_; rotate_left; (· intro W HW; go_simp; try with_reducible rfl)
  simp only [Act.put, List.setIfInBounds_toArray, List.set_cons_zero, List.set_cons_succ]
  refine rest_take 7 (oi := _) (v := ?_) (by simp only [List.getElem?_toArray, List.getElem?_cons_succ, List.getElem?_cons_zero]; rfl) (by kernel_rfl) (by kernel_rfl) (by kernel_rfl) (by exact fun _ _ _ h => h) (by rfl) ?_ ?_; rotate_left; (· intro W HW; go_simp; try with_reducible rfl)
  simp only [Act.put, List.setIfInBounds_toArray, List.set_cons_zero, List.set_cons_succ]
  refine rest_take 8 (oi := _) (v := ?_) (by simp only [List.getElem?_toArray, List.getElem?_cons_succ, List.getElem?_cons_zero]; rfl) (by kernel_rfl) (by kernel_rfl) (by kernel_rfl) (by exact fun _ _ _ h => h) (by rfl) ?_ ?_; rotate_left; (· intro W HW; go_simp; try with_reducible rfl)
  simp only [Act.put, List.setIfInBounds_toArray, List.set_cons_zero, List.set_cons_succ]
  refine rest_take 9 (oi := _) (v := ?_) (by simp only [List.getElem?_toArray, List.getElem?_cons_succ, List.getElem?_cons_zero]; rfl) (by kernel_rfl) (by kernel_rfl) (by kernel_rfl) (by exact fun _ _ _ h => h) (by rfl) ?_ ?_; rotate_left; (· intro W HW; go_simp; try with_reducible rfl)
  simp only [Act.put, List.setIfInBounds_toArray, List.set_cons_zero, List.set_cons_succ]
  refine rest_take 10 (oi := _) (v := ?_) (by simp only [List.getElem?_toArray, List.getElem?_cons_succ, List.getElem?_cons_zero]; rfl) (by kernel_rfl) (by kernel_rfl) (by kernel_rfl) (by exact fun _ _ _ h => h) (by rfl) ?_ ?_; rotate_left; (· intro W HW; go_simp; try with_reducible rfl)
  simp only [Act.put, List.setIfInBounds_toArray, List.set_cons_zero, List.set_cons_succ]
  refine rest_take 11 (oi := _) (v := ?_) (by simp only [List.getElem?_toArray, List.getElem?_cons_succ, List.getElem?_cons_zero]; rfl) (by kernel_rfl) (by kernel_rfl) (by kernel_rfl) (by exact fun _ _ _ h => h) (by rfl) ?_ ?_; rotate_left; (· intro W HW; go_simp; try with_reducible rfl)
  simp only [Act.put, List.setIfInBounds_toArray, List.set_cons_zero, List.set_cons_succ]
  refine rest_done (by kernel_rfl) ?_
  go_wp2_with (first
    | (go_at_call 52; (with_reducible refine (HFR.out _ (HV.out.below HB2.out.drew) (HU.out.below HB2.out.drew)).mono ?_); rintro e w3 ⟨rfl, hb⟩; have HB3 := Lib.hid (bel_trans (w := w2.drew) HB2.out.drew hb); clear hb)
    | (go_at_call 59; (with_reducible refine (HOWN.out _).mono ?_); rintro e w' ⟨rfl, hw'⟩; rw [hw']; clear hw'))
  obtain ⟨wo, hwo⟩ : ∃ wo : World, wo = w3 := ⟨_, rfl⟩
  have HBo : Hid (Below w.heap.size w wo) := by show Below _ _ _; rw [hwo]; exact HB3.out
  rw [← hwo]
  clear hwo
  go_loopw [4, 44] (fun q i wr => wr = wo ∧ q = .bool false ∧ ∃ k : Nat, k ≤ M.length ∧ i = .int .i64 k) (fun _ i _ => M.length - (intOf i).toNat)
  case atStart => exact ⟨rfl, rfl, 0, by omega, rfl⟩
  case round =>
    obtain ⟨rfl, rfl, k, hk, rfl⟩ := hrel
    by_cases hlt : k < M.length
    · have td : decide ((k : Int) < (M.length : Int)) = true := decide_eq_true (by omega)
      obtain ⟨b, off, rfl, hbl, hc⟩ := (HU.out.below HBo.out).at_ hlt
      have te : (M[k] == n) = false := by rw [beq_eq_false_iff_ne]; intro e; exact HS2.out (e ▸ List.getElem_mem hlt)
      generalize M[k] = y at hc te
      go_wp2
      go_roundw
      case rel => exact ⟨trivial, rfl, k + 1, by omega, by go_num⟩
      case measure => simp [intOf] <;> omega
    · have td : decide ((k : Int) < (M.length : Int)) = false := decide_eq_false (by omega)
      go_wp2
      obtain ⟨wp, rfl⟩ : ∃ wp : World, wp = wr := ⟨_, rfl⟩
      go_loopw [4, 9] (fun q i wr => wr = wp ∧ q = .bool false ∧ ∃ k : Nat, k ≤ L.length ∧ i = .int .i64 k) (fun _ i _ => L.length - (intOf i).toNat)
      case atStart => exact ⟨rfl, rfl, 0, by omega, rfl⟩
      case round =>
        obtain ⟨rfl, rfl, q, hq, rfl⟩ := hrel
        have v1 : IntKind.i64.wrap ((q : Int) + 1) = (q : Int) + 1 := IntWalk.i64_in _ (by omega)
        by_cases hlt2 : q + 1 < j
        · have td2 : decide ((q : Int) + 1 < (j : Int)) = true := decide_eq_true (by omega)
          obtain ⟨b, off, rfl, hbl, hc⟩ := (HV.out.below HBo.out).at_ (i := q) (by omega)
          have te : (L[q] == n) = false := by rw [beq_eq_false_iff_ne]; exact HS4.out q (by omega) hlt2
          have t3 : (q : Int) < (L.length : Int) := by omega
          generalize L[q] = y at hc te
          go_wp2
          go_roundw
          case rel => exact ⟨trivial, rfl, q + 1, by omega, by go_num⟩
          case measure => simp [intOf] <;> omega
        · have td2 : decide ((q : Int) + 1 < (j : Int)) = false := decide_eq_false (by omega)
          by_cases hj0 : j = 0
          · have t0 : ((j : Int) == 0) = true := by rw [hj0]; rfl
            clear hj0
            go_wp2
            go_ret
            exact ⟨rfl, HBo.out⟩
          · have t0 : ((j : Int) == 0) = false := by rw [beq_eq_false_iff_ne]; omega
            obtain ⟨p, hp⟩ : ∃ p : Nat, j - 1 = p := ⟨_, rfl⟩
            have v2 : (j : Int) - 1 = (p : Int) := by omega
            have v3 : IntKind.i64.wrap (p : Int) = (p : Int) := IntWalk.i64_in _ (by omega)
            have v4 : (p : Int) < (L.length : Int) := by omega
            have hpl : p < L.length := by omega
            have h5 : ((j : Int) == (L.length : Int)) = true ∨ (L[p] == n) = true := by
              rcases HS5.out with h | e
              · left; rw [beq_iff_eq]; omega
              · right
                rw [hp, List.getElem?_eq_getElem hpl] at e
                rw [beq_iff_eq]
                exact Option.some.inj e
            obtain ⟨b, off, rfl, hbl, hc⟩ := (HV.out.below HBo.out).at_ (i := p) hpl
            generalize L[p] = y at hc h5
            clear hp hj0
            rcases he : (y == n) with _ | _
            · have h6 : ((j : Int) == (L.length : Int)) = true := by
                rcases h5 with h | h
                · exact h
                · rw [he] at h; cases h
              clear h5
              go_wp2
              go_ret
              exact ⟨rfl, HBo.out⟩
            · clear h5
              go_wp2
              go_ret
              exact ⟨rfl, HBo.out⟩
end Go.Proofs.YtcmjdbljdkabpaaGreatDoor
