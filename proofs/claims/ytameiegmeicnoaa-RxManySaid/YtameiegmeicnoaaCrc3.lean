/- The walks of the reference's Put and Fine. -/
import Derived.Test.YtameiegmeicnoaaCrc2
import Derived.Test.YtameiegmeicnoaaRegion
import Derived.Deep.RegionWith
import Derived.Deep.RegionHeld3
import Derived.StillTailTactics
import Derived.Deep.DeepFit
import Derived.Laws.BytesString
namespace Go.Proofs.Ytameiegmeicnoaa
open Go.RowKit M

set_option maxHeartbeats 400000 in
theorem RefPut_any (v : Value) (l : List UInt8) (w : World) (hv : Rds w v l) (hlen : l.length ≤ 1000000) :
    Calls Try.prog 25 #[v] w (Makes w (cput l)) := by
  have HS := Lib.hid hv
  obtain ⟨A, cap, rfl, hc, hm, hr⟩ := hv
  clear hr
  have hof := cof_lt l
  unfold maxLen at hm
  obtain ⟨x, hx⟩ : ∃ x, x = UInt8.ofNat (cof l % 256) := ⟨_, rfl⟩
  obtain ⟨y, hy⟩ : ∃ y, y = UInt8.ofNat (cof l / 256) := ⟨_, rfl⟩
  have e1 : (cof l : Int) % 256 = (x.toNat : Int) := by rw [hx]; simp
  have e2 : (cof l : Int) / 256 = (y.toNat : Int) := by rw [hy]; simp; omega
  have hxl := x.toNat_lt
  have hyl := y.toNat_lt
  have hput : cput l = l ++ [x, y] := by rw [hx, hy]; rfl
  have HP := Lib.hid hput
  clear hput hx hy
  go_enter Try.func25, Try.ntmps25
  go_wp2_with (first
    | (at_builtin; refine wpList_app rfl (.const (.slice none 0 0)) (.tmp 6) rfl w.heap.size (.slice none 0 0) (.slice A l.length cap) [] l rfl rfl (Own.nil_ w _) HS.out (by simp only [List.length_nil]; omega) (Nat.le_refl _) ?_; intro v1 w1 hown1 hg1 hat1; have hb1 := below_of_grown hg1; have hz1 := hb1.size)
    | (at_builtin; (refine wpList_app rfl (.tmp 7) (.tmp 14) rfl w.heap.size v1 (.slice (some ⟨w1.heap.size, 0, none⟩) 2 2) l _ rfl rfl (Own.alloc hown1 _) (Own.rds (Own.built w1 [x, y] 0 (by omega) (by simp [maxLen]))) (by simp; omega) (by simp; omega) ?_; intro v2 w2 hown2 hg2 hat2))
    | (go_at_call 21; refine (RefOf_any _ l _ HS.out).mono ?_; rintro e w' ⟨rfl, rfl⟩))
  go_ret
  exact ⟨v2, rfl, by rw [HP.out]; exact hown2, (hb1.alloc hz1 _).grown hg2 (by simp; omega) (fun k hk => (hown1.lt k hk).1)⟩

set_option maxHeartbeats 1000000 in
theorem RefFine_any (v : Value) (l : List UInt8) (w : World) (hv : Rds w v l) (hlen : l.length ≤ 1000000) :
    Calls Try.prog 27 #[v] w fun e w' => e = .returned (.bool (cfine l)) ∧ Below w.heap.size w w' := by
  have hv0 := hv
  obtain ⟨A, cap, rfl, hc, hm, hr⟩ := hv
  unfold maxLen at hm
  by_cases h2 : l.length < 2
  · have hf := cfine_short l h2
    have hd : decide ((2 : Int) ≤ l.length) = false := by simp; omega
    have HF := Lib.hid hf
    clear hf hr hv0
    go_enter Try.func27, Try.ntmps27
    go_wp2
    go_quiet (fail)
    go_wp2
    go_ret
    exact ⟨retb HF.out.symm, below_drewN (Below.refl _ _) _⟩
  · obtain ⟨n, hn⟩ : ∃ n, l.length = n + 2 := ⟨l.length - 2, by omega⟩
    obtain ⟨b, off, rfl, hcell⟩ := hr (by omega)
    clear hcell
    have hs := hv0.take n (by omega)
    have HS := Lib.hid hs
    have HV := Lib.hid hv0
    have hl : (l.take n).length = n := by rw [List.length_take]; omega
    have hf : cfine l = (cput (l.take n) == l) := by
      unfold cfine
      rw [show l.length - 2 = n by omega]
      simp [hn]
    have HF := Lib.hid hf
    clear hs hv0 hr h2 hf
    rw [hn] at hc hlen HV ⊢
    clear hn
    have HL := Lib.hid hl
    clear hl
    have hd : decide ((2 : Int) ≤ (n : Int) + 2) = true := by simp; omega
    have hw : IntKind.i64.wrap ((n : Int) + 2 - 2) = (n : Int) := by
      rw [show ((n : Int) + 2 - 2) = (n : Int) by omega]
      exact IntWalk.i64_in _ (by omega)
    have q1 : (0 : Int) ≤ (n : Int) := by omega
    have q2 : (n : Int) ≤ (cap : Int) := by omega
    have q3 : 0 < cap := by omega
    have hw2 : IntKind.i64.wrap (n : Int) = (n : Int) := IntWalk.i64_in _ (by omega)
    go_enter Try.func27, Try.ntmps27
    go_wp2
    refine rest_begin (by kernel_rfl) ?_
    refine rest_take 0 (oi := _) (v := ?_) (by simp only [List.getElem?_toArray, List.getElem?_cons_zero]; rfl) (by kernel_rfl) (by kernel_rfl) (by kernel_rfl) (by exact fun _ _ _ h => h) (by rfl) ?_ ?_; rotate_left; (· intro W HW; go_simp; try with_reducible rfl)
    simp only [Act.put, List.setIfInBounds_toArray, List.set_cons_zero, List.set_cons_succ]
    refine rest_take 1 (oi := _) (v := ?_) (by simp only [List.getElem?_toArray, List.getElem?_cons_succ, List.getElem?_cons_zero]; rfl) (by kernel_rfl) (by kernel_rfl) (by kernel_rfl) (by exact fun _ _ _ h => h) (by rfl) ?_ ?_; rotate_left; (· intro W HW; go_simp; try with_reducible rfl)
    simp only [Act.put, List.setIfInBounds_toArray, List.set_cons_zero, List.set_cons_succ]
    refine rest_take 2 (oi := _) (v := ?_) (by simp only [List.getElem?_toArray, List.getElem?_cons_succ, List.getElem?_cons_zero]; rfl) (by kernel_rfl) (by kernel_rfl) (by kernel_rfl) (by exact fun _ _ _ h => h) (by rfl) ?_ ?_; rotate_left; (· intro W HW; go_simp; try with_reducible rfl)
    simp only [Act.put, List.setIfInBounds_toArray, List.set_cons_zero, List.set_cons_succ]
    refine rest_take 3 (oi := _) (v := ?_) (by simp only [List.getElem?_toArray, List.getElem?_cons_succ, List.getElem?_cons_zero]; rfl) (by kernel_rfl) (by kernel_rfl) (by kernel_rfl) (by exact fun _ _ _ h => h) (by rfl) ?_ ?_; rotate_left; (· intro W HW; go_simp; try with_reducible rfl)
    simp only [Act.put, List.setIfInBounds_toArray, List.set_cons_zero, List.set_cons_succ]
    refine rest_take 4 (oi := _) (v := ?_) (by simp only [List.getElem?_toArray, List.getElem?_cons_succ, List.getElem?_cons_zero]; rfl) (by kernel_rfl) (by kernel_rfl) (by kernel_rfl) (by exact fun _ _ _ h => h) (by rfl) ?_ ?_; rotate_left; (· intro W HW; go_simp; try with_reducible rfl)
    simp only [Act.put, List.setIfInBounds_toArray, List.set_cons_zero, List.set_cons_succ]
    refine rest_take 5 (oi := _) (v := ?_) (by simp only [List.getElem?_toArray, List.getElem?_cons_succ, List.getElem?_cons_zero]; rfl) (by kernel_rfl) (by kernel_rfl) (by kernel_rfl) (by exact fun _ _ _ h => h) (by rfl) ?_ ?_; rotate_left; (· intro W HW; go_simp; try with_reducible rfl)
    simp only [Act.put, List.setIfInBounds_toArray, List.set_cons_zero, List.set_cons_succ]
    refine rest_take 6 (oi := _) (v := ?_) (by simp only [List.getElem?_toArray, List.getElem?_cons_succ, List.getElem?_cons_zero]; rfl) (by kernel_rfl) (by kernel_rfl) (by kernel_rfl) (by exact fun _ _ _ h => h) (by rfl) ?_ ?_; rotate_left; (· intro W HW; go_simp; try with_reducible rfl)
    simp only [Act.put, List.setIfInBounds_toArray, List.set_cons_zero, List.set_cons_succ]
    refine rest_take 7 (oi := _) (v := ?_) (by simp only [List.getElem?_toArray, List.getElem?_cons_succ, List.getElem?_cons_zero]; rfl) (by kernel_rfl) (by kernel_rfl) (by kernel_rfl) (by exact fun _ _ _ h => h) (by rfl) ?_ ?_; rotate_left; (· intro W HW; go_simp; try with_reducible rfl)
    simp only [Act.put, List.setIfInBounds_toArray, List.set_cons_zero, List.set_cons_succ]
    refine rest_take 8 (oi := _) (v := ?_) (by simp only [List.getElem?_toArray, List.getElem?_cons_succ, List.getElem?_cons_zero]; rfl) (by kernel_rfl) (by kernel_rfl) (by kernel_rfl) (by exact fun _ _ _ h => h) (by rfl) ?_ ?_; rotate_left; (· intro W HW; go_simp; try with_reducible rfl)
    simp only [Act.put, List.setIfInBounds_toArray, List.set_cons_zero, List.set_cons_succ]
    refine rest_take 11 (oi := _) (v := ?_) (by simp only [List.getElem?_toArray, List.getElem?_cons_succ, List.getElem?_cons_zero]; rfl) (by kernel_rfl) (by kernel_rfl) (by kernel_rfl) (by exact fun _ _ _ h => h) (by rfl) ?_ ?_; rotate_left; (· intro W HW; go_simp; try with_reducible rfl)
    simp only [Act.put, List.setIfInBounds_toArray, List.set_cons_zero, List.set_cons_succ]
    refine rest_conv 12 (oi := _) (by simp only [List.getElem?_toArray, List.getElem?_cons_succ, List.getElem?_cons_zero]; rfl) (.tmp 14) _ _ (by kernel_rfl) (by kernel_rfl) (by kernel_rfl) (by exact fun _ _ _ h => h) (by rfl) rfl rfl (HV.out.below (Ext.drew w)) ?_
    simp only [Act.put, List.setIfInBounds_toArray, List.set_cons_zero, List.set_cons_succ]
    -- call 9: Go.Op.call { callee := Go.Callee.value (Go.Operand.func 25), args := #[Go.Operand.tmp 11], argTypes := #[22] } ready=[9]
    refine rest_call 9 (oi := _) (by simp only [List.getElem?_toArray, List.getElem?_cons_succ, List.getElem?_cons_zero]; rfl) 25 #[.slice (some ⟨b, off, none⟩) n cap] _ (by kernel_rfl) (by rfl) (by go_simp) (RefPut_any _ (l.take n) _ (HS.out.below (Ext.drew w)) (by rw [HL.out]; omega)) ?_
    rintro e w9 ⟨v9, rfl, hown9, hb9⟩; refine ⟨v9, rfl, hb9, ?_⟩
    simp only [Act.put, List.setIfInBounds_toArray, List.set_cons_zero, List.set_cons_succ]
    refine rest_conv 10 (oi := _) (by simp only [List.getElem?_toArray, List.getElem?_cons_succ, List.getElem?_cons_zero]; rfl) (.tmp 12) _ _ (by kernel_rfl) (by kernel_rfl) (by kernel_rfl) (by exact fun _ _ _ h => h) (by rfl) rfl rfl hown9.rds ?_
    simp only [Act.put, List.setIfInBounds_toArray, List.set_cons_zero, List.set_cons_succ]
    refine rest_take 13 (oi := _) (v := ?_) (by simp only [List.getElem?_toArray, List.getElem?_cons_succ, List.getElem?_cons_zero]; rfl) (by kernel_rfl) (by kernel_rfl) (by kernel_rfl) (by exact fun _ _ _ h => h) (by rfl) ?_ ?_; rotate_left; (· intro W HW; go_simp; try with_reducible rfl)
    simp only [Act.put, List.setIfInBounds_toArray, List.set_cons_zero, List.set_cons_succ]
    refine rest_take 14 (oi := _) (v := ?_) (by simp only [List.getElem?_toArray, List.getElem?_cons_succ, List.getElem?_cons_zero]; rfl) (by kernel_rfl) (by kernel_rfl) (by kernel_rfl) (by exact fun _ _ _ h => h) (by rfl) ?_ ?_; rotate_left; (· intro W HW; go_simp; try with_reducible rfl)
    simp only [Act.put, List.setIfInBounds_toArray, List.set_cons_zero, List.set_cons_succ]
    refine rest_take 15 (oi := _) (v := ?_) (by simp only [List.getElem?_toArray, List.getElem?_cons_succ, List.getElem?_cons_zero]; rfl) (by kernel_rfl) (by kernel_rfl) (by kernel_rfl) (by exact fun _ _ _ h => h) (by rfl) ?_ ?_; rotate_left; (· intro W HW; go_simp; try with_reducible rfl)
    simp only [Act.put, List.setIfInBounds_toArray, List.set_cons_zero, List.set_cons_succ]
    refine rest_done (by kernel_rfl) ?_

    go_wp2
    go_ret
    exact ⟨retb HF.out.symm, (Ext.drew w).trans hb9⟩
end Go.Proofs.Ytameiegmeicnoaa
