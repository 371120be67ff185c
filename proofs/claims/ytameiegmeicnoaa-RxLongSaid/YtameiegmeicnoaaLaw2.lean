/- The laws CrcZero, SirLong, SirEscape. -/
import Derived.Test.YtameiegmeicnoaaLaw
namespace Go.Proofs.Ytameiegmeicnoaa
open Go.RowKit M

theorem below_app_new {w w' : World} {o : Obj} (h : (w.alloc o).grownBy w' (some w.heap.size)) : Below w.heap.size w w' :=
  ((Below.refl _ _).alloc (Nat.le_refl _) o).grown h (by simp) (by simp)
theorem below_app_own {w w' : World} {o : Obj} {B : Nat} {v : Value} {l : List UInt8} (ho : Own w B v l) (h : (w.alloc o).grownBy w' v.ownBlock) (hB : B ≤ w.heap.size) : Below B w w' :=
  ((Below.refl _ _).alloc hB o).grown h (by simp; omega) (fun k hk => (ho.lt k hk).1)

theorem Add0 (s : Nat) (w : World) (hs : s < 65536) : Calls Try.prog 22 #[.int .u16 (s : Int), .int .u8 0] w fun e w' => e = .returned (.int .u16 (cadd s 0 : Nat)) ∧ w = w' := Add_any s 0 w hs (by decide)

set_option maxRecDepth 100000 in
set_option maxHeartbeats 1000000 in
theorem CrcZero_law (va : Value) (la : List UInt8) (w : World) (ha : Rds w va la) : Calls Try.prog 12 #[va] w (Holds w) := by
  have HA := Lib.hid ha
  have h1 : (la.take 60).length ≤ 60 := short_len _ _
  obtain ⟨a, hea⟩ : ∃ a, a = la.take 60 := ⟨_, rfl⟩
  rw [← hea] at h1
  have HEA := Lib.hid hea
  have hs0 := caddAll_lt a (c := 65535) (by decide)
  have e0 : bits .xor .u16 IntKind.u16.max (cof a : Int) = ((caddAll 65535 a : Nat) : Int) := by rw [u16_not _ (cof_lt a), cof_inv]
  have hc0 := cadd_lt hs0 (show 0 < 256 by decide)
  have e1 : bits .xor .u16 IntKind.u16.max ((cadd (caddAll 65535 a) 0 : Nat) : Int) = (cof (a ++ [0]) : Int) := by
    rw [u16_not _ hc0]
    have := caddAll_snoc a 0 65535
    unfold cof
    rw [this]
    rfl
  have hf := cfine_cput a
  have hpl := cput_length a
  have hbq : (((cput a).length : Int) == (a.length : Int) + 2) = true := by rw [beq_iff_eq]; omega
  generalize caddAll 65535 a = s0 at *
  clear ha hea hpl
  go_enter Try.func12, Try.ntmps12
  go_wp2_with (first
    | (go_at_call 18; refine (begun_any _).mono ?_; rintro e w1 ⟨rfl, hb1⟩; have HB1 := Lib.hid hb1; have hz1 := hb1.size; clear hb1)
    | (go_at_call 19; refine (Short_to va la a 60 _ (HA.out.below HB1.out) (by omega) (by omega) HEA.out).mono ?_; rintro e w2 ⟨v2, rfl, ho2, hb2⟩; have HB2 := Lib.hid (HB1.out.trans (hb2.mono hz1)); have hz2 := HB2.out.size; obtain ⟨A2, n2, rfl, _, _, _⟩ := ho2.rds; have HO2 := Lib.hid ho2; clear ho2 hb2)
    | (at_builtin; (refine wpList_app rfl (.tmp 12) (.tmp 13) rfl w.heap.size (.slice (some ⟨w2.heap.size, 0, none⟩) 1 1) _ [0] a rfl rfl (Own.built w2 [0] _ hz2 (by simp [maxLen])) (HO2.out.rds.alloc _) (by simp; omega) (by simp; omega) ?_; intro v3 w3 hown3 hg3 hat3; have hb3 := below_app_new hg3; have HB3 := Lib.hid (HB2.out.trans (hb3.mono hz2)); have hz3 := HB3.out.size; have HO3 := Lib.hid hown3; have HO23 := Lib.hid (HO2.out.below hb3); clear hown3 hg3 hat3 hb3))
    | (at_builtin; (refine wpList_app rfl (.const (.slice none 0 0)) (.tmp 15) rfl w3.heap.size (.slice none 0 0) _ [] a rfl rfl (Own.nil_ w3 _) HO23.out.rds (by simp only [List.length_nil]; omega) (Nat.le_refl _) ?_; intro v4 w4 hown4 hg4 hat4; have hb4 := below_of_grown hg4; have HB4 := Lib.hid hb4; have hz4 := hb4.size; have HO4 := Lib.hid hown4; clear hown4 hg4 hat4 hb4))
    | (at_builtin; (refine wpList_app rfl (.tmp 16) (.tmp 17) rfl w3.heap.size v4 (.slice (some ⟨w4.heap.size, 0, none⟩) 1 1) a [0] rfl rfl (HO4.out.alloc _) (Own.built w4 [0] 0 (by omega) (by simp [maxLen])).rds (by simp; omega) (by simp; omega) ?_; intro v5 w5 hown5 hg5 hat5; have hb5 := HB4.out.trans (below_app_own HO4.out hg5 hz4); have HB5 := Lib.hid (HB3.out.trans (hb5.mono hz3)); have hz5 := HB5.out.size; have HO5 := Lib.hid hown5; have HO25 := Lib.hid (HO23.out.below hb5); have HO35 := Lib.hid (HO3.out.below hb5); clear hown5 hg5 hat5 hb5))
    | (go_at_call 24; (refine (Put_any _ a _ HO25.out.rds (by omega)).mono ?_; rintro e w6 ⟨v6, rfl, ho6, hb6⟩; have HB6 := Lib.hid (HB5.out.trans (hb6.mono hz5)); have hz6 := HB6.out.size; obtain ⟨A6, n6, rfl, _, _, _⟩ := ho6.rds; have HO6 := Lib.hid ho6; have HO26 := Lib.hid (HO25.out.below hb6); have HO36 := Lib.hid (HO35.out.below hb6); have HO56 := Lib.hid (HO5.out.below hb6); clear ho6 hb6)))
  go_wp2_with (go_at_call 26; (refine (Fine_any _ (cput a) _ HO6.out.rds).mono ?_; rintro e w' ⟨rfl, rfl⟩))
  go_wp2_with (go_at_call_of 20 v5; (refine (Of_any _ (a ++ [0]) _ HO56.out.rds).mono ?_; rintro e w' ⟨rfl, rfl⟩))
  go_wp2_with (go_at_call 20; (refine (Of_any _ a _ HO26.out.rds).mono ?_; rintro e w' ⟨rfl, rfl⟩))
  go_wp2_with (go_at_call 22; (refine (Add0 s0 _ hs0).mono ?_; rintro e w' ⟨rfl, rfl⟩))
  go_wp2_with (go_at_call 20; (refine (Of_any _ ([0] ++ a) _ HO36.out.rds).mono ?_; rintro e w' ⟨rfl, rfl⟩))
  go_wp2_with (go_at_call 21; (refine (RefOf_any _ ([0] ++ a) _ HO36.out.rds).mono ?_; rintro e w' ⟨rfl, rfl⟩))
  go_ret
  exact ⟨rfl, HB6.out⟩
end Go.Proofs.Ytameiegmeicnoaa
