/- The walk of begun. -/
import Derived.Test.YtameiegmeicnoaaRxC
import Derived.Lib.SlBytesConst
namespace Go.Proofs.Ytameiegmeicnoaa
open Go.RowKit M

theorem b_wrap : cwrap [1, 192] 1 = [255, 192, 1, 125, 224, 147, 208, 193] := by decide +kernel
theorem b_all : (rall (R.new 20) [5, 193, 255, 192, 1, 125, 224, 147, 208, 193]).1 = [[1, 192]] := by decide +kernel
theorem b_of : cof [49, 50, 51, 52, 53, 54, 55, 56, 57] = 36974 := by decide +kernel
theorem b_put7 : cfine (cput [7]) = true := by decide +kernel
theorem b_put0 : cput [] = [0, 0] := by decide +kernel
theorem b_esc : cesc [125] = [125, 93] := by decide +kernel
theorem b_abort : cabort [] = [192, 125, 193] := by decide +kernel

theorem Rds.nil_ (w : World) : Rds w (.slice none 0 0) [] := (Own.nil_ w 0).rds
theorem makes_to {w : World} {l m : List UInt8} {f : FuncId} {args : Array Value} (h : Calls Try.prog f args w (Makes w l)) (e : l = m) : Calls Try.prog f args w (Makes w m) := by rw [← e]; exact h

theorem bg1 (w : World) (u : Value) (h : Rds w u [1, 192]) : Calls Try.prog 28 #[u, .int .i64 1] w (Makes w [255, 192, 1, 125, 224, 147, 208, 193]) := makes_to (Wrap_any u _ 1 w h (by simp)) b_wrap
theorem bg2 (w : World) (u : Value) (h : Rds w u [5, 193, 255, 192, 1, 125, 224, 147, 208, 193]) : Calls Try.prog 34 #[.int .i64 20, u] w (MakesL w [[1, 192]]) := by
  rw [← b_all]; exact All_any 20 u _ w h (by simp)
theorem bg3 (w : World) (u : Value) (h : Rds w u [49, 50, 51, 52, 53, 54, 55, 56, 57]) : Calls Try.prog 20 #[u] w fun e w' => e = .returned (.int .u16 36974) ∧ w = w' := by
  have := Of_any u _ w h
  rw [b_of] at this
  exact this
theorem bg4 (w : World) (u : Value) (h : Rds w u (cput [7])) : Calls Try.prog 26 #[u] w fun e w' => e = .returned (.bool true) ∧ w = w' := by
  have := Fine_any u _ w h
  rw [b_put7] at this
  exact this

theorem bg5 (w : World) (g : Nat) (h : IsRx w g (R.new 5)) : Calls Try.prog 36 #[.pointer (some ⟨g, 0, none⟩), .int .u8 192] w (RxDone w g ⟨5, true, false, []⟩ [] 0 false) := RxPut_any g _ 192 w h
theorem bg6 (w : World) (g : Nat) (h : IsRx w g ⟨5, true, false, []⟩) : Calls Try.prog 36 #[.pointer (some ⟨g, 0, none⟩), .int .u8 193] w (RxDone w g ⟨5, false, false, []⟩ [] 8 true) := RxPut_any g _ 193 w h
theorem bg7 (w : World) (u : Value) (h : Rds w u [125]) : Calls Try.prog 30 #[u] w (Makes w [125, 93]) := makes_to (Escape_any u _ w h (by simp)) b_esc
theorem bg8 (w : World) : Calls Try.prog 32 #[.slice none 0 0] w (Makes w [192, 125, 193]) := makes_to (Abort_any _ [] w (Rds.nil_ w) (by simp)) b_abort
theorem bg9 (w : World) : Calls Try.prog 24 #[.slice none 0 0] w (Makes w [0, 0]) := makes_to (Put_any _ [] w (Rds.nil_ w) (by simp)) b_put0

theorem Own.shape {w : World} {base : Nat} {v : Value} {l : List UInt8} (h : Own w base v l) (hl : 0 < l.length) :
    ∃ g cap, v = .slice (some ⟨g, 0, none⟩) l.length cap ∧ l.length ≤ cap ∧ cap ≤ maxLen ∧ base ≤ g ∧ g < w.heap.size ∧ ∀ j, j < l.length → w.cell? ⟨g, j, none⟩ = some (bc (l.getD j 0)) := by
  have hcells := @World.ownsRow.cells w base 5 1 v l.length (bcs l) h
  rcases h.2 with ⟨rfl, hn⟩ | ⟨g, cap, cur, rfl, hb, hh, hc, hm, hs, ht⟩
  · omega
  · refine ⟨g, cap, rfl, hc, hm, hb, (Array.getElem?_eq_some_iff.1 hh).1, fun j hj => ?_⟩
    have := hcells (g := g) rfl j (bc (l.getD j 0)) (by simp [bcs, hj])
    rw [addr_add, Nat.zero_add] at this
    exact this
theorem below_rx {w w1 w2 : World} {g : Nat} {B : Nat} (h : Below B w w1) (hg : w1.grownBy w2 (some g)) (hB : B ≤ w1.heap.size) (hB' : B ≤ g) : Below B w w2 := below_of_grownSome h hg hB hB'

theorem Own.built2 (w : World) (A : Obj) (l : List UInt8) (base : Nat) (hb : base ≤ w.heap.size + 1) (hl : l.length ≤ maxLen) : Own ((w.alloc A).alloc (.cells (bcs l).toArray 5)) base (.slice (some ⟨w.heap.size + 1, 0, none⟩) l.length l.length) l := by
  have hz : (w.alloc A).heap.size = w.heap.size + 1 := by simp
  have := Own.built (w.alloc A) l base (by rw [hz]; exact hb) hl
  rw [hz] at this
  exact this

theorem rds_marked (w : World) (l : List UInt8) (fr : Nat × Nat) (hl : l.length ≤ maxLen) : Rds (w.alloc (.cells (bcs l).toArray 5 fr)) (.slice (some ⟨w.heap.size, 0, none⟩) l.length l.length) l :=
  ⟨_, l.length, rfl, Nat.le_refl _, hl, fun _ => ⟨w.heap.size, 0, rfl, fun j hj => by
    have := World.cell?_alloc_mark w (bcs l).toArray 5 fr j
    rw [Nat.zero_add, this]
    simp [bcs, hj]⟩⟩

set_option maxRecDepth 100000 in
set_option maxHeartbeats 4000000 in
theorem begun_any (w : World) : Calls Try.prog 18 #[] w fun e w' => e = .returned (.bool true) ∧ Below w.heap.size w w' := by
  go_enter Try.func18, Try.ntmps18
  go_wp2_with (first
    | (go_at_call 28; (refine (bg1 _ _ (Own.built w [1, 192] 0 (by omega) (by simp [maxLen])).rds).mono ?_; rintro e w1 ⟨v1, rfl, hown1, hb1⟩; have HO1 := Lib.hid hown1; have HB1 := Lib.hid (((Below.refl _ _).alloc (Nat.le_refl _) _).trans (hb1.mono (show w.heap.size ≤ _ by simp))); have hz1 := HB1.out.size; have hz1' : w.heap.size < w1.heap.size := Nat.lt_of_lt_of_le (by simp) hb1.size; clear hown1 hb1))
    | (at_builtin; (refine wpList_app rfl (.tmp 13) (.tmp 14) rfl w.heap.size (.slice (some ⟨w1.heap.size, 0, none⟩) 2 2) v1 [5, 193] _ rfl rfl (Own.built w1 [5, 193] _ (by omega) (by simp [maxLen])) (HO1.out.rds.alloc _) (by simp) (by simp; omega) ?_; intro v2 w2 hown2 hg2 hat2; have HB2 := Lib.hid ((HB1.out.alloc (by omega) _).grown hg2 (by simp; omega) (by simp [Value.ownBlock]; omega)); have hz2 := HB2.out.size; have HO12 := Lib.hid ((HO1.out.alloc _).grown hg2 (by right; intro hh; have := HO1.out.lt _ (hh.trans (show (Value.slice (some ⟨w1.heap.size, 0, none⟩) 2 2).ownBlock = some w1.heap.size from rfl)); omega)); clear hg2 hat2))
    | (go_at_call 34; (refine (bg2 _ _ hown2.rds).mono ?_; rintro e w3 ⟨v3, rfl, hown3, hb3⟩; have HB3 := Lib.hid (HB2.out.trans (hb3.mono hz2)); have HO13 := Lib.hid (HO12.out.below hb3); have HO3 := Lib.hid hown3; have hz3 := HB3.out.size; clear hown3 hb3 hown2)))
  obtain ⟨g1, n1, rfl, hn1, hm1, hgb1, hgl1, hc1⟩ := HO13.out.shape (by simp)
  obtain ⟨g3, n3, u3, rfl, hn3, hm3, hc3, hu3⟩ := HO3.out.at_ (i := 0) (by simp)
  have ca : w3.cell? ⟨g1, 0, none⟩ = some (.int .u8 255) := hc1 0 (by simp)
  have cb : w3.cell? ⟨g1, 1, none⟩ = some (.int .u8 192) := hc1 1 (by simp)
  have hg3 := World.block_lt_of_cell? w3 _ hc3
  have CA := Lib.hid ca
  have CB := Lib.hid cb
  have CC := Lib.hid hc3
  have HU := Lib.hid hu3.rds
  clear ca cb hc1 hc3 hu3
  simp only [List.length_cons, List.length_nil] at hn1 hn3
  have kc := fun (w : World) (C : Array Value) (n c : Nat) => Lib.run_convert_bytes_const (P := Try.prog) w 22 5 C n c Try.underlying22 Try.underlying5
  go_wp2_with (first
    | (go_at_call 35; (refine (New_any 5 w3).mono ?_; rintro e w4 ⟨rfl, hi4, hb4⟩; have HB4 := Lib.hid hb4; have HI4 := Lib.hid hi4; have hz4 := hb4.size; clear hb4 hi4))
    | (go_at_call_of 36 (Value.int IntKind.u8 192); (refine (bg5 _ _ HI4.out).mono ?_; rintro e w5 ⟨v5, rfl, ho5, hi5, hg5⟩; have HB5 := Lib.hid (below_rx HB4.out hg5 hz4 (Nat.le_refl _)); have HI5 := Lib.hid hi5; have hz5 := HB5.out.size; clear ho5 hi5 hg5))
    | (go_at_call 37; (refine (In_any _ _ _ HI5.out).mono ?_; rintro e w' ⟨rfl, rfl⟩))
    | (go_at_call_of 36 (Value.int IntKind.u8 193); (refine (bg6 _ _ HI5.out).mono ?_; rintro e w6 ⟨v6, rfl, ho6, hi6, hg6⟩; have HB6 := Lib.hid (below_rx HB5.out hg6 hz5 (Nat.le_refl _)); have hz6 := HB6.out.size; clear ho6 hi6 hg6))
    | (go_at_call 20; (refine (bg3 _ _ (rds_marked w6 [49, 50, 51, 52, 53, 54, 55, 56, 57] _ (by simp [maxLen]))).mono ?_; rintro e w' ⟨rfl, rfl⟩))
    | (go_at_call_of 24 (Value.slice none 0 0); (refine (bg9 _).mono ?_; rintro e w8 ⟨v8, rfl, ho8, hb8⟩; have HB8 := Lib.hid (HB7.out.trans (hb8.mono hz7)); have hz8 := HB8.out.size; obtain ⟨A8, n8, rfl, _, _, _⟩ := ho8.rds; have ca := (HB8.out.cell (p := ⟨g1, 0, none⟩) hgl1).trans CA.out; have cb := (HB8.out.cell (p := ⟨g1, 1, none⟩) hgl1).trans CB.out; have cc := (HB8.out.cell (p := ⟨g3, 0, none⟩) hg3).trans CC.out; have k3 := run_str (HU.out.below HB8.out); clear ho8 hb8))
    | (go_at_call 24; (refine (Put_any _ [7] _ (Own.built2 _ _ [7] 0 (Nat.zero_le _) (by simp [maxLen])).rds (by simp)).mono ?_; rintro e w7 ⟨v7, rfl, ho7, hb7⟩; have HB7 := Lib.hid (((HB6.out.alloc hz6 _).alloc (by simp; omega) _).trans (hb7.mono (by simp; omega))); have HO7 := Lib.hid ho7; have hz7 := HB7.out.size; clear ho7 hb7))
    | (go_at_call 26; (refine (bg4 _ _ HO7.out.rds).mono ?_; rintro e w' ⟨rfl, rfl⟩))
    | (go_at_call 30; (refine (bg7 _ _ (Own.built _ [125] 0 (Nat.zero_le _) (by simp [maxLen])).rds).mono ?_; rintro e w9 ⟨v9, rfl, ho9, hb9⟩; have HB9 := Lib.hid ((HB8.out.alloc hz8 _).trans (hb9.mono (by simp; omega))); have hz9 := HB9.out.size; have k9 := run_str ho9.rds; clear ho9 hb9))
    | (go_at_call 32; (refine (bg8 _).mono ?_; rintro e w10 ⟨v10, rfl, ho10, hb10⟩; have HB10 := Lib.hid (HB9.out.trans (hb10.mono hz9)); have k10 := run_str ho10.rds; clear ho10 hb10)))
  go_ret
  exact ⟨rfl, HB3.out.trans (HB10.out.mono hz3)⟩
end Go.Proofs.Ytameiegmeicnoaa
