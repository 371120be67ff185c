/- What an argument that is a slice of bytes gives the walks. -/
import Derived.Test.YtameiegmeicnoaaBegun
import Derived.OpenShut
namespace Go.Proofs.Ytameiegmeicnoaa
open Go.RowKit M

/-- A slice of integers that came in: it is nil; or it leads to a row of cap cells, the numbers zs, each fitting its kind. -/
def IsRow (k : IntKind) (w : World) (a : Option Addr) (len cap : Nat) (zs : List Int) : Prop :=
  (a = none ∧ len = 0 ∧ cap = 0 ∧ zs = []) ∨
  ∃ x, a = some x ∧ len ≤ cap ∧ cap ≤ maxLen ∧ zs.length = cap ∧ (∀ i, i < zs.length → w.cell? (x.add i) = some (.int k (zs.getD i 0))) ∧ ∀ n ∈ zs, (Lit.int k n).wf = true

theorem IsRow.rds {w : World} {a : Option Addr} {len cap : Nat} {zs : List Int} (h : IsRow .u8 w a len cap zs) : ∃ l, Rds w (.slice a len cap) l := by
  rcases h with ⟨rfl, rfl, rfl, rfl⟩ | ⟨x, rfl, hl, hm, hz, hc, hw⟩
  · exact ⟨[], Rds.nil_ w⟩
  · have hlen : ((zs.take len).map fun n => UInt8.ofNat n.toNat).length = len := by simp; omega
    refine ⟨(zs.take len).map fun n => UInt8.ofNat n.toNat, some x, cap, by rw [hlen], by omega, hm, fun h0 => ?_⟩
    rw [hlen] at h0
    obtain ⟨b, off, spot⟩ := x
    have hc0 := hc 0 (by omega)
    have hspot : spot = none := by simpa [Addr.add] using World.cell?_spot hc0
    subst hspot
    refine ⟨b, off, rfl, fun j hj => ?_⟩
    rw [hlen] at hj
    have hcj := hc j (by omega)
    rw [addr_add] at hcj
    rw [hcj]
    have hg : zs.getD j 0 = zs[j]'(by omega) := by simp [show j < zs.length by omega]
    have hb := bounds_u8 (hw (zs[j]'(by omega)) (List.getElem_mem _))
    rw [hg, bc]
    have e : (((zs.take len).map fun n => UInt8.ofNat n.toNat).getD j 0) = UInt8.ofNat (zs[j]'(by omega)).toNat := by
      rw [List.getD_eq_getElem?_getD, List.getElem?_map, List.getElem?_take_of_lt hj, List.getElem?_eq_getElem (by omega)]
      rfl
    rw [e]
    congr 2
    rw [UInt8.toNat_ofNat']
    omega

/-- What a law's call leaves. -/
def Holds (w : World) (e : Ending) (w' : World) : Prop := e = .returned (.bool true) ∧ Below w.heap.size w w'

theorem no1 (w : World) : Calls Try.prog 34 #[.int .i64 10, .slice none 0 0] w (MakesL w []) := All_any 10 _ [] w (Rds.nil_ w) (by simp)
theorem no2 (w : World) : Calls Try.prog 20 #[.slice none 0 0] w fun e w' => e = .returned (.int .u16 0) ∧ w = w' := Of_any _ [] w (Rds.nil_ w)
theorem no3 (w : World) : Calls Try.prog 26 #[.slice none 0 0] w fun e w' => e = .returned (.bool false) ∧ w = w' := Fine_any _ [] w (Rds.nil_ w)
theorem no4 (w : World) : Calls Try.prog 30 #[.slice none 0 0] w (Makes w []) := Escape_any _ [] w (Rds.nil_ w) (by simp)

set_option maxRecDepth 100000 in
set_option maxHeartbeats 1000000 in
theorem RxNone_law (w : World) : Calls Try.prog 10 #[] w (Holds w) := by
  go_enter Try.func10, Try.ntmps10
  go_wp2_with (first
    | (go_at_call 36; refine (RxPut_nil _ _).mono ?_; rintro e w' ⟨rfl, rfl⟩)
    | (go_at_call 18; refine (begun_any _).mono ?_; rintro e w1 ⟨rfl, hb1⟩; have HB1 := Lib.hid hb1; have hz1 := hb1.size; clear hb1)
    | (go_at_call 37; refine (In_nil _).mono ?_; rintro e w' ⟨rfl, rfl⟩)
    | (go_at_call 34; refine (no1 _).mono ?_; rintro e w2 ⟨v2, rfl, ho, hb⟩; obtain ⟨A2, n2, rfl, _, _⟩ := ho.shape; have HB2 := Lib.hid (HB1.out.trans (hb.mono hz1)); have hz2 := HB2.out.size; clear ho hb)
    | (go_at_call 20; refine (no2 _).mono ?_; rintro e w' ⟨rfl, rfl⟩)
    | (go_at_call 26; refine (no3 _).mono ?_; rintro e w' ⟨rfl, rfl⟩)
    | (go_at_call 30; refine (no4 _).mono ?_; rintro e w3 ⟨v3, rfl, ho, hb⟩; obtain ⟨A3, n3, rfl, _, _, _⟩ := ho.rds; have HB3 := Lib.hid (HB2.out.trans (hb.mono hz2)); clear ho hb))
  go_ret
  exact ⟨rfl, HB3.out⟩

theorem short_len (l : List UInt8) (n : Nat) : (l.take n).length ≤ n := by rw [List.length_take]; omega
theorem Short_to (v : Value) (l m : List UInt8) (n : Int) (w : World) (hv : Rds w v l) (h0 : 0 ≤ n) (h1 : n ≤ 1000000) (e : m = l.take n.toNat) : Calls Try.prog 19 #[v, .int .i64 n] w (Makes w m) := by
  rw [e]; exact Short_any v l n w hv h0 h1
theorem cof_inv (l : List UInt8) : 65535 - cof l = caddAll 65535 l := by
  have := caddAll_lt l (c := 65535) (by decide)
  unfold cof
  omega

set_option maxRecDepth 100000 in
set_option maxHeartbeats 1000000 in
theorem CrcJoin_law (va vb : Value) (la lb : List UInt8) (w : World) (ha : Rds w va la) (hb : Rds w vb lb) : Calls Try.prog 5 #[va, vb] w (Holds w) := by
  have HA := Lib.hid ha
  have HB := Lib.hid hb
  have h1 : (la.take 60).length ≤ 60 := short_len _ _
  have h2 : (lb.take 60).length ≤ 60 := short_len _ _
  obtain ⟨a, hea⟩ : ∃ a, a = la.take 60 := ⟨_, rfl⟩
  obtain ⟨b, heb⟩ : ∃ b, b = lb.take 60 := ⟨_, rfl⟩
  rw [← hea] at h1
  rw [← heb] at h2
  have HEA := Lib.hid hea
  have HEB := Lib.hid heb
  have hs0 := caddAll_lt a (c := 65535) (by decide)
  have e0 : bits .xor .u16 IntKind.u16.max (cof a : Int) = ((caddAll 65535 a : Nat) : Int) := by rw [u16_not _ (cof_lt a), cof_inv]
  have e1 : bits .xor .u16 IntKind.u16.max ((caddAll (caddAll 65535 a) b : Nat) : Int) = (cof (a ++ b) : Int) := by
    rw [u16_not _ (caddAll_lt b hs0), ← caddAll_append]
    rfl
  generalize caddAll 65535 a = s0 at *
  have E1 := Lib.hid e1
  clear ha hb hea heb e1
  go_enter Try.func5, Try.ntmps5
  go_wp2_with (first
    | (go_at_call 18; refine (begun_any _).mono ?_; rintro e w1 ⟨rfl, hb1⟩; have HB1 := Lib.hid hb1; have hz1 := hb1.size; clear hb1)
    | (go_at_call_of 19 va; refine (Short_to va la a 60 _ (HA.out.below HB1.out) (by omega) (by omega) HEA.out).mono ?_; rintro e w2 ⟨v2, rfl, ho2, hb2⟩; have HB2 := Lib.hid (HB1.out.trans (hb2.mono hz1)); have hz2 := HB2.out.size; obtain ⟨A2, n2, rfl, _, _, _⟩ := ho2.rds; have HO2 := Lib.hid ho2; clear ho2 hb2)
    | (go_at_call_of 19 vb; refine (Short_to vb lb b 60 _ (HB.out.below HB2.out) (by omega) (by omega) HEB.out).mono ?_; rintro e w3 ⟨v3, rfl, ho3, hb3⟩; have HB3 := Lib.hid (HB2.out.trans (hb3.mono hz2)); have hz3 := HB3.out.size; obtain ⟨A3, n3, rfl, _, _, hr3⟩ := ho3.rds; have HR3 := Lib.hid hr3; have HO3 := Lib.hid ho3; have HO23 := Lib.hid (HO2.out.below hb3); clear ho3 hb3 hr3)
    | (go_at_call 20; refine (Of_any _ a _ HO23.out.rds).mono ?_; rintro e w' ⟨rfl, rfl⟩))
  go_loop [6, 20] (fun t i => ∃ k : Nat, k ≤ b.length ∧ i = .int .i64 k ∧ t = .int .u16 (caddAll s0 (b.take k) : Nat)) (fun _ i => b.length - (intOf i).toNat)
  case atStart => exact ⟨0, by omega, rfl, rfl⟩
  case round =>
    obtain ⟨k, hk, rfl, rfl⟩ := hrel
    have hs := caddAll_lt (b.take k) hs0
    by_cases hlt : k < b.length
    · obtain ⟨g, off, rfl, hcell⟩ := HO3.out.rds.cell hlt
      unfold bc at hcell
      have hx := (b.getD k 0).toNat_lt
      have ht : caddAll s0 (b.take (k + 1)) = cadd (caddAll s0 (b.take k)) (b.getD k 0).toNat := by rw [take_snoc b k hlt, caddAll_snoc]
      have HT := Lib.hid ht
      clear ht
      generalize (b.getD k 0).toNat = x at *
      generalize caddAll s0 (b.take k) = s at *
      go_wp2_with (go_at_call 22; refine (Add_any s x _ hs hx).mono ?_; rintro e w' ⟨rfl, rfl⟩)
      go_round
      case rel => exact ⟨k + 1, by omega, by go_num, by rw [HT.out]⟩
      case measure => simp [intOf]; omega
    · obtain rfl : k = b.length := by omega
      have e1 := E1.out
      simp only [List.take_length] at hs ⊢
      go_wp2_with (first
        | (at_builtin; (refine wpList_app rfl (.const (.slice none 0 0)) (.tmp 32) rfl w3.heap.size (.slice none 0 0) _ [] a rfl rfl (Own.nil_ w3 _) HO23.out.rds (by simp only [List.length_nil]; omega) (Nat.le_refl _) ?_; intro v4 w4 hown4 hg4 hat4; have hb4 := below_of_grown hg4; have HB4 := Lib.hid hb4; have hz4 := hb4.size; have HO4 := Lib.hid hown4; clear hown4 hg4 hat4 hb4))
        | (at_builtin; (refine wpList_app rfl (.tmp 33) (.tmp 34) rfl w3.heap.size v4 _ a b rfl rfl HO4.out (HO3.out.below HB4.out).rds (by omega) hz4 ?_; intro v5 w5 hown5 hg5 hat5; have HB5 := Lib.hid (HB4.out.grown hg5 hz4 (fun k hk => (HO4.out.lt k hk).1)); have HO5 := Lib.hid hown5; clear hown5 hg5 hat5))
        | (go_at_call 20; refine (Of_any _ (a ++ b) _ HO5.out.rds).mono ?_; rintro e w' ⟨rfl, rfl⟩))
      go_ret
      exact ⟨rfl, HB3.out.trans (HB5.out.mono hz3)⟩
end Go.Proofs.Ytameiegmeicnoaa
