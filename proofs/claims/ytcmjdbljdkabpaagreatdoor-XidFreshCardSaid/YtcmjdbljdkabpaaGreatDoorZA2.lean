/- Packages xid, ident (as landed at 3ea5f42): numbers in four bytes, and back. -/
import Derived.Laws.Bits64
import Derived.Test.YtcmjdbljdkabpaaGreatDoorM8C
import Derived.Test.YtcmjdbljdkabpaaGreatDoorM4D

set_option linter.all false

namespace Go.Proofs.YtcmjdbljdkabpaaGreatDoor
open Go.RowKit

theorem Xflag_any (b : Bool) (w : World) : Calls Tryz.prog 80 #[.bool b] w fun e w' => e = .returned (.int .u8 (if b then 1 else 0)) ∧ w' = w := by
  cases b <;>
  · go_enter Tryz.func80, Tryz.ntmps80
    go_wp2
    go_ret
    exact ⟨rfl, rfl⟩

/-- The bytes of a number, the lowest first. -/
def idB (n : Int) (k : Nat) : List UInt8 := (le4 n).take k
theorem idB_4 (n : Int) : idB n 4 = le4 n := rfl
theorem idB_0 (n : Int) : idB n 0 = [] := rfl
theorem idB_s0 (n : Int) : idB n 1 = idB n 0 ++ [by8 (n % 256)] := rfl
theorem idB_s1 (n : Int) : idB n 2 = idB n 1 ++ [by8 (n / 256 % 256)] := rfl
theorem idB_s2 (n : Int) : idB n 3 = idB n 2 ++ [by8 (n / 65536 % 256)] := rfl
theorem idB_s3 (n : Int) : idB n 4 = idB n 3 ++ [by8 (n / 16777216 % 256)] := rfl
theorem own_one (w : World) (a : Int) (ha : 0 ≤ a ∧ a < 256) : Rds (w.alloc (.cells #[.int .u8 a] 5)) (.slice (some ⟨w.heap.size, 0, none⟩) 1 1) [by8 a] := by
  have h := Own.built w [by8 a] 0 (Nat.zero_le _) (by simp [maxLen])
  have e : (bcs [by8 a]).toArray = #[.int .u8 a] := by
    show #[bc (by8 a)] = _
    rw [by8_bc ha]
  rw [e] at h
  exact h.rds
set_option maxRecDepth 100000 in
set_option maxHeartbeats 4000000 in
theorem XaddId_any (v : Value) (l : List UInt8) (n : Int) (base : Nat) (w : World) (h : Own w base v l) (hn : u32 n) (hl : l.length ≤ 1000) (hb : base ≤ w.heap.size) :
    Calls Tryz.prog 79 #[v, .int .u32 n] w fun e w' => ∃ v', e = .returned v' ∧ Own w' base v' (l ++ le4 n) ∧ Below base w w' := by
  have HO := Lib.hid h
  have HBS := Lib.hid hb
  unfold u32 at hn
  have w0 : IntKind.u8.wrap n = n % 256 := IntKind.wrap_u8 n
  have w1 : IntKind.u8.wrap (n / 256) = n / 256 % 256 := IntKind.wrap_u8 _
  have w2 : IntKind.u8.wrap (n / 65536) = n / 65536 % 256 := IntKind.wrap_u8 _
  have w3 : IntKind.u8.wrap (n / 16777216) = n / 16777216 % 256 := IntKind.wrap_u8 _
  have x1 : IntKind.u32.wrap (n / 256) = n / 256 := by rw [IntKind.wrap_u32']; omega
  have x2 : IntKind.u32.wrap (n / 65536) = n / 65536 := by rw [IntKind.wrap_u32']; omega
  have x3 : IntKind.u32.wrap (n / 16777216) = n / 16777216 := by rw [IntKind.wrap_u32']; omega
  have HR0 : Hid (0 ≤ n % 256 ∧ n % 256 < 256) := by show _ ∧ _; omega
  have HR1 : Hid (0 ≤ n / 256 % 256 ∧ n / 256 % 256 < 256) := by show _ ∧ _; omega
  have HR2 : Hid (0 ≤ n / 65536 % 256 ∧ n / 65536 % 256 < 256) := by show _ ∧ _; omega
  have HR3 : Hid (0 ≤ n / 16777216 % 256 ∧ n / 16777216 % 256 < 256) := by show _ ∧ _; omega
  clear h hn hb
  go_enter Tryz.func79, Tryz.ntmps79
  go_wp2
  go_loopw [0, 6] (fun t i wr => ∃ k : Nat, k ≤ 4 ∧ i = .int .i64 (k : Int) ∧ Own wr base t (l ++ idB n k) ∧ Below base w wr) (fun _ i _ => 4 - (intOf i).toNat)
  case atStart => exact ⟨0, by omega, rfl, by rw [idB_0, List.append_nil]; exact HO.out, Below.refl _ _⟩
  case round =>
    obtain ⟨k, hk, rfl, ho, hbl⟩ := hrel
    have HK := Lib.hid ho
    have HBL := Lib.hid hbl
    have hz : base ≤ wr.heap.size := Nat.le_trans HBS.out hbl.size
    clear ho hbl
    rcases (show k = 0 ∨ k = 1 ∨ k = 2 ∨ k = 3 ∨ k = 4 by omega) with rfl | rfl | rfl | rfl | rfl
    · go_wp2_with (at_builtin; refine wpList_app rfl (.tmp 9) (.tmp 15) rfl base u0 (.slice (some ⟨wr.heap.size, 0, none⟩) 1 1) (l ++ idB n 0) [by8 (n % 256)] rfl rfl (HK.out.alloc _) (own_one wr _ HR0.out) (by simp [idB, le4]; omega) (by simp; omega) ?_; intro v2 w2 hown2 hg2 hat2)
      go_roundw
      case rel => exact ⟨1, by omega, by go_num, by rw [idB_s0, ← List.append_assoc]; exact hown2, (HBL.out.alloc hz _).grown hg2 (by simp; omega) (fun j hj => (HK.out.lt j hj).1)⟩
      case measure => simp [intOf] <;> omega
    · go_wp2_with (at_builtin; refine wpList_app rfl (.tmp 9) (.tmp 15) rfl base u0 (.slice (some ⟨wr.heap.size, 0, none⟩) 1 1) (l ++ idB n 1) [by8 (n / 256 % 256)] rfl rfl (HK.out.alloc _) (own_one wr _ HR1.out) (by simp [idB, le4]; omega) (by simp; omega) ?_; intro v2 w2 hown2 hg2 hat2)
      go_roundw
      case rel => exact ⟨2, by omega, by go_num, by rw [idB_s1, ← List.append_assoc]; exact hown2, (HBL.out.alloc hz _).grown hg2 (by simp; omega) (fun j hj => (HK.out.lt j hj).1)⟩
      case measure => simp [intOf] <;> omega
    · go_wp2_with (at_builtin; refine wpList_app rfl (.tmp 9) (.tmp 15) rfl base u0 (.slice (some ⟨wr.heap.size, 0, none⟩) 1 1) (l ++ idB n 2) [by8 (n / 65536 % 256)] rfl rfl (HK.out.alloc _) (own_one wr _ HR2.out) (by simp [idB, le4]; omega) (by simp; omega) ?_; intro v2 w2 hown2 hg2 hat2)
      go_roundw
      case rel => exact ⟨3, by omega, by go_num, by rw [idB_s2, ← List.append_assoc]; exact hown2, (HBL.out.alloc hz _).grown hg2 (by simp; omega) (fun j hj => (HK.out.lt j hj).1)⟩
      case measure => simp [intOf] <;> omega
    · go_wp2_with (at_builtin; refine wpList_app rfl (.tmp 9) (.tmp 15) rfl base u0 (.slice (some ⟨wr.heap.size, 0, none⟩) 1 1) (l ++ idB n 3) [by8 (n / 16777216 % 256)] rfl rfl (HK.out.alloc _) (own_one wr _ HR3.out) (by simp [idB, le4]; omega) (by simp; omega) ?_; intro v2 w2 hown2 hg2 hat2)
      go_roundw
      case rel => exact ⟨4, by omega, by go_num, by rw [idB_s3, ← List.append_assoc]; exact hown2, (HBL.out.alloc hz _).grown hg2 (by simp; omega) (fun j hj => (HK.out.lt j hj).1)⟩
      case measure => simp [intOf] <;> omega
    · go_wp2
      go_ret
      exact ⟨_, rfl, by rw [← idB_4]; exact HK.out, HBL.out⟩

theorem u32_or_nat (a b : Nat) (ha : a < 4294967296) (hb : b < 4294967296) : bits .or .u32 (a : Int) (b : Int) = ((a ||| b : Nat) : Int) := by
  show IntKind.u32.wrap ((BitVec.ofInt 32 (a : Int) ||| BitVec.ofInt 32 (b : Int)).toNat : Nat) = _
  have hx : ∀ c : Nat, c < 4294967296 → (BitVec.ofInt 32 (c : Int)).toNat = c := fun c hc => by
    rw [BitVec.toNat_ofInt]; omega
  rw [BitVec.toNat_or, hx a ha, hx b hb, IntKind.wrap_u32']
  have := Nat.or_lt_two_pow (n := 32) ha hb
  omega
theorem or_add (a b k : Nat) (h : a < 2 ^ k) : a ||| b * 2 ^ k = a + b * 2 ^ k := by
  rw [Nat.mul_comm, Nat.or_comm, ← Nat.two_pow_add_eq_or_of_lt h b, Nat.add_comm]
/-- What the first k bytes stand for. -/
def partN (a b c d : UInt8) (k : Nat) : Int := if k = 0 then 0 else if k = 1 then (a.toNat : Int) else if k = 2 then (a.toNat : Int) + (b.toNat : Int) * 256 else if k = 3 then (a.toNat : Int) + (b.toNat : Int) * 256 + (c.toNat : Int) * 65536 else num4 a b c d
theorem or_0 (a : UInt8) : bits .or .u32 0 (a.toNat : Int) = (a.toNat : Int) := by
  have ha := a.toNat_lt
  have := u32_or_nat 0 a.toNat (by omega) (by omega)
  rw [Nat.zero_or] at this
  exact this
theorem or_1 (a b : UInt8) : bits .or .u32 (a.toNat : Int) ((b.toNat : Int) * 256) = (a.toNat : Int) + (b.toNat : Int) * 256 := by
  have ha := a.toNat_lt; have hb := b.toNat_lt
  have := u32_or_nat a.toNat (b.toNat * 2 ^ 8) (by omega) (by omega)
  rw [or_add _ _ 8 (by omega)] at this
  rw [show (b.toNat : Int) * 256 = ((b.toNat * 2 ^ 8 : Nat) : Int) by omega, this]
  omega
theorem or_2 (a b c : UInt8) : bits .or .u32 ((a.toNat : Int) + (b.toNat : Int) * 256) ((c.toNat : Int) * 65536) = (a.toNat : Int) + (b.toNat : Int) * 256 + (c.toNat : Int) * 65536 := by
  have ha := a.toNat_lt; have hb := b.toNat_lt; have hc := c.toNat_lt
  have := u32_or_nat (a.toNat + b.toNat * 256) (c.toNat * 2 ^ 16) (by omega) (by omega)
  rw [or_add _ _ 16 (by omega)] at this
  rw [show (c.toNat : Int) * 65536 = ((c.toNat * 2 ^ 16 : Nat) : Int) by omega, show (a.toNat : Int) + (b.toNat : Int) * 256 = ((a.toNat + b.toNat * 256 : Nat) : Int) by omega, this]
  omega
theorem or_3 (a b c d : UInt8) : bits .or .u32 ((a.toNat : Int) + (b.toNat : Int) * 256 + (c.toNat : Int) * 65536) ((d.toNat : Int) * 16777216) = num4 a b c d := by
  have ha := a.toNat_lt; have hb := b.toNat_lt; have hc := c.toNat_lt; have hd := d.toNat_lt
  have := u32_or_nat (a.toNat + b.toNat * 256 + c.toNat * 65536) (d.toNat * 2 ^ 24) (by omega) (by omega)
  rw [or_add _ _ 24 (by omega)] at this
  rw [show (d.toNat : Int) * 16777216 = ((d.toNat * 2 ^ 24 : Nat) : Int) by omega, show (a.toNat : Int) + (b.toNat : Int) * 256 + (c.toNat : Int) * 65536 = ((a.toNat + b.toNat * 256 + c.toNat * 65536 : Nat) : Int) by omega, this]
  unfold num4
  omega
set_option maxRecDepth 100000 in
set_option maxHeartbeats 4000000 in
theorem Xlead_core (s : ByteArray) (w : World) (a b c d : UInt8) (h0 : 0 < s.size) (h1 : 1 < s.size) (h2 : 2 < s.size) (h3 : 3 < s.size) (e0 : s[0] = a) (e1 : s[1] = b) (e2 : s[2] = c) (e3 : s[3] = d) :
    Calls Tryz.prog 86 #[.string s] w fun e w' => e = .returned (.int .u32 (num4 a b c d)) ∧ w' = w := by
  have ha := a.toNat_lt
  have hb := b.toNat_lt
  have hc := c.toNat_lt
  have hd := d.toNat_lt
  have i0 : (0 : Int) < (s.size : Int) := by omega
  have i1 : (1 : Int) < (s.size : Int) := by omega
  have i2 : (2 : Int) < (s.size : Int) := by omega
  have i3 : (3 : Int) < (s.size : Int) := by omega
  have im : ¬ (s.size : Int) < 4 := by omega
  have w0 : IntKind.u32.wrap (a.toNat : Int) = (a.toNat : Int) := by rw [IntKind.wrap_u32']; omega
  have w1 : IntKind.u32.wrap (b.toNat : Int) = (b.toNat : Int) := by rw [IntKind.wrap_u32']; omega
  have w2 : IntKind.u32.wrap (c.toNat : Int) = (c.toNat : Int) := by rw [IntKind.wrap_u32']; omega
  have w3 : IntKind.u32.wrap (d.toNat : Int) = (d.toNat : Int) := by rw [IntKind.wrap_u32']; omega
  have w4 : IntKind.u32.wrap ((b.toNat : Int) * 256) = (b.toNat : Int) * 256 := by rw [IntKind.wrap_u32']; omega
  have w5 : IntKind.u32.wrap ((c.toNat : Int) * 65536) = (c.toNat : Int) * 65536 := by rw [IntKind.wrap_u32']; omega
  have w6 : IntKind.u32.wrap ((d.toNat : Int) * 16777216) = (d.toNat : Int) * 16777216 := by rw [IntKind.wrap_u32']; omega
  have o0 := or_0 a
  have o1 := or_1 a b
  have o2 := or_2 a b c
  have o3 := or_3 a b c d
  have HP0 : Hid ((0 : Int) = partN a b c d 0) := rfl
  have HP1 : Hid ((a.toNat : Int) = partN a b c d 1) := rfl
  have HP2 : Hid ((a.toNat : Int) + (b.toNat : Int) * 256 = partN a b c d 2) := rfl
  have HP3 : Hid ((a.toNat : Int) + (b.toNat : Int) * 256 + (c.toNat : Int) * 65536 = partN a b c d 3) := rfl
  have HP4 : Hid (num4 a b c d = partN a b c d 4) := rfl
  generalize num4 a b c d = N at *
  clear ha hb hc hd
  go_enter Tryz.func86, Tryz.ntmps86
  go_wp2
  go_loopw [3, 8] (fun q i wr => wr = w ∧ ∃ k : Nat, k ≤ 4 ∧ i = .int .i64 (k : Int) ∧ q = .int .u32 (partN a b c d k)) (fun _ i _ => 4 - (intOf i).toNat)
  case atStart => exact ⟨rfl, 0, by omega, rfl, by rw [← HP0.out]⟩
  case round =>
    obtain ⟨rfl, k, hk, rfl, rfl⟩ := hrel
    rcases (show k = 0 ∨ k = 1 ∨ k = 2 ∨ k = 3 ∨ k = 4 by omega) with rfl | rfl | rfl | rfl | rfl
    · rw [← HP0.out]
      go_wp2
      go_roundw
      case rel => exact ⟨trivial, 1, by omega, by go_num, by rw [← HP1.out]⟩
      case measure => simp [intOf] <;> omega
    · rw [← HP1.out]
      go_wp2
      go_roundw
      case rel => exact ⟨trivial, 2, by omega, by go_num, by rw [← HP2.out]⟩
      case measure => simp [intOf] <;> omega
    · rw [← HP2.out]
      go_wp2
      go_roundw
      case rel => exact ⟨trivial, 3, by omega, by go_num, by rw [← HP3.out]⟩
      case measure => simp [intOf] <;> omega
    · rw [← HP3.out]
      go_wp2
      go_roundw
      case rel => exact ⟨trivial, 4, by omega, by go_num, by rw [← HP4.out]⟩
      case measure => simp [intOf] <;> omega
    · rw [← HP4.out]
      go_wp2
      go_ret
      exact ⟨rfl, rfl⟩
theorem Xlead_any (s : ByteArray) (w : World) {a b c d : UInt8} {r : List UInt8} (h : s.data.toList = a :: b :: c :: d :: r) : Calls Tryz.prog 86 #[.string s] w fun e w' => e = .returned (.int .u32 (num4 a b c d)) ∧ w' = w := by
  obtain ⟨h3, e0, e1, e2, e3⟩ := four_at h
  exact Xlead_core s w a b c d (by omega) (by omega) (by omega) h3 e0 e1 e2 e3
end Go.Proofs.YtcmjdbljdkabpaaGreatDoor
