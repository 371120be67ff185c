/- Of layer 8: OfM, XidM, DealM, OpenOffer, RowU. -/
import Derived.Test.YtcmjdbljdkabpaaGreatDoorM4I
import Derived.Test.YtcmjdbljdkabpaaGreatDoorM4E
import Derived.Test.YtcmjdbljdkabpaaGreatDoorM4D
import Derived.Test.YtcmjdbljdkabpaaGreatDoorM4A

set_option linter.all false

namespace Go.Proofs.YtcmjdbljdkabpaaGreatDoor

/-- Is a bit set? (Of any number, below 0, too.) -/
def atB (n : Int) (i : Nat) : Bool := n / 2 ^ i % 2 == 1
/-- The highest of the bits below k; -1: none. -/
def highB (n : Int) : Nat → Int
  | 0 => -1
  | k + 1 => if atB n k then (k : Int) else highB n k
/-- The lowest of the bits from 16 - k on; -1: none. -/
def lowB (n : Int) : Nat → Int
  | 0 => -1
  | k + 1 => if atB n (15 - k) then ((15 - k : Nat) : Int) else lowB n k
def high (n : Int) : Int := highB n 16
def low (n : Int) : Int := lowB n 16

theorem highB_lt (n : Int) : ∀ k, -1 ≤ highB n k ∧ highB n k < k
  | 0 => by simp [highB]
  | k + 1 => by
    have := highB_lt n k
    unfold highB
    split <;> omega
theorem highB_at (n : Int) : ∀ k, highB n k ≠ -1 → atB n (highB n k).toNat = true
  | 0, h => by simp [highB] at h
  | k + 1, h => by
    unfold highB at h ⊢
    split
    · rename_i hk; simpa using hk
    · rename_i hk; rw [if_neg hk] at h; exact highB_at n k h
theorem lowB_ge (n : Int) : ∀ k, k ≤ 16 → lowB n k = -1 ∨ (16 - (k : Int) ≤ lowB n k ∧ lowB n k ≤ 15)
  | 0, _ => .inl rfl
  | k + 1, h => by
    unfold lowB
    split
    · right; omega
    · have := lowB_ge n k (by omega); omega
theorem lowB_at (n : Int) : ∀ k, lowB n k ≠ -1 → atB n (lowB n k).toNat = true
  | 0, h => by simp [lowB] at h
  | k + 1, h => by
    unfold lowB at h ⊢
    split
    · rename_i hk; simpa using hk
    · rename_i hk; rw [if_neg hk] at h; exact lowB_at n k h
theorem lowB_below (n : Int) : ∀ (k j : Nat), k ≤ 16 → 16 - k ≤ j → j ≤ 15 → (lowB n k = -1 ∨ (j : Int) < lowB n k) → atB n j = false
  | 0, j, _, h1, h2, _ => by omega
  | k + 1, j, hk, h1, h2, h3 => by
    unfold lowB at h3
    split at h3
    · omega
    · rename_i hb
      by_cases e : j = 15 - k
      · subst e; simpa using hb
      · exact lowB_below n k j (by omega) (by omega) h2 h3

def baud (i : Int) : Int := if i = 0 then 32 else if i = 1 then 64 else if i = 2 then 128 else if i = 3 then 256 else 0
def silent (i : Int) : Int := if i = 0 then 200 else if i = 1 then 300 else if i = 2 then 500 else 0
def sizeQ (i : Int) : Int := if i = 0 then 8 else if i = 1 then 16 else if i = 2 then 32 else if i = 3 then 64 else 0
/-- Bytes by baud, rounded up. -/
def ticks (b d : Int) : Int := if b < 1 ∨ d < 1 then 0 else (b + d - 1) / d

/-- An offer. -/
structure Of5 where
  baud : Int
  silent : Int
  win : Int
  size : Int
  wait : Int
deriving DecidableEq
def mayO (o : Of5) : Bool := decide ((1 ≤ o.baud ∧ o.baud ≤ 15 ∧ o.baud % 2 = 1) ∧ (1 ≤ o.silent ∧ o.silent ≤ 7 ∧ o.silent % 2 = 1) ∧ (1 ≤ o.win ∧ o.win ≤ 127) ∧ (1 ≤ o.size ∧ o.size ≤ 15) ∧ (1 ≤ o.wait ∧ o.wait ≤ 7))
/-- The five parameters. -/
def fiveT (o : Of5) : List Tp := [(1, [UInt8.ofNat o.baud.toNat]), (2, [UInt8.ofNat o.silent.toNat]), (3, [UInt8.ofNat o.win.toNat]), (4, [UInt8.ofNat o.size.toNat]), (5, [UInt8.ofNat o.wait.toNat])]
def bytesO (o : Of5) : List UInt8 := [1, 1, UInt8.ofNat o.baud.toNat, 2, 1, UInt8.ofNat o.silent.toNat, 3, 1, UInt8.ofNat o.win.toNat, 4, 1, UInt8.ofNat o.size.toNat, 5, 1, UInt8.ofNat o.wait.toNat]
def putO (o : Of5) : Option (List UInt8) := if mayO o then some (bytesO o) else none
theorem flat_five (o : Of5) : flat (fiveT o) = bytesO o := rfl
theorem five_ok (o : Of5) : ∀ t ∈ fiveT o, okT t := by
  intro t ht
  simp only [fiveT, List.mem_cons, List.not_mem_nil, or_false] at ht
  rcases ht with rfl | rfl | rfl | rfl | rfl <;> (unfold okT; simp)
theorem putT_five (o : Of5) : putT (fiveT o) = some (bytesO o) := by
  unfold putT
  rw [if_pos ⟨five_ok o, by rw [flat_five]; simp [bytesO]⟩, flat_five]

/-- The text of the first of a number. -/
def fnd1 (l : List Tp) (id : Int) : Option (List UInt8) := (l.find? fun t => t.1 == id).map (·.2)
/-- Its one byte; 0: there is none, or it is not just one. -/
def valT (l : List Tp) (id : Int) : Int := match fnd1 l id with
  | some [x] => (x.toNat : Int)
  | _ => 0
def offerT (l : List Tp) : Of5 := ⟨valT l 1, valT l 2, valT l 3, valT l 4, valT l 5⟩
def getO (s : List UInt8) : Option Of5 := (getT s).bind fun l => if mayO (offerT l) then some (offerT l) else none

theorem valT_bound (l : List Tp) (id : Int) : 0 ≤ valT l id ∧ valT l id < 256 := by
  unfold valT
  split
  · rename_i x _; have := x.toNat_lt; omega
  · omega
theorem by_back {n : Int} (h : 0 ≤ n ∧ n < 256) : (((UInt8.ofNat n.toNat).toNat : Nat) : Int) = n := by rw [UInt8.toNat_ofNat']; omega
theorem offer_five {o : Of5} (h : mayO o = true) : offerT (fiveT o) = o := by
  unfold mayO at h
  have h := of_decide_eq_true h
  obtain ⟨a, b, c, d, e⟩ := o
  simp only at h
  have h1 := by_back (n := a) (by omega)
  have h2 := by_back (n := b) (by omega)
  have h3 := by_back (n := c) (by omega)
  have h4 := by_back (n := d) (by omega)
  have h5 := by_back (n := e) (by omega)
  have e : offerT (fiveT ⟨a, b, c, d, e⟩) = ⟨(((UInt8.ofNat a.toNat).toNat : Nat) : Int), (((UInt8.ofNat b.toNat).toNat : Nat) : Int), (((UInt8.ofNat c.toNat).toNat : Nat) : Int), (((UInt8.ofNat d.toNat).toNat : Nat) : Int), (((UInt8.ofNat e.toNat).toNat : Nat) : Int)⟩ := rfl
  rw [e, h1, h2, h3, h4, h5]
theorem getO_putO {o : Of5} {s : List UInt8} (h : putO o = some s) : getO s = some o := by
  unfold putO at h
  split at h
  · rename_i hm
    injection h with h
    subst h
    unfold getO
    rw [getT_putT (putT_five o)]
    simp only [Option.bind_some, offer_five hm, if_pos hm]
  · cases h

/-- Others among them are let be, where none of their numbers stands behind them. -/
theorem fnd1_append (a b : List Tp) (id : Int) : fnd1 (a ++ b) id = (fnd1 a id).or (fnd1 b id) := by
  unfold fnd1
  rw [List.find?_append]
  cases List.find? (fun t : Tp => t.1 == id) a <;> rfl
theorem fnd1_none {l : List Tp} {id : Int} (h : ∀ t ∈ l, t.1 ≠ id) : fnd1 l id = none := by
  unfold fnd1
  rw [List.find?_eq_none.2 (fun t ht => by simpa using h t ht)]
  rfl
theorem fnd1_some {l : List Tp} {id : Int} {t : Tp} (h : t ∈ l) (he : t.1 = id) : (fnd1 l id).isSome = true := by
  unfold fnd1
  rw [Option.isSome_map, List.find?_isSome]
  exact ⟨t, h, by simpa using he⟩
theorem valT_among {o : Of5} {m : List Tp} {k : Nat} (hc : ∀ t ∈ m, ∀ u ∈ (fiveT o).drop k, t.1 ≠ u.1) {u : Tp} (hu : u ∈ fiveT o) : fnd1 ((fiveT o).take k ++ m ++ (fiveT o).drop k) u.1 = fnd1 (fiveT o) u.1 := by
  have e : fiveT o = (fiveT o).take k ++ (fiveT o).drop k := (List.take_append_drop k _).symm
  rw [fnd1_append, fnd1_append]
  conv => rhs; rw [e, fnd1_append]
  cases h1 : fnd1 ((fiveT o).take k) u.1 with
  | some x => rfl
  | none =>
    have hd : u ∈ (fiveT o).drop k := by
      rw [e] at hu
      rcases List.mem_append.1 hu with h | h
      · have := fnd1_some h rfl
        rw [h1] at this
        cases this
      · exact h
    rw [fnd1_none (fun t ht => hc t ht u hd)]
    rfl
theorem offer_among {o : Of5} (hm : mayO o = true) {m : List Tp} {k : Nat} (hc : ∀ t ∈ m, ∀ u ∈ (fiveT o).drop k, t.1 ≠ u.1) : offerT ((fiveT o).take k ++ m ++ (fiveT o).drop k) = o := by
  have h := offer_five hm
  have key : ∀ u ∈ fiveT o, valT ((fiveT o).take k ++ m ++ (fiveT o).drop k) u.1 = valT (fiveT o) u.1 := by
    intro u hu
    unfold valT
    rw [valT_among hc hu]
  rw [← h]
  rw [h]
  unfold offerT at h ⊢
  rw [show valT _ 1 = _ from key (1, [UInt8.ofNat o.baud.toNat]) (by simp [fiveT]), show valT _ 2 = _ from key (2, [UInt8.ofNat o.silent.toNat]) (by simp [fiveT]), show valT _ 3 = _ from key (3, [UInt8.ofNat o.win.toNat]) (by simp [fiveT]), show valT _ 4 = _ from key (4, [UInt8.ofNat o.size.toNat]) (by simp [fiveT]), show valT _ 5 = _ from key (5, [UInt8.ofNat o.wait.toNat]) (by simp [fiveT])]
  exact h
/-- None of an offer's bytes may be missing. -/
theorem getO_cut {o : Of5} (k : Nat) (hk : k < 15) : getO ((bytesO o).take k) = none := by
  unfold getO
  cases hg : getT ((bytesO o).take k) with
  | none => rfl
  | some l =>
    simp only [Option.bind_some]
    rw [if_neg]
    intro hm
    unfold getT at hg
    split at hg
    · have hs := (getL_take (five_ok o) k (by rw [flat_five]; simp [bytesO]; omega)).1 (by rw [flat_five, hg]; rfl)
      obtain ⟨i, hi, hl⟩ := hs
      have hl2 : l = (fiveT o).take i := by
        have e : flat ((fiveT o).take i) = (bytesO o).take k := by
          have e2 : bytesO o = flat ((fiveT o).take i) ++ flat ((fiveT o).drop i) := by rw [← flat_append, List.take_append_drop, flat_five]
          rw [e2, ← hl, List.take_left]
        rw [← e, getL_flat (fun t ht => five_ok o t (List.mem_of_mem_take ht))] at hg
        injection hg with hg
        exact hg.symm
      have hi5 : i < 5 := by
        rcases Nat.lt_or_ge i 5 with h | h
        · exact h
        · rw [List.take_of_length_le (by simp [fiveT]; omega), flat_five] at hl
          simp [bytesO] at hl
          omega
      have h0 : valT l 5 = 0 := by
        unfold valT
        rw [fnd1_none]
        intro t ht
        rw [hl2] at ht
        have ht2 : t ∈ (fiveT o).take 4 := (List.take_subset_take_left _ (by omega)) ht
        simp only [fiveT, List.take_succ_cons, List.take_zero, List.mem_cons, List.not_mem_nil, or_false] at ht2
        rcases ht2 with rfl | rfl | rfl | rfl <;> simp
      unfold mayO offerT at hm
      have hm := of_decide_eq_true hm
      simp only [h0] at hm
      omega
    · cases hg
end Go.Proofs.YtcmjdbljdkabpaaGreatDoor

namespace Go.Proofs.YtcmjdbljdkabpaaGreatDoor

/-- May a number be a station's? -/
def ownN (n : Int) : Bool := n != 0 && n != 4294967295
/-- A number in four bytes, the lowest first; back. -/
def le4 (n : Int) : List UInt8 := [UInt8.ofNat (n % 256).toNat, UInt8.ofNat (n / 256 % 256).toNat, UInt8.ofNat (n / 65536 % 256).toNat, UInt8.ofNat (n / 16777216 % 256).toNat]
def num4 (a b c d : UInt8) : Int := (a.toNat : Int) + (b.toNat : Int) * 256 + (c.toNat : Int) * 65536 + (d.toNat : Int) * 16777216
def u32 (n : Int) : Prop := 0 ≤ n ∧ n < 4294967296
theorem num4_u32 (a b c d : UInt8) : u32 (num4 a b c d) := by
  have := a.toNat_lt; have := b.toNat_lt; have := c.toNat_lt; have := d.toNat_lt
  unfold u32 num4
  omega
theorem of_toNat_int {n : Int} (h : 0 ≤ n ∧ n < 256) : (((UInt8.ofNat n.toNat).toNat : Nat) : Int) = n := by rw [UInt8.toNat_ofNat']; omega
theorem num4_le4 {n : Int} (h : u32 n) : num4 (UInt8.ofNat (n % 256).toNat) (UInt8.ofNat (n / 256 % 256).toNat) (UInt8.ofNat (n / 65536 % 256).toNat) (UInt8.ofNat (n / 16777216 % 256).toNat) = n := by
  unfold u32 at h
  unfold num4
  rw [of_toNat_int (by omega), of_toNat_int (by omega), of_toNat_int (by omega), of_toNat_int (by omega)]
  omega
theorem le4_num4 (a b c d : UInt8) : le4 (num4 a b c d) = [a, b, c, d] := by
  have ha := a.toNat_lt; have hb := b.toNat_lt; have hc := c.toNat_lt; have hd := d.toNat_lt
  unfold le4 num4
  have e0 : ((a.toNat : Int) + (b.toNat : Int) * 256 + (c.toNat : Int) * 65536 + (d.toNat : Int) * 16777216) % 256 = a.toNat := by omega
  have e1 : ((a.toNat : Int) + (b.toNat : Int) * 256 + (c.toNat : Int) * 65536 + (d.toNat : Int) * 16777216) / 256 % 256 = b.toNat := by omega
  have e2 : ((a.toNat : Int) + (b.toNat : Int) * 256 + (c.toNat : Int) * 65536 + (d.toNat : Int) * 16777216) / 65536 % 256 = c.toNat := by omega
  have e3 : ((a.toNat : Int) + (b.toNat : Int) * 256 + (c.toNat : Int) * 65536 + (d.toNat : Int) * 16777216) / 16777216 % 256 = d.toNat := by omega
  rw [e0, e1, e2, e3]
  simp
theorem le4_len (n : Int) : (le4 n).length = 4 := rfl

/-- What a device says of itself. -/
structure Xd where
  from_ : Int
  to_ : Int
  slot : Int
  slots : Int
  anew : Bool
  nick : List UInt8
deriving DecidableEq
def mayX (x : Xd) : Bool := ownN x.from_ && decide (x.slots = 1 ∨ x.slots = 6 ∨ x.slots = 8) && decide (-1 ≤ x.slot ∧ x.slot < x.slots) && M.mayL x.nick
def bytesX (x : Xd) : List UInt8 := le4 x.from_ ++ le4 x.to_ ++ [if x.anew then 1 else 0, UInt8.ofNat x.slots.toNat, UInt8.ofNat (x.slot % 256).toNat] ++ x.nick
def putX (x : Xd) : Option (List UInt8) := if mayX x then some (bytesX x) else none
def slotOf (k : UInt8) : Int := if k.toNat = 255 then -1 else (k.toNat : Int)
def getX : List UInt8 → Option Xd
  | a :: b :: c :: d :: e :: f :: g :: h :: i :: j :: k :: r =>
    if i.toNat ≤ 1 then
      (let x : Xd := ⟨num4 a b c d, num4 e f g h, slotOf k, (j.toNat : Int), i.toNat == 1, r⟩
       if mayX x then some x else none)
    else none
  | _ => none
theorem getX_putX {x : Xd} {s : List UInt8} (hf : u32 x.from_) (ht : u32 x.to_) (h : putX x = some s) : getX s = some x := by
  unfold putX at h
  split at h
  · rename_i hm
    injection h with h
    subst h
    have hm' := hm
    unfold mayX at hm'
    simp only [Bool.and_eq_true, decide_eq_true_eq] at hm'
    obtain ⟨⟨⟨h1, h2⟩, h3⟩, h4⟩ := hm'
    obtain ⟨f, t, sl, sn, an, nk⟩ := x
    simp only at *
    have key : ∀ (a b c d e f g h i j k : UInt8) (r : List UInt8), getX (a :: b :: c :: d :: e :: f :: g :: h :: i :: j :: k :: r) = if i.toNat ≤ 1 then (if mayX ⟨num4 a b c d, num4 e f g h, slotOf k, (j.toNat : Int), i.toNat == 1, r⟩ then some ⟨num4 a b c d, num4 e f g h, slotOf k, (j.toNat : Int), i.toNat == 1, r⟩ else none) else none := fun _ _ _ _ _ _ _ _ _ _ _ _ => rfl
    show getX (_ :: _ :: _ :: _ :: _ :: _ :: _ :: _ :: _ :: _ :: _ :: nk) = _
    rw [key]
    have ej : ((UInt8.ofNat sn.toNat).toNat : Int) = sn := of_toNat_int (by omega)
    have ek : ((UInt8.ofNat (sl % 256).toNat).toNat : Int) = sl % 256 := of_toNat_int (by omega)
    have ek2 : slotOf (UInt8.ofNat (sl % 256).toNat) = sl := by
      unfold slotOf
      split <;> omega
    have ei : ((if an then 1 else 0 : UInt8).toNat ≤ 1) := by cases an <;> decide
    have ei2 : ((if an then 1 else 0 : UInt8).toNat == 1) = an := by cases an <;> decide
    rw [if_pos ei]
    simp only [num4_le4 hf, num4_le4 ht, ek2, ej, ei2]
    rw [if_pos hm]
  · cases h
theorem putX_getX {s : List UInt8} {x : Xd} (h : getX s = some x) : putX x = some s ∧ u32 x.from_ ∧ u32 x.to_ := by
  unfold getX at h
  split at h
  · rename_i a b c d e f g hh i j k r
    split at h
    · rename_i hi
      simp only at h
      split at h
      · rename_i hm
        injection h with h
        subst h
        refine ⟨?_, num4_u32 _ _ _ _, num4_u32 _ _ _ _⟩
        unfold putX
        rw [if_pos hm]
        unfold mayX at hm
        simp only [Bool.and_eq_true, decide_eq_true_eq] at hm
        obtain ⟨⟨⟨h1, h2⟩, h3⟩, h4⟩ := hm
        unfold bytesX
        simp only [le4_num4]
        have hj := j.toNat_lt
        have hk := k.toNat_lt
        have e1 : (if i.toNat == 1 then 1 else 0 : UInt8) = i := by
          rcases (show i.toNat = 0 ∨ i.toNat = 1 by omega) with h0 | h0
          · have : i = 0 := UInt8.toNat_inj.1 (by rw [h0]; rfl)
            subst this; rfl
          · have : i = 1 := UInt8.toNat_inj.1 (by rw [h0]; rfl)
            subst this; rfl
        have e2 : UInt8.ofNat ((slotOf k % 256).toNat) = k := by
          apply UInt8.toNat_inj.1
          rw [UInt8.toNat_ofNat']
          unfold slotOf
          split <;> omega
        rw [e1, e2]
        simp
      · cases h
    · cases h
  · cases h
theorem getX_short {s : List UInt8} (h : s.length < 11) : getX s = none := by
  unfold getX
  split
  · simp at h; omega
  · rfl

/-- How one begins. -/
structure St where
  from_ : Int
  to_ : Int
  seat : Int
  count : Int
  o : Of5
deriving DecidableEq
def maySt (s : St) : Bool := ownN s.from_ && ownN s.to_ && decide (0 ≤ s.seat ∧ s.seat < 8) && decide (0 ≤ s.count ∧ s.count ≤ 249) && mayO s.o
def headS (s : St) : List UInt8 := le4 s.from_ ++ le4 s.to_ ++ [UInt8.ofNat s.seat.toNat, UInt8.ofNat s.count.toNat]
def putS (s : St) : Option (List UInt8) := if maySt s then some (headS s ++ bytesO s.o) else none
def getS : List UInt8 → Option St
  | a :: b :: c :: d :: e :: f :: g :: h :: i :: j :: r =>
    (getO r).bind fun o => (let s : St := ⟨num4 a b c d, num4 e f g h, (i.toNat : Int), (j.toNat : Int), o⟩
      if maySt s then some s else none)
  | _ => none
theorem getS_head {s : St} (hf : u32 s.from_) (ht : u32 s.to_) (hm : maySt s = true) {r : List UInt8} (hr : getO r = some s.o) : getS (headS s ++ r) = some s := by
  have hm' := hm
  unfold maySt at hm'
  simp only [Bool.and_eq_true, decide_eq_true_eq] at hm'
  obtain ⟨⟨⟨⟨h1, h2⟩, h3⟩, h4⟩, h5⟩ := hm'
  obtain ⟨f, t, se, co, o⟩ := s
  simp only at *
  have key : ∀ (a b c d e f g h i j : UInt8) (r : List UInt8), getS (a :: b :: c :: d :: e :: f :: g :: h :: i :: j :: r) = (getO r).bind fun o => if maySt ⟨num4 a b c d, num4 e f g h, (i.toNat : Int), (j.toNat : Int), o⟩ then some ⟨num4 a b c d, num4 e f g h, (i.toNat : Int), (j.toNat : Int), o⟩ else none := fun _ _ _ _ _ _ _ _ _ _ _ => rfl
  show getS (_ :: _ :: _ :: _ :: _ :: _ :: _ :: _ :: _ :: _ :: r) = _
  rw [key]
  have ei : ((UInt8.ofNat se.toNat).toNat : Int) = se := of_toNat_int (by omega)
  have ej : ((UInt8.ofNat co.toNat).toNat : Int) = co := of_toNat_int (by omega)
  rw [hr]
  simp only [Option.bind_some, num4_le4 hf, num4_le4 ht, ei, ej]
  rw [if_pos hm]
theorem maySt_o {s : St} (h : maySt s = true) : mayO s.o = true := by
  unfold maySt at h
  simp only [Bool.and_eq_true] at h
  exact h.2
theorem getO_bytes {o : Of5} (h : mayO o = true) : getO (bytesO o) = some o := getO_putO (by unfold putO; rw [if_pos h])
theorem getS_putS {s : St} {t : List UInt8} (hf : u32 s.from_) (ht : u32 s.to_) (h : putS s = some t) : getS t = some s := by
  unfold putS at h
  split at h
  · rename_i hm
    injection h with h
    subst h
    exact getS_head hf ht hm (getO_bytes (maySt_o hm))
  · cases h
theorem getS_short {s : List UInt8} (h : s.length < 10) : getS s = none := by
  unfold getS
  split
  · simp at h; omega
  · rfl
/-- Other parameters behind. -/
theorem getO_more {o : Of5} (hm : mayO o = true) {m : List Tp} (hok : ∀ t ∈ m, okT t) (hl : (flat m).length ≤ 49) : getO (bytesO o ++ flat m) = some o := by
  unfold getO
  have e : bytesO o ++ flat m = flat (fiveT o ++ m) := by rw [flat_append, flat_five]
  have hall : ∀ t ∈ fiveT o ++ m, okT t := fun t ht => (List.mem_append.1 ht).elim (five_ok o t) (hok t)
  have hg : getT (bytesO o ++ flat m) = some (fiveT o ++ m) := by
    rw [e]
    unfold getT
    rw [if_pos (by rw [flat_append, flat_five, List.length_append]; simp [bytesO]; omega), getL_flat hall]
  rw [hg]
  have ho := offer_among hm (m := m) (k := 5) (by intro t _ u hu; simp [fiveT] at hu)
  have e5 : (fiveT o).take 5 = fiveT o := rfl
  have e6 : (fiveT o).drop 5 = [] := rfl
  rw [e5, e6, List.append_nil] at ho
  simp only [Option.bind_some, ho, if_pos hm]

/-- The first of draws that may be one's own, and is none of not; how many were looked at. -/
def drawn (nots : List Int) : List Int → Nat → Option (Int × Nat)
  | [], _ => none
  | d :: r, k => if ownN d && !nots.contains d then some (d, k + 1) else drawn nots r (k + 1)
/-- The least number from n on that is none of l. -/
def leastN (l : List Int) : Nat → Int → Int
  | 0, n => n
  | k + 1, n => if l.contains n then leastN l k (n + 1) else n
def freshM (draws nots : List Int) : Int × Nat := (drawn nots draws 0).getD (leastN nots nots.length 1, draws.length)

theorem sub_len : ∀ (m l : List Int), m.Nodup → (∀ x ∈ m, x ∈ l) → m.length ≤ l.length
  | [], _, _, _ => by simp
  | x :: m, l, hn, hs => by
    have hx := hs x (List.mem_cons_self ..)
    have hn' := List.nodup_cons.1 hn
    have := sub_len m (l.erase x) hn'.2 (fun y hy => (List.mem_erase_of_ne (by rintro rfl; exact hn'.1 hy)).2 (hs y (List.mem_cons_of_mem _ hy)))
    rw [List.length_erase_of_mem hx] at this
    have hl : 0 < l.length := List.length_pos_of_mem hx
    simp only [List.length_cons]
    omega
theorem leastN_spec (l : List Int) : ∀ (k : Nat) (n : Int), n ≤ leastN l k n ∧ leastN l k n ≤ n + k ∧ (∀ j, n ≤ j → j < leastN l k n → j ∈ l) ∧ (leastN l k n < n + k → leastN l k n ∉ l)
  | 0, n => by unfold leastN; refine ⟨by omega, by omega, fun j h1 h2 => absurd h2 (by omega), fun h => absurd h (by omega)⟩
  | k + 1, n => by
    unfold leastN
    by_cases h : l.contains n = true
    · rw [if_pos h]
      obtain ⟨h1, h2, h3, h4⟩ := leastN_spec l k (n + 1)
      refine ⟨by omega, by omega, fun j hj1 hj2 => ?_, fun hlt => h4 (by omega)⟩
      by_cases e : j = n
      · subst e; simpa using h
      · exact h3 j (by omega) hj2
    · rw [if_neg h]
      exact ⟨by omega, by omega, fun j h1 h2 => absurd h2 (by omega), fun _ => by simpa using h⟩
def upto (n : Int) : Nat → List Int
  | 0 => []
  | k + 1 => (n + k) :: upto n k
theorem upto_mem (n : Int) : ∀ (k : Nat) (x : Int), x ∈ upto n k → n ≤ x ∧ x < n + k
  | 0, _, h => by simp [upto] at h
  | k + 1, x, h => by
    unfold upto at h
    rcases List.mem_cons.1 h with rfl | h
    · omega
    · have := upto_mem n k x h; omega
theorem upto_nodup (n : Int) : ∀ k, (upto n k).Nodup
  | 0 => List.nodup_nil
  | k + 1 => by
    unfold upto
    exact List.nodup_cons.2 ⟨fun h => by have := upto_mem n k _ h; omega, upto_nodup n k⟩
theorem upto_len (n : Int) : ∀ k, (upto n k).length = k
  | 0 => rfl
  | k + 1 => by unfold upto; rw [List.length_cons, upto_len n k]
theorem leastN_not (l : List Int) (n : Int) : leastN l l.length n ∉ l := by
  obtain ⟨h1, h2, h3, h4⟩ := leastN_spec l l.length n
  by_cases h : leastN l l.length n < n + l.length
  · exact h4 h
  · intro hin
    have := sub_len (upto n (l.length + 1)) l (upto_nodup _ _) (fun x hx => by
      obtain ⟨a, b⟩ := upto_mem n _ x hx
      by_cases e : x = leastN l l.length n
      · rw [e]; exact hin
      · exact h3 x a (by omega))
    rw [upto_len] at this
    omega
theorem leastN_least (l : List Int) (n : Int) {x : Int} (hn : n ≤ x) (hx : x ∉ l) (hb : ∀ j, n ≤ j → j < x → j ∈ l) : leastN l l.length n = x := by
  obtain ⟨h1, h2, h3, h4⟩ := leastN_spec l l.length n
  have hno := leastN_not l n
  rcases Int.lt_trichotomy (leastN l l.length n) x with h | h | h
  · exact absurd (hb _ h1 h) hno
  · exact h
  · exact absurd (h3 x hn h) hx
end Go.Proofs.YtcmjdbljdkabpaaGreatDoor

namespace Go.Proofs.YtcmjdbljdkabpaaGreatDoor

structure De5 where
  baud : Int
  silent : Int
  win : Int
  size : Int
  wait : Int
deriving DecidableEq
/-- The highest below k that both have; the lowest of the last k below m. -/
def both (x y : Int) (i : Nat) : Bool := atB x i && atB y i
def hi2 (x y : Int) : Nat → Int
  | 0 => -1
  | k + 1 => if both x y k then (k : Int) else hi2 x y k
def lo2 (m : Nat) (x y : Int) : Nat → Int
  | 0 => -1
  | k + 1 => if both x y (m - (k + 1)) then ((m - (k + 1) : Nat) : Int) else lo2 m x y k
def frameM (size d : Int) : Int := ticks (2 * (size + 5) + 2) d
/-- The first w from k downward, 1 at the least, that is not too long. -/
def winM (f : Int) : Nat → Int
  | 0 => 1
  | k + 1 => if ((k : Int) + 1) * f ≤ 30 then (k : Int) + 1 else winM f k
def dealD (a b : Of5) : De5 := ⟨baud (hi2 a.baud b.baud 4), silent (lo2 3 a.silent b.silent 3), winM (frameM (sizeQ (high b.size)) (baud (hi2 a.baud b.baud 4))) (high b.win + 1).toNat, sizeQ (high b.size), low b.wait⟩
def dealM (a b : Of5) : Option De5 := if mayO a && mayO b then some (dealD a b) else none

theorem both_comm (x y : Int) (i : Nat) : both x y i = both y x i := by unfold both; rw [Bool.and_comm]
theorem hi2_comm (x y : Int) : ∀ k, hi2 x y k = hi2 y x k
  | 0 => rfl
  | k + 1 => by unfold hi2; rw [both_comm, hi2_comm x y k]
theorem lo2_comm (m : Nat) (x y : Int) : ∀ k, lo2 m x y k = lo2 m y x k
  | 0 => rfl
  | k + 1 => by unfold lo2; rw [both_comm, lo2_comm m x y k]
theorem hi2_lt (x y : Int) : ∀ k, -1 ≤ hi2 x y k ∧ hi2 x y k < k
  | 0 => by simp [hi2]
  | k + 1 => by
    have := hi2_lt x y k
    unfold hi2
    split <;> omega
theorem hi2_above (x y : Int) : ∀ (k j : Nat), hi2 x y k < (j : Int) → j < k → both x y j = false
  | 0, _, _, h => absurd h (by omega)
  | k + 1, j, h, hj => by
    unfold hi2 at h
    split at h
    · omega
    · rename_i hk
      by_cases e : j = k
      · subst e; simpa using hk
      · exact hi2_above x y k j h (by omega)
theorem hi2_some (x y : Int) : ∀ (k j : Nat), j < k → both x y j = true → (j : Int) ≤ hi2 x y k := by
  intro k j hj hb
  rcases Int.lt_or_le (hi2 x y k) (j : Int) with h | h
  · rw [hi2_above x y k j h hj] at hb; cases hb
  · exact h
theorem lo2_ge (m : Nat) (x y : Int) : ∀ k, k ≤ m → lo2 m x y k = -1 ∨ ((m : Int) - k ≤ lo2 m x y k ∧ lo2 m x y k < m)
  | 0, _ => .inl rfl
  | k + 1, h => by
    unfold lo2
    split
    · right; omega
    · have := lo2_ge m x y k (by omega); omega
theorem lo2_below (m : Nat) (x y : Int) : ∀ (k j : Nat), k ≤ m → m - k ≤ j → j < m → (lo2 m x y k = -1 ∨ (j : Int) < lo2 m x y k) → both x y j = false
  | 0, j, _, h1, h2, _ => absurd h1 (by omega)
  | k + 1, j, hk, h1, h2, h3 => by
    unfold lo2 at h3
    split at h3
    · omega
    · rename_i hb
      by_cases e : j = m - (k + 1)
      · subst e; simpa using hb
      · exact lo2_below m x y k j (by omega) (by omega) h2 h3
theorem lo2_some (m : Nat) (x y : Int) {j : Nat} (hj : j < m) (hb : both x y j = true) : 0 ≤ lo2 m x y m ∧ lo2 m x y m ≤ (j : Int) := by
  have h1 := lo2_ge m x y m (Nat.le_refl _)
  rcases h1 with h | h
  · rw [lo2_below m x y m j (Nat.le_refl _) (by omega) hj (.inl h)] at hb; cases hb
  · refine ⟨by omega, ?_⟩
    rcases Int.lt_or_le (j : Int) (lo2 m x y m) with h2 | h2
    · rw [lo2_below m x y m j (Nat.le_refl _) (by omega) hj (.inr h2)] at hb; cases hb
    · exact h2
theorem winM_ge (f : Int) : ∀ k, 1 ≤ winM f k ∧ winM f k ≤ max 1 (k : Int)
  | 0 => by unfold winM; omega
  | k + 1 => by
    have := winM_ge f k
    unfold winM
    split <;> omega
theorem winM_fits {f : Int} (h : f ≤ 30) : ∀ k, winM f k * f ≤ 30
  | 0 => by simp [winM]; exact h
  | k + 1 => by
    unfold winM
    split
    · rename_i hk; exact hk
    · exact winM_fits h k
theorem winM_best {f : Int} (hf : 0 ≤ f) : ∀ (k w : Nat), winM f k < (w : Int) → w ≤ k → 30 < (w : Int) * f
  | 0, w, h, hk => by simp [winM] at h; omega
  | k + 1, w, h, hk => by
    unfold winM at h
    split at h
    · omega
    · rename_i hb
      by_cases e : w = k + 1
      · subst e; push_cast; omega
      · exact winM_best hf k w h (by omega)
theorem mayO_bits {o : Of5} (h : mayO o = true) : atB o.baud 0 = true ∧ atB o.silent 0 = true := by
  unfold mayO at h
  have h := of_decide_eq_true h
  unfold atB
  simp only [Int.pow_zero, Int.ediv_one, beq_iff_eq]
  exact ⟨h.1.2.2, h.2.1.2.2⟩
theorem baud_pos {x y : Int} (hx : atB x 0 = true) (hy : atB y 0 = true) : 0 ≤ hi2 x y 4 ∧ hi2 x y 4 ≤ 3 ∧ 32 ≤ baud (hi2 x y 4) ∧ baud (hi2 x y 4) ≤ 256 := by
  have h1 := hi2_some x y 4 0 (by omega) (by unfold both; rw [hx, hy]; rfl)
  have h2 := hi2_lt x y 4
  refine ⟨by omega, by omega, ?_⟩
  generalize hi2 x y 4 = q at *
  unfold baud
  rcases (show q = 0 ∨ q = 1 ∨ q = 2 ∨ q = 3 by omega) with rfl | rfl | rfl | rfl <;> simp
theorem sizeQ_bound (i : Int) : 0 ≤ sizeQ i ∧ sizeQ i ≤ 64 := by
  unfold sizeQ
  repeat' split
  all_goals omega
theorem ticks_pos {b d : Int} (hb : 1 ≤ b) (hd : 1 ≤ d) : 1 ≤ ticks b d := by
  unfold ticks
  rw [if_neg (by omega)]
  have : d ≤ b + d - 1 := by omega
  exact Int.le_ediv_of_mul_le (by omega) (by omega)
theorem frameM_bound {s d : Int} (hs : 0 ≤ s ∧ s ≤ 64) (hd : 32 ≤ d) : 1 ≤ frameM s d ∧ frameM s d ≤ 5 := by
  unfold frameM
  refine ⟨ticks_pos (by omega) (by omega), ?_⟩
  unfold ticks
  rw [if_neg (by omega)]
  exact Int.lt_add_one_iff.1 (Int.ediv_lt_of_lt_mul (by omega) (by omega))
end Go.Proofs.YtcmjdbljdkabpaaGreatDoor

namespace Go.Proofs.YtcmjdbljdkabpaaGreatDoor
open Go.ChangeShapes Go.WideShapes Go.ChangeAt Go.RowKit

theorem five_of {α : Type} {cs : List α} (h : cs.length = 5) : ∃ a0 a1 a2 a3 a4, cs = [a0, a1, a2, a3, a4] := by
  match cs, h with
  | [a0, a1, a2, a3, a4], _ => exact ⟨a0, a1, a2, a3, a4, rfl⟩
theorem six_of {α : Type} {cs : List α} (h : cs.length = 6) : ∃ a0 a1 a2 a3 a4 a5, cs = [a0, a1, a2, a3, a4, a5] := by
  match cs, h with
  | [a0, a1, a2, a3, a4, a5], _ => exact ⟨a0, a1, a2, a3, a4, a5, rfl⟩
theorem four_of {α : Type} {cs : List α} (h : cs.length = 4) : ∃ a0 a1 a2 a3, cs = [a0, a1, a2, a3] := by
  match cs, h with
  | [a0, a1, a2, a3], _ => exact ⟨a0, a1, a2, a3, rfl⟩

abbrev Of5.cs (o : Of5) : Array Value := #[.int .i64 o.baud, .int .i64 o.silent, .int .i64 o.win, .int .i64 o.size, .int .i64 o.wait]
abbrev Of5.val (o : Of5) : Value := .agg #[.int .i64 o.baud, .int .i64 o.silent, .int .i64 o.win, .int .i64 o.size, .int .i64 o.wait]
def Of5.ok (o : Of5) : Prop := (Lit.int .i64 o.baud).wf = true ∧ (Lit.int .i64 o.silent).wf = true ∧ (Lit.int .i64 o.win).wf = true ∧ (Lit.int .i64 o.size).wf = true ∧ (Lit.int .i64 o.wait).wf = true
abbrev De5.val (o : De5) : Value := .agg #[.int .i64 o.baud, .int .i64 o.silent, .int .i64 o.win, .int .i64 o.size, .int .i64 o.wait]
/-- A device's word, as a value. -/
structure XIn where
  from_ : Int
  to_ : Int
  slot : Int
  slots : Int
  anew : Bool
  nick : ByteArray
abbrev XIn.val (x : XIn) : Value := .agg #[.int .u32 x.from_, .int .u32 x.to_, .int .i64 x.slot, .int .i64 x.slots, .bool x.anew, .string x.nick]
def XIn.ok (x : XIn) : Prop := (Lit.int .u32 x.from_).wf = true ∧ (Lit.int .u32 x.to_).wf = true ∧ (Lit.int .i64 x.slot).wf = true ∧ (Lit.int .i64 x.slots).wf = true ∧ x.nick.size ≤ maxLen
def XIn.xd (x : XIn) : Xd := ⟨x.from_, x.to_, x.slot, x.slots, x.anew, x.nick.data.toList⟩
abbrev Xd.xin (x : Xd) : XIn := ⟨x.from_, x.to_, x.slot, x.slots, x.anew, ⟨x.nick.toArray⟩⟩
abbrev St.val (s : St) : Value := .agg #[.int .u32 s.from_, .int .u32 s.to_, .int .i64 s.seat, .int .i64 s.count, .int .i64 s.o.baud, .int .i64 s.o.silent, .int .i64 s.o.win, .int .i64 s.o.size, .int .i64 s.o.wait]
def St.ok (s : St) : Prop := (Lit.int .u32 s.from_).wf = true ∧ (Lit.int .u32 s.to_).wf = true ∧ (Lit.int .i64 s.seat).wf = true ∧ (Lit.int .i64 s.count).wf = true ∧ s.o.ok

section
variable {H : Type} {enc : TypeId × Value → H} {W : World}

set_option maxRecDepth 100000 in
theorem open_offer_cells {m : Nat} {a0 a1 a2 a3 a4 : Value} {y : DataW H × List MemPlace} (h : DataW.trod enc Tryz.prog W 0 (fun _ => true) true m 23 [a0, a1, a2, a3, a4] = some y) :
    ∃ o : Of5, [a0, a1, a2, a3, a4] = [Value.int .i64 o.baud, .int .i64 o.silent, .int .i64 o.win, .int .i64 o.size, .int .i64 o.wait] ∧ o.ok := by
  obtain ⟨xs, n, _, _, _, hn, hx⟩ := DataW.trod_struct Tryz.underlying23 h
  obtain ⟨y0, y1, y2, y3, y4, rfl⟩ := five_of hn
  clear h hn
  have f0 := fld hx 0 0 1 3 rfl rfl rfl (by kernel_rfl)
  have f1 := fld hx 1 1 1 3 rfl rfl rfl (by kernel_rfl)
  have f2 := fld hx 2 2 1 3 rfl rfl rfl (by kernel_rfl)
  have f3 := fld hx 3 3 1 3 rfl rfl rfl (by kernel_rfl)
  have f4 := fld hx 4 4 1 3 rfl rfl rfl (by kernel_rfl)
  clear hx
  change DataW.trod enc Tryz.prog W 0 (fun _ => true) true n 3 [a0] = some y0 at f0
  change DataW.trod enc Tryz.prog W 0 (fun _ => true) true n 3 [a1] = some y1 at f1
  change DataW.trod enc Tryz.prog W 0 (fun _ => true) true n 3 [a2] = some y2 at f2
  change DataW.trod enc Tryz.prog W 0 (fun _ => true) true n 3 [a3] = some y3 at f3
  change DataW.trod enc Tryz.prog W 0 (fun _ => true) true n 3 [a4] = some y4 at f4
  obtain ⟨b, h0, _, w0⟩ := DataW.trod_int Tryz.underlying3 f0
  injection h0 with h0
  subst h0
  obtain ⟨si, h1, _, w1⟩ := DataW.trod_int Tryz.underlying3 f1
  injection h1 with h1
  subst h1
  obtain ⟨wi, h2, _, w2⟩ := DataW.trod_int Tryz.underlying3 f2
  injection h2 with h2
  subst h2
  obtain ⟨sz, h3, _, w3⟩ := DataW.trod_int Tryz.underlying3 f3
  injection h3 with h3
  subst h3
  obtain ⟨wa, h4, _, w4⟩ := DataW.trod_int Tryz.underlying3 f4
  injection h4 with h4
  subst h4
  exact ⟨⟨b, si, wi, sz, wa⟩, rfl, w0, w1, w2, w3, w4⟩

set_option maxRecDepth 100000 in
theorem open_offer {v : Value} {d : DataW H} {p : List MemPlace} (hval : Value.okWide Tryz.prog W .any 0 23 v) (h : DataW.Trod enc Tryz.prog W 0 (fun _ => true) true 23 v d p) : ∃ o : Of5, v = o.val ∧ o.ok := by
  obtain ⟨cs, rfl, hsz⟩ := okWide_struct Tryz.underlying23 hval
  obtain ⟨l⟩ := cs
  obtain ⟨fuel, hf⟩ := h
  simp only [Value.cells] at hf
  clear hval hsz
  obtain ⟨xs, n, _, _, hl, hn, hx⟩ := DataW.trod_struct Tryz.underlying23 hf
  obtain ⟨a0, a1, a2, a3, a4, rfl⟩ := five_of (hl.trans (by kernel_rfl))
  obtain ⟨y0, y1, y2, y3, y4, rfl⟩ := five_of hn
  clear hf hl hn
  have f0 := fld hx 0 0 1 3 rfl rfl rfl (by kernel_rfl)
  have f1 := fld hx 1 1 1 3 rfl rfl rfl (by kernel_rfl)
  have f2 := fld hx 2 2 1 3 rfl rfl rfl (by kernel_rfl)
  have f3 := fld hx 3 3 1 3 rfl rfl rfl (by kernel_rfl)
  have f4 := fld hx 4 4 1 3 rfl rfl rfl (by kernel_rfl)
  clear hx
  change DataW.trod enc Tryz.prog W 0 (fun _ => true) true n 3 [a0] = some y0 at f0
  change DataW.trod enc Tryz.prog W 0 (fun _ => true) true n 3 [a1] = some y1 at f1
  change DataW.trod enc Tryz.prog W 0 (fun _ => true) true n 3 [a2] = some y2 at f2
  change DataW.trod enc Tryz.prog W 0 (fun _ => true) true n 3 [a3] = some y3 at f3
  change DataW.trod enc Tryz.prog W 0 (fun _ => true) true n 3 [a4] = some y4 at f4
  obtain ⟨b, h0, _, w0⟩ := DataW.trod_int Tryz.underlying3 f0
  injection h0 with h0
  subst h0
  obtain ⟨si, h1, _, w1⟩ := DataW.trod_int Tryz.underlying3 f1
  injection h1 with h1
  subst h1
  obtain ⟨wi, h2, _, w2⟩ := DataW.trod_int Tryz.underlying3 f2
  injection h2 with h2
  subst h2
  obtain ⟨sz, h3, _, w3⟩ := DataW.trod_int Tryz.underlying3 f3
  injection h3 with h3
  subst h3
  obtain ⟨wa, h4, _, w4⟩ := DataW.trod_int Tryz.underlying3 f4
  injection h4 with h4
  subst h4
  exact ⟨⟨b, si, wi, sz, wa⟩, rfl, w0, w1, w2, w3, w4⟩

set_option maxRecDepth 100000 in
theorem open_xid {v : Value} {d : DataW H} {p : List MemPlace} (hval : Value.okWide Tryz.prog W .any 0 51 v) (h : DataW.Trod enc Tryz.prog W 0 (fun _ => true) true 51 v d p) : ∃ x : XIn, v = x.val ∧ x.ok := by
  obtain ⟨cs, rfl, hsz⟩ := okWide_struct Tryz.underlying51 hval
  obtain ⟨l⟩ := cs
  obtain ⟨fuel, hf⟩ := h
  simp only [Value.cells] at hf
  clear hval hsz
  obtain ⟨xs, n, _, _, hl, hn, hx⟩ := DataW.trod_struct Tryz.underlying51 hf
  obtain ⟨a0, a1, a2, a3, a4, a5, rfl⟩ := six_of (hl.trans (by kernel_rfl))
  obtain ⟨y0, y1, y2, y3, y4, y5, rfl⟩ := six_of hn
  clear hf hl hn
  have f0 := fld hx 0 0 1 49 rfl rfl rfl (by kernel_rfl)
  have f1 := fld hx 1 1 1 49 rfl rfl rfl (by kernel_rfl)
  have f2 := fld hx 2 2 1 3 rfl rfl rfl (by kernel_rfl)
  have f3 := fld hx 3 3 1 3 rfl rfl rfl (by kernel_rfl)
  have f4 := fld hx 4 4 1 4 rfl rfl rfl (by kernel_rfl)
  have f5 := fld hx 5 5 1 9 rfl rfl rfl (by kernel_rfl)
  clear hx
  change DataW.trod enc Tryz.prog W 0 (fun _ => true) true n 49 [a0] = some y0 at f0
  change DataW.trod enc Tryz.prog W 0 (fun _ => true) true n 49 [a1] = some y1 at f1
  change DataW.trod enc Tryz.prog W 0 (fun _ => true) true n 3 [a2] = some y2 at f2
  change DataW.trod enc Tryz.prog W 0 (fun _ => true) true n 3 [a3] = some y3 at f3
  change DataW.trod enc Tryz.prog W 0 (fun _ => true) true n 4 [a4] = some y4 at f4
  change DataW.trod enc Tryz.prog W 0 (fun _ => true) true n 9 [a5] = some y5 at f5
  obtain ⟨fr, h0, _, w0⟩ := DataW.trod_int Tryz.underlying49 f0
  injection h0 with h0
  subst h0
  obtain ⟨tt, h1, _, w1⟩ := DataW.trod_int Tryz.underlying49 f1
  injection h1 with h1
  subst h1
  obtain ⟨sl, h2, _, w2⟩ := DataW.trod_int Tryz.underlying3 f2
  injection h2 with h2
  subst h2
  obtain ⟨sn, h3, _, w3⟩ := DataW.trod_int Tryz.underlying3 f3
  injection h3 with h3
  subst h3
  obtain ⟨an, h4, _⟩ := DataW.trod_bool Tryz.underlying4 f4
  injection h4 with h4
  subst h4
  obtain ⟨nk, h5, _, w5⟩ := DataW.trod_string Tryz.underlying9 f5
  injection h5 with h5
  subst h5
  exact ⟨⟨fr, tt, sl, sn, an, nk⟩, rfl, w0, w1, w2, w3, w5⟩

set_option maxRecDepth 100000 in
theorem open_setup {v : Value} {d : DataW H} {p : List MemPlace} (hval : Value.okWide Tryz.prog W .any 0 64 v) (h : DataW.Trod enc Tryz.prog W 0 (fun _ => true) true 64 v d p) : ∃ s : St, v = s.val ∧ s.ok := by
  obtain ⟨cs, rfl, hsz⟩ := okWide_struct Tryz.underlying64 hval
  obtain ⟨l⟩ := cs
  obtain ⟨fuel, hf⟩ := h
  simp only [Value.cells] at hf
  clear hval hsz
  obtain ⟨xs, n, _, _, hl, hn, hx⟩ := DataW.trod_struct Tryz.underlying64 hf
  obtain ⟨a0, a1, a2, a3, a4, a5, a6, a7, a8, rfl⟩ := nine (hl.trans (by kernel_rfl))
  obtain ⟨y0, y1, y2, y3, rfl⟩ := four_of hn
  clear hf hl hn
  have f0 := fld hx 0 0 1 49 rfl rfl rfl (by kernel_rfl)
  have f1 := fld hx 1 1 1 49 rfl rfl rfl (by kernel_rfl)
  have f2 := fld hx 2 2 2 62 rfl rfl rfl (by kernel_rfl)
  have f3 := fld hx 3 4 5 23 rfl rfl rfl (by kernel_rfl)
  clear hx
  change DataW.trod enc Tryz.prog W 0 (fun _ => true) true n 49 [a0] = some y0 at f0
  change DataW.trod enc Tryz.prog W 0 (fun _ => true) true n 49 [a1] = some y1 at f1
  change DataW.trod enc Tryz.prog W 0 (fun _ => true) true n 62 [a2, a3] = some y2 at f2
  change DataW.trod enc Tryz.prog W 0 (fun _ => true) true n 23 [a4, a5, a6, a7, a8] = some y3 at f3
  obtain ⟨fr, h0, _, w0⟩ := DataW.trod_int Tryz.underlying49 f0
  injection h0 with h0
  subst h0
  obtain ⟨tt, h1, _, w1⟩ := DataW.trod_int Tryz.underlying49 f1
  injection h1 with h1
  subst h1
  obtain ⟨seat, count, rfl, rfl, w2, v2⟩ := open_address f2
  obtain ⟨o, ho, w3⟩ := open_offer_cells f3
  injection ho with ho0 ho
  injection ho with ho1 ho
  injection ho with ho2 ho
  injection ho with ho3 ho
  injection ho with ho4 ho
  subst ho0; subst ho1; subst ho2; subst ho3; subst ho4
  exact ⟨⟨fr, tt, seat, count, o⟩, rfl, w0, w1, w2, v2, w3⟩

end
end Go.Proofs.YtcmjdbljdkabpaaGreatDoor

namespace Go.Proofs.YtcmjdbljdkabpaaGreatDoor
open Go.RowKit

/-- A slice of integers that came in: it is nil; or it leads to a row of cap cells, the numbers zs, each fitting its kind. -/
def IsRow (k : IntKind) (w : World) (a : Option Addr) (len cap : Nat) (zs : List Int) : Prop :=
  (a = none ∧ len = 0 ∧ cap = 0 ∧ zs = []) ∨
  ∃ x, a = some x ∧ len ≤ cap ∧ cap ≤ maxLen ∧ zs.length = cap ∧ (∀ i, i < zs.length → w.cell? (x.add i) = some (.int k (zs.getD i 0))) ∧ ∀ n ∈ zs, (Lit.int k n).wf = true

/-- v is a slice that reads as the numbers l. -/
def RdU (w : World) (v : Value) (l : List Int) : Prop :=
  ∃ A cap, v = .slice A l.length cap ∧ l.length ≤ cap ∧ cap ≤ maxLen ∧ (∀ n ∈ l, u32 n) ∧ (0 < l.length → ∃ b off, A = some ⟨b, off, none⟩ ∧ b < w.heap.size ∧ ∀ j (h : j < l.length), w.cell? ⟨b, off + j, none⟩ = some (.int .u32 l[j]))
theorem RdU.nil_ (w : World) : RdU w (.slice none 0 0) [] := ⟨none, 0, rfl, by simp, by simp [maxLen], by simp, fun h => by simp at h⟩
theorem RdU.below {w w' : World} {v : Value} {l : List Int} (h : RdU w v l) (hb : Below w.heap.size w w') : RdU w' v l := by
  obtain ⟨A, cap, rfl, h1, h2, h3, h4⟩ := h
  refine ⟨A, cap, rfl, h1, h2, h3, fun h0 => ?_⟩
  obtain ⟨b, off, rfl, hlt, hc⟩ := h4 h0
  exact ⟨b, off, rfl, Nat.lt_of_lt_of_le hlt hb.size, fun j hj => (hb.cell (p := ⟨b, off + j, none⟩) hlt).trans (hc j hj)⟩
theorem RdU.at_ {w : World} {A : Option Addr} {n cap : Nat} {l : List Int} (h : RdU w (.slice A n cap) l) {i : Nat} (hi : i < l.length) :
    ∃ b off, A = some ⟨b, off, none⟩ ∧ b < w.heap.size ∧ w.cell? ⟨b, off + i, none⟩ = some (.int .u32 l[i]) := by
  obtain ⟨A', cap', he, _, _, _, h3⟩ := h
  injection he with he
  subst he
  obtain ⟨b, off, rfl, hlt, hc⟩ := h3 (by omega)
  exact ⟨b, off, rfl, hlt, hc i hi⟩
theorem RdU.u {w : World} {v : Value} {l : List Int} (h : RdU w v l) : ∀ n ∈ l, u32 n := by
  obtain ⟨_, _, _, _, _, h3, _⟩ := h
  exact h3
/-- The first k of them. -/
theorem RdU.cut {w : World} {A : Option Addr} {n cap : Nat} {l : List Int} (h : RdU w (.slice A n cap) l) {k : Nat} (hk : k ≤ l.length) : RdU w (.slice A k cap) (l.take k) := by
  obtain ⟨A', cap', he, h1, h2, h3, h4⟩ := h
  injection he with he _ hc
  subst he; subst hc
  have hlen : (l.take k).length = k := by rw [List.length_take]; omega
  refine ⟨A, cap, by rw [hlen], by omega, h2, fun x hx => h3 x (List.mem_of_mem_take hx), fun h0 => ?_⟩
  obtain ⟨b, off, rfl, hlt, hc⟩ := h4 (by omega)
  refine ⟨b, off, rfl, hlt, fun j hj => ?_⟩
  rw [hc j (by omega), List.getElem_take]
theorem IsRow.rdu {w : World} {a : Option Addr} {len cap : Nat} {zs : List Int} (h : IsRow .u32 w a len cap zs) : ∃ l, RdU w (.slice a len cap) l := by
  rcases h with ⟨rfl, rfl, rfl, rfl⟩ | ⟨x, rfl, hl, hm, hz, hc, hw⟩
  · exact ⟨[], RdU.nil_ w⟩
  · have hlen : (zs.take len).length = len := by rw [List.length_take]; omega
    refine ⟨zs.take len, some x, cap, by rw [hlen], by omega, hm, fun n hn => ?_, fun h0 => ?_⟩
    · have := bounds_u32 (hw n (List.mem_of_mem_take hn))
      unfold u32
      omega
    · rw [hlen] at h0
      obtain ⟨b, off, spot⟩ := x
      have hc0 := hc 0 (by omega)
      have hspot : spot = none := by simpa [Addr.add] using World.cell?_spot hc0
      subst hspot
      refine ⟨b, off, rfl, ?_, fun j hj => ?_⟩
      · have := World.block_lt_of_cell? w _ hc0
        simpa [addr_add] using this
      · have hcj := hc j (by omega)
        rw [addr_add] at hcj
        rw [hcj, List.getElem_take]
        have hg : zs.getD j 0 = zs[j]'(by omega) := by simp [show j < zs.length by omega]
        rw [hg]
/-- A literal's block: a row of the call's own. -/
theorem rdU_new {w : World} {g : Nat} {l : List Int} {t : TypeId} (hg : w.heap[g]? = some (.cells (l.map (Value.int .u32)).toArray t (0, 0))) (hl : l.length ≤ maxLen) (hu : ∀ n ∈ l, u32 n) : RdU w (.slice (some ⟨g, 0, none⟩) l.length l.length) l := by
  refine ⟨_, l.length, rfl, Nat.le_refl _, hl, hu, fun _ => ⟨g, 0, rfl, lt_at hg, fun j hj => ?_⟩⟩
  rw [cell_of_row w g _ _ t (0, 0) hg, Nat.zero_add]
  simp [hj]
end Go.Proofs.YtcmjdbljdkabpaaGreatDoor
