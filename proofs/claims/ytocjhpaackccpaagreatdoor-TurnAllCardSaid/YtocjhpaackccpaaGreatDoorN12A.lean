/- Of layer 12: M12, Foot, Sep, S12h, Dn, OwnK, OutB, ModA, RegQ, OutA, InA. -/
import Derived.Test.YtocjhpaackccpaaGreatDoorM4D
import Derived.Test.YtocjhpaackccpaaGreatDoorM4A
import Derived.Test.YtocjhpaackccpaaGreatDoorM4G
import Derived.Test.YtocjhpaackccpaaGreatDoorM4E
import Derived.Test.YtocjhpaackccpaaGreatDoorM4H
import Derived.Laws.MakeOwn
import Derived.Lib.RowBridge
import Derived.Sort.EncStr
import Derived.Deep.Quiet

set_option linter.all false

namespace Go.Proofs.YtocjhpaackccpaaGreatDoor

theorem w64 {n : Int} (h : -9223372036854775808 ≤ n ∧ n ≤ 9223372036854775807) : (Lit.int .i64 n).wf = true := by
  have h1 : IntKind.i64.min = -9223372036854775808 := by decide
  have h2 : IntKind.i64.max = 9223372036854775807 := by decide
  show (decide (IntKind.i64.min ≤ n) && decide (n ≤ IntKind.i64.max)) = true
  rw [h1, h2, decide_eq_true h.1, decide_eq_true h.2]
  rfl
def m8 (n : Int) : Int := n % 8
/-- Is x one of f, f and 1, .. (n of them), modulo 8? -/
def inM (x f n : Int) : Bool := decide ((x - f) % 8 < n)

/-- What is sent and not acknowledged. -/
structure OutM where
  win : Nat
  first : Nat
  l : List ByteArray
  sent : Nat
namespace OutM
def new (win : Int) : OutM := ⟨(max 1 (min win 7)).toNat, 0, [], 0⟩
structure ok (o : OutM) : Prop where
  win1 : 1 ≤ o.win
  win7 : o.win ≤ 7
  first : o.first < 8
  len : o.l.length ≤ 8
  sent : o.sent ≤ o.l.length
  sentw : o.sent ≤ o.win
def full (o : OutM) : Bool := decide (8 ≤ o.l.length)
def put (o : OutM) (b : ByteArray) : OutM := if o.full then o else { o with l := o.l ++ [b] }
def k (o : OutM) : Nat := min o.win o.l.length
def burst (o : OutM) : OutM := { o with sent := max o.sent o.k }
def ns (o : OutM) : List Int := (List.range o.k).map fun i => (((o.first + i) % 8 : Nat) : Int)
def bs (o : OutM) : List ByteArray := o.l.take o.k
/-- How far nr is from the first one. -/
def dif (o : OutM) (nr : Int) : Nat := ((nr - (o.first : Int)) % 8).toNat
def acks (o : OutM) (nr : Int) : Bool := decide (0 ≤ nr ∧ nr ≤ 7 ∧ o.dif nr ≤ o.sent)
def ack (o : OutM) (nr : Int) : OutM := if o.acks nr then ⟨o.win, nr.toNat, o.l.drop (o.dif nr), o.sent - o.dif nr⟩ else o
def ackN (o : OutM) (nr : Int) : Nat := if o.acks nr then o.dif nr else 0
theorem ok_new (win : Int) : (new win).ok := by
  unfold new
  refine ⟨?_, ?_, ?_, ?_, ?_, ?_⟩ <;> simp only [List.length_nil] <;> omega
theorem ok.put {o : OutM} (h : o.ok) (b : ByteArray) : (o.put b).ok := by
  unfold OutM.put full
  split
  · exact h
  · rename_i hn
    have hn : ¬ 8 ≤ o.l.length := by simpa using hn
    have h1 := h.sent
    exact ⟨h.win1, h.win7, h.first, by show (o.l ++ [b]).length ≤ 8; simp; omega, by show o.sent ≤ (o.l ++ [b]).length; simp; omega, h.sentw⟩
theorem ok.burst {o : OutM} (h : o.ok) : o.burst.ok := by
  have h1 := h.sent
  have h2 := h.sentw
  refine ⟨h.win1, h.win7, h.first, h.len, ?_, ?_⟩ <;> simp only [OutM.burst, OutM.k] <;> omega
theorem ok.ack {o : OutM} (h : o.ok) (nr : Int) : (o.ack nr).ok := by
  unfold OutM.ack acks
  split
  · rename_i hn
    have hn := of_decide_eq_true hn
    have h1 := h.sent
    have h2 := h.sentw
    have h3 := h.len
    refine ⟨h.win1, h.win7, ?_, ?_, ?_, ?_⟩ <;> simp only [List.length_drop] <;> omega
  · exact h
theorem k_le {o : OutM} (h : o.ok) : o.k ≤ 7 ∧ o.k ≤ o.l.length := by
  have := h.win7
  unfold k
  omega
theorem dif_lt (o : OutM) (nr : Int) : o.dif nr < 8 := by unfold dif; omega
end OutM

/-- What comes, in order. -/
structure InM where
  next : Nat
  odd : Bool
namespace InM
def new : InM := ⟨0, false⟩
def ok (i : InM) : Prop := i.next < 8
def hit (i : InM) (ns : Int) : Bool := decide (ns = (i.next : Int))
def take (i : InM) (ns : Int) : InM := if i.hit ns then ⟨(i.next + 1) % 8, false⟩ else ⟨i.next, true⟩
def told (i : InM) (ns : Int) (b : ByteArray) : ByteArray := if i.hit ns then b else ⟨#[]⟩
theorem ok_new : new.ok := show (0 : Nat) < 8 by decide
theorem ok.take {i : InM} (h : i.ok) (ns : Int) : (i.take ns).ok := by
  unfold InM.take
  split
  · show (i.next + 1) % 8 < 8; omega
  · exact h
end InM

/-- One side. -/
structure TurnM where
  role : Int
  size : Int
  mine : Bool
  out : OutM
  inn : InM
namespace TurnM
def new (role win size : Int) : TurnM := ⟨role, min size 64, decide (role = 1), OutM.new win, InM.new⟩
structure ok (t : TurnM) : Prop where
  role : t.role = 1 ∨ t.role = 2
  size : t.size ≤ 64
  out : t.out.ok
  inn : t.inn.ok
def cmd (t : TurnM) : Bool := decide (t.role = 1)
/-- 0, ErrForm, ErrFull. -/
def putE (t : TurnM) (b : ByteArray) : Int := if t.size < (b.size : Int) then 1 else if t.out.full then 3 else 0
def put (t : TurnM) (b : ByteArray) : TurnM := if t.size < (b.size : Int) then t else { t with out := t.out.put b }
def sayI (t : TurnM) (i : Nat) : PIn := ⟨0, 0, t.cmd, 1, 0, t.inn.next, ((t.out.first + i) % 8 : Nat), decide (i + 1 = t.out.k), t.out.l.getD i ⟨#[]⟩⟩
def sayS (t : TurnM) : PIn := ⟨0, 0, t.cmd, 2, if t.inn.odd then 2 else 0, t.inn.next, 0, true, ⟨#[]⟩⟩
def says (t : TurnM) : List PIn := if t.mine then (if t.out.k = 0 then [t.sayS] else (List.range t.out.k).map t.sayI) else []
def go (t : TurnM) : TurnM := if t.mine then { t with mine := false, out := t.out.burst } else t
/-- May it be the other one's? -/
def hears (t : TurnM) (p : PIn) : Bool := decide (1 ≤ p.kind ∧ p.kind ≤ 2 ∧ p.cmd = decide (t.role = 2) ∧ 0 ≤ p.nr ∧ p.nr ≤ 7 ∧ 0 ≤ p.ns ∧ p.ns ≤ 7)
def take (t : TurnM) (p : PIn) : TurnM := if t.hears p then ⟨t.role, t.size, t.mine || p.pf, t.out.ack p.nr, if p.kind = 1 then t.inn.take p.ns else t.inn⟩ else t
def tells (t : TurnM) (p : PIn) : Bool := t.hears p && (decide (p.kind = 1) && t.inn.hit p.ns)
def told (t : TurnM) (p : PIn) : ByteArray := if t.tells p then p.body else ⟨#[]⟩
def lates (t : TurnM) : Bool := decide (t.role = 1) && !t.mine
def late (t : TurnM) : TurnM := { t with mine := t.mine || decide (t.role = 1) }
def swap (t : TurnM) : TurnM := { t with role := 3 - t.role, mine := decide (t.role = 2) }
def left (t : TurnM) : Nat := t.out.l.length
theorem ok_new {role win size : Int} (h : role = 1 ∨ role = 2) : (new role win size).ok := ⟨h, by show min size 64 ≤ 64; omega, OutM.ok_new win, InM.ok_new⟩
theorem ok.put {t : TurnM} (h : t.ok) (b : ByteArray) : (t.put b).ok := by
  unfold TurnM.put
  split
  · exact h
  · exact ⟨h.role, h.size, h.out.put b, h.inn⟩
theorem ok.go {t : TurnM} (h : t.ok) : t.go.ok := by
  unfold TurnM.go
  split
  · exact ⟨h.role, h.size, h.out.burst, h.inn⟩
  · exact h
theorem ok.take {t : TurnM} (h : t.ok) (p : PIn) : (t.take p).ok := by
  unfold TurnM.take
  split
  · refine ⟨h.role, h.size, h.out.ack _, ?_⟩
    show (if p.kind = 1 then t.inn.take p.ns else t.inn).ok
    split
    · exact h.inn.take _
    · exact h.inn
  · exact h
theorem ok.late {t : TurnM} (h : t.ok) : t.late.ok := ⟨h.role, h.size, h.out, h.inn⟩
theorem ok.swap {t : TurnM} (h : t.ok) : t.swap.ok := ⟨by have := h.role; show 3 - t.role = 1 ∨ 3 - t.role = 2; omega, h.size, h.out, h.inn⟩
end TurnM
end Go.Proofs.YtocjhpaackccpaaGreatDoor

namespace Go.Proofs.YtocjhpaackccpaaGreatDoor
open Go.RowKit

/-- Only blocks of F have turned, and new ones have come. -/
structure Tch (F : List Nat) (w w' : World) : Prop where
  os : w'.os = w.os
  tape : w'.tape = w.tape
  output : w'.output = w.output
  size : w.heap.size ≤ w'.heap.size
  keep : ∀ g, g < w.heap.size → g ∉ F → w'.heap[g]? = w.heap[g]?
/-- F' are blocks of F, and new ones. -/
def Sub (w : World) (F F' : List Nat) : Prop := ∀ g ∈ F', g ∈ F ∨ w.heap.size ≤ g
theorem Sub.refl (w : World) (F : List Nat) : Sub w F F := fun _ h => .inl h
theorem Sub.trans {w w1 : World} {F F1 F2 : List Nat} (h : Sub w F F1) (k : Sub w1 F1 F2) (hs : w.heap.size ≤ w1.heap.size) : Sub w F F2 := fun g hg => by
  rcases k g hg with h1 | h1
  · exact h g h1
  · exact .inr (Nat.le_trans hs h1)
/-- All of F are from base on. -/
def Up (base : Nat) (F : List Nat) : Prop := ∀ g ∈ F, base ≤ g
theorem Up.sub {base : Nat} {w : World} {F F' : List Nat} (h : Up base F) (k : Sub w F F') (hs : base ≤ w.heap.size) : Up base F' := fun g hg => by
  rcases k g hg with h1 | h1
  · exact h g h1
  · exact Nat.le_trans hs h1
theorem Up.nil_ (base : Nat) : Up base [] := fun _ h => by cases h
theorem Up.app {base : Nat} {F G : List Nat} (h : Up base F) (k : Up base G) : Up base (F ++ G) := fun g hg => by
  rcases List.mem_append.1 hg with h1 | h1
  · exact h g h1
  · exact k g h1
theorem Up.mono {base b : Nat} {F : List Nat} (h : Up base F) (hb : b ≤ base) : Up b F := fun g hg => Nat.le_trans hb (h g hg)
/-- All of F stand in w. -/
def In (w : World) (F : List Nat) : Prop := ∀ g ∈ F, g < w.heap.size
theorem In.more {w w' : World} {F : List Nat} (h : In w F) (hs : w.heap.size ≤ w'.heap.size) : In w' F := fun g hg => Nat.lt_of_lt_of_le (h g hg) hs
/-- F and G have no block in common. -/
def Dis (F G : List Nat) : Prop := ∀ g ∈ F, g ∉ G
theorem Dis.symm {F G : List Nat} (h : Dis F G) : Dis G F := fun g hg hf => h g hf hg
theorem Dis.new {w : World} {F G : List Nat} (h : In w F) (k : Up w.heap.size G) : Dis F G := fun g hg hg' => by
  have := h g hg
  have := k g hg'
  omega
theorem Dis.sub {w : World} {F F' G : List Nat} (h : Dis F G) (k : Sub w F F') (hg : In w G) : Dis F' G := fun g hf hG => by
  rcases k g hf with h1 | h1
  · exact h g h1 hG
  · have := hg g hG
    omega
theorem Tch.refl (F : List Nat) (w : World) : Tch F w w := ⟨rfl, rfl, rfl, Nat.le_refl _, fun _ _ _ => rfl⟩
theorem Tch.of_below {w w' : World} (F : List Nat) (h : Below w.heap.size w w') : Tch F w w' := ⟨h.os, h.tape, h.output, h.size, fun g hg _ => h.block g hg⟩
theorem Tch.of_grown {w w' : World} {F : List Nat} {g : Nat} (h : w.grownBy w' (some g)) (hg : g ∈ F ∨ w.heap.size ≤ g) : Tch F w w' := ⟨h.os, h.tape, h.output, h.size, fun k hk hn => h.block k hk (fun e => by
  injection e with e
  subst e
  rcases hg with h1 | h1
  · exact hn h1
  · omega)⟩
theorem Tch.mono {F G : List Nat} {w w' : World} (h : Tch F w w') (hs : ∀ g ∈ F, g ∈ G) : Tch G w w' := ⟨h.os, h.tape, h.output, h.size, fun g hg hn => h.keep g hg (fun h1 => hn (hs g h1))⟩
theorem Tch.trans {F F1 : List Nat} {w w1 w2 : World} (h : Tch F w w1) (k : Tch F1 w1 w2) (hs : Sub w F F1) : Tch F w w2 :=
  ⟨k.os.trans h.os, k.tape.trans h.tape, k.output.trans h.output, Nat.le_trans h.size k.size, fun g hg hn =>
    (k.keep g (Nat.lt_of_lt_of_le hg h.size) (fun h1 => by
      rcases hs g h1 with h2 | h2
      · exact hn h2
      · omega)).trans (h.keep g hg hn)⟩
theorem Tch.below {F : List Nat} {base : Nat} {w w' : World} (h : Tch F w w') (hu : Up base F) (hb : base ≤ w.heap.size) : Below base w w' :=
  ⟨h.os, h.tape, h.output, h.size, fun g hg => h.keep g (Nat.lt_of_lt_of_le hg hb) (fun h1 => by have := hu g h1; omega)⟩
theorem Tch.bel {F : List Nat} {a w w' : World} (h : Tch F w w') (hb : Below a.heap.size a w) (hu : Up a.heap.size F) : Below a.heap.size a w' := hb.trans (h.below hu hb.size)
theorem Tch.at_ {F : List Nat} {w w' : World} {g : Nat} {o : Obj} (h : Tch F w w') (hg : w.heap[g]? = some o) (hn : g ∉ F) : w'.heap[g]? = some o := (h.keep g (lt_at hg) hn).trans hg
theorem Tch.cell {F : List Nat} {w w' : World} {p : Addr} {v : Value} (h : Tch F w w') (hc : w.cell? p = some v) (hn : p.block ∉ F) : w'.cell? p = some v :=
  (World.cell?_of_block (h.keep p.block (World.block_lt_of_cell? w p hc) hn)).trans hc
theorem Tch.drew {F : List Nat} {w w' : World} (h : Tch F w w') : Tch F w w'.drew := ⟨h.os, h.tape, h.output, h.size, h.keep⟩

/-- A slice's block. -/
def blk : Value → List Nat
  | .slice (some a) _ _ => [a.block]
  | _ => []
/-- v is a slice of n things of k cells each; xs are its cells. -/
def RdG (k : Nat) (w : World) (v : Value) (n : Nat) (xs : List Value) : Prop :=
  xs.length = n * k ∧ ∃ A cap, v = .slice A n cap ∧ n ≤ cap ∧ cap ≤ maxLen ∧ (0 < n → ∃ b off, A = some ⟨b, off, none⟩ ∧ b < w.heap.size ∧ ∀ j u, xs[j]? = some u → w.cell? ⟨b, off + j, none⟩ = some u)
section
variable {k n : Nat} {w w' : World} {v : Value} {xs : List Value}
theorem RdG.nil_ (k : Nat) (w : World) : RdG k w (.slice none 0 0) 0 [] := ⟨by simp, none, 0, rfl, Nat.le_refl _, by simp [maxLen], fun h => absurd h (by omega)⟩
theorem RdG.tch {F : List Nat} (h : RdG k w v n xs) (ht : Tch F w w') (hn : Dis (blk v) F) : RdG k w' v n xs := by
  obtain ⟨hl, A, cap, rfl, h1, h2, h3⟩ := h
  refine ⟨hl, A, cap, rfl, h1, h2, fun h0 => ?_⟩
  obtain ⟨b, off, rfl, hlt, hc⟩ := h3 h0
  exact ⟨b, off, rfl, Nat.lt_of_lt_of_le hlt ht.size, fun j u hu => ht.cell (p := ⟨b, off + j, none⟩) (hc j u hu) (hn b (by simp [blk]))⟩
theorem RdG.below (h : RdG k w v n xs) (hb : Below w.heap.size w w') : RdG k w' v n xs := h.tch (Tch.of_below [] hb) (fun _ _ h => by cases h)
theorem RdG.drew (h : RdG k w v n xs) : RdG k w.drew v n xs := h
theorem RdG.shape (h : RdG k w v n xs) : ∃ A cap, v = .slice A n cap ∧ n ≤ cap ∧ cap ≤ maxLen := by
  obtain ⟨_, A, cap, e, h1, h2, _⟩ := h
  exact ⟨A, cap, e, h1, h2⟩
theorem RdG.at_ {A : Option Addr} {m cap : Nat} (h : RdG k w (.slice A m cap) n xs) {i : Nat} (hi : i < n) :
    ∃ b off, A = some ⟨b, off, none⟩ ∧ b < w.heap.size ∧ ∀ j u, j < k → xs[i * k + j]? = some u → w.cell? ⟨b, off + i * k + j, none⟩ = some u := by
  obtain ⟨hl, A', cap', e, _, _, h3⟩ := h
  injection e with e
  subst e
  obtain ⟨b, off, rfl, hlt, hc⟩ := h3 (by omega)
  exact ⟨b, off, rfl, hlt, fun j u _ hu => by rw [Nat.add_assoc]; exact hc _ u hu⟩
/-- One cell a thing. -/
theorem RdG.one {A : Option Addr} {m cap : Nat} (h : RdG 1 w (.slice A m cap) n xs) {i : Nat} {u : Value} (hu : xs[i]? = some u) (hi : i < n) :
    ∃ b off, A = some ⟨b, off, none⟩ ∧ w.cell? ⟨b, off + i, none⟩ = some u := by
  obtain ⟨b, off, e, _, hc⟩ := h.at_ hi
  have := hc 0 u (by omega) (by rw [Nat.mul_one, Nat.add_zero]; exact hu)
  rw [Nat.mul_one, Nat.add_zero] at this
  exact ⟨b, off, e, this⟩
/-- The first m of them. -/
theorem RdG.take {A : Option Addr} {N cap : Nat} (h : RdG k w (.slice A N cap) n xs) {m : Nat} (hm : m ≤ n) : RdG k w (.slice A m cap) m (xs.take (m * k)) := by
  obtain ⟨hl, A', cap', e, h1, h2, h3⟩ := h
  injection e with e1 e2 e3
  subst e1; subst e2; subst e3
  have hmk : m * k ≤ xs.length := by rw [hl]; exact Nat.mul_le_mul_right k hm
  refine ⟨by rw [List.length_take]; omega, A, cap, rfl, by omega, h2, fun h0 => ?_⟩
  obtain ⟨b, off, rfl, hlt, hc⟩ := h3 (by omega)
  refine ⟨b, off, rfl, hlt, fun j u hu => hc j u ?_⟩
  have hj := (List.getElem?_eq_some_iff.1 hu).1
  rw [List.length_take] at hj
  rw [List.getElem?_take_of_lt (by omega)] at hu
  exact hu
end
/-- A row of the call's own, as any slice. -/
theorem ownG_rd {k n base : Nat} {t : TypeId} {w : World} {v : Value} {xs : List Value} (h : w.ownsRow base t k v n xs) : RdG k w v n xs := by
  have hcells := @World.ownsRow.cells w base t k v n xs h
  have hlen := h.1
  rcases h.2 with ⟨rfl, hn⟩ | ⟨g, cap, cur, rfl, hb, hh, hc, hm, hs, ht⟩
  · exact ⟨hlen, none, 0, by rw [hn], by omega, by simp [maxLen], fun h0 => by omega⟩
  · refine ⟨hlen, _, cap, rfl, hc, hm, fun _ => ⟨g, 0, rfl, lt_at hh, fun j u hu => ?_⟩⟩
    have := hcells (g := g) rfl j u hu
    rw [addr_add] at this
    exact this
theorem ownG_blk {k n base : Nat} {t : TypeId} {w : World} {v : Value} {xs : List Value} (h : w.ownsRow base t k v n xs) : ∀ g ∈ blk v, base ≤ g ∧ g < w.heap.size ∧ v.ownBlock = some g := by
  rcases h.2 with ⟨rfl, hn⟩ | ⟨g, cap, cur, rfl, hb, hh, hc, hm, hs, ht⟩
  · intro g hg; simp [blk] at hg
  · intro g' hg
    simp only [blk, List.mem_singleton] at hg
    subst hg
    exact ⟨hb, lt_at hh, rfl⟩
theorem RdG.reads {k n : Nat} {w : World} {v : Value} {xs : List Value} (h : RdG k w v n xs) : ∃ A cap, v = .slice A n cap ∧ Reads w w.heap.size k A n xs := by
  obtain ⟨hl, A, cap, rfl, h1, h2, h3⟩ := h
  refine ⟨A, cap, rfl, hl, fun h0 => ?_⟩
  obtain ⟨b, off, rfl, hlt, hc⟩ := h3 h0
  exact ⟨_, rfl, hlt, fun j u hu => by rw [addr_add]; exact hc j u hu⟩
end Go.Proofs.YtocjhpaackccpaaGreatDoor

namespace Go.Proofs.YtocjhpaackccpaaGreatDoor
open Go.RowKit

/-- A thing: what is said of a world, of the blocks that are the thing's. -/
abbrev Obj := World → List Nat → Prop
structure Stab (R : Obj) : Prop where
  in_ : ∀ {w : World} {F : List Nat}, R w F → In w F
  tch : ∀ {w w' : World} {F G : List Nat}, R w F → Tch G w w' → Dis F G → R w' F
/-- Behind a call on a thing that stood in F: R, in blocks of F and new ones; only F's blocks have turned. -/
def Done (w : World) (F : List Nat) (R : Obj) (w' : World) : Prop := ∃ F', R w' F' ∧ Tch F w w' ∧ Sub w F F'
def Star (R K : Obj) : Obj := fun w F => ∃ F1 F2, F = F1 ++ F2 ∧ R w F1 ∧ K w F2 ∧ Dis F1 F2
theorem In.app {w : World} {F G : List Nat} (h : In w F) (k : In w G) : In w (F ++ G) := fun g hg => by
  rcases List.mem_append.1 hg with h1 | h1
  · exact h g h1
  · exact k g h1
theorem Dis.app {F G E : List Nat} (h : Dis F E) (k : Dis G E) : Dis (F ++ G) E := fun g hg => by
  rcases List.mem_append.1 hg with h1 | h1
  · exact h g h1
  · exact k g h1
theorem Dis.l {F G E : List Nat} (h : Dis (F ++ G) E) : Dis F E := fun g hg => h g (List.mem_append_left _ hg)
theorem Dis.r {F G E : List Nat} (h : Dis (F ++ G) E) : Dis G E := fun g hg => h g (List.mem_append_right _ hg)
theorem Stab.star {R K : Obj} (h : Stab R) (k : Stab K) : Stab (Star R K) where
  in_ := by
    rintro w F ⟨F1, F2, rfl, h1, h2, _⟩
    exact (h.in_ h1).app (k.in_ h2)
  tch := by
    rintro w w' F G ⟨F1, F2, rfl, h1, h2, h3⟩ ht hd
    exact ⟨F1, F2, rfl, h.tch h1 ht hd.l, k.tch h2 ht hd.r, h3⟩
theorem Stab.keep {R : Obj} (h : Stab R) {w w' : World} {F : List Nat} (hr : R w F) (hb : Below w.heap.size w w') : R w' F := h.tch hr (Tch.of_below [] hb) (fun _ _ h => by cases h)
theorem Done.of_below {w w' : World} {F : List Nat} {R : Obj} (hb : Below w.heap.size w w') (h : R w' F) : Done w F R w' := ⟨F, h, Tch.of_below F hb, Sub.refl w F⟩
theorem Done.mono {w w' : World} {F : List Nat} {R R' : Obj} (h : Done w F R w') (k : ∀ F, R w' F → R' w' F) : Done w F R' w' := by
  obtain ⟨F', h1, h2, h3⟩ := h
  exact ⟨F', k _ h1, h2, h3⟩
theorem Done.drew {w w' : World} {F : List Nat} {R : Obj} (hR : Stab R) (h : Done w F R w') : Done w F R w'.drew := by
  obtain ⟨F', h1, h2, h3⟩ := h
  exact ⟨F', hR.keep h1 (Below.refl _ _).drew, h2.drew, h3⟩
/-- A place among things. -/
structure Fr (C : Obj → Obj) : Prop where
  out : ∀ {R : Obj} {w : World} {F : List Nat}, C R w F → ∃ F1, R w F1 ∧ ∀ {w' : World} {R' : Obj}, Done w F1 R' w' → Done w F (C R') w'
theorem Fr.id_ : Fr (fun X => X) := ⟨fun h => ⟨_, h, fun k => k⟩⟩
theorem Fr.l {C : Obj → Obj} {K : Obj} (hC : Fr C) (hK : Stab K) : Fr (fun X => Star (C X) K) := ⟨by
  rintro R w F ⟨F1, F2, rfl, h1, h2, h3⟩
  obtain ⟨F0, h4, h5⟩ := hC.out h1
  refine ⟨F0, h4, fun {w' R'} k => ?_⟩
  obtain ⟨F1', k1, k2, k3⟩ := h5 k
  refine ⟨F1' ++ F2, ⟨F1', F2, rfl, k1, hK.tch h2 k2 h3.symm, h3.sub k3 (hK.in_ h2)⟩, k2.mono (fun g hg => List.mem_append_left _ hg), fun g hg => ?_⟩
  rcases List.mem_append.1 hg with h6 | h6
  · rcases k3 g h6 with h7 | h7
    · exact .inl (List.mem_append_left _ h7)
    · exact .inr h7
  · exact .inl (List.mem_append_right _ h6)⟩
theorem Fr.r {C : Obj → Obj} {K : Obj} (hK : Stab K) (hC : Fr C) : Fr (fun X => Star K (C X)) := ⟨by
  rintro R w F ⟨F1, F2, rfl, h1, h2, h3⟩
  obtain ⟨F0, h4, h5⟩ := hC.out h2
  refine ⟨F0, h4, fun {w' R'} k => ?_⟩
  obtain ⟨F2', k1, k2, k3⟩ := h5 k
  refine ⟨F1 ++ F2', ⟨F1, F2', rfl, hK.tch h1 k2 h3, k1, (h3.symm.sub k3 (hK.in_ h1)).symm⟩, k2.mono (fun g hg => List.mem_append_right _ hg), fun g hg => ?_⟩
  rcases List.mem_append.1 hg with h6 | h6
  · exact .inl (List.mem_append_left _ h6)
  · rcases k3 g h6 with h7 | h7
    · exact .inl (List.mem_append_right _ h7)
    · exact .inr h7⟩

/-- Since w0 only new blocks have turned, and in them stands H. -/
def Sd (w0 : World) (H : Obj) (w : World) : Prop := Below w0.heap.size w0 w ∧ ∃ F, H w F ∧ Up w0.heap.size F
section
variable {w0 w w' : World} {H R K : Obj}
theorem Sd.bel0 (h : Sd w0 H w) : Below w0.heap.size w0 w := h.1
theorem Sd.size (h : Sd w0 H w) : w0.heap.size ≤ w.heap.size := h.1.size
/-- A call on the thing at C. -/
theorem Sd.upd {C : Obj → Obj} (hC : Fr C) (h : Sd w0 (C R) w) : ∃ F1, R w F1 ∧ ∀ {w' : World} {R' : Obj}, Done w F1 R' w' → Sd w0 (C R') w' := by
  obtain ⟨hb, F, hF, hu⟩ := h
  obtain ⟨F1, h1, h2⟩ := hC.out hF
  refine ⟨F1, h1, fun {w' R'} k => ?_⟩
  obtain ⟨F', k1, k2, k3⟩ := h2 k
  exact ⟨k2.bel hb hu, F', k1, hu.sub k3 hb.size⟩
theorem Sd.get {C : Obj → Obj} (hC : Fr C) (h : Sd w0 (C R) w) : ∃ F1, R w F1 := by
  obtain ⟨F1, h1, _⟩ := h.upd hC
  exact ⟨F1, h1⟩
/-- A call that leaves all things. -/
theorem Sd.keep (h : Sd w0 H w) (hH : Stab H) (hb : Below w.heap.size w w') : Sd w0 H w' := by
  obtain ⟨h1, F, hF, hu⟩ := h
  exact ⟨h1.trans (hb.mono h1.size), F, hH.keep hF hb, hu⟩
theorem Sd.drew (h : Sd w0 H w) (hH : Stab H) : Sd w0 H w.drew := h.keep hH (Below.refl _ _).drew
/-- A new thing. -/
theorem Sd.add (h : Sd w0 H w) (hH : Stab H) (hn : Done w [] R w') : Sd w0 (Star H R) w' := by
  obtain ⟨hb, F, hF, hu⟩ := h
  obtain ⟨F', k1, k2, k3⟩ := hn
  have hup : Up w.heap.size F' := fun g hg => by
    rcases k3 g hg with h1 | h1
    · cases h1
    · exact h1
  refine ⟨k2.bel hb (Up.nil_ _), F ++ F', ⟨F, F', rfl, hH.tch hF k2 (fun _ _ h => by cases h), k1, Dis.new (hH.in_ hF) hup⟩, hu.app (hup.mono hb.size)⟩
theorem Sd.first (h : Below w0.heap.size w0 w) (hn : Done w [] R w') : Sd w0 R w' := by
  obtain ⟨F', k1, k2, k3⟩ := hn
  refine ⟨k2.bel h (Up.nil_ _), F', k1, fun g hg => ?_⟩
  rcases k3 g hg with h1 | h1
  · cases h1
  · exact Nat.le_trans h.size h1
/-- The last thing is let go. -/
theorem Sd.drop (h : Sd w0 (Star H K) w) : Sd w0 H w := by
  obtain ⟨hb, F, ⟨F1, F2, rfl, h1, h2, _⟩, hu⟩ := h
  exact ⟨hb, F1, h1, fun g hg => hu g (List.mem_append_left _ hg)⟩
theorem Sd.mono (h : Sd w0 H w) (k : ∀ F, H w F → R w F) : Sd w0 R w := by
  obtain ⟨hb, F, hF, hu⟩ := h
  exact ⟨hb, F, k F hF, hu⟩
end

/-- A block with these cells. -/
def CellW (g : Nat) (cs : Array Value) (t : TypeId) : Obj := fun w F => F = [g] ∧ w.heap[g]? = some (.cells cs t (0, 0))
/-- A slice of n things of k cells each. -/
def SlW (k : Nat) (a : Value) (n : Nat) (xs : List Value) : Obj := fun w F => F = blk a ∧ In w F ∧ RdG k w a n xs
theorem CellW.stab (g : Nat) (cs : Array Value) (t : TypeId) : Stab (CellW g cs t) where
  in_ := by
    rintro w F ⟨rfl, h⟩ k hk
    simp only [List.mem_singleton] at hk
    subst hk
    exact lt_at h
  tch := by
    rintro w w' F G ⟨rfl, h⟩ ht hd
    exact ⟨rfl, ht.at_ h (hd g (by simp))⟩
theorem SlW.stab (k : Nat) (a : Value) (n : Nat) (xs : List Value) : Stab (SlW k a n xs) where
  in_ := fun ⟨_, h, _⟩ => h
  tch := by
    rintro w w' F G ⟨rfl, h1, h2⟩ ht hd
    exact ⟨rfl, h1.more ht.size, h2.tch ht hd⟩
theorem CellW.new (w : World) (cs : Array Value) (t : TypeId) : Done w [] (CellW w.heap.size cs t) (w.alloc (.cells cs t)) :=
  ⟨[w.heap.size], ⟨rfl, heap_alloc_new w _⟩, Tch.of_below [] ((Below.refl _ _).alloc (Nat.le_refl _) _), fun g hg => by
    simp only [List.mem_singleton] at hg
    exact .inr (Nat.le_of_eq hg.symm)⟩
theorem CellW.put {g : Nat} {cs cs' : Array Value} {t : TypeId} {w w' : World} {F : List Nat} (h : CellW g cs t w F) (hg : w.grownBy w' (some g)) (hh : w'.heap[g]? = some (.cells cs' t (0, 0))) : Done w F (CellW g cs' t) w' := by
  obtain ⟨rfl, h⟩ := h
  exact ⟨[g], ⟨rfl, hh⟩, Tch.of_grown hg (.inl (by simp)), Sub.refl _ _⟩
theorem SlW.shape {k n : Nat} {a : Value} {xs : List Value} {w : World} {F : List Nat} (h : SlW k a n xs w F) : ∃ A cap, a = .slice A n cap ∧ n ≤ cap ∧ cap ≤ maxLen := h.2.2.shape
theorem SlW.addr {k n : Nat} {a : Value} {xs : List Value} {w : World} {F : List Nat} (h : SlW k a n xs w F) (hn : 0 < n) : ∃ b off cap, a = .slice (some ⟨b, off, none⟩) n cap ∧ n ≤ cap ∧ cap ≤ maxLen := by
  obtain ⟨_, _, hl, A, cap, rfl, h1, h2, h3⟩ := h
  obtain ⟨b, off, rfl, _, _⟩ := h3 hn
  exact ⟨b, off, cap, rfl, h1, h2⟩
theorem SlW.cell {k n m b off cap : Nat} {xs : List Value} {w : World} {F : List Nat} (h : SlW k (.slice (some ⟨b, off, none⟩) m cap) n xs w F) {j : Nat} {u : Value} (hu : xs[j]? = some u) : w.cell? ⟨b, off + j, none⟩ = some u := by
  obtain ⟨_, _, hl, A, cap, e, h1, h2, h3⟩ := h
  injection e with e
  subst e
  have hj := (List.getElem?_eq_some_iff.1 hu).1
  obtain ⟨b', off', e', _, hc⟩ := h3 (by
    rcases Nat.eq_zero_or_pos n with h0 | h0
    · subst h0; rw [hl] at hj; omega
    · exact h0)
  injection e' with e'
  injection e' with e1 e2
  subst e1; subst e2
  exact hc j u hu
/-- A contract on the thing at C. -/
theorem calls_at {P : Program} {f : FuncId} {args : Array Value} {ret : Value} {w0 w : World} {C : Obj → Obj} {R R' : Obj} (hC : Fr C) (h : Sd w0 (C R) w)
    (hc : ∀ F, R w F → Calls P f args w fun e w' => e = .returned ret ∧ Done w F R' w') : Calls P f args w fun e w' => e = .returned ret ∧ Sd w0 (C R') w' := by
  obtain ⟨F1, h1, h2⟩ := h.upd hC
  exact (hc F1 h1).mono fun e w' ⟨he, hd⟩ => ⟨he, h2 hd⟩
/-- A contract that leaves all. -/
theorem calls_keep {P : Program} {f : FuncId} {args : Array Value} {ret : Value} {w0 w : World} {H : Obj} (hH : Stab H) (h : Sd w0 H w)
    (hc : Calls P f args w fun e w' => e = .returned ret ∧ Below w.heap.size w w') : Calls P f args w fun e w' => e = .returned ret ∧ Sd w0 H w' :=
  hc.mono fun _ _ ⟨he, hb⟩ => ⟨he, h.keep hH hb⟩
/-- A contract on the thing at C that leaves all. -/
theorem calls_look {P : Program} {f : FuncId} {args : Array Value} {ret : Value} {w0 w : World} {C : Obj → Obj} {R : Obj} (hC : Fr C) (hH : Stab (C R)) (h : Sd w0 (C R) w)
    (hc : ∀ F, R w F → Calls P f args w fun e w' => e = .returned ret ∧ Below w.heap.size w w') : Calls P f args w fun e w' => e = .returned ret ∧ Sd w0 (C R) w' := by
  obtain ⟨F1, h1⟩ := h.get hC
  exact calls_keep hH h (hc F1 h1)
end Go.Proofs.YtocjhpaackccpaaGreatDoor

namespace Go.Proofs.YtocjhpaackccpaaGreatDoor
open Go.RowKit

def ints (l : List Int) : List Value := l.map (Value.int .i64)
def strg (l : List ByteArray) : List Value := l.map Value.string
/-- A plain frame's cells. -/
def pcs (p : PIn) : List Value := [.int .i64 p.seat, .int .i64 p.count, .bool p.cmd, .int .i64 p.kind, .int .i64 p.sort, .int .i64 p.nr, .int .i64 p.ns, .bool p.pf, .string p.body]
def plcs (l : List PIn) : List Value := l.flatMap pcs
end Go.Proofs.YtocjhpaackccpaaGreatDoor

namespace Go.Proofs.YtocjhpaackccpaaGreatDoor
open Go.RowKit M

section
variable {w0 w w' : World} {F0 : List Nat} {H R K : Obj}
theorem Done.start {F : List Nat} (h : H w F) : Done w F H w := ⟨F, h, Tch.refl _ _, Sub.refl _ _⟩
theorem Done.bel {w0 w : World} {H : Obj} (h : Done w0 [] H w) : Below w0.heap.size w0 w := by
  obtain ⟨F, _, ht, _⟩ := h
  exact ht.below (Up.nil_ _) (Nat.le_refl _)
theorem Done.size (h : Done w0 F0 H w) : w0.heap.size ≤ w.heap.size := by
  obtain ⟨F, _, ht, _⟩ := h
  exact ht.size
theorem Done.tch (h : Done w0 F0 H w) : Tch F0 w0 w := by
  obtain ⟨F, _, ht, _⟩ := h
  exact ht
/-- A call on the thing at C. -/
theorem Done.upd {C : Obj → Obj} (hC : Fr C) (h : Done w0 F0 (C R) w) : ∃ F1, R w F1 ∧ ∀ {w' : World} {R' : Obj}, Done w F1 R' w' → Done w0 F0 (C R') w' := by
  obtain ⟨F, hF, ht, hs⟩ := h
  obtain ⟨F1, h1, h2⟩ := hC.out hF
  refine ⟨F1, h1, fun {w' R'} k => ?_⟩
  obtain ⟨F', k1, k2, k3⟩ := h2 k
  exact ⟨F', k1, ht.trans k2 hs, hs.trans k3 ht.size⟩
theorem Done.get {C : Obj → Obj} (hC : Fr C) (h : Done w0 F0 (C R) w) : ∃ F1, R w F1 := by
  obtain ⟨F1, h1, _⟩ := h.upd hC
  exact ⟨F1, h1⟩
theorem Done.keep (h : Done w0 F0 H w) (hH : Stab H) (hb : Below w.heap.size w w') : Done w0 F0 H w' := by
  obtain ⟨F, hF, ht, hs⟩ := h
  exact ⟨F, hH.keep hF hb, ht.trans (Tch.of_below F hb) hs, hs⟩
theorem Done.drewD (h : Done w0 F0 H w) (hH : Stab H) : Done w0 F0 H w.drew := h.keep hH (Below.refl _ _).drew
/-- A new thing. -/
theorem Done.add (h : Done w0 F0 H w) (hH : Stab H) (hn : Done w [] R w') : Done w0 F0 (Star H R) w' := by
  obtain ⟨F, hF, ht, hs⟩ := h
  obtain ⟨F', k1, k2, k3⟩ := hn
  have hup : Up w.heap.size F' := fun g hg => by
    rcases k3 g hg with h1 | h1
    · cases h1
    · exact h1
  refine ⟨F ++ F', ⟨F, F', rfl, hH.tch hF k2 (fun _ _ h => by cases h), k1, Dis.new (hH.in_ hF) hup⟩, ht.trans (k2.mono (fun _ h => by cases h)) hs, fun g hg => ?_⟩
  rcases List.mem_append.1 hg with h1 | h1
  · exact hs g h1
  · exact .inr (Nat.le_trans ht.size (hup g h1))
theorem Done.drop (h : Done w0 F0 (Star H K) w) : Done w0 F0 H w := by
  obtain ⟨F, ⟨F1, F2, rfl, h1, h2, _⟩, ht, hs⟩ := h
  exact ⟨F1, h1, ht, fun g hg => hs g (List.mem_append_left _ hg)⟩
theorem Done.drop_at {C : Obj → Obj} (hC : Fr C) (h : Done w0 F0 (C (Star H K)) w) : Done w0 F0 (C H) w := by
  obtain ⟨F, ⟨F1, F2, rfl, h1, _, _⟩, hu⟩ := h.upd hC
  exact hu ⟨F1, h1, Tch.refl _ _, fun g hg => .inl (List.mem_append_left _ hg)⟩
theorem Done.assoc_at {A B D : Obj} {C : Obj → Obj} (hC : Fr C) (h : Done w0 F0 (C (Star (Star A B) D)) w) : Done w0 F0 (C (Star A (Star B D))) w := by
  obtain ⟨F, ⟨F1, F2, rfl, ⟨F3, F4, rfl, h1, h2, h4⟩, h3, h5⟩, hu⟩ := h.upd hC
  refine hu ⟨F3 ++ (F4 ++ F2), ⟨F3, F4 ++ F2, rfl, h1, ⟨F4, F2, rfl, h2, h3, h5.r⟩, ?_⟩, Tch.refl _ _, fun g hg => .inl (by simpa [List.append_assoc] using hg)⟩
  intro g hg hg'
  rcases List.mem_append.1 hg' with h6 | h6
  · exact h4 g hg h6
  · exact h5 g (List.mem_append_left _ hg) h6
theorem Done.drop_mid {A B : Obj} (h : Done w0 F0 (Star (Star A B) K) w) : Done w0 F0 (Star A K) w := by
  obtain ⟨F, ⟨F1, F2, rfl, ⟨F3, F4, rfl, h1, h2, h4⟩, h3, h5⟩, ht, hs⟩ := h
  refine ⟨F3 ++ F2, ⟨F3, F2, rfl, h1, h3, h5.l⟩, ht, fun g hg => hs g ?_⟩
  rcases List.mem_append.1 hg with h6 | h6
  · exact List.mem_append_left _ (List.mem_append_left _ h6)
  · exact List.mem_append_right _ h6
theorem Done.comm_at {C : Obj → Obj} {A B : Obj} (hC : Fr C) (h : Done w0 F0 (C (Star A B)) w) : Done w0 F0 (C (Star B A)) w := by
  obtain ⟨F, ⟨F1, F2, rfl, h1, h2, h3⟩, hu⟩ := h.upd hC
  refine hu ⟨F2 ++ F1, ⟨F2, F1, rfl, h2, h1, h3.symm⟩, Tch.refl _ _, fun g hg => .inl ?_⟩
  rcases List.mem_append.1 hg with h4 | h4
  · exact List.mem_append_right _ h4
  · exact List.mem_append_left _ h4
theorem Done.unassoc_at {A B D : Obj} {C : Obj → Obj} (hC : Fr C) (h : Done w0 F0 (C (Star A (Star B D))) w) : Done w0 F0 (C (Star (Star A B) D)) w := by
  obtain ⟨F, ⟨F1, F2, rfl, h1, ⟨F3, F4, rfl, h2, h3, h4⟩, h5⟩, hu⟩ := h.upd hC
  refine hu ⟨(F1 ++ F3) ++ F4, ⟨F1 ++ F3, F4, rfl, ⟨F1, F3, rfl, h1, h2, fun g hg hg' => h5 g hg (List.mem_append_left _ hg')⟩, h3, ?_⟩, Tch.refl _ _, fun g hg => .inl (by simpa [List.append_assoc] using hg)⟩
  intro g hg hg'
  rcases List.mem_append.1 hg with h6 | h6
  · exact h5 g h6 (List.mem_append_right _ hg')
  · exact h4 g h6 hg'
theorem Done.mono_at {C : Obj → Obj} (hC : Fr C) (h : Done w0 F0 (C H) w) (k : ∀ F, H w F → K w F) : Done w0 F0 (C K) w := by
  obtain ⟨F, h1, hu⟩ := h.upd hC
  exact hu ⟨F, k F h1, Tch.refl _ _, Sub.refl _ _⟩
theorem Done.at_ {C : Obj → Obj} {g : Nat} {cs : Array Value} {t : TypeId} (hC : Fr C) (h : Done w0 F0 (C (CellW g cs t)) w) : w.heap[g]? = some (.cells cs t (0, 0)) := by
  obtain ⟨_, -, h1⟩ := h.get hC
  exact h1
theorem Done.put_ {C : Obj → Obj} {g : Nat} {cs cs' : Array Value} {t : TypeId} (hC : Fr C) (h : Done w0 F0 (C (CellW g cs t)) w) (hg : w.grownBy w' (some g)) (hh : w'.heap[g]? = some (.cells cs' t (0, 0))) : Done w0 F0 (C (CellW g cs' t)) w' := by
  obtain ⟨F, hF, hu⟩ := h.upd hC
  exact hu (hF.put hg hh)
end
/-- A contract on the thing at C. -/
theorem dcalls_at {P : Program} {f : FuncId} {args : Array Value} {ret : Value} {w0 w : World} {F0 : List Nat} {C : Obj → Obj} {R R' : Obj} (hC : Fr C) (h : Done w0 F0 (C R) w)
    (hc : ∀ F, R w F → Calls P f args w fun e w' => e = .returned ret ∧ Done w F R' w') : Calls P f args w fun e w' => e = .returned ret ∧ Done w0 F0 (C R') w' := by
  obtain ⟨F1, h1, h2⟩ := h.upd hC
  exact (hc F1 h1).mono fun e w' ⟨he, hd⟩ => ⟨he, h2 hd⟩
/-- A contract that leaves all. -/
theorem dcalls_keep {P : Program} {f : FuncId} {args : Array Value} {ret : Value} {w0 w : World} {F0 : List Nat} {H : Obj} (hH : Stab H) (h : Done w0 F0 H w)
    (hc : Calls P f args w fun e w' => e = .returned ret ∧ Below w.heap.size w w') : Calls P f args w fun e w' => e = .returned ret ∧ Done w0 F0 H w' :=
  hc.mono fun _ _ ⟨he, hb⟩ => ⟨he, h.keep hH hb⟩
section
variable {P : Program} {ops : Array Oper} {rest : List Oper} {o : Oper} {a : Act} {w0 w : World} {F0 : List Nat} {Q : Exit → Act → World → Prop} {C : Obj → Obj} {g : Nat} {cs : Array Value} {t : TypeId}
/-- One cell stored. -/
theorem wpList_storeD (hC : Fr C) (h : Done w0 F0 (C (CellW g cs t)) w) (hgd : o.guard = none) (ty : TypeId) (x y : Operand) (ho : o.op = .store ty x y) (k : Nat) (v : Value) (hx : a.eval x = .pointer (some ⟨g, k, none⟩)) (hy : a.eval y = v) (hk : k < cs.size)
    (hrun : ∀ w, (∃ u, w.cell? ⟨g, k, none⟩ = some u) → w.frozen? ⟨g, k, none⟩ = false → (Instr.storeAt ty (.pointer (some ⟨g, k, none⟩)) v).run P w = .ok () (w.setCell ⟨g, k, none⟩ v))
    (hn : ∀ w', Done w0 F0 (C (CellW g (cs.setIfInBounds k v) t)) w' → wpList P ops Q rest (a.put o.dst undef) w') : wpList P ops Q (o :: rest) a w :=
  wpList_store1 hgd ty x y ho g k v hx hy t cs (h.at_ hC) hk hrun (fun w' hg hh => hn w' (h.put_ hC hg hh))
/-- A whole struct stored. -/
theorem wpList_storeBD (hC : Fr C) (h : Done w0 F0 (C (CellW g cs t)) w) (hgd : o.guard = none) (ty : TypeId) (x y : Operand) (ho : o.op = .store ty x y) (cells : Array Value) (hx : a.eval x = .pointer (some ⟨g, 0, none⟩)) (hy : a.eval y = .agg cells)
    (hsz : (P.info? ty).map (·.size) = some cells.size) (hold : cs.size = cells.size) (h1 : cells.all (·.oneCell') = true)
    (hn : ∀ w', Done w0 F0 (C (CellW g cells t)) w' → wpList P ops Q rest (a.put o.dst undef) w') : wpList P ops Q (o :: rest) a w :=
  wpList_storeB hgd ty x y ho g cells hx hy t cs (h.at_ hC) hsz hold h1 (fun w' hg _ hh => hn w' (h.put_ hC hg hh))
/-- A whole struct loaded. -/
theorem wpList_loadD (hC : Fr C) (h : Done w0 F0 (C (CellW g cs t)) w) (hgd : o.guard = none) (ty : TypeId) (x : Operand) (ho : o.op = .load ty x) (hx : a.eval x = .pointer (some ⟨g, 0, none⟩)) (d : TypeDesc)
    (hu : P.underlying ty = some d) (hd : (match d with | .struct _ | .array _ _ => true | _ => false) = true) (hi : (P.info? ty).map (·.size) = some cs.size)
    (hn : wpList P ops Q rest (a.put o.dst (.agg cs)) w) : wpList P ops Q (o :: rest) a w :=
  wpList_loadB hgd ty x ho g hx t cs (h.at_ hC) d hu hd hi hn
end
theorem run_storeI (n : Int) (g k : Nat) : ∀ w : World, (∃ u, w.cell? ⟨g, k, none⟩ = some u) → w.frozen? ⟨g, k, none⟩ = false → (Instr.storeAt 3 (.pointer (some ⟨g, k, none⟩)) (.int .i64 n)).run Tryz.prog w = .ok () (w.setCell ⟨g, k, none⟩ (.int .i64 n)) := by
  rintro w ⟨u, hu⟩ hf
  go_simp
theorem run_storeBo (b : Bool) (g k : Nat) : ∀ w : World, (∃ u, w.cell? ⟨g, k, none⟩ = some u) → w.frozen? ⟨g, k, none⟩ = false → (Instr.storeAt 4 (.pointer (some ⟨g, k, none⟩)) (.bool b)).run Tryz.prog w = .ok () (w.setCell ⟨g, k, none⟩ (.bool b)) := by
  rintro w ⟨u, hu⟩ hf
  go_simp
theorem run_storeS (A : Option Addr) (n c g k : Nat) : ∀ w : World, (∃ u, w.cell? ⟨g, k, none⟩ = some u) → w.frozen? ⟨g, k, none⟩ = false → (Instr.storeAt 59 (.pointer (some ⟨g, k, none⟩)) (.slice A n c)).run Tryz.prog w = .ok () (w.setCell ⟨g, k, none⟩ (.slice A n c)) := by
  rintro w ⟨u, hu⟩ hf
  go_simp
end Go.Proofs.YtocjhpaackccpaaGreatDoor

namespace Go.Proofs.YtocjhpaackccpaaGreatDoor
open Go.RowKit M

/-- v owns a row of n things of type e, k cells each: xs. -/
def OwnK (e : TypeId) (k : Nat) (v : Value) (n : Nat) (xs : List Value) : Obj := fun w F => F = blk v ∧ w.ownsRow 0 e k v n xs
section
variable {e : TypeId} {k : Nat} {v v' : Value} {n m : Nat} {xs ys : List Value} {w w' : World} {F : List Nat}
theorem blk_own (v : Value) (g : Nat) : g ∈ blk v ↔ v.ownBlock = some g := by
  unfold blk Value.ownBlock
  cases v with
  | slice a n c => cases a with
    | none => simp
    | some a => simp [eq_comm]
  | _ => simp
theorem ownsRow_keep {base : Nat} (h : w.ownsRow base e k v n xs) (hk : ∀ g ∈ blk v, w'.heap[g]? = w.heap[g]?) : w'.ownsRow base e k v n xs := by
  refine ⟨h.1, ?_⟩
  rcases h.2 with h0 | ⟨g, cap, cur, rfl, hb, hg, h3⟩
  · exact .inl h0
  · exact .inr ⟨g, cap, cur, rfl, hb, (hk g (by simp [blk])).trans hg, h3⟩
theorem OwnK.stab (e : TypeId) (k : Nat) (v : Value) (n : Nat) (xs : List Value) : Stab (OwnK e k v n xs) where
  in_ := by
    rintro w F ⟨rfl, h⟩ g hg
    exact (h.lt g ((blk_own v g).1 hg)).2
  tch := by
    rintro w w' F G ⟨rfl, h⟩ ht hd
    exact ⟨rfl, ownsRow_keep h fun g hg => ht.keep g (h.lt g ((blk_own v g).1 hg)).2 (hd g hg)⟩
theorem OwnK.nil_ (e : TypeId) (k : Nat) (w : World) : OwnK e k (.slice none 0 0) 0 [] w [] := ⟨rfl, World.ownsRow_nil w 0 e k⟩
theorem OwnK.nilD (e : TypeId) (k : Nat) (w : World) : Done w [] (OwnK e k (.slice none 0 0) 0 []) w := ⟨[], OwnK.nil_ e k w, Tch.refl _ _, fun g h => .inl h⟩
/-- What an append leaves. -/
theorem OwnK.grown (h : OwnK e k v n xs w F) (ho : w'.ownsRow 0 e k v' m ys) (hg : w.grownBy w' v.ownBlock) (hat : v'.ownBlock = v.ownBlock ∨ v'.ownBlock = some w.heap.size) : Done w F (OwnK e k v' m ys) w' := by
  obtain ⟨rfl, hr⟩ := h
  refine ⟨blk v', ⟨rfl, ho⟩, ⟨hg.os, hg.tape, hg.output, hg.size, fun g hl hn => hg.block g hl (fun e' => hn ((blk_own v g).2 e'.symm))⟩, fun g hg' => ?_⟩
  have h1 := (blk_own v' g).1 hg'
  rcases hat with h2 | h2
  · exact .inl ((blk_own v g).2 (by rw [← h2]; exact h1))
  · rw [h2] at h1
    injection h1 with h1
    exact .inr (by omega)
theorem own_shape {base : Nat} (h : w.ownsRow base e k v n xs) : ∃ A cap, v = .slice A n cap ∧ n ≤ cap ∧ cap ≤ maxLen := by
  rcases h.2 with ⟨rfl, rfl⟩ | ⟨g, cap, cur, rfl, _, _, h1, h2, _⟩
  · exact ⟨none, 0, rfl, Nat.le_refl _, by simp [maxLen]⟩
  · exact ⟨_, cap, rfl, h1, h2⟩
theorem OwnK.shape (h : OwnK e k v n xs w F) : ∃ A cap, v = .slice A n cap ∧ n ≤ cap ∧ cap ≤ maxLen := own_shape h.2
theorem OwnK.rd (h : OwnK e k v n xs w F) : RdG k w v n xs := ownG_rd h.2
theorem OwnK.sl (h : OwnK e k v n xs w F) : SlW k v n xs w F := by
  obtain ⟨rfl, hr⟩ := h
  exact ⟨rfl, fun g hg => (hr.lt g ((blk_own v g).1 hg)).2, ownG_rd hr⟩
/-- Its block, known whole. -/
theorem OwnK.whole {A : Option Addr} {c : Nat} (h : OwnK e k (.slice A n c) n xs w F) (hn : 0 < n) : ∃ g, A = some ⟨g, 0, none⟩ ∧ F = [g] ∧ ∃ cur, w.heap[g]? = some (.cells cur e (0, 0)) ∧ cur.size = c * k ∧ cur.toList.take (n * k) = xs ∧ n ≤ c ∧ c ≤ maxLen := by
  obtain ⟨rfl, hl, hr⟩ := h
  rcases hr with ⟨_, h0⟩ | ⟨g, cap, cur, e1, _, h1, h2, h3, h4, h5⟩
  · omega
  · injection e1 with e1 e2 e3
    subst e1; subst e3
    exact ⟨g, rfl, rfl, cur, h1, h4, h5, h2, h3⟩
theorem OwnK.cell {g c : Nat} (h : OwnK e k (.slice (some ⟨g, 0, none⟩) n c) n xs w F) {i : Nat} {u : Value} (hu : xs[i]? = some u) : w.cell? ⟨g, i, none⟩ = some u := by
  have := h.2.cells (g := g) rfl i u hu
  rw [addr_add, Nat.zero_add] at this
  exact this
/-- One cell of it set. -/
theorem OwnK.set {g c : Nat} (h : OwnK e k (.slice (some ⟨g, 0, none⟩) n c) n xs w F) {i : Nat} (hi : i < xs.length) (u : Value) (hg : w.grownBy w' (some g)) (hh : ∀ cur, w.heap[g]? = some (.cells cur e (0, 0)) → w'.heap[g]? = some (.cells (cur.setIfInBounds i u) e (0, 0))) :
    Done w F (OwnK e k (.slice (some ⟨g, 0, none⟩) n c) n (xs.set i u)) w' := by
  have hl := h.2.1
  have hn : 0 < n := by
    rcases Nat.eq_zero_or_pos n with h0 | h0
    · subst h0; rw [hl] at hi; omega
    · exact h0
  obtain ⟨g', e1, rfl, cur, h1, h2, h3, h4, h5⟩ := h.whole hn
  injection e1 with e1
  injection e1 with e1
  subst e1
  refine ⟨[g], ⟨rfl, by rw [List.length_set]; exact hl, .inr ⟨g, c, cur.setIfInBounds i u, rfl, Nat.zero_le _, hh cur h1, h4, h5, by rw [Array.size_setIfInBounds]; exact h2, ?_⟩⟩, Tch.of_grown hg (.inl (by simp)), Sub.refl _ _⟩
  rw [Array.toList_setIfInBounds, List.take_set, h3]
end

/-- A block as a row of one thing. -/
theorem rdG_new {k : Nat} {w : World} {g : Nat} {cs : Array Value} {t : TypeId} (hg : w.heap[g]? = some (.cells cs t (0, 0))) (hk : cs.size = k) : RdG k w (.slice (some ⟨g, 0, none⟩) 1 1) 1 cs.toList :=
  ⟨by simp [hk], some ⟨g, 0, none⟩, 1, rfl, Nat.le_refl _, by simp [maxLen], fun _ => ⟨g, 0, rfl, lt_at hg, fun j u hu => by
    rw [Nat.zero_add]
    exact cell_at hg j u (by simpa using hu)⟩⟩
/-- From the j-th thing on. -/
theorem RdG.from_ {k : Nat} {w : World} {A : Option Addr} {n m cap : Nat} {xs : List Value} (h : RdG k w (.slice A m cap) n xs) {j : Nat} (hj : j ≤ n) (B : Option Addr) (hB : j < n → ∀ b off, A = some ⟨b, off, none⟩ → B = some ⟨b, off + j * k, none⟩) : RdG k w (.slice B (n - j) (cap - j)) (n - j) (xs.drop (j * k)) := by
  obtain ⟨hl, A', cap', e, h1, h2, h3⟩ := h
  injection e with e1 e2 e3
  subst e1; subst e2; subst e3
  refine ⟨by rw [List.length_drop, hl, Nat.sub_mul], B, cap - j, rfl, by omega, by omega, fun h0 => ?_⟩
  obtain ⟨b, off, rfl, hlt, hc⟩ := h3 (by omega)
  refine ⟨b, off + j * k, hB (by omega) b off rfl, hlt, fun i u hu => ?_⟩
  rw [List.getElem?_drop] at hu
  rw [Nat.add_assoc]
  exact hc _ u hu
theorem strg_one (l : List ByteArray) : ∀ y ∈ strg l, y.oneCell' = true := by
  intro y hy
  simp only [strg, List.mem_map] at hy
  obtain ⟨x, _, rfl⟩ := hy
  rfl
theorem own_form {base : Nat} {e : TypeId} {k n cap : Nat} {A : Option Addr} {xs : List Value} {w : World} (h : w.ownsRow base e k (.slice A n cap) n xs) : (n = 0 ∧ cap = 0 ∧ A = none) ∨ ∃ b, A = some ⟨b, 0, none⟩ := by
  rcases h.2 with ⟨h1, h2⟩ | ⟨g, c, cur, h1, _⟩
  · injection h1 with h1 h3 h4
    exact .inl ⟨h2, h4, h1⟩
  · injection h1 with h1
    exact .inr ⟨g, h1⟩
theorem region_shared6 {P : Program} {id : Nat} {ops : Array Oper} {a : Act} {w : World} {Q : Exit → Act → World → Prop} (F : Option Addr → Nat → Option Addr → Nat → Nat → Nat → World → Prop) (A : Option Addr → Nat → Option Addr → Nat → Nat → Nat → Act) (hcont : ∀ A1 c1 A2 c2 g1 g2 w5, F A1 c1 A2 c2 g1 g2 w5 → Q .normal (A A1 c1 A2 c2 g1 g2) w5)
    (h : (∀ A1 c1 A2 c2 g1 g2 w5, F A1 c1 A2 c2 g1 g2 w5 → Q .normal (A A1 c1 A2 c2 g1 g2) w5) → (Code.region id ops true).wp P Q a w) : (Code.region id ops true).wp P Q a w := h hcont

section
variable {ops : Array Oper} {rest : List Oper} {o : Oper} {a : Act} {w0 w : World} {F0 : List Nat} {Q : Exit → Act → World → Prop} {C : Obj → Obj} {e : TypeId} {k n : Nat} {v : Value} {xs : List Value}
/-- append onto the row at C. -/
theorem wp_appD {K : Act → World → Prop} (hC : Fr C) (h : Done w0 F0 (C (OwnK e k v n xs)) w) (s x : Operand) (t : TypeId) (bytes : Nat) (z : Value)
    (ho : o.op = .call { callee := .builtin .append, args := #[s, x], argTypes := #[t, t] })
    (hu : Tryz.prog.underlying t = some (.slice e)) (hin : (Tryz.prog.info? e).map (fun i => (i.zero, i.size, i.bytes)) = some (some z, k, bytes)) (hzs : z.cells.size = k) (hk : 0 < k ∧ bytes ≤ 1000)
    (u : Value) (m : Nat) (ys : List Value) (hs : a.eval s = v) (hx : a.eval x = u) (hr : RdG k w u m ys) (h1 : ∀ y ∈ ys, y.oneCell' = true) (n' : Nat) (hn' : n' = n + m) (hlen : n' ≤ 1000000) (xs' : List Value) (hxs : xs' = xs ++ ys)
    (hn : ∀ A c w', Done w0 F0 (C (OwnK e k (.slice A n' c) n' xs')) w' → (n' ≤ c ∧ c ≤ maxLen) → K (a.put o.dst (.slice A n' c)) w') : o.wp Tryz.prog a w K Q := by
  subst hn'; subst hxs
  obtain ⟨F, hF, hup⟩ := h.upd hC
  obtain ⟨i0, hi, hz0, hz1, hz2⟩ := info_parts hin
  obtain ⟨A, cap, rfl, hreads⟩ := hr.reads
  refine wp_append_any w s x t ho 0 e i0 z k bytes hu hi hz0 hz1 hz2 hzs hk.1 v n xs hs hF.2 w.heap.size A m cap ys hx hreads h1 (by simp only [maxLen]; omega) ?_ (Nat.zero_le _) ?_
  · have := Nat.mul_le_mul hlen hk.2
    omega
  · intro v' w' ho' hg' hat'
    obtain ⟨A, c, rfl, hc⟩ := own_shape ho'
    exact hn A c w' (hup (hF.grown ho' hg' hat')) hc
theorem wpList_appD (hC : Fr C) (h : Done w0 F0 (C (OwnK e k v n xs)) w) (hgd : o.guard = none) (s x : Operand) (t : TypeId) (bytes : Nat) (z : Value)
    (ho : o.op = .call { callee := .builtin .append, args := #[s, x], argTypes := #[t, t] })
    (hu : Tryz.prog.underlying t = some (.slice e)) (hin : (Tryz.prog.info? e).map (fun i => (i.zero, i.size, i.bytes)) = some (some z, k, bytes)) (hzs : z.cells.size = k) (hk : 0 < k ∧ bytes ≤ 1000)
    (u : Value) (m : Nat) (ys : List Value) (hs : a.eval s = v) (hx : a.eval x = u) (hr : RdG k w u m ys) (h1 : ∀ y ∈ ys, y.oneCell' = true) (n' : Nat) (hn' : n' = n + m) (hlen : n' ≤ 1000000) (xs' : List Value) (hxs : xs' = xs ++ ys)
    (hn : ∀ A c w', Done w0 F0 (C (OwnK e k (.slice A n' c) n' xs')) w' → (n' ≤ c ∧ c ≤ maxLen) → wpList Tryz.prog ops Q rest (a.put o.dst (.slice A n' c)) w') : wpList Tryz.prog ops Q (o :: rest) a w :=
  wpList_plain hgd fun _ hK => wp_appD hC h s x t bytes z ho hu hin hzs hk u m ys hs hx hr h1 n' hn' hlen xs' hxs fun A c w' h1 h2 => hK _ _ (hn A c w' h1 h2)
theorem rests_appD {S : World → Prop} {fuel : Nat} {listed : Array Bool} (i : Nat) {oi : Oper} (hi : ops[i]? = some oi) (hrd : Region.ready .any ops listed = [i]) (hw : Region.wanted oi (yielded ops a.tmps) = true)
    (hC : Fr C) (h : Done w0 F0 (C (OwnK e k v n xs)) w) (s x : Operand) (t : TypeId) (bytes : Nat) (z : Value)
    (ho : oi.op = .call { callee := .builtin .append, args := #[s, x], argTypes := #[t, t] })
    (hu : Tryz.prog.underlying t = some (.slice e)) (hin : (Tryz.prog.info? e).map (fun i => (i.zero, i.size, i.bytes)) = some (some z, k, bytes)) (hzs : z.cells.size = k) (hk : 0 < k ∧ bytes ≤ 1000)
    (u : Value) (m : Nat) (ys : List Value) (hs : a.eval s = v) (hx : a.eval x = u) (hr : RdG k w u m ys) (h1 : ∀ y ∈ ys, y.oneCell' = true) (n' : Nat) (hn' : n' = n + m) (hlen : n' ≤ 1000000) (xs' : List Value) (hxs : xs' = xs ++ ys)
    (hn : ∀ A c w', Done w0 F0 (C (OwnK e k (.slice A n' c) n' xs')) w' → (n' ≤ c ∧ c ≤ maxLen) → S w' ∧ RestS S Tryz.prog ops Q fuel (listed.setIfInBounds i true) (a.put oi.dst (.slice A n' c)) w') : RestS S Tryz.prog ops Q (fuel + 1) listed a w :=
  rests_step i hi hrd hw (wp_appD hC h s x t bytes z ho hu hin hzs hk u m ys hs hx hr h1 n' hn' hlen xs' hxs hn)
/-- One cell of the row at C stored. -/
theorem wpList_storeKD {g c : Nat} (hC : Fr C) (h : Done w0 F0 (C (OwnK e k (.slice (some ⟨g, 0, none⟩) n c) n xs)) w) (hgd : o.guard = none) (ty : TypeId) (x y : Operand) (ho : o.op = .store ty x y) (i : Nat) (u : Value) (hx : a.eval x = .pointer (some ⟨g, i, none⟩)) (hy : a.eval y = u) (hi : i < xs.length)
    (hrun : ∀ w, (∃ u, w.cell? ⟨g, i, none⟩ = some u) → w.frozen? ⟨g, i, none⟩ = false → (Instr.storeAt ty (.pointer (some ⟨g, i, none⟩)) u).run Tryz.prog w = .ok () (w.setCell ⟨g, i, none⟩ u))
    (hn : ∀ w', Done w0 F0 (C (OwnK e k (.slice (some ⟨g, 0, none⟩) n c) n (xs.set i u))) w' → wpList Tryz.prog ops Q rest (a.put o.dst undef) w') : wpList Tryz.prog ops Q (o :: rest) a w := by
  obtain ⟨F, hF, hup⟩ := h.upd hC
  have hl := hF.2.1
  have hn0 : 0 < n := by
    rcases Nat.eq_zero_or_pos n with h0 | h0
    · subst h0; rw [hl] at hi; omega
    · exact h0
  obtain ⟨g', e1, rfl, cur, h1, h2, h3, h4, h5⟩ := hF.whole hn0
  injection e1 with e1
  injection e1 with e1
  subst e1
  have hb : i < cur.size := by
    have := Nat.mul_le_mul_right k h4
    omega
  refine wpList_store1 hgd ty x y ho g i u hx hy e cur h1 hb hrun (fun w' hg hh => hn w' (hup (hF.set hi u hg (fun cur' h' => ?_))))
  rw [h1] at h'
  injection h' with h'
  injection h' with h'
  rw [← h']
  exact hh
/-- A block that is a row of one. -/
theorem CellW.own {g : Nat} {cs : Array Value} {F : List Nat} (h : CellW g cs e w F) (hk : cs.size = k) : OwnK e k (.slice (some ⟨g, 0, none⟩) 1 1) 1 cs.toList w F := by
  obtain ⟨rfl, h⟩ := h
  exact ⟨rfl, by rw [Array.length_toList, hk, Nat.one_mul], .inr ⟨g, 1, cs, rfl, Nat.zero_le _, h, Nat.le_refl _, by simp [maxLen], by rw [hk, Nat.one_mul], by rw [Nat.one_mul, ← hk, List.take_of_length_le (by rw [Array.length_toList]; exact Nat.le_refl _)]⟩⟩
end
end Go.Proofs.YtocjhpaackccpaaGreatDoor

namespace Go.Proofs.YtocjhpaackccpaaGreatDoor
open Go.RowKit Go.Sort M

/-- vs laid into l from o on. -/
def setL : List Value → Nat → List Value → List Value
  | l, _, [] => l
  | l, o, v :: r => setL (l.set o v) (o + 1) r
theorem setL_eq : ∀ (vs l : List Value) (o : Nat), o + vs.length ≤ l.length → setL l o vs = l.take o ++ vs ++ l.drop (o + vs.length)
  | [], l, o, _ => by simp [setL]
  | v :: r, l, o, h => by
    have h' : o + (r.length + 1) ≤ l.length := by simpa using h
    have e0 : l.set o v = (l.take o ++ [v]) ++ l.drop (o + 1) := by
      rw [List.set_eq_take_append_cons_drop, if_pos (by omega), List.append_assoc]
      rfl
    have hA : (l.take o ++ [v]).length = o + 1 := by simp; omega
    rw [setL, setL_eq r (l.set o v) (o + 1) (by simp; omega), e0, List.take_left' hA, ← List.drop_drop, List.drop_left' hA, List.drop_drop, List.append_assoc (l.take o)]
    simp only [List.singleton_append, List.length_cons]
    rw [show o + 1 + r.length = o + (r.length + 1) by omega]
theorem heap_sets {b : Nat} {t : TypeId} : ∀ (vs : List Value) (o : Nat) (w : World) (l : List Value), w.heap[b]? = some (.cells l.toArray t (0, 0)) → (w.setCells b o vs).heap[b]? = some (.cells (setL l o vs).toArray t (0, 0))
  | [], _, _, _, h => h
  | v :: r, o, w, l, h => by
    rw [World.setCells]
    exact heap_sets r (o + 1) _ (l.set o v) (by simp [World.setCell, Array.getElem?_modify, h])
theorem tch_sets (b : Nat) : ∀ (vs : List Value) (o : Nat) (w : World), Tch [b] w (w.setCells b o vs)
  | [], _, w => Tch.refl _ w
  | v :: r, o, w => by
    rw [World.setCells]
    have hgb : w.grownBy (w.setCell ⟨b, o, none⟩ v) (some b) := ⟨rfl, rfl, rfl, by simp [World.setCell], fun j _ hj => by
      have hne : b ≠ j := fun e => hj (by rw [e])
      simp [World.setCell, Array.getElem?_modify, hne]⟩
    exact (Tch.of_grown hgb (.inl (by simp))).trans (tch_sets b r (o + 1) _) (Sub.refl _ _)
/-- The row's first cells set, and what is behind cut off. -/
theorem OwnK.cut {e : TypeId} {g n c : Nat} {xs : List Value} {w : World} {F : List Nat} (h : OwnK e 1 (.slice (some ⟨g, 0, none⟩) n c) n xs w F) (q : Nat) (vs : List Value) (hv : vs.length = n) (m : Nat) (hm : m ≤ n) : Done w F (OwnK e 1 (.slice (some ⟨g, 0, none⟩) m c) m (vs.take m)) ((w.drewN q).setCells g 0 vs) := by
  obtain ⟨rfl, hl, hr⟩ := h
  rcases hr with ⟨h0, _⟩ | ⟨g', cap, cur, e1, _, h1, h2, h3, h4, h5⟩
  · cases h0
  · injection e1 with e1 e2 e3
    injection e1 with e1
    injection e1 with e1
    subst e1; subst e3
    have hh : (w.drewN q).heap[g]? = some (.cells cur.toList.toArray e (0, 0)) := by
      rw [Array.toArray_toList]
      exact h1
    have h6 := heap_sets vs 0 (w.drewN q) cur.toList hh
    have hsz : cur.toList.length = c := by rw [Array.length_toList, h4, Nat.mul_one]
    rw [setL_eq vs cur.toList 0 (by omega), List.take_zero, List.nil_append] at h6
    have ht : Tch [g] w ((w.drewN q).setCells g 0 vs) := (Tch.trans (w1 := w.drewN q) ⟨rfl, rfl, rfl, Nat.le_refl _, fun _ _ _ => rfl⟩ (tch_sets g vs 0 _) (Sub.refl _ _))
    refine ⟨[g], ⟨rfl, by rw [List.length_take]; omega, .inr ⟨g, c, _, rfl, Nat.zero_le _, h6, by omega, h3, ?_, ?_⟩⟩, ht, Sub.refl _ _⟩
    · rw [List.size_toArray, List.length_append, List.length_drop]
      omega
    · rw [Nat.mul_one]
      show (vs ++ _).take m = _
      rw [List.take_append_of_le_length (by omega)]
/-- A row of the call's own. -/
theorem own_newT {e : TypeId} {k n : Nat} {v : Value} {xs : List Value} {w w' : World} (h : w'.ownsRow w.heap.size e k v n xs) (hb : Below w.heap.size w w') : Done w [] (OwnK e k v n xs) w' :=
  ⟨blk v, ⟨rfl, h.1, h.2.imp id fun ⟨g, cap, cur, h1, _, h2⟩ => ⟨g, cap, cur, h1, Nat.zero_le _, h2⟩⟩, Tch.of_below [] hb, fun g hg => .inr (ownG_blk h g hg).1⟩
theorem strg_get {l : List ByteArray} {j : Nat} (hj : j < l.length) : (strg l)[j]? = some (.string (l.getD j ByteArray.empty)) := by
  simp [strg, hj]
theorem strsOf_all (l : List ByteArray) : (Lib.strsOf (fun j => l.getD j ByteArray.empty) l.length).map encStr = strg l := by
  apply List.ext_getElem
  · simp [Lib.strsOf, strg]
  · intro i h1 h2
    have hi : i < l.length := by simpa [strg] using h2
    simp [Lib.strsOf, strg, encStr, hi]
section
variable {w0 w : World} {F0 : List Nat} {C : Obj → Obj} {A : Option Addr} {n cap k : Nat} {l : List ByteArray}
theorem SlClone_D (hC : Fr C) (hH : Stab (C (OwnK 9 1 (.slice A n cap) n (strg l)))) (h : Done w0 F0 (C (OwnK 9 1 (.slice A n cap) n (strg l))) w) (hn : n = l.length) (hk : k ≤ n) (h1 : n ≤ 1000000) :
    Calls Tryz.prog 66 #[.slice A k cap] w fun e w' => ∃ A1 c1, e = .returned (.slice A1 k c1) ∧ (k ≤ c1 ∧ c1 ≤ maxLen) ∧ Done w0 F0 (Star (C (OwnK 9 1 (.slice A n cap) n (strg l))) (OwnK 9 1 (.slice A1 k c1) k (strg (l.take k)))) w' := by
  obtain ⟨F, hF⟩ := h.get hC
  rcases own_form hF.2 with ⟨hn0, hc0, hA⟩ | ⟨b, rfl⟩
  · obtain rfl : k = 0 := by omega
    subst hA; subst hc0
    refine (Tryz.slices_Clone_string_nil 0 0 w).mono ?_
    rintro e w' ⟨rfl, rfl⟩
    exact ⟨none, 0, rfl, ⟨Nat.le_refl _, by simp [maxLen]⟩, h.add hH (OwnK.nilD _ _ _)⟩
  · by_cases hk0 : k = 0
    · subst hk0
      refine (Tryz.slices_Clone_string_zero ⟨b, 0, none⟩ cap w).mono ?_
      rintro e w' ⟨v, rfl, ho, _, hb⟩
      obtain ⟨A1, c1, rfl, hc⟩ := own_shape ho
      exact ⟨A1, c1, rfl, hc, h.add hH (own_newT ho hb)⟩
    · refine (Tryz.slices_Clone_string b 0 k cap l w (by omega) (by omega) (fun j hj => ?_)).mono ?_
      · have := hF.cell (strg_get hj)
        rw [Nat.zero_add]
        exact this
      · rintro e w' ⟨v, rfl, ho, _, hb⟩
        obtain ⟨A1, c1, rfl, hc⟩ := own_shape ho
        exact ⟨A1, c1, rfl, hc, h.add hH (own_newT ho hb)⟩
theorem SlDel_D (hC : Fr C) (h : Done w0 F0 (C (OwnK 9 1 (.slice A n cap) n (strg l))) w) (hn : n = l.length) (hk : k ≤ n) (hcap : n ≤ cap ∧ cap ≤ maxLen) :
    Calls Tryz.prog 68 #[.slice A n cap, .int .i64 0, .int .i64 (k : Int)] w fun e w' => e = .returned (.slice A (n - k) cap) ∧ Done w0 F0 (C (OwnK 9 1 (.slice A (n - k) cap) (n - k) (strg (l.drop k)))) w' := by
  obtain ⟨F, hF, hu⟩ := h.upd hC
  rcases own_form hF.2 with ⟨hn0, hc0, hA⟩ | ⟨b, rfl⟩
  · obtain rfl : k = 0 := by omega
    subst hA; subst hc0; subst hn0
    refine (Tryz.slices_Delete_string_empty none 0 w).mono ?_
    rintro e w' ⟨rfl, rfl⟩
    exact ⟨rfl, h⟩
  · have hm : cap ≤ 9223372036854775807 := hcap.2
    refine (Tryz.slices_Delete_string_cells b 0 n cap 0 k (fun j => l.getD j ByteArray.empty) w hcap.1 hm (Nat.zero_le _) hk (fun j hj => ?_) (fun j hj => ?_)).mono ?_
    · have := hF.cell (strg_get (l := l) (j := j) (by omega))
      rw [Nat.zero_add]
      exact this
    · obtain ⟨g, e1, _, cur, h1, _⟩ := hF.whole (by omega)
      injection e1 with e1
      injection e1 with e1
      subst e1
      exact frz_at h1 _
    · rintro e w' ⟨rfl, q, rfl⟩
      have e1 : ((Lib.strsOf (fun j => l.getD j ByteArray.empty) n).take 0 ++ (Lib.strsOf (fun j => l.getD j ByteArray.empty) n).drop k ++ List.replicate (k - 0) []).map encStr = strg (l.drop k) ++ List.replicate k (encStr []) := by
        rw [List.take_zero, List.nil_append, List.map_append, List.map_drop, hn, strsOf_all]
        simp [strg]
      have hl : (strg (l.drop k)).length = n - k := by simp [strg, hn]
      have hc := hF.cut q (strg (l.drop k) ++ List.replicate k (encStr [])) (by rw [List.length_append, hl, List.length_replicate]; omega) (n - k) (by omega)
      rw [List.take_left' hl] at hc
      rw [e1]
      exact ⟨rfl, hu hc⟩
end
theorem CellW.ownN {g n : Nat} {cs : Array Value} {e : TypeId} {w : World} {F : List Nat} (h : CellW g cs e w F) (hn : cs.size = n) (hm : n ≤ maxLen) : OwnK e 1 (.slice (some ⟨g, 0, none⟩) n n) n cs.toList w F := by
  obtain ⟨rfl, h⟩ := h
  exact ⟨rfl, by rw [Array.length_toList, hn, Nat.mul_one], .inr ⟨g, n, cs, rfl, Nat.zero_le _, h, Nat.le_refl _, hm, by rw [hn, Nat.mul_one], by rw [Nat.mul_one, List.take_of_length_le (by rw [Array.length_toList]; omega)]⟩⟩
theorem int_info : (Tryz.prog.info? 3).map (fun i => (i.zero, i.size, i.bytes)) = some (some (.int .i64 0), 1, 8) := by kernel_rfl
theorem zeros_ints (n : Nat) : madeCells (Value.int .i64 0).cells (n * 1) = (List.replicate n (Value.int .i64 0)).toArray := by
  apply Array.ext
  · rw [size_madeCells, Nat.mul_one]; simp
  · intro i h1 h2
    simp [madeCells, Value.cells, Nat.mod_one]
theorem wpList_makeI {w : World} {ops : Array Oper} {rest : List Oper} {o : Oper} {a : Act} {Q : Exit → Act → World → Prop} (hgd : o.guard = none) (x y : Operand) (ho : o.op = .makeSlice 71 x y)
    (n : Nat) (hx : a.eval x = .int .i64 (n : Int)) (hy : a.eval y = .int .i64 (n : Int)) (hn : n ≤ 1000000)
    (h : ∀ g w', Done w [] (OwnK 3 1 (.slice (some ⟨g, 0, none⟩) n n) n (List.replicate n (.int .i64 0))) w' → wpList Tryz.prog ops Q rest (a.put o.dst (.slice (some ⟨g, 0, none⟩) n n)) w') : wpList Tryz.prog ops Q (o :: rest) a w := by
  obtain ⟨i0, hi, hz0, hz1, hz2⟩ := info_parts int_info
  have hm := run_make (P := Tryz.prog) w 71 3 i0 (.int .i64 0) Tryz.underlying71 hi hz0 .i64 .i64 (n : Int) (n : Int) (by omega) (by omega) (by rw [hz2]; omega) (by omega)
  rw [hz1] at hm
  refine wpList_plain hgd fun K hK => ?_
  have hr : (execOp a.eval o).run Tryz.prog w = .ok (.value (.slice (some ⟨w.heap.size, 0, none⟩) n n)) (w.alloc (.cells (List.replicate n (Value.int .i64 0)).toArray 3)) := by
    rw [← zeros_ints]
    simp only [execOp, ho, hx, hy, Sem.run_bind, hm, Result.andThen_ok, Sem.run_pure, Int.toNat_natCast]
  unfold Oper.wp
  rw [hr, Oper.upon_value]
  exact hK _ _ (h _ _ ((CellW.new w _ 3).mono fun F hF => hF.ownN (by simp) (by simp only [maxLen]; omega)))
end Go.Proofs.YtocjhpaackccpaaGreatDoor

namespace Go.Proofs.YtocjhpaackccpaaGreatDoor
open Go.RowKit

theorem tmod8 (n : Int) : (n.tmod 8 + 8) % 8 = n % 8 ∧ -7 ≤ n.tmod 8 ∧ n.tmod 8 ≤ 7 := by
  have a1 := Int.lt_tmod_of_pos n (show (0 : Int) < 8 by decide)
  have a2 := Int.tmod_lt_of_pos n (show (0 : Int) < 8 by decide)
  have e1 : n.tmod 8 + 8 * n.tdiv 8 = n := Int.tmod_add_mul_tdiv n 8
  refine ⟨?_, by omega, by omega⟩
  omega
theorem MRest_any (n : Int) (w : World) : Calls Tryz.prog 57 #[.int .i64 n] w fun e w' => e = .returned (.int .i64 (m8 n)) ∧ w' = w := by
  obtain ⟨h1, h2, h3⟩ := tmod8 n
  obtain ⟨r, hr⟩ : ∃ r, r = m8 n := ⟨_, rfl⟩
  have e1 : IntKind.i64.wrap (n.tmod 8) = n.tmod 8 := IntWalk.i64_in _ (by omega)
  have e2 : IntKind.i64.wrap (n.tmod 8 + 8) = n.tmod 8 + 8 := IntWalk.i64_in _ (by omega)
  have e3 : IntKind.i64.wrap ((n.tmod 8 + 8) % 8) = (n.tmod 8 + 8) % 8 := IntWalk.i64_in _ (by omega)
  rw [← hr]
  have HR : Hid ((n.tmod 8 + 8) % 8 = r) := by show _ = r; rw [hr, h1]; rfl
  clear hr h1
  go_enter Tryz.func57, Tryz.ntmps57
  go_wp2
  go_ret
  exact ⟨congrArg (fun x => Ending.returned (.int .i64 x)) (by first | exact HR.out | (have := HR.out; omega)), rfl⟩
theorem MAdd_any (a n : Int) (w : World) (_ha : (Lit.int .i64 a).wf = true) (_hn : (Lit.int .i64 n).wf = true) : Calls Tryz.prog 18 #[.int .i64 a, .int .i64 n] w fun e w' => e = .returned (.int .i64 (m8 (a + n))) ∧ Below w.heap.size w w' := by
  have ha : 0 ≤ m8 a ∧ m8 a ≤ 7 := by unfold m8; omega
  have hb : 0 ≤ m8 n ∧ m8 n ≤ 7 := by unfold m8; omega
  have hs : m8 (m8 a + m8 n) = m8 (a + n) := by unfold m8; omega
  have h1 := fun w => MRest_any a w
  have h2 := fun w => MRest_any n w
  have h3 := fun w => MRest_any (m8 a + m8 n) w
  rw [hs] at h3
  have e1 : IntKind.i64.wrap (m8 a + m8 n) = m8 a + m8 n := IntWalk.i64_in _ (by omega)
  generalize m8 (a + n) = r at h3 ⊢
  generalize m8 a = x at h1 h3 e1
  generalize m8 n = y at h2 h3 e1
  have H1 := Lib.hid h1
  have H2 := Lib.hid h2
  have H3 := Lib.hid h3
  clear ha hb hs h1 h2 h3 _ha _hn
  go_enter Tryz.func18, Tryz.ntmps18
  go_wp2_with (go_at_call 57; first
    | ((with_reducible refine (H1.out _).mono ?_); rintro e w' ⟨rfl, hw'⟩; rw [hw']; clear hw')
    | ((with_reducible refine (H2.out _).mono ?_); rintro e w' ⟨rfl, hw'⟩; rw [hw']; clear hw')
    | ((with_reducible refine (H3.out _).mono ?_); rintro e w' ⟨rfl, hw'⟩; rw [hw']; clear hw'))
  go_ret
  exact ⟨rfl, Below.refl _ _⟩
theorem MDiff_any (a b : Int) (w : World) (_ha : (Lit.int .i64 a).wf = true) (_hb : (Lit.int .i64 b).wf = true) : Calls Tryz.prog 20 #[.int .i64 a, .int .i64 b] w fun e w' => e = .returned (.int .i64 (m8 (a - b))) ∧ Below w.heap.size w w' := by
  have ha : 0 ≤ m8 a ∧ m8 a ≤ 7 := by unfold m8; omega
  have hb : 0 ≤ m8 b ∧ m8 b ≤ 7 := by unfold m8; omega
  have hs : m8 (m8 a - m8 b) = m8 (a - b) := by unfold m8; omega
  have h1 := fun w => MRest_any a w
  have h2 := fun w => MRest_any b w
  have h3 := fun w => MRest_any (m8 a - m8 b) w
  rw [hs] at h3
  have e1 : IntKind.i64.wrap (m8 a - m8 b) = m8 a - m8 b := IntWalk.i64_in _ (by omega)
  generalize m8 (a - b) = r at h3 ⊢
  generalize m8 a = x at h1 h3 e1
  generalize m8 b = y at h2 h3 e1
  have H1 := Lib.hid h1
  have H2 := Lib.hid h2
  have H3 := Lib.hid h3
  clear ha hb hs h1 h2 h3 _ha _hb
  go_enter Tryz.func20, Tryz.ntmps20
  go_wp2_with (go_at_call 57; first
    | ((with_reducible refine (H1.out _).mono ?_); rintro e w' ⟨rfl, hw'⟩; rw [hw']; clear hw')
    | ((with_reducible refine (H2.out _).mono ?_); rintro e w' ⟨rfl, hw'⟩; rw [hw']; clear hw')
    | ((with_reducible refine (H3.out _).mono ?_); rintro e w' ⟨rfl, hw'⟩; rw [hw']; clear hw'))
  go_ret
  exact ⟨rfl, Below.refl _ _⟩
theorem MIn_any (x f n : Int) (w : World) (hx : (Lit.int .i64 x).wf = true) (hf : (Lit.int .i64 f).wf = true) (_hn : (Lit.int .i64 n).wf = true) : Calls Tryz.prog 21 #[.int .i64 x, .int .i64 f, .int .i64 n] w fun e w' => e = .returned (.bool (inM x f n)) ∧ Below w.heap.size w w' := by
  have hd := MDiff_any x f w hx hf
  have hin : inM x f n = decide (m8 (x - f) < n) := rfl
  rw [hin]
  generalize m8 (x - f) = d at hd ⊢
  obtain ⟨r, hr⟩ : ∃ r, decide (d < n) = r := ⟨_, rfl⟩
  rw [hr]
  have HD := Lib.hid hd
  clear hin hd hx hf _hn
  go_enter Tryz.func21, Tryz.ntmps21
  go_wp2_with (go_at_call 20; ((with_reducible refine (HD.out).mono ?_); rintro e w1 ⟨rfl, hb⟩; have HB := Lib.hid hb; clear hb))
  go_ret
  exact ⟨rfl, HB.out⟩
end Go.Proofs.YtocjhpaackccpaaGreatDoor

namespace Go.Proofs.YtocjhpaackccpaaGreatDoor
open Go.RowKit

section
variable {P : Program} {ops : Array Oper} {C : World → Prop}
/-- wpQuiet under a name that nothing unfolds (where a guard says no it would reckon on by itself). -/
structure WQ (P : Program) (ops : Array Oper) (C : World → Prop) (Q : Act → Prop) (l : List Oper) (a : Act) : Prop where
  out : wpQuiet P ops C Q l a
theorem regq {id : Nat} {Q : Exit → Act → World → Prop} {a : Act} {w : World} {l : List Oper} (C : World → Prop) (hm : P.follows .mixedOrders = true) (hB : Region.lexB .any l.toArray = true) (hC : C w.drew)
    (h : WQ P l.toArray C (fun a' => ∀ w', C w' → Q .normal a' w') l a) : (Code.region id l.toArray true).wp P Q a w :=
  wp_region_quiet (C := C) hm hB hC (by simpa using h.out)
theorem q_done {Q : Act → Prop} {a : Act} (h : Q a) : WQ P ops C Q [] a := ⟨h⟩
theorem q_take {Q : Act → Prop} {a : Act} {o : Oper} {rest : List Oper} {v : Value} (hw : Region.wanted o (yielded ops a.tmps) = true) (hy : ∀ W, C W → (execOp a.eval o).run P W = .ok (.value v) W)
    (h : WQ P ops C Q rest (a.put o.dst v)) : WQ P ops C Q (o :: rest) a := by
  constructor
  unfold wpQuiet
  rw [if_pos hw]
  refine ⟨v, fun W hW => ?_, h.out⟩
  unfold Oper.quietAt
  rw [hy W hW]
  exact ⟨rfl, rfl⟩
theorem q_skip {Q : Act → Prop} {a : Act} {o : Oper} {rest : List Oper} (hw : Region.wanted o (yielded ops a.tmps) = false)
    (h : WQ P ops C Q rest (a.put o.dst undef)) : WQ P ops C Q (o :: rest) a := by
  constructor
  unfold wpQuiet
  rw [if_neg (by rw [hw]; decide)]
  exact h.out
theorem q_call {Q : Act → Prop} {a : Act} {o : Oper} {rest : List Oper} {v : Value} (f : FuncId) (args : Array Value) (hw : Region.wanted o (yielded ops a.tmps) = true) (he : ∀ W, C W → (execOp a.eval o).run P W = .ok (.enter f args) W)
    (hc : ∀ W, C W → Calls P f args W fun e W' => e = .returned v ∧ C W')
    (h : WQ P ops C Q rest (a.put o.dst v)) : WQ P ops C Q (o :: rest) a := by
  constructor
  unfold wpQuiet
  rw [if_pos hw]
  refine ⟨v, fun W hW => ?_, h.out⟩
  unfold Oper.quietAt
  rw [he W hW]
  exact ⟨rfl, hc W hW⟩
/-- A call that leaves all that was there as it was, within the worlds that have w's memory. -/
theorem from_call {w : World} {f : FuncId} {args : Array Value} {v : Value} (h : ∀ W, Calls P f args W fun e W' => e = .returned v ∧ Below W.heap.size W W') : ∀ W, Below w.heap.size w W → Calls P f args W fun e W' => e = .returned v ∧ Below w.heap.size w W' :=
  fun W hW => (h W).mono fun _ _ ⟨h1, h2⟩ => ⟨h1, hW.trans (h2.mono hW.size)⟩
end
end Go.Proofs.YtocjhpaackccpaaGreatDoor

namespace Go.Proofs.YtocjhpaackccpaaGreatDoor
open Go.RowKit M

def ouc (o : OutM) (v : Value) : Array Value := #[.int .i64 (o.win : Int), .int .i64 (o.first : Int), .int .i64 (o.sent : Int), v]
def OutO (go : Nat) (v : Value) (o : OutM) : Obj := Star (CellW go (ouc o v) 97) (OwnK 9 1 v o.l.length (strg o.l))
/-- The landed Out at v. -/
def OutW (v : Value) (m : OutM) : Obj := fun w F => m.ok ∧ ∃ go u, v = .pointer (some ⟨go, 0, none⟩) ∧ OutO go u m w F
theorem OutO.stab (go : Nat) (v : Value) (o : OutM) : Stab (OutO go v o) := (CellW.stab _ _ _).star (OwnK.stab _ _ _ _ _)
theorem OutW.stab (v : Value) (m : OutM) : Stab (OutW v m) where
  in_ := fun ⟨_, go, u, _, h⟩ => (OutO.stab go u m).in_ h
  tch := fun ⟨h1, go, u, e, h⟩ ht hd => ⟨h1, go, u, e, (OutO.stab go u m).tch h ht hd⟩
section
variable {w : World} {v : Value} {F : List Nat}
theorem OutW.ptr {m : OutM} (h : OutW v m w F) : ∃ a : Addr, v = .pointer (some a) := by
  obtain ⟨_, go, u, rfl, _⟩ := h
  exact ⟨_, rfl⟩
theorem OutW.ok {m : OutM} (h : OutW v m w F) : m.ok := h.1
theorem OutW.shape {m : OutM} (h : OutW v m w F) : m.ok ∧ ∃ go A c, v = .pointer (some ⟨go, 0, none⟩) ∧ (m.l.length ≤ c ∧ c ≤ maxLen) ∧ OutO go (.slice A m.l.length c) m w F := by
  obtain ⟨h1, go, v, rfl, F1, F2, rfl, k1, k2, k3⟩ := h
  obtain ⟨A, c, rfl, e1, e2⟩ := k2.shape
  exact ⟨h1, go, A, c, rfl, ⟨e1, e2⟩, F1, F2, rfl, k1, k2, k3⟩
theorem OutW.cells {m : OutM} (h : OutW v m w F) : ∃ go A c, v = .pointer (some ⟨go, 0, none⟩) ∧ w.heap[go]? = some (.cells (ouc m (.slice A m.l.length c)) 97 (0, 0)) := by
  obtain ⟨_, go, A, c, rfl, _, F1, F2, _, k1, _, _⟩ := h.shape
  exact ⟨go, A, c, rfl, k1.2⟩
end
set_option maxHeartbeats 1000000 in
theorem OLen_any (v : Value) (m : OutM) (F : List Nat) (w : World) (h : OutW v m w F) : Calls Tryz.prog 50 #[v] w fun e w' => e = .returned (.int .i64 (m.l.length : Int)) ∧ Below w.heap.size w w' := by
  obtain ⟨go, A, c, rfl, hg⟩ := h.cells
  have q : w.cell? ⟨go, 3, none⟩ = some (.slice A m.l.length c) := cell_at hg 3 _ rfl
  generalize m.l.length = n at q ⊢
  clear hg h
  go_enter Tryz.func50, Tryz.ntmps50
  go_wp2
  go_ret
  exact ⟨rfl, Below.refl _ _⟩
set_option maxHeartbeats 1000000 in
theorem OFirst_any (v : Value) (m : OutM) (F : List Nat) (w : World) (h : OutW v m w F) : Calls Tryz.prog 51 #[v] w fun e w' => e = .returned (.int .i64 (m.first : Int)) ∧ Below w.heap.size w w' := by
  obtain ⟨go, A, c, rfl, hg⟩ := h.cells
  have q : w.cell? ⟨go, 1, none⟩ = some (.int .i64 (m.first : Int)) := cell_at hg 1 _ rfl
  clear hg h
  go_enter Tryz.func51, Tryz.ntmps51
  go_wp2
  go_ret
  exact ⟨rfl, Below.refl _ _⟩
set_option maxRecDepth 100000 in
set_option maxHeartbeats 16000000 in
theorem ONew_any (n : Int) (w : World) (_hn : (Lit.int .i64 n).wf = true) : Calls Tryz.prog 53 #[.int .i64 n] w fun e w' => ∃ v, e = .returned v ∧ Done w [] (OutW v (OutM.new n)) w' := by
  have e1 : ((OutM.new n).win : Int) = max 1 (min n 7) := by show (((max 1 (min n 7)).toNat : Nat) : Int) = _; omega
  have hok := OutM.ok_new n
  have h0 : OutM.new n = ⟨(OutM.new n).win, 0, [], 0⟩ := rfl
  rw [h0] at hok ⊢
  generalize (OutM.new n).win = W at e1 hok ⊢
  have HW := Lib.hid e1
  have HOK := Lib.hid hok
  clear e1 hok h0 _hn
  go_enter Tryz.func53, Tryz.ntmps53
  go_wp2
  all_goals
    go_ret
    refine ⟨_, rfl, ?_⟩
    refine ((CellW.new w _ 97).add (CellW.stab _ _ _) (OwnK.nilD 9 1 _)).mono fun F hF => ⟨HOK.out, w.heap.size, .slice none 0 0, rfl, ?_⟩
    unfold OutO ouc
    simp only
    rw [HW.out]
    first
      | exact hF
      | (rw [show max 1 (min n 7) = min (max n 1) 7 by omega]; exact hF)
set_option maxRecDepth 100000 in
set_option maxHeartbeats 16000000 in
theorem ONum_any (n : Int) (w : World) (hn : (Lit.int .i64 n).wf = true) : Calls Tryz.prog 67 #[.int .i64 n] w fun e w' => e = .returned (.bool (decide (0 ≤ n ∧ n ≤ 7))) ∧ Below w.heap.size w w' := by
  have hm := fun w => MAdd_any n 0 w hn rfl
  have e1 : decide (0 ≤ n ∧ n ≤ 7) = (m8 (n + 0) == n) := by
    unfold m8
    rw [Bool.eq_iff_iff]
    simp
    omega
  rw [e1]
  generalize m8 (n + 0) = q at hm ⊢
  have HM := Lib.hid hm
  clear hm e1 hn
  go_enter Tryz.func67, Tryz.ntmps67
  go_wp2_with (go_at_call 18; ((with_reducible refine (HM.out _).mono ?_); rintro e w1 ⟨rfl, hb⟩; have HB := Lib.hid hb; clear hb))
  go_ret
  exact ⟨rfl, HB.out⟩
set_option maxRecDepth 100000 in
set_option maxHeartbeats 16000000 in
theorem OPut_any (v : Value) (m : OutM) (F : List Nat) (s : ByteArray) (w : World) (h : OutW v m w F) (hs : s.size ≤ 1000000) : Calls Tryz.prog 49 #[v, .string s] w fun e w' => e = .returned (.int .i64 (if m.full then 3 else 0)) ∧ Done w F (OutW v (m.put s)) w' := by
  obtain ⟨hok, go, A, cap, rfl, hcap, h⟩ := h.shape
  obtain ⟨W, f, l, sn⟩ := m
  unfold OutO ouc at h
  simp only at h hcap
  obtain ⟨n, hn⟩ : ∃ n, n = l.length := ⟨_, rfl⟩
  rw [← hn] at h hcap
  have hS := Done.start h
  have hg := (Done.at_ (C := fun X => Star (X) (OwnK 9 1 (.slice A n cap) n (strg l))) (Fr.l Fr.id_ (OwnK.stab _ _ _ _ _)) hS)
  have q2 : w.cell? ⟨go, 3, none⟩ = some (.slice A n cap) := cell_at hg 3 _ rfl
  have hl8 := hok.len
  simp only [← hn] at hl8
  have HOK := Lib.hid hok
  have HN := Lib.hid hn
  have HS := Lib.hid hS
  have HSZ := Lib.hid hs
  by_cases hf : 8 ≤ n
  · have e1 : OutM.full ⟨W, f, l, sn⟩ = true := decide_eq_true (by show 8 ≤ l.length; omega)
    have e2 : OutM.put ⟨W, f, l, sn⟩ s = ⟨W, f, l, sn⟩ := by unfold OutM.put; rw [e1]; rfl
    rw [e1, e2]
    have t1 : decide ((8 : Int) ≤ (n : Int)) = true := decide_eq_true (by omega)
    clear hok hn hS hg h e1 e2 hf hl8 hs
    go_enter Tryz.func49, Tryz.ntmps49
    go_wp2
    go_ret
    refine ⟨rfl, HS.out.mono fun F hF => ?_⟩
    have e := HN.out
    subst e
    exact ⟨HOK.out, go, _, rfl, hF⟩
  · have e1 : OutM.full ⟨W, f, l, sn⟩ = false := decide_eq_false (by show ¬ 8 ≤ l.length; omega)
    have e2 : OutM.put ⟨W, f, l, sn⟩ s = ⟨W, f, l ++ [s], sn⟩ := by unfold OutM.put; rw [e1]; rfl
    have hok2 := hok.put s
    rw [e2] at hok2
    rw [e1, e2]
    have HOK2 := Lib.hid hok2
    have t1 : decide ((8 : Int) ≤ (n : Int)) = false := decide_eq_false (by omega)
    have HB : Hid (n + 1 ≤ 1000000) := by show _ ≤ _; omega
    have HSd := Lib.hid (HS.out.drewD ((CellW.stab _ _ _).star (OwnK.stab _ _ _ _ _)))
    have HEd : Hid ((fun _ => True) w.drew) := Lib.hid trivial
    clear hok hn hS hg h e1 e2 hf hl8 hok2 hs
    go_enter Tryz.func49, Tryz.ntmps49
    go_wp2
    refine rests_begin (fun _ => True) (by kernel_rfl) ?_
    refine rests_take 0 (oi := _) (v := ?_) (by simp only [List.getElem?_toArray, List.getElem?_cons_zero]; rfl) (by kernel_rfl) (by kernel_rfl) (by kernel_rfl) (by exact fun _ _ _ h => h) (HEd.out) (by rfl) ?_ ?_; rotate_left; (· intro W HW; go_simp; try with_reducible rfl)
    simp only [Act.put, List.setIfInBounds_toArray, List.set_cons_zero, List.set_cons_succ]
    refine rests_take 1 (oi := _) (v := ?_) (by simp only [List.getElem?_toArray, List.getElem?_cons_succ, List.getElem?_cons_zero]; rfl) (by kernel_rfl) (by kernel_rfl) (by kernel_rfl) (by exact fun _ _ _ h => h) (HEd.out) (by rfl) ?_ ?_; rotate_left; (· intro W HW; go_simp; try with_reducible rfl)
    simp only [Act.put, List.setIfInBounds_toArray, List.set_cons_zero, List.set_cons_succ]
    refine rests_take 2 (oi := _) (v := ?_) (by simp only [List.getElem?_toArray, List.getElem?_cons_succ, List.getElem?_cons_zero]; rfl) (by kernel_rfl) (by kernel_rfl) (by kernel_rfl) (by exact fun _ _ _ h => h) (HEd.out) (by rfl) ?_ ?_; rotate_left; (· intro W HW; go_simp; try with_reducible rfl)
    simp only [Act.put, List.setIfInBounds_toArray, List.set_cons_zero, List.set_cons_succ]
    refine rests_take 3 (oi := _) (v := ?_) (by simp only [List.getElem?_toArray, List.getElem?_cons_succ, List.getElem?_cons_zero]; rfl) (by kernel_rfl) (by kernel_rfl) (by kernel_rfl) (by exact fun _ _ _ h => h) (HEd.out) (by rfl) ?_ ?_; rotate_left; (· intro W HW; go_simp; try with_reducible rfl)
    simp only [Act.put, List.setIfInBounds_toArray, List.set_cons_zero, List.set_cons_succ]
    refine rests_take 5 (oi := _) (v := ?_) (by simp only [List.getElem?_toArray, List.getElem?_cons_succ, List.getElem?_cons_zero]; rfl) (by kernel_rfl) (by kernel_rfl) (by kernel_rfl) (by exact fun _ _ _ h => h) (HEd.out) (by rfl) ?_ ?_; rotate_left; (· intro W HW; go_simp; try with_reducible rfl)
    simp only [Act.put, List.setIfInBounds_toArray, List.set_cons_zero, List.set_cons_succ]
    refine rests_two 4 6 (oi := _) (oj := _) (by simp only [List.getElem?_toArray, List.getElem?_cons_succ, List.getElem?_cons_zero]; rfl) (by simp only [List.getElem?_toArray, List.getElem?_cons_succ, List.getElem?_cons_zero]; rfl) (by kernel_rfl) (by rfl) (by rfl) ?_ ?_
    · have cq1 : (w.drew).cell? ⟨go, 3, none⟩ = some (.slice A n cap) := cell_at (Done.at_ (C := fun X => Star (X) (OwnK 9 1 (.slice A n cap) n (strg l))) (Fr.l Fr.id_ (OwnK.stab _ _ _ _ _)) HSd.out) 3 _ rfl
      refine wp_val (v := .slice A n cap) (w' := w.drew) (by go_simp) ⟨HEd.out, ?_⟩
      clear cq1
      simp only [Act.put, List.setIfInBounds_toArray, List.set_cons_zero, List.set_cons_succ]
      refine rests_call 6 (oi := _) (by simp only [List.getElem?_toArray, List.getElem?_cons_succ, List.getElem?_cons_zero]; rfl) 58 #[.string s] _ (by kernel_rfl) (by rfl) (by go_simp) (dcalls_keep ((CellW.stab _ _ _).star (OwnK.stab _ _ _ _ _)) HSd.out (SClone_any s _ HSZ.out)) ?_
      rintro e w2 ⟨rfl, hs⟩; have HS2 := Lib.hid hs; have HE2 : Hid ((fun _ => True) w2) := Lib.hid trivial; refine ⟨_, rfl, HE2.out, ?_⟩; clear hs
      simp only [Act.put, List.setIfInBounds_toArray, List.set_cons_zero, List.set_cons_succ]
      obtain ⟨g3, hg3⟩ : ∃ g, g = (w2).heap.size := ⟨_, rfl⟩
      have hal3 := CellW.new (w2) #[.string s] 9
      rw [← hg3] at hal3
      obtain ⟨w3, hw3⟩ : ∃ wz, wz = (w2).alloc (.cells #[.string s] 9) := ⟨_, rfl⟩
      rw [← hw3] at hal3
      have HS3 := Lib.hid (HS2.out.add ((CellW.stab _ _ _).star (OwnK.stab _ _ _ _ _)) hal3)
      have HE3 : Hid ((fun _ => True) w3) := Lib.hid trivial
      refine rests_run 7 (oi := _) (by simp only [List.getElem?_toArray, List.getElem?_cons_succ, List.getElem?_cons_zero]; rfl) (by kernel_rfl) (by rfl) (.slice (some ⟨g3, 0, none⟩) 1 1) w3 (by rw [hg3, hw3]; go_simp) ⟨HE3.out, ?_⟩
      clear hg3 hal3 hw3
      simp only [Act.put, List.setIfInBounds_toArray, List.set_cons_zero, List.set_cons_succ]
      refine rests_appD 8 (oi := _) (by simp only [List.getElem?_toArray, List.getElem?_cons_succ, List.getElem?_cons_zero]; rfl) (by kernel_rfl) (by rfl) (C := fun X => Star (Star (CellW go #[.int .i64 (W : Int), .int .i64 (f : Int), .int .i64 (sn : Int), .slice A n cap] 97) X) (CellW g3 #[.string s] 9)) (Fr.l (Fr.r (CellW.stab _ _ _) Fr.id_) (CellW.stab _ _ _)) HS3.out (.tmp 17) (.tmp 20) 59 16 (.string ⟨#[]⟩) rfl Tryz.underlying59 (by kernel_rfl) rfl (by decide) (.slice (some ⟨g3, 0, none⟩) 1 1) 1 [.string s] rfl rfl ((rdG_new (Done.at_ (C := fun X => Star (Star (CellW go #[.int .i64 (W : Int), .int .i64 (f : Int), .int .i64 (sn : Int), .slice A n cap] 97) (OwnK 9 1 (.slice A n cap) n (strg l))) X) (Fr.r ((CellW.stab _ _ _).star (OwnK.stab _ _ _ _ _)) Fr.id_) HS3.out) rfl)) (by simp [Value.oneCell']) (n + 1) rfl HB.out (strg (l ++ [s])) (by simp [strg]) ?_
      intro A4 c4 w4 hs hc; have HS4 := Lib.hid hs; have HE4 : Hid ((fun _ => True) w4) := Lib.hid trivial; have HC4 := Lib.hid hc; refine ⟨HE4.out, ?_⟩; clear hs hc
      simp only [Act.put, List.setIfInBounds_toArray, List.set_cons_zero, List.set_cons_succ]
      refine rests_take 9 (oi := _) (v := ?_) (by simp only [List.getElem?_toArray, List.getElem?_cons_succ, List.getElem?_cons_zero]; rfl) (by kernel_rfl) (by kernel_rfl) (by kernel_rfl) (by exact fun _ _ _ h => h) (HE4.out) (by rfl) ?_ ?_; rotate_left; (· intro W HW; go_simp; try with_reducible rfl)
      simp only [Act.put, List.setIfInBounds_toArray, List.set_cons_zero, List.set_cons_succ]
      refine rests_take 10 (oi := _) (v := ?_) (by simp only [List.getElem?_toArray, List.getElem?_cons_succ, List.getElem?_cons_zero]; rfl) (by kernel_rfl) (by kernel_rfl) (by kernel_rfl) (by exact fun _ _ _ h => h) (HE4.out) (by rfl) ?_ ?_; rotate_left; (· intro W HW; go_simp; try with_reducible rfl)
      simp only [Act.put, List.setIfInBounds_toArray, List.set_cons_zero, List.set_cons_succ]
      refine rests_store1 11 (oi := _) (by simp only [List.getElem?_toArray, List.getElem?_cons_succ, List.getElem?_cons_zero]; rfl) (by kernel_rfl) (by rfl) 59 (.tmp 23) (.tmp 21) rfl go 3 (.slice A4 (n + 1) c4) rfl rfl 97 _ (Done.at_ (C := fun X => Star (Star (X) (OwnK 9 1 (.slice A4 (n + 1) c4) (n + 1) (strg (l ++ [s])))) (CellW g3 #[.string s] 9)) (Fr.l (Fr.l Fr.id_ (OwnK.stab _ _ _ _ _)) (CellW.stab _ _ _)) HS4.out) (by simp) (run_storeS _ _ _ _ _) ?_
      intro w5 hg hh; have HS5 : Hid (Done w F (Star (Star (CellW go #[.int .i64 (W : Int), .int .i64 (f : Int), .int .i64 (sn : Int), .slice A4 (n + 1) c4] 97) (OwnK 9 1 (.slice A4 (n + 1) c4) (n + 1) (strg (l ++ [s])))) (CellW g3 #[.string s] 9)) w5) := Done.put_ (C := fun X => Star (Star (X) (OwnK 9 1 (.slice A4 (n + 1) c4) (n + 1) (strg (l ++ [s])))) (CellW g3 #[.string s] 9)) (Fr.l (Fr.l Fr.id_ (OwnK.stab _ _ _ _ _)) (CellW.stab _ _ _)) HS4.out hg hh; have HE5 : Hid ((fun _ => True) w5) := Lib.hid trivial; refine ⟨HE5.out, ?_⟩; clear hg hh
      simp only [Act.put, List.setIfInBounds_toArray, List.set_cons_zero, List.set_cons_succ]
      refine rests_done (by kernel_rfl) ?_
      go_wp2
      go_ret
      refine ⟨rfl, HS5.out.drop.mono fun F hF => ⟨HOK2.out, go, .slice A4 (n + 1) c4, rfl, ?_⟩⟩
      have e : (l ++ [s]).length = n + 1 := by rw [HN.out]; simp
      unfold OutO ouc
      simp only
      rw [e]
      exact hF
    · refine wp_enter (f := 58) (args := #[.string s]) (by go_simp) (dcalls_keep ((CellW.stab _ _ _).star (OwnK.stab _ _ _ _ _)) HSd.out (SClone_any s _ HSZ.out)) ?_
      rintro e w1 ⟨rfl, hs⟩; have HS1 := Lib.hid hs; have HE1 : Hid ((fun _ => True) w1) := Lib.hid trivial; refine ⟨_, rfl, HE1.out, ?_⟩; clear hs
      simp only [Act.put, List.setIfInBounds_toArray, List.set_cons_zero, List.set_cons_succ]
      refine rests_two 4 7 (oi := _) (oj := _) (by simp only [List.getElem?_toArray, List.getElem?_cons_succ, List.getElem?_cons_zero]; rfl) (by simp only [List.getElem?_toArray, List.getElem?_cons_succ, List.getElem?_cons_zero]; rfl) (by kernel_rfl) (by rfl) (by rfl) ?_ ?_
      · have cq2 : (w1).cell? ⟨go, 3, none⟩ = some (.slice A n cap) := cell_at (Done.at_ (C := fun X => Star (X) (OwnK 9 1 (.slice A n cap) n (strg l))) (Fr.l Fr.id_ (OwnK.stab _ _ _ _ _)) HS1.out) 3 _ rfl
        refine wp_val (v := .slice A n cap) (w' := w1) (by go_simp) ⟨HE1.out, ?_⟩
        clear cq2
        simp only [Act.put, List.setIfInBounds_toArray, List.set_cons_zero, List.set_cons_succ]
        obtain ⟨g3, hg3⟩ : ∃ g, g = (w1).heap.size := ⟨_, rfl⟩
        have hal3 := CellW.new (w1) #[.string s] 9
        rw [← hg3] at hal3
        obtain ⟨w3, hw3⟩ : ∃ wz, wz = (w1).alloc (.cells #[.string s] 9) := ⟨_, rfl⟩
        rw [← hw3] at hal3
        have HS3 := Lib.hid (HS1.out.add ((CellW.stab _ _ _).star (OwnK.stab _ _ _ _ _)) hal3)
        have HE3 : Hid ((fun _ => True) w3) := Lib.hid trivial
        refine rests_run 7 (oi := _) (by simp only [List.getElem?_toArray, List.getElem?_cons_succ, List.getElem?_cons_zero]; rfl) (by kernel_rfl) (by rfl) (.slice (some ⟨g3, 0, none⟩) 1 1) w3 (by rw [hg3, hw3]; go_simp) ⟨HE3.out, ?_⟩
        clear hg3 hal3 hw3
        simp only [Act.put, List.setIfInBounds_toArray, List.set_cons_zero, List.set_cons_succ]
        refine rests_appD 8 (oi := _) (by simp only [List.getElem?_toArray, List.getElem?_cons_succ, List.getElem?_cons_zero]; rfl) (by kernel_rfl) (by rfl) (C := fun X => Star (Star (CellW go #[.int .i64 (W : Int), .int .i64 (f : Int), .int .i64 (sn : Int), .slice A n cap] 97) X) (CellW g3 #[.string s] 9)) (Fr.l (Fr.r (CellW.stab _ _ _) Fr.id_) (CellW.stab _ _ _)) HS3.out (.tmp 17) (.tmp 20) 59 16 (.string ⟨#[]⟩) rfl Tryz.underlying59 (by kernel_rfl) rfl (by decide) (.slice (some ⟨g3, 0, none⟩) 1 1) 1 [.string s] rfl rfl ((rdG_new (Done.at_ (C := fun X => Star (Star (CellW go #[.int .i64 (W : Int), .int .i64 (f : Int), .int .i64 (sn : Int), .slice A n cap] 97) (OwnK 9 1 (.slice A n cap) n (strg l))) X) (Fr.r ((CellW.stab _ _ _).star (OwnK.stab _ _ _ _ _)) Fr.id_) HS3.out) rfl)) (by simp [Value.oneCell']) (n + 1) rfl HB.out (strg (l ++ [s])) (by simp [strg]) ?_
        intro A4 c4 w4 hs hc; have HS4 := Lib.hid hs; have HE4 : Hid ((fun _ => True) w4) := Lib.hid trivial; have HC4 := Lib.hid hc; refine ⟨HE4.out, ?_⟩; clear hs hc
        simp only [Act.put, List.setIfInBounds_toArray, List.set_cons_zero, List.set_cons_succ]
        refine rests_take 9 (oi := _) (v := ?_) (by simp only [List.getElem?_toArray, List.getElem?_cons_succ, List.getElem?_cons_zero]; rfl) (by kernel_rfl) (by kernel_rfl) (by kernel_rfl) (by exact fun _ _ _ h => h) (HE4.out) (by rfl) ?_ ?_; rotate_left; (· intro W HW; go_simp; try with_reducible rfl)
        simp only [Act.put, List.setIfInBounds_toArray, List.set_cons_zero, List.set_cons_succ]
        refine rests_take 10 (oi := _) (v := ?_) (by simp only [List.getElem?_toArray, List.getElem?_cons_succ, List.getElem?_cons_zero]; rfl) (by kernel_rfl) (by kernel_rfl) (by kernel_rfl) (by exact fun _ _ _ h => h) (HE4.out) (by rfl) ?_ ?_; rotate_left; (· intro W HW; go_simp; try with_reducible rfl)
        simp only [Act.put, List.setIfInBounds_toArray, List.set_cons_zero, List.set_cons_succ]
        refine rests_store1 11 (oi := _) (by simp only [List.getElem?_toArray, List.getElem?_cons_succ, List.getElem?_cons_zero]; rfl) (by kernel_rfl) (by rfl) 59 (.tmp 23) (.tmp 21) rfl go 3 (.slice A4 (n + 1) c4) rfl rfl 97 _ (Done.at_ (C := fun X => Star (Star (X) (OwnK 9 1 (.slice A4 (n + 1) c4) (n + 1) (strg (l ++ [s])))) (CellW g3 #[.string s] 9)) (Fr.l (Fr.l Fr.id_ (OwnK.stab _ _ _ _ _)) (CellW.stab _ _ _)) HS4.out) (by simp) (run_storeS _ _ _ _ _) ?_
        intro w5 hg hh; have HS5 : Hid (Done w F (Star (Star (CellW go #[.int .i64 (W : Int), .int .i64 (f : Int), .int .i64 (sn : Int), .slice A4 (n + 1) c4] 97) (OwnK 9 1 (.slice A4 (n + 1) c4) (n + 1) (strg (l ++ [s])))) (CellW g3 #[.string s] 9)) w5) := Done.put_ (C := fun X => Star (Star (X) (OwnK 9 1 (.slice A4 (n + 1) c4) (n + 1) (strg (l ++ [s])))) (CellW g3 #[.string s] 9)) (Fr.l (Fr.l Fr.id_ (OwnK.stab _ _ _ _ _)) (CellW.stab _ _ _)) HS4.out hg hh; have HE5 : Hid ((fun _ => True) w5) := Lib.hid trivial; refine ⟨HE5.out, ?_⟩; clear hg hh
        simp only [Act.put, List.setIfInBounds_toArray, List.set_cons_zero, List.set_cons_succ]
        refine rests_done (by kernel_rfl) ?_
        go_wp2
        go_ret
        refine ⟨rfl, HS5.out.drop.mono fun F hF => ⟨HOK2.out, go, .slice A4 (n + 1) c4, rfl, ?_⟩⟩
        have e : (l ++ [s]).length = n + 1 := by rw [HN.out]; simp
        unfold OutO ouc
        simp only
        rw [e]
        exact hF
      · obtain ⟨g2, hg2⟩ : ∃ g, g = (w1).heap.size := ⟨_, rfl⟩
        have hal2 := CellW.new (w1) #[.string s] 9
        rw [← hg2] at hal2
        obtain ⟨w2, hw2⟩ : ∃ wz, wz = (w1).alloc (.cells #[.string s] 9) := ⟨_, rfl⟩
        rw [← hw2] at hal2
        have HS2 := Lib.hid (HS1.out.add ((CellW.stab _ _ _).star (OwnK.stab _ _ _ _ _)) hal2)
        have HE2 : Hid ((fun _ => True) w2) := Lib.hid trivial
        refine wp_val (v := .slice (some ⟨g2, 0, none⟩) 1 1) (w' := w2) (by rw [hg2, hw2]; go_simp) ⟨HE2.out, ?_⟩
        clear hg2 hal2 hw2
        simp only [Act.put, List.setIfInBounds_toArray, List.set_cons_zero, List.set_cons_succ]
        have cq3 : (w2).cell? ⟨go, 3, none⟩ = some (.slice A n cap) := cell_at (Done.at_ (C := fun X => Star (Star (X) (OwnK 9 1 (.slice A n cap) n (strg l))) (CellW g2 #[.string s] 9)) (Fr.l (Fr.l Fr.id_ (OwnK.stab _ _ _ _ _)) (CellW.stab _ _ _)) HS2.out) 3 _ rfl
        refine rests_run 4 (oi := _) (by simp only [List.getElem?_toArray, List.getElem?_cons_succ, List.getElem?_cons_zero]; rfl) (by kernel_rfl) (by rfl) (.slice A n cap) (w2) (by go_simp) ⟨HE2.out, ?_⟩
        clear cq3
        simp only [Act.put, List.setIfInBounds_toArray, List.set_cons_zero, List.set_cons_succ]
        refine rests_appD 8 (oi := _) (by simp only [List.getElem?_toArray, List.getElem?_cons_succ, List.getElem?_cons_zero]; rfl) (by kernel_rfl) (by rfl) (C := fun X => Star (Star (CellW go #[.int .i64 (W : Int), .int .i64 (f : Int), .int .i64 (sn : Int), .slice A n cap] 97) X) (CellW g2 #[.string s] 9)) (Fr.l (Fr.r (CellW.stab _ _ _) Fr.id_) (CellW.stab _ _ _)) HS2.out (.tmp 17) (.tmp 20) 59 16 (.string ⟨#[]⟩) rfl Tryz.underlying59 (by kernel_rfl) rfl (by decide) (.slice (some ⟨g2, 0, none⟩) 1 1) 1 [.string s] rfl rfl ((rdG_new (Done.at_ (C := fun X => Star (Star (CellW go #[.int .i64 (W : Int), .int .i64 (f : Int), .int .i64 (sn : Int), .slice A n cap] 97) (OwnK 9 1 (.slice A n cap) n (strg l))) X) (Fr.r ((CellW.stab _ _ _).star (OwnK.stab _ _ _ _ _)) Fr.id_) HS2.out) rfl)) (by simp [Value.oneCell']) (n + 1) rfl HB.out (strg (l ++ [s])) (by simp [strg]) ?_
        intro A4 c4 w4 hs hc; have HS4 := Lib.hid hs; have HE4 : Hid ((fun _ => True) w4) := Lib.hid trivial; have HC4 := Lib.hid hc; refine ⟨HE4.out, ?_⟩; clear hs hc
        simp only [Act.put, List.setIfInBounds_toArray, List.set_cons_zero, List.set_cons_succ]
        refine rests_take 9 (oi := _) (v := ?_) (by simp only [List.getElem?_toArray, List.getElem?_cons_succ, List.getElem?_cons_zero]; rfl) (by kernel_rfl) (by kernel_rfl) (by kernel_rfl) (by exact fun _ _ _ h => h) (HE4.out) (by rfl) ?_ ?_; rotate_left; (· intro W HW; go_simp; try with_reducible rfl)
        simp only [Act.put, List.setIfInBounds_toArray, List.set_cons_zero, List.set_cons_succ]
        refine rests_take 10 (oi := _) (v := ?_) (by simp only [List.getElem?_toArray, List.getElem?_cons_succ, List.getElem?_cons_zero]; rfl) (by kernel_rfl) (by kernel_rfl) (by kernel_rfl) (by exact fun _ _ _ h => h) (HE4.out) (by rfl) ?_ ?_; rotate_left; (· intro W HW; go_simp; try with_reducible rfl)
        simp only [Act.put, List.setIfInBounds_toArray, List.set_cons_zero, List.set_cons_succ]
        refine rests_store1 11 (oi := _) (by simp only [List.getElem?_toArray, List.getElem?_cons_succ, List.getElem?_cons_zero]; rfl) (by kernel_rfl) (by rfl) 59 (.tmp 23) (.tmp 21) rfl go 3 (.slice A4 (n + 1) c4) rfl rfl 97 _ (Done.at_ (C := fun X => Star (Star (X) (OwnK 9 1 (.slice A4 (n + 1) c4) (n + 1) (strg (l ++ [s])))) (CellW g2 #[.string s] 9)) (Fr.l (Fr.l Fr.id_ (OwnK.stab _ _ _ _ _)) (CellW.stab _ _ _)) HS4.out) (by simp) (run_storeS _ _ _ _ _) ?_
        intro w5 hg hh; have HS5 : Hid (Done w F (Star (Star (CellW go #[.int .i64 (W : Int), .int .i64 (f : Int), .int .i64 (sn : Int), .slice A4 (n + 1) c4] 97) (OwnK 9 1 (.slice A4 (n + 1) c4) (n + 1) (strg (l ++ [s])))) (CellW g2 #[.string s] 9)) w5) := Done.put_ (C := fun X => Star (Star (X) (OwnK 9 1 (.slice A4 (n + 1) c4) (n + 1) (strg (l ++ [s])))) (CellW g2 #[.string s] 9)) (Fr.l (Fr.l Fr.id_ (OwnK.stab _ _ _ _ _)) (CellW.stab _ _ _)) HS4.out hg hh; have HE5 : Hid ((fun _ => True) w5) := Lib.hid trivial; refine ⟨HE5.out, ?_⟩; clear hg hh
        simp only [Act.put, List.setIfInBounds_toArray, List.set_cons_zero, List.set_cons_succ]
        refine rests_done (by kernel_rfl) ?_
        go_wp2
        go_ret
        refine ⟨rfl, HS5.out.drop.mono fun F hF => ⟨HOK2.out, go, .slice A4 (n + 1) c4, rfl, ?_⟩⟩
        have e : (l ++ [s]).length = n + 1 := by rw [HN.out]; simp
        unfold OutO ouc
        simp only
        rw [e]
        exact hF
/-- The first i of k numbers from f on; noughts behind. -/
def nsP (f k i : Nat) : List Value := (List.range k).map fun j => Value.int .i64 (if j < i then (((f + j) % 8 : Nat) : Int) else 0)
theorem nsP_zero (f k : Nat) : nsP f k 0 = List.replicate k (.int .i64 0) := by
  unfold nsP
  apply List.ext_getElem
  · simp
  · intro i h1 h2
    simp
theorem nsP_len (f k i : Nat) : (nsP f k i).length = k := by simp [nsP]
theorem nsP_set (f k i : Nat) : (nsP f k i).set i (.int .i64 (((f + i) % 8 : Nat) : Int)) = nsP f k (i + 1) := by
  unfold nsP
  apply List.ext_getElem
  · simp
  · intro j h1 h2
    rw [List.getElem_set]
    split
    · rename_i e
      subst e
      simp
    · rename_i e
      simp only [List.getElem_map, List.getElem_range]
      congr 1
      by_cases hj : j < i
      · rw [if_pos hj, if_pos (by omega)]
      · rw [if_neg hj, if_neg (by omega)]
theorem nsP_full {W f sn k : Nat} {l : List ByteArray} (hk : k = min W l.length) : ints (OutM.ns ⟨W, f, l, sn⟩) = nsP f k k := by
  have e : OutM.k ⟨W, f, l, sn⟩ = k := hk.symm
  unfold OutM.ns ints nsP
  rw [e, List.map_map]
  refine List.map_congr_left fun j hj => ?_
  have hj : j < k := List.mem_range.1 hj
  show Value.int .i64 (((f + j) % 8 : Nat) : Int) = _
  rw [if_pos hj]
theorem burst_fin {W f sn n k go g2 c1 cap : Nat} {l : List ByteArray} {A A1 : Option Addr} {w w5 : World} {F : List Nat} (hok : OutM.ok ⟨W, f, l, sn⟩) (hn : n = l.length) (hk : k = min W n) (h : Done w F (Star (Star (Star (CellW go #[.int .i64 (W : Int), .int .i64 (f : Int), .int .i64 (k : Int), .slice A n cap] 97) (OwnK 9 1 (.slice A n cap) n (strg l))) (OwnK 9 1 (.slice A1 k c1) k (strg (l.take k)))) (OwnK 3 1 (.slice (some ⟨g2, 0, none⟩) k k) k (nsP f k k))) w5) :
    Done w F (Star (OutW (.pointer (some ⟨go, 0, none⟩)) (OutM.burst ⟨W, f, l, sn⟩)) (Star (SlW 1 (.slice (some ⟨g2, 0, none⟩) k k) (OutM.k ⟨W, f, l, sn⟩) (ints (OutM.ns ⟨W, f, l, sn⟩))) (SlW 1 (.slice A1 k c1) (OutM.k ⟨W, f, l, sn⟩) (strg (OutM.bs ⟨W, f, l, sn⟩))))) w5 := by
  subst hn
  have e1 : OutM.burst ⟨W, f, l, sn⟩ = ⟨W, f, l, k⟩ := by
    have h1 := hok.sent
    have h2 := hok.sentw
    show (⟨W, f, l, max sn (min W l.length)⟩ : OutM) = _
    rw [show max sn (min W l.length) = k by simp only at h1 h2; omega]
  have hok2 := hok.burst
  rw [e1] at hok2
  have e2 : OutM.k ⟨W, f, l, sn⟩ = k := hk.symm
  rw [e1, nsP_full hk, show OutM.bs ⟨W, f, l, sn⟩ = l.take k by show l.take (min W l.length) = _; rw [hk], e2]
  refine (Done.comm_at (C := fun X => Star (Star (CellW go #[.int .i64 (W : Int), .int .i64 (f : Int), .int .i64 (k : Int), .slice A l.length cap] 97) (OwnK 9 1 (.slice A l.length cap) l.length (strg l))) X) (Fr.r ((CellW.stab _ _ _).star (OwnK.stab _ _ _ _ _)) Fr.id_) (Done.assoc_at (C := fun X => X) Fr.id_ h)).mono ?_
  rintro F ⟨F1, F2, rfl, h1, ⟨F3, F4, rfl, h2, h3, h4⟩, h5⟩
  exact ⟨F1, F3 ++ F4, rfl, ⟨hok2, go, _, rfl, h1⟩, ⟨F3, F4, rfl, h2.sl, h3.sl, h4⟩, h5⟩
set_option maxRecDepth 100000 in
set_option maxHeartbeats 16000000 in
theorem OBurst_any (v : Value) (m : OutM) (F : List Nat) (w : World) (h : OutW v m w F) : Calls Tryz.prog 47 #[v] w fun e w' => ∃ a b, e = .returned (.tuple #[a, b]) ∧ Done w F (Star (OutW v m.burst) (Star (SlW 1 a m.k (ints m.ns)) (SlW 1 b m.k (strg m.bs)))) w' := by
  obtain ⟨hok, go, A, cap, rfl, hcap, h⟩ := h.shape
  obtain ⟨W, f, l, sn⟩ := m
  unfold OutO ouc at h
  simp only at h hcap
  obtain ⟨n, hn⟩ : ∃ n, n = l.length := ⟨_, rfl⟩
  rw [← hn] at h hcap
  obtain ⟨k, hk⟩ : ∃ k, k = min W n := ⟨_, rfl⟩
  have hW7 := hok.win7
  have hl8 := hok.len
  have hf8 := hok.first
  simp only [← hn] at hW7 hl8 hf8
  have hkn : k ≤ n := by omega
  have HFIN := Lib.hid (fun g2 c1 A1 w5 => burst_fin (go := go) (g2 := g2) (c1 := c1) (cap := cap) (A := A) (A1 := A1) (w := w) (w5 := w5) (F := F) hok hn hk)
  have hS := Done.start h
  have HN := Lib.hid hn
  have HKN := Lib.hid hkn
  have HK7 : Hid (k ≤ 7) := by show _ ≤ _; omega
  have HKB : Hid (k ≤ 1000000) := by show _ ≤ _; omega
  have HNB : Hid (n ≤ 1000000) := by show _ ≤ _; omega
  have HF8 := Lib.hid hf8
  have HCAP := Lib.hid hcap
  have HSd := Lib.hid (hS.drewD ((CellW.stab _ _ _).star (OwnK.stab _ _ _ _ _)))
  have HEd : Hid ((fun U => U.cell? ⟨go, 0, none⟩ = some (.int .i64 (W : Int)) ∧ U.cell? ⟨go, 3, none⟩ = some (.slice A n cap)) w.drew) := ⟨cell_at (Done.at_ (C := fun X => Star (X) (OwnK 9 1 (.slice A n cap) n (strg l))) (Fr.l Fr.id_ (OwnK.stab _ _ _ _ _)) HSd.out) 0 _ rfl, cell_at (Done.at_ (C := fun X => Star (X) (OwnK 9 1 (.slice A n cap) n (strg l))) (Fr.l Fr.id_ (OwnK.stab _ _ _ _ _)) HSd.out) 3 _ rfl⟩
  have HMIN : Hid (min (W : Int) (n : Int) = (k : Int)) := by show _ = _; omega
  have bk1 : (k : Int) ≤ (n : Int) := by omega
  have bk2 : (k : Int) ≤ (cap : Int) := by omega
  have bk3 : k ≤ cap := by omega
  clear hok hn hS h hcap hk hW7 hl8 hf8 hkn
  go_enter Tryz.func47, Tryz.ntmps47
  go_wp2
  refine rests_begin (fun U => U.cell? ⟨go, 0, none⟩ = some (.int .i64 (W : Int)) ∧ U.cell? ⟨go, 3, none⟩ = some (.slice A n cap)) (by kernel_rfl) ?_
  refine rests_take 0 (oi := _) (v := ?_) (by simp only [List.getElem?_toArray, List.getElem?_cons_zero]; rfl) (by kernel_rfl) (by kernel_rfl) (by kernel_rfl) (by exact fun _ _ _ h => h) (HEd.out) (by rfl) ?_ ?_; rotate_left; (· intro W HW; go_simp; try with_reducible rfl)
  simp only [Act.put, List.setIfInBounds_toArray, List.set_cons_zero, List.set_cons_succ]
  refine rests_take 1 (oi := _) (v := ?_) (by simp only [List.getElem?_toArray, List.getElem?_cons_succ, List.getElem?_cons_zero]; rfl) (by kernel_rfl) (by kernel_rfl) (by kernel_rfl) (by exact fun _ _ _ h => h) (HEd.out) (by rfl) ?_ ?_; rotate_left; (· intro W HW; go_simp; try with_reducible rfl)
  simp only [Act.put, List.setIfInBounds_toArray, List.set_cons_zero, List.set_cons_succ]
  refine rests_take 2 (oi := _) (v := ?_) (by simp only [List.getElem?_toArray, List.getElem?_cons_succ, List.getElem?_cons_zero]; rfl) (by kernel_rfl) (by kernel_rfl) (by kernel_rfl) (by exact fun _ _ _ h => h) (HEd.out) (by rfl) ?_ ?_; rotate_left; (· intro W HW; go_simp; try with_reducible rfl)
  simp only [Act.put, List.setIfInBounds_toArray, List.set_cons_zero, List.set_cons_succ]
  refine rests_take 3 (oi := _) (v := ?_) (by simp only [List.getElem?_toArray, List.getElem?_cons_succ, List.getElem?_cons_zero]; rfl) (by kernel_rfl) (by kernel_rfl) (by kernel_rfl) (by exact fun _ _ _ h => h) (HEd.out) (by rfl) ?_ ?_; rotate_left; (· intro W HW; obtain ⟨z1, z2⟩ := HW; go_simp; try with_reducible rfl)
  simp only [Act.put, List.setIfInBounds_toArray, List.set_cons_zero, List.set_cons_succ]
  refine rests_take 4 (oi := _) (v := ?_) (by simp only [List.getElem?_toArray, List.getElem?_cons_succ, List.getElem?_cons_zero]; rfl) (by kernel_rfl) (by kernel_rfl) (by kernel_rfl) (by exact fun _ _ _ h => h) (HEd.out) (by rfl) ?_ ?_; rotate_left; (· intro W HW; go_simp; try with_reducible rfl)
  simp only [Act.put, List.setIfInBounds_toArray, List.set_cons_zero, List.set_cons_succ]
  refine rests_take 5 (oi := _) (v := ?_) (by simp only [List.getElem?_toArray, List.getElem?_cons_succ, List.getElem?_cons_zero]; rfl) (by kernel_rfl) (by kernel_rfl) (by kernel_rfl) (by exact fun _ _ _ h => h) (HEd.out) (by rfl) ?_ ?_; rotate_left; (· intro W HW; go_simp; try with_reducible rfl)
  simp only [Act.put, List.setIfInBounds_toArray, List.set_cons_zero, List.set_cons_succ]
  refine rests_take 6 (oi := _) (v := ?_) (by simp only [List.getElem?_toArray, List.getElem?_cons_succ, List.getElem?_cons_zero]; rfl) (by kernel_rfl) (by kernel_rfl) (by kernel_rfl) (by exact fun _ _ _ h => h) (HEd.out) (by rfl) ?_ ?_; rotate_left; (· intro W HW; go_simp; try with_reducible rfl)
  simp only [Act.put, List.setIfInBounds_toArray, List.set_cons_zero, List.set_cons_succ]
  refine rests_take 7 (oi := _) (v := ?_) (by simp only [List.getElem?_toArray, List.getElem?_cons_succ, List.getElem?_cons_zero]; rfl) (by kernel_rfl) (by kernel_rfl) (by kernel_rfl) (by exact fun _ _ _ h => h) (HEd.out) (by rfl) ?_ ?_; rotate_left; (· intro W HW; obtain ⟨z1, z2⟩ := HW; go_simp; try with_reducible rfl)
  simp only [Act.put, List.setIfInBounds_toArray, List.set_cons_zero, List.set_cons_succ]
  refine rests_take 8 (oi := _) (v := ?_) (by simp only [List.getElem?_toArray, List.getElem?_cons_succ, List.getElem?_cons_zero]; rfl) (by kernel_rfl) (by kernel_rfl) (by kernel_rfl) (by exact fun _ _ _ h => h) (HEd.out) (by rfl) ?_ ?_; rotate_left; (· intro W HW; go_simp; try with_reducible rfl)
  simp only [Act.put, List.setIfInBounds_toArray, List.set_cons_zero, List.set_cons_succ]
  refine rests_take 9 (oi := _) (v := ?_) (by simp only [List.getElem?_toArray, List.getElem?_cons_succ, List.getElem?_cons_zero]; rfl) (by kernel_rfl) (by kernel_rfl) (by kernel_rfl) (by exact fun _ _ _ h => h) (HEd.out) (by rfl) ?_ ?_; rotate_left; (· intro W HW; go_simp; try with_reducible rfl)
  simp only [Act.put, List.setIfInBounds_toArray, List.set_cons_zero, List.set_cons_succ]
  refine rests_take 10 (oi := _) (v := ?_) (by simp only [List.getElem?_toArray, List.getElem?_cons_succ, List.getElem?_cons_zero]; rfl) (by kernel_rfl) (by kernel_rfl) (by kernel_rfl) (by exact fun _ _ _ h => h) (HEd.out) (by rfl) ?_ ?_; rotate_left; (· intro W HW; go_simp; try with_reducible rfl)
  simp only [Act.put, List.setIfInBounds_toArray, List.set_cons_zero, List.set_cons_succ]
  refine rests_take 11 (oi := _) (v := ?_) (by simp only [List.getElem?_toArray, List.getElem?_cons_succ, List.getElem?_cons_zero]; rfl) (by kernel_rfl) (by kernel_rfl) (by kernel_rfl) (by exact fun _ _ _ h => h) (HEd.out) (by rfl) ?_ ?_; rotate_left; (· intro W HW; obtain ⟨z1, z2⟩ := HW; go_simp; try with_reducible rfl)
  simp only [Act.put, List.setIfInBounds_toArray, List.set_cons_zero, List.set_cons_succ]
  refine rests_take 12 (oi := _) (v := ?_) (by simp only [List.getElem?_toArray, List.getElem?_cons_succ, List.getElem?_cons_zero]; rfl) (by kernel_rfl) (by kernel_rfl) (by kernel_rfl) (by exact fun _ _ _ h => h) (HEd.out) (by rfl) ?_ ?_; rotate_left; (· intro W HW; go_simp; try with_reducible rfl)
  simp only [Act.put, List.setIfInBounds_toArray, List.set_cons_zero, List.set_cons_succ]
  refine rests_take 13 (oi := _) (v := .int .i64 (k : Int)) (by simp only [List.getElem?_toArray, List.getElem?_cons_succ, List.getElem?_cons_zero]; rfl) (by kernel_rfl) (by kernel_rfl) (by kernel_rfl) (by exact fun _ _ _ h => h) (HEd.out) (by rfl) (fun W HW => by go_simp; exact HMIN.out) ?_
  simp only [Act.put, List.setIfInBounds_toArray, List.set_cons_zero, List.set_cons_succ]
  refine rests_take 14 (oi := _) (v := .slice A k cap) (by simp only [List.getElem?_toArray, List.getElem?_cons_succ, List.getElem?_cons_zero]; rfl) (by kernel_rfl) (by kernel_rfl) (by kernel_rfl) (by exact fun _ _ _ h => h) (HEd.out) (by rfl) (fun W HW => by go_simp) ?_
  simp only [Act.put, List.setIfInBounds_toArray, List.set_cons_zero, List.set_cons_succ]
  refine rests_call 15 (oi := _) (by simp only [List.getElem?_toArray, List.getElem?_cons_succ, List.getElem?_cons_zero]; rfl) 66 #[.slice A k cap] _ (by kernel_rfl) (by rfl) (by go_simp) (SlClone_D (C := fun X => Star (CellW go #[.int .i64 (W : Int), .int .i64 (f : Int), .int .i64 (sn : Int), .slice A n cap] 97) X) (Fr.r (CellW.stab _ _ _) Fr.id_) ((CellW.stab _ _ _).star (OwnK.stab _ _ _ _ _)) HSd.out HN.out HKN.out HNB.out) ?_
  rintro e w1 ⟨A1, c1, rfl, hc1, hs⟩; have HS1 := Lib.hid hs; have HE1 : Hid ((fun U => U.cell? ⟨go, 0, none⟩ = some (.int .i64 (W : Int)) ∧ U.cell? ⟨go, 3, none⟩ = some (.slice A n cap)) w1) := ⟨cell_at (Done.at_ (C := fun X => Star (Star (X) (OwnK 9 1 (.slice A n cap) n (strg l))) (OwnK 9 1 (.slice A1 k c1) k (strg (l.take k)))) (Fr.l (Fr.l Fr.id_ (OwnK.stab _ _ _ _ _)) (OwnK.stab _ _ _ _ _)) hs) 0 _ rfl, cell_at (Done.at_ (C := fun X => Star (Star (X) (OwnK 9 1 (.slice A n cap) n (strg l))) (OwnK 9 1 (.slice A1 k c1) k (strg (l.take k)))) (Fr.l (Fr.l Fr.id_ (OwnK.stab _ _ _ _ _)) (OwnK.stab _ _ _ _ _)) hs) 3 _ rfl⟩; clear hc1; refine ⟨_, rfl, HE1.out, ?_⟩; clear hs
  simp only [Act.put, List.setIfInBounds_toArray, List.set_cons_zero, List.set_cons_succ]
  refine rests_take 16 (oi := _) (v := ?_) (by simp only [List.getElem?_toArray, List.getElem?_cons_succ, List.getElem?_cons_zero]; rfl) (by kernel_rfl) (by kernel_rfl) (by kernel_rfl) (by exact fun _ _ _ h => h) (HE1.out) (by rfl) ?_ ?_; rotate_left; (· intro W HW; go_simp; try with_reducible rfl)
  simp only [Act.put, List.setIfInBounds_toArray, List.set_cons_zero, List.set_cons_succ]
  refine rests_done (by kernel_rfl) ?_
  go_wp2_with ((with_reducible refine wpList_makeI rfl (.tmp 26) (.tmp 26) rfl k rfl rfl HKB.out ?_); intro g2 w2 hd; have HS2 : Hid (Done w F (Star (Star (Star (CellW go #[.int .i64 (W : Int), .int .i64 (f : Int), .int .i64 (sn : Int), .slice A n cap] 97) (OwnK 9 1 (.slice A n cap) n (strg l))) (OwnK 9 1 (.slice A1 k c1) k (strg (l.take k)))) (OwnK 3 1 (.slice (some ⟨g2, 0, none⟩) k k) k (nsP f k 0))) w2) := (by show Done _ _ _ _; rw [nsP_zero]; exact HS1.out.add (((CellW.stab _ _ _).star (OwnK.stab _ _ _ _ _)).star (OwnK.stab _ _ _ _ _)) hd); clear hd)
  go_loopw [30] (fun iv wr => ∃ i : Nat, i ≤ k ∧ iv = .int .i64 (i : Int) ∧ Done w F (Star (Star (Star (CellW go #[.int .i64 (W : Int), .int .i64 (f : Int), .int .i64 (sn : Int), .slice A n cap] 97) (OwnK 9 1 (.slice A n cap) n (strg l))) (OwnK 9 1 (.slice A1 k c1) k (strg (l.take k)))) (OwnK 3 1 (.slice (some ⟨g2, 0, none⟩) k k) k (nsP f k i))) wr) (fun iv _ => (9 - intOf iv).toNat)
  case atStart => exact ⟨0, by omega, rfl, HS2.out⟩
  case round =>
    clear HS2
    obtain ⟨i, hik, rfl, hs⟩ := hrel
    have HS2 := Lib.hid hs
    clear hs
    by_cases hlt : i < k
    · have t1 : decide ((i : Int) < (k : Int)) = true := decide_eq_true (by omega)
      have e1 : IntKind.i64.wrap ((i : Int) + 1) = (i : Int) + 1 := IntWalk.i64_in _ (by have := HK7.out; omega)
      have q1 : wr.cell? ⟨go, 1, none⟩ = some (.int .i64 (f : Int)) := cell_at (Done.at_ (C := fun X => Star (Star (Star (X) (OwnK 9 1 (.slice A n cap) n (strg l))) (OwnK 9 1 (.slice A1 k c1) k (strg (l.take k)))) (OwnK 3 1 (.slice (some ⟨g2, 0, none⟩) k k) k (nsP f k i))) (Fr.l (Fr.l (Fr.l Fr.id_ (OwnK.stab _ _ _ _ _)) (OwnK.stab _ _ _ _ _)) (OwnK.stab _ _ _ _ _)) HS2.out) 1 _ rfl
      have ha := fun w => MAdd_any (f : Int) (i : Int) w (w64 (by have := HF8.out; omega)) (w64 (by have := HK7.out; omega))
      rw [show m8 ((f : Int) + (i : Int)) = (((f + i) % 8 : Nat) : Int) by unfold m8; omega] at ha
      have HAD := Lib.hid ha
      have HIL : Hid (i < (nsP f k i).length) := by show _ < _; rw [nsP_len]; exact hlt
      have HNS := Lib.hid (nsP_set f k i)
      have b1 : (i : Int) < (k : Int) := by omega
      clear ha
      generalize (((f + i) % 8 : Nat) : Int) = z at HAD HNS
      go_wp2_with (first
        | (go_at_call 18; ((with_reducible refine (dcalls_keep ((((CellW.stab _ _ _).star (OwnK.stab _ _ _ _ _)).star (OwnK.stab _ _ _ _ _)).star (OwnK.stab _ _ _ _ _)) HS2.out (HAD.out _)).mono ?_); rintro e w3 ⟨rfl, hs⟩; have HS3 := Lib.hid hs; clear hs))
        | ((with_reducible refine wpList_storeKD (C := fun X => Star (Star (Star (CellW go #[.int .i64 (W : Int), .int .i64 (f : Int), .int .i64 (sn : Int), .slice A n cap] 97) (OwnK 9 1 (.slice A n cap) n (strg l))) (OwnK 9 1 (.slice A1 k c1) k (strg (l.take k)))) X) (Fr.r (((CellW.stab _ _ _).star (OwnK.stab _ _ _ _ _)).star (OwnK.stab _ _ _ _ _)) Fr.id_) HS3.out rfl 3 (.tmp 41) (.tmp 40) rfl i (.int .i64 z) rfl rfl HIL.out (run_storeI _ _ _) ?_); intro w4 hs; have HS4 : Hid (Done w F (Star (Star (Star (CellW go #[.int .i64 (W : Int), .int .i64 (f : Int), .int .i64 (sn : Int), .slice A n cap] 97) (OwnK 9 1 (.slice A n cap) n (strg l))) (OwnK 9 1 (.slice A1 k c1) k (strg (l.take k)))) (OwnK 3 1 (.slice (some ⟨g2, 0, none⟩) k k) k (nsP f k (i + 1)))) w4) := (by show Done _ _ _ _; rw [← HNS.out]; exact hs); clear hs))
      go_roundw
      case rel => exact ⟨i + 1, by omega, by go_num, HS4.out⟩
      case measure => have := HK7.out; simp [intOf] <;> omega
    · obtain rfl : k = i := by omega
      have t1 : decide ((k : Int) < (k : Int)) = false := decide_eq_false (by omega)
      go_wp2_with ((with_reducible refine wpList_storeD (C := fun X => Star (Star (Star (X) (OwnK 9 1 (.slice A n cap) n (strg l))) (OwnK 9 1 (.slice A1 k c1) k (strg (l.take k)))) (OwnK 3 1 (.slice (some ⟨g2, 0, none⟩) k k) k (nsP f k k))) (Fr.l (Fr.l (Fr.l Fr.id_ (OwnK.stab _ _ _ _ _)) (OwnK.stab _ _ _ _ _)) (OwnK.stab _ _ _ _ _)) HS2.out rfl 3 (.tmp 47) (.tmp 45) rfl 2 (.int .i64 (k : Int)) rfl rfl (by simp) (run_storeI _ _ _) ?_); intro w5 hs; have HS5 : Hid (Done w F (Star (Star (Star (CellW go #[.int .i64 (W : Int), .int .i64 (f : Int), .int .i64 (k : Int), .slice A n cap] 97) (OwnK 9 1 (.slice A n cap) n (strg l))) (OwnK 9 1 (.slice A1 k c1) k (strg (l.take k)))) (OwnK 3 1 (.slice (some ⟨g2, 0, none⟩) k k) k (nsP f k k))) w5) := (by show Done _ _ _ _; exact hs); clear hs)
      go_ret2
      exact ⟨_, _, rfl, HFIN.out _ _ _ _ HS5.out⟩
set_option maxRecDepth 100000 in
set_option maxHeartbeats 16000000 in
theorem OAck_any (v : Value) (m : OutM) (F : List Nat) (nr : Int) (w : World) (h : OutW v m w F) (hnr : (Lit.int .i64 nr).wf = true) : Calls Tryz.prog 48 #[v, .int .i64 nr] w fun e w' => e = .returned (.tuple #[.int .i64 (m.ackN nr : Int), .bool (m.acks nr)]) ∧ Done w F (OutW v (m.ack nr)) w' := by
  have h0 := h
  obtain ⟨hok, go, A, cap, rfl, hcap, h⟩ := h.shape
  obtain ⟨W, f, l, sn⟩ := m
  unfold OutO ouc at h
  simp only at h hcap
  obtain ⟨n, hn⟩ : ∃ n, n = l.length := ⟨_, rfl⟩
  rw [← hn] at h hcap
  have hS := Done.start h
  have hg := (Done.at_ (C := fun X => Star (X) (OwnK 9 1 (.slice A n cap) n (strg l))) (Fr.l Fr.id_ (OwnK.stab _ _ _ _ _)) hS)
  have Q1 : Hid (w.cell? ⟨go, 1, none⟩ = some (.int .i64 (f : Int))) := cell_at hg 1 _ rfl
  have Q2 : Hid (w.cell? ⟨go, 2, none⟩ = some (.int .i64 (sn : Int))) := cell_at hg 2 _ rfl
  have hl8 := hok.len
  have hsn := hok.sent
  have hsw := Nat.le_trans hok.sentw hok.win7
  have hf8 := hok.first
  simp only [← hn] at hl8 hsn hsw hf8
  have HN := Lib.hid hn
  have HS := Lib.hid hS
  have HCAP := Lib.hid hcap
  have hnum := fun w => ONum_any nr w hnr
  have HNUM := Lib.hid hnum
  have hfn : OutM.ack ⟨W, f, l, sn⟩ nr = ⟨W, f, l, sn⟩ → ∀ w1, Below w.heap.size w w1 → Done w F (OutW (.pointer (some ⟨go, 0, none⟩)) (OutM.ack ⟨W, f, l, sn⟩ nr)) w1 := fun e w1 hb => by
    rw [e]
    exact (Done.start h0).keep (OutW.stab _ _) hb
  have hno : OutM.acks ⟨W, f, l, sn⟩ nr = false → (OutM.ackN ⟨W, f, l, sn⟩ nr = 0 ∧ OutM.acks ⟨W, f, l, sn⟩ nr = false ∧ OutM.ack ⟨W, f, l, sn⟩ nr = ⟨W, f, l, sn⟩) := fun e => by
    refine ⟨?_, e, ?_⟩
    · unfold OutM.ackN; rw [e]; rfl
    · unfold OutM.ack; rw [e]; rfl
  by_cases hnn : 0 ≤ nr ∧ nr ≤ 7
  · rw [decide_eq_true hnn] at hnum
    have HNM := Lib.hid hnum
    have e1 : IntKind.i64.wrap ((sn : Int) + 1) = (sn : Int) + 1 := IntWalk.i64_in _ (by omega)
    have hin := fun w => MIn_any nr (f : Int) ((sn : Int) + 1) w hnr (w64 (by omega)) (w64 (by omega))
    by_cases hd : (nr - (f : Int)) % 8 < (sn : Int) + 1
    · have hib : inM nr (f : Int) ((sn : Int) + 1) = true := decide_eq_true hd
      rw [hib] at hin
      have HIN := Lib.hid hin
      obtain ⟨d, hdd⟩ : ∃ d, d = OutM.dif ⟨W, f, l, sn⟩ nr := ⟨_, rfl⟩
      have hde : (d : Int) = (nr - (f : Int)) % 8 := by rw [hdd]; unfold OutM.dif; simp only; omega
      have ha : OutM.acks ⟨W, f, l, sn⟩ nr = true := decide_eq_true ⟨hnn.1, hnn.2, by rw [← hdd]; show d ≤ sn; omega⟩
      have haN : OutM.ackN ⟨W, f, l, sn⟩ nr = d := by unfold OutM.ackN; rw [ha, hdd]; rfl
      have haA : OutM.ack ⟨W, f, l, sn⟩ nr = ⟨W, nr.toNat, l.drop d, sn - d⟩ := by unfold OutM.ack; rw [ha, hdd]; rfl
      have hok2 := hok.ack nr
      rw [haA] at hok2
      rw [ha, haN, haA]
      have hdf := fun w => MDiff_any nr (f : Int) w hnr (w64 (by omega))
      rw [show m8 (nr - (f : Int)) = (d : Int) from hde.symm] at hdf
      obtain ⟨r, rfl⟩ : ∃ r : Nat, nr = (r : Int) := ⟨nr.toNat, by omega⟩
      rw [Int.toNat_natCast] at hok2 ⊢
      have HOK2 := Lib.hid hok2
      have HDF := Lib.hid hdf
      have hdn : d ≤ n := by omega
      have HDN := Lib.hid hdn
      have e3 : IntKind.i64.wrap ((sn : Int) - (d : Int)) = (sn : Int) - (d : Int) := IntWalk.i64_in _ (by omega)
      have HE4 : Hid ((sn : Int) - (d : Int) = ((sn - d : Nat) : Int)) := by show _ = _; omega
      clear hok hn hS hg h h0 hl8 hsn hsw hf8 hcap hnum hfn hno hnn hin hd hib hdd hde ha haN haA hok2 hdf hdn hnr
      go_enter Tryz.func48, Tryz.ntmps48
      go_wp2
      refine regq (fun W => Below w.heap.size w W) (by kernel_rfl) (by kernel_rfl) ((Below.refl _ _).drew) ?_
      refine q_take (v := ?_) (by rfl) ?_ ?_; rotate_left; (· intro W HW; go_simp; try with_reducible rfl)
      simp only [Act.put, List.setIfInBounds_toArray, List.set_cons_zero, List.set_cons_succ]
      refine q_take (v := ?_) (by rfl) ?_ ?_; rotate_left; (· intro W HW; go_simp; try with_reducible rfl)
      simp only [Act.put, List.setIfInBounds_toArray, List.set_cons_zero, List.set_cons_succ]
      refine q_take (v := ?_) (by rfl) ?_ ?_; rotate_left; (· intro W HW; go_simp; try with_reducible rfl)
      simp only [Act.put, List.setIfInBounds_toArray, List.set_cons_zero, List.set_cons_succ]
      refine q_take (v := ?_) (by rfl) ?_ ?_; rotate_left; (· intro W HW; go_simp; try with_reducible rfl)
      simp only [Act.put, List.setIfInBounds_toArray, List.set_cons_zero, List.set_cons_succ]
      refine q_call 67 #[.int .i64 (r : Int)] (by rfl) (by intro W HW; go_simp) (from_call HNM.out) ?_
      simp only [Act.put, List.setIfInBounds_toArray, List.set_cons_zero, List.set_cons_succ]
      refine q_take (v := ?_) (by rfl) ?_ ?_; rotate_left; (· intro W HW; go_simp; try with_reducible rfl)
      simp only [Act.put, List.setIfInBounds_toArray, List.set_cons_zero, List.set_cons_succ]
      refine q_take (v := ?_) (by rfl) ?_ ?_; rotate_left; (· intro W HW; go_simp; try with_reducible rfl)
      simp only [Act.put, List.setIfInBounds_toArray, List.set_cons_zero, List.set_cons_succ]
      refine q_take (v := ?_) (by rfl) ?_ ?_; rotate_left; (· intro W HW; go_simp; try with_reducible rfl)
      simp only [Act.put, List.setIfInBounds_toArray, List.set_cons_zero, List.set_cons_succ]
      refine q_take (v := ?_) (by rfl) ?_ ?_; rotate_left; (· intro W HW; go_simp; try with_reducible rfl)
      simp only [Act.put, List.setIfInBounds_toArray, List.set_cons_zero, List.set_cons_succ]
      refine q_take (v := ?_) (by rfl) ?_ ?_; rotate_left; (· intro W HW; go_simp; try with_reducible rfl)
      simp only [Act.put, List.setIfInBounds_toArray, List.set_cons_zero, List.set_cons_succ]
      refine q_take (v := ?_) (by rfl) ?_ ?_; rotate_left; (· intro W HW; go_simp; try with_reducible rfl)
      simp only [Act.put, List.setIfInBounds_toArray, List.set_cons_zero, List.set_cons_succ]
      refine q_take (v := ?_) (by rfl) ?_ ?_; rotate_left; (· intro W HW; go_simp; try with_reducible rfl)
      simp only [Act.put, List.setIfInBounds_toArray, List.set_cons_zero, List.set_cons_succ]
      refine q_take (v := ?_) (by rfl) ?_ ?_; rotate_left; (· intro W HW; have c1w : W.cell? ⟨go, 1, none⟩ = some (.int .i64 (f : Int)) := (HW.cell (p := ⟨go, 1, none⟩) (World.block_lt_of_cell? _ _ Q1.out)).trans Q1.out; go_simp; try with_reducible rfl)
      simp only [Act.put, List.setIfInBounds_toArray, List.set_cons_zero, List.set_cons_succ]
      refine q_take (v := ?_) (by rfl) ?_ ?_; rotate_left; (· intro W HW; go_simp; try with_reducible rfl)
      simp only [Act.put, List.setIfInBounds_toArray, List.set_cons_zero, List.set_cons_succ]
      refine q_take (v := ?_) (by rfl) ?_ ?_; rotate_left; (· intro W HW; go_simp; try with_reducible rfl)
      simp only [Act.put, List.setIfInBounds_toArray, List.set_cons_zero, List.set_cons_succ]
      refine q_take (v := ?_) (by rfl) ?_ ?_; rotate_left; (· intro W HW; go_simp; try with_reducible rfl)
      simp only [Act.put, List.setIfInBounds_toArray, List.set_cons_zero, List.set_cons_succ]
      refine q_take (v := ?_) (by rfl) ?_ ?_; rotate_left; (· intro W HW; have c2w : W.cell? ⟨go, 2, none⟩ = some (.int .i64 (sn : Int)) := (HW.cell (p := ⟨go, 2, none⟩) (World.block_lt_of_cell? _ _ Q2.out)).trans Q2.out; go_simp; try with_reducible rfl)
      simp only [Act.put, List.setIfInBounds_toArray, List.set_cons_zero, List.set_cons_succ]
      refine q_take (v := ?_) (by rfl) ?_ ?_; rotate_left; (· intro W HW; go_simp; try with_reducible rfl)
      simp only [Act.put, List.setIfInBounds_toArray, List.set_cons_zero, List.set_cons_succ]
      refine q_call 21 #[.int .i64 (r : Int), .int .i64 (f : Int), .int .i64 ((sn : Int) + 1)] (by rfl) (by intro W HW; go_simp) (from_call HIN.out) ?_
      simp only [Act.put, List.setIfInBounds_toArray, List.set_cons_zero, List.set_cons_succ]
      refine q_take (v := ?_) (by rfl) ?_ ?_; rotate_left; (· intro W HW; go_simp; try with_reducible rfl)
      simp only [Act.put, List.setIfInBounds_toArray, List.set_cons_zero, List.set_cons_succ]
      refine q_take (v := ?_) (by rfl) ?_ ?_; rotate_left; (· intro W HW; go_simp; try with_reducible rfl)
      simp only [Act.put, List.setIfInBounds_toArray, List.set_cons_zero, List.set_cons_succ]
      refine q_done ?_
      intro w1 hb
      have HS1 := Lib.hid (HS.out.keep ((CellW.stab _ _ _).star (OwnK.stab _ _ _ _ _)) hb)
      have q1 : w1.cell? ⟨go, 1, none⟩ = some (.int .i64 (f : Int)) := cell_at (Done.at_ (C := fun X => Star (X) (OwnK 9 1 (.slice A n cap) n (strg l))) (Fr.l Fr.id_ (OwnK.stab _ _ _ _ _)) HS1.out) 1 _ rfl
      clear hb
      go_wp2_with (first
        | (go_at_call 20; ((with_reducible refine (dcalls_keep ((CellW.stab _ _ _).star (OwnK.stab _ _ _ _ _)) HS1.out (HDF.out _)).mono ?_); rintro e w2 ⟨rfl, hs⟩; have HS2 : Hid (Done w F (Star (CellW go #[.int .i64 (W : Int), .int .i64 (f : Int), .int .i64 (sn : Int), .slice A n cap] 97) (OwnK 9 1 (.slice A n cap) n (strg l))) w2) := (by show Done _ _ _ _; exact hs); have q3 : w2.cell? ⟨go, 3, none⟩ = some (.slice A n cap) := cell_at (Done.at_ (C := fun X => Star (X) (OwnK 9 1 (.slice A n cap) n (strg l))) (Fr.l Fr.id_ (OwnK.stab _ _ _ _ _)) hs) 3 _ rfl; clear hs))
        | (go_at_call 68; ((with_reducible refine (SlDel_D (C := fun X => Star (CellW go #[.int .i64 (W : Int), .int .i64 (f : Int), .int .i64 (sn : Int), .slice A n cap] 97) X) (Fr.r (CellW.stab _ _ _) Fr.id_) HS2.out HN.out HDN.out HCAP.out).mono ?_); rintro e w3 ⟨rfl, hs⟩; have HS3 : Hid (Done w F (Star (CellW go #[.int .i64 (W : Int), .int .i64 (f : Int), .int .i64 (sn : Int), .slice A n cap] 97) (OwnK 9 1 (.slice A (n - d) cap) (n - d) (strg (l.drop d)))) w3) := (by show Done _ _ _ _; exact hs); clear hs))
        | ((with_reducible refine wpList_storeD (C := fun X => Star (X) (OwnK 9 1 (.slice A (n - d) cap) (n - d) (strg (l.drop d)))) (Fr.l Fr.id_ (OwnK.stab _ _ _ _ _)) HS3.out rfl 59 (.tmp 42) (.tmp 40) rfl 3 (.slice A (n - d) cap) rfl rfl (by simp) (run_storeS _ _ _ _ _) ?_); intro w4 hs; have HS4 : Hid (Done w F (Star (CellW go #[.int .i64 (W : Int), .int .i64 (f : Int), .int .i64 (sn : Int), .slice A (n - d) cap] 97) (OwnK 9 1 (.slice A (n - d) cap) (n - d) (strg (l.drop d)))) w4) := (by show Done _ _ _ _; exact hs); clear hs)
        | ((with_reducible refine wpList_storeD (C := fun X => Star (X) (OwnK 9 1 (.slice A (n - d) cap) (n - d) (strg (l.drop d)))) (Fr.l Fr.id_ (OwnK.stab _ _ _ _ _)) HS4.out rfl 3 (.tmp 46) (.tmp 44) rfl 1 (.int .i64 (r : Int)) rfl rfl (by simp) (run_storeI _ _ _) ?_); intro w5 hs; have HS5 : Hid (Done w F (Star (CellW go #[.int .i64 (W : Int), .int .i64 (r : Int), .int .i64 (sn : Int), .slice A (n - d) cap] 97) (OwnK 9 1 (.slice A (n - d) cap) (n - d) (strg (l.drop d)))) w5) := (by show Done _ _ _ _; exact hs); have q2 : w5.cell? ⟨go, 2, none⟩ = some (.int .i64 (sn : Int)) := cell_at (Done.at_ (C := fun X => Star (X) (OwnK 9 1 (.slice A (n - d) cap) (n - d) (strg (l.drop d)))) (Fr.l Fr.id_ (OwnK.stab _ _ _ _ _)) hs) 2 _ rfl; clear hs)
        | ((with_reducible refine wpList_storeD (C := fun X => Star (X) (OwnK 9 1 (.slice A (n - d) cap) (n - d) (strg (l.drop d)))) (Fr.l Fr.id_ (OwnK.stab _ _ _ _ _)) HS5.out rfl 3 (.tmp 54) (.tmp 52) rfl 2 (.int .i64 ((sn : Int) - (d : Int))) rfl rfl (by simp) (run_storeI _ _ _) ?_); intro w6 hs; have HS6 : Hid (Done w F (Star (CellW go #[.int .i64 (W : Int), .int .i64 (r : Int), .int .i64 ((sn - d : Nat) : Int), .slice A (n - d) cap] 97) (OwnK 9 1 (.slice A (n - d) cap) (n - d) (strg (l.drop d)))) w6) := (by show Done _ _ _ _; rw [← HE4.out]; exact hs); clear hs))
      go_ret2
      refine ⟨rfl, HS6.out.mono fun F hF => ⟨HOK2.out, go, .slice A (n - d) cap, rfl, ?_⟩⟩
      have e : (l.drop d).length = n - d := by rw [List.length_drop, ← HN.out]
      unfold OutO ouc
      simp only
      rw [e]
      exact hF
    · have hib : inM nr (f : Int) ((sn : Int) + 1) = false := decide_eq_false hd
      rw [hib] at hin
      have HIN := Lib.hid hin
      have ha : OutM.acks ⟨W, f, l, sn⟩ nr = false := decide_eq_false (fun h1 => hd (by have h2 := h1.2.2; unfold OutM.dif at h2; simp only at h2; omega))
      have HNO := Lib.hid (hno ha)
      have HFN := Lib.hid (hfn (hno ha).2.2)
      clear hok hn hS hg h h0 hl8 hsn hsw hf8 hcap hnum hfn hno hnn hin hd hib ha hnr
      go_enter Tryz.func48, Tryz.ntmps48
      go_wp2
      refine regq (fun W => Below w.heap.size w W) (by kernel_rfl) (by kernel_rfl) ((Below.refl _ _).drew) ?_
      refine q_take (v := ?_) (by rfl) ?_ ?_; rotate_left; (· intro W HW; go_simp; try with_reducible rfl)
      simp only [Act.put, List.setIfInBounds_toArray, List.set_cons_zero, List.set_cons_succ]
      refine q_take (v := ?_) (by rfl) ?_ ?_; rotate_left; (· intro W HW; go_simp; try with_reducible rfl)
      simp only [Act.put, List.setIfInBounds_toArray, List.set_cons_zero, List.set_cons_succ]
      refine q_take (v := ?_) (by rfl) ?_ ?_; rotate_left; (· intro W HW; go_simp; try with_reducible rfl)
      simp only [Act.put, List.setIfInBounds_toArray, List.set_cons_zero, List.set_cons_succ]
      refine q_take (v := ?_) (by rfl) ?_ ?_; rotate_left; (· intro W HW; go_simp; try with_reducible rfl)
      simp only [Act.put, List.setIfInBounds_toArray, List.set_cons_zero, List.set_cons_succ]
      refine q_call 67 #[.int .i64 nr] (by rfl) (by intro W HW; go_simp) (from_call HNM.out) ?_
      simp only [Act.put, List.setIfInBounds_toArray, List.set_cons_zero, List.set_cons_succ]
      refine q_take (v := ?_) (by rfl) ?_ ?_; rotate_left; (· intro W HW; go_simp; try with_reducible rfl)
      simp only [Act.put, List.setIfInBounds_toArray, List.set_cons_zero, List.set_cons_succ]
      refine q_take (v := ?_) (by rfl) ?_ ?_; rotate_left; (· intro W HW; go_simp; try with_reducible rfl)
      simp only [Act.put, List.setIfInBounds_toArray, List.set_cons_zero, List.set_cons_succ]
      refine q_take (v := ?_) (by rfl) ?_ ?_; rotate_left; (· intro W HW; go_simp; try with_reducible rfl)
      simp only [Act.put, List.setIfInBounds_toArray, List.set_cons_zero, List.set_cons_succ]
      refine q_take (v := ?_) (by rfl) ?_ ?_; rotate_left; (· intro W HW; go_simp; try with_reducible rfl)
      simp only [Act.put, List.setIfInBounds_toArray, List.set_cons_zero, List.set_cons_succ]
      refine q_take (v := ?_) (by rfl) ?_ ?_; rotate_left; (· intro W HW; go_simp; try with_reducible rfl)
      simp only [Act.put, List.setIfInBounds_toArray, List.set_cons_zero, List.set_cons_succ]
      refine q_take (v := ?_) (by rfl) ?_ ?_; rotate_left; (· intro W HW; go_simp; try with_reducible rfl)
      simp only [Act.put, List.setIfInBounds_toArray, List.set_cons_zero, List.set_cons_succ]
      refine q_take (v := ?_) (by rfl) ?_ ?_; rotate_left; (· intro W HW; go_simp; try with_reducible rfl)
      simp only [Act.put, List.setIfInBounds_toArray, List.set_cons_zero, List.set_cons_succ]
      refine q_take (v := ?_) (by rfl) ?_ ?_; rotate_left; (· intro W HW; have c1w : W.cell? ⟨go, 1, none⟩ = some (.int .i64 (f : Int)) := (HW.cell (p := ⟨go, 1, none⟩) (World.block_lt_of_cell? _ _ Q1.out)).trans Q1.out; go_simp; try with_reducible rfl)
      simp only [Act.put, List.setIfInBounds_toArray, List.set_cons_zero, List.set_cons_succ]
      refine q_take (v := ?_) (by rfl) ?_ ?_; rotate_left; (· intro W HW; go_simp; try with_reducible rfl)
      simp only [Act.put, List.setIfInBounds_toArray, List.set_cons_zero, List.set_cons_succ]
      refine q_take (v := ?_) (by rfl) ?_ ?_; rotate_left; (· intro W HW; go_simp; try with_reducible rfl)
      simp only [Act.put, List.setIfInBounds_toArray, List.set_cons_zero, List.set_cons_succ]
      refine q_take (v := ?_) (by rfl) ?_ ?_; rotate_left; (· intro W HW; go_simp; try with_reducible rfl)
      simp only [Act.put, List.setIfInBounds_toArray, List.set_cons_zero, List.set_cons_succ]
      refine q_take (v := ?_) (by rfl) ?_ ?_; rotate_left; (· intro W HW; have c2w : W.cell? ⟨go, 2, none⟩ = some (.int .i64 (sn : Int)) := (HW.cell (p := ⟨go, 2, none⟩) (World.block_lt_of_cell? _ _ Q2.out)).trans Q2.out; go_simp; try with_reducible rfl)
      simp only [Act.put, List.setIfInBounds_toArray, List.set_cons_zero, List.set_cons_succ]
      refine q_take (v := ?_) (by rfl) ?_ ?_; rotate_left; (· intro W HW; go_simp; try with_reducible rfl)
      simp only [Act.put, List.setIfInBounds_toArray, List.set_cons_zero, List.set_cons_succ]
      refine q_call 21 #[.int .i64 nr, .int .i64 (f : Int), .int .i64 ((sn : Int) + 1)] (by rfl) (by intro W HW; go_simp) (from_call HIN.out) ?_
      simp only [Act.put, List.setIfInBounds_toArray, List.set_cons_zero, List.set_cons_succ]
      refine q_take (v := ?_) (by rfl) ?_ ?_; rotate_left; (· intro W HW; go_simp; try with_reducible rfl)
      simp only [Act.put, List.setIfInBounds_toArray, List.set_cons_zero, List.set_cons_succ]
      refine q_take (v := ?_) (by rfl) ?_ ?_; rotate_left; (· intro W HW; go_simp; try with_reducible rfl)
      simp only [Act.put, List.setIfInBounds_toArray, List.set_cons_zero, List.set_cons_succ]
      refine q_done ?_
      intro w1 hb
      have HB1 := Lib.hid hb
      clear hb
      go_wp2
      go_ret2
      exact ⟨by rw [HNO.out.1, HNO.out.2.1]; rfl, HFN.out w1 HB1.out⟩
  · rw [decide_eq_false hnn] at hnum
    have HNM := Lib.hid hnum
    have ha : OutM.acks ⟨W, f, l, sn⟩ nr = false := decide_eq_false (fun h1 => hnn ⟨h1.1, h1.2.1⟩)
    have HNO := Lib.hid (hno ha)
    have HFN := Lib.hid (hfn (hno ha).2.2)
    clear hok hn hS hg h h0 hl8 hsn hsw hf8 hcap hnum hfn hno hnn ha hnr
    go_enter Tryz.func48, Tryz.ntmps48
    go_wp2
    refine regq (fun W => Below w.heap.size w W) (by kernel_rfl) (by kernel_rfl) ((Below.refl _ _).drew) ?_
    refine q_take (v := ?_) (by rfl) ?_ ?_; rotate_left; (· intro W HW; go_simp; try with_reducible rfl)
    simp only [Act.put, List.setIfInBounds_toArray, List.set_cons_zero, List.set_cons_succ]
    refine q_take (v := ?_) (by rfl) ?_ ?_; rotate_left; (· intro W HW; go_simp; try with_reducible rfl)
    simp only [Act.put, List.setIfInBounds_toArray, List.set_cons_zero, List.set_cons_succ]
    refine q_take (v := ?_) (by rfl) ?_ ?_; rotate_left; (· intro W HW; go_simp; try with_reducible rfl)
    simp only [Act.put, List.setIfInBounds_toArray, List.set_cons_zero, List.set_cons_succ]
    refine q_take (v := ?_) (by rfl) ?_ ?_; rotate_left; (· intro W HW; go_simp; try with_reducible rfl)
    simp only [Act.put, List.setIfInBounds_toArray, List.set_cons_zero, List.set_cons_succ]
    refine q_call 67 #[.int .i64 nr] (by rfl) (by intro W HW; go_simp) (from_call HNM.out) ?_
    simp only [Act.put, List.setIfInBounds_toArray, List.set_cons_zero, List.set_cons_succ]
    refine q_take (v := ?_) (by rfl) ?_ ?_; rotate_left; (· intro W HW; go_simp; try with_reducible rfl)
    simp only [Act.put, List.setIfInBounds_toArray, List.set_cons_zero, List.set_cons_succ]
    refine q_take (v := ?_) (by rfl) ?_ ?_; rotate_left; (· intro W HW; go_simp; try with_reducible rfl)
    simp only [Act.put, List.setIfInBounds_toArray, List.set_cons_zero, List.set_cons_succ]
    refine q_take (v := ?_) (by rfl) ?_ ?_; rotate_left; (· intro W HW; go_simp; try with_reducible rfl)
    simp only [Act.put, List.setIfInBounds_toArray, List.set_cons_zero, List.set_cons_succ]
    refine q_skip (by rfl) ?_
    simp only [Act.put, List.setIfInBounds_toArray, List.set_cons_zero, List.set_cons_succ]
    refine q_skip (by rfl) ?_
    simp only [Act.put, List.setIfInBounds_toArray, List.set_cons_zero, List.set_cons_succ]
    refine q_skip (by rfl) ?_
    simp only [Act.put, List.setIfInBounds_toArray, List.set_cons_zero, List.set_cons_succ]
    refine q_skip (by rfl) ?_
    simp only [Act.put, List.setIfInBounds_toArray, List.set_cons_zero, List.set_cons_succ]
    refine q_skip (by rfl) ?_
    simp only [Act.put, List.setIfInBounds_toArray, List.set_cons_zero, List.set_cons_succ]
    refine q_skip (by rfl) ?_
    simp only [Act.put, List.setIfInBounds_toArray, List.set_cons_zero, List.set_cons_succ]
    refine q_skip (by rfl) ?_
    simp only [Act.put, List.setIfInBounds_toArray, List.set_cons_zero, List.set_cons_succ]
    refine q_skip (by rfl) ?_
    simp only [Act.put, List.setIfInBounds_toArray, List.set_cons_zero, List.set_cons_succ]
    refine q_skip (by rfl) ?_
    simp only [Act.put, List.setIfInBounds_toArray, List.set_cons_zero, List.set_cons_succ]
    refine q_skip (by rfl) ?_
    simp only [Act.put, List.setIfInBounds_toArray, List.set_cons_zero, List.set_cons_succ]
    refine q_skip (by rfl) ?_
    simp only [Act.put, List.setIfInBounds_toArray, List.set_cons_zero, List.set_cons_succ]
    refine q_skip (by rfl) ?_
    simp only [Act.put, List.setIfInBounds_toArray, List.set_cons_zero, List.set_cons_succ]
    refine q_take (v := ?_) (by rfl) ?_ ?_; rotate_left; (· intro W HW; go_simp; try with_reducible rfl)
    simp only [Act.put, List.setIfInBounds_toArray, List.set_cons_zero, List.set_cons_succ]
    refine q_done ?_
    intro w1 hb
    have HB1 := Lib.hid hb
    clear hb
    go_wp2
    go_ret2
    exact ⟨by rw [HNO.out.1, HNO.out.2.1]; rfl, HFN.out w1 HB1.out⟩
end Go.Proofs.YtocjhpaackccpaaGreatDoor

namespace Go.Proofs.YtocjhpaackccpaaGreatDoor
open Go.RowKit

/-- strings.Clone of any text that a memory may hold. -/
theorem SClone_big (s : ByteArray) (w : World) (hs : s.size ≤ 281474976710656) : Calls Tryz.prog 58 #[.string s] w fun e w' => e = .returned (.string s) ∧ Below w.heap.size w w' := by
  go_enter Tryz.func58, Tryz.ntmps58
  go_wp2_with (go_at_call 70; refine (Tryz.stringslite_Clone s _ hs).mono ?_; rintro e w' ⟨rfl, hb⟩)
  go_ret
  exact ⟨rfl, hb⟩
def inc (m : InM) : Array Value := #[.int .i64 (m.next : Int), .bool m.odd]
/-- The landed In at v. -/
def InW (v : Value) (m : InM) : Obj := fun w F => m.ok ∧ ∃ gi, v = .pointer (some ⟨gi, 0, none⟩) ∧ CellW gi (inc m) 89 w F
theorem InW.stab (v : Value) (m : InM) : Stab (InW v m) where
  in_ := fun ⟨_, gi, _, h⟩ => (CellW.stab gi _ _).in_ h
  tch := fun ⟨h1, gi, e, h⟩ ht hd => ⟨h1, gi, e, (CellW.stab gi _ _).tch h ht hd⟩
section
variable {w : World} {v : Value} {F : List Nat}
theorem InW.ptr {m : InM} (h : InW v m w F) : ∃ a : Addr, v = .pointer (some a) := by
  obtain ⟨_, gi, rfl, _⟩ := h
  exact ⟨_, rfl⟩
theorem InW.ok {m : InM} (h : InW v m w F) : m.ok := h.1
theorem InW.cells {m : InM} (h : InW v m w F) : ∃ gi, v = .pointer (some ⟨gi, 0, none⟩) ∧ w.heap[gi]? = some (.cells (inc m) 89 (0, 0)) := by
  obtain ⟨_, gi, rfl, _, h⟩ := h
  exact ⟨gi, rfl, h⟩
end
theorem INew_any (w : World) : Calls Tryz.prog 23 #[] w fun e w' => ∃ v, e = .returned v ∧ Done w [] (InW v InM.new) w' := by
  go_enter Tryz.func23, Tryz.ntmps23
  go_wp2
  go_ret
  refine ⟨_, rfl, ?_⟩
  exact (CellW.new w #[.int .i64 0, .bool false] 89).mono fun F hF => ⟨InM.ok_new, w.heap.size, rfl, hF⟩
set_option maxHeartbeats 1000000 in
theorem INext_any (v : Value) (m : InM) (F : List Nat) (w : World) (h : InW v m w F) : Calls Tryz.prog 26 #[v] w fun e w' => e = .returned (.int .i64 (m.next : Int)) ∧ Below w.heap.size w w' := by
  obtain ⟨gi, rfl, hg⟩ := h.cells
  have q : w.cell? ⟨gi, 0, none⟩ = some (.int .i64 (m.next : Int)) := cell_at hg 0 _ rfl
  clear hg h
  go_enter Tryz.func26, Tryz.ntmps26
  go_wp2
  go_ret
  exact ⟨rfl, Below.refl _ _⟩
set_option maxHeartbeats 1000000 in
theorem IOdd_any (v : Value) (m : InM) (F : List Nat) (w : World) (h : InW v m w F) : Calls Tryz.prog 27 #[v] w fun e w' => e = .returned (.bool m.odd) ∧ Below w.heap.size w w' := by
  obtain ⟨gi, rfl, hg⟩ := h.cells
  have q : w.cell? ⟨gi, 1, none⟩ = some (.bool m.odd) := cell_at hg 1 _ rfl
  clear hg h
  go_enter Tryz.func27, Tryz.ntmps27
  go_wp2
  go_ret
  exact ⟨rfl, Below.refl _ _⟩
set_option maxRecDepth 100000 in
set_option maxHeartbeats 4000000 in
theorem InTake_miss (gi r : Nat) (o : Bool) (q : Int) (s : ByteArray) (w : World) (hn : ¬ q = (r : Int)) (F : List Nat) (h : CellW gi #[.int .i64 (r : Int), .bool o] 89 w F) : Calls Tryz.prog 24 #[.pointer (some ⟨gi, 0, none⟩), .int .i64 q, .string s] w fun e w' => e = .returned (.tuple #[.string ⟨#[]⟩, .bool false]) ∧ Done w F (CellW gi #[.int .i64 (r : Int), .bool true] 89) w' := by
  have hS := Done.start h
  have hg := Done.at_ (C := fun X => X) Fr.id_ hS
  have c0 : w.cell? ⟨gi, 0, none⟩ = some (.int .i64 (r : Int)) := cell_at hg 0 _ rfl
  have hb : (q == (r : Int)) = false := beq_eq_false_iff_ne.2 hn
  have hb2 : (q != (r : Int)) = true := by simp [bne, hb]
  have HS := Lib.hid hS
  clear h hS hg hn
  go_enter Tryz.func24, Tryz.ntmps24
  go_wp2_with ((with_reducible refine wpList_storeD (C := fun X => X) Fr.id_ HS.out rfl 4 (.tmp 18) (.tmp 16) rfl 1 (.bool true) rfl rfl (by simp) (run_storeBo _ _ _) ?_); intro w1 hs; have q1 : w1.cell? ⟨gi, 1, none⟩ = some (.bool true) := cell_at (Done.at_ (C := fun X => X) Fr.id_ hs) 1 _ rfl; have HS1 : Hid (Done w F (CellW gi #[.int .i64 (r : Int), .bool true] 89) w1) := (by show Done _ _ _ _; exact hs); clear hs)
  go_ret2
  exact ⟨rfl, HS1.out⟩
set_option maxRecDepth 100000 in
set_option maxHeartbeats 4000000 in
theorem InTake_hit (gi r : Nat) (o : Bool) (s : ByteArray) (w : World) (hr : r < 8) (hsz : s.size ≤ 281474976710656) (F : List Nat) (h : CellW gi #[.int .i64 (r : Int), .bool o] 89 w F) : Calls Tryz.prog 24 #[.pointer (some ⟨gi, 0, none⟩), .int .i64 (r : Int), .string s] w fun e w' => e = .returned (.tuple #[.string s, .bool true]) ∧ Done w F (CellW gi #[.int .i64 (((r + 1) % 8 : Nat) : Int), .bool false] 89) w' := by
  have hS := Done.start h
  have hg := Done.at_ (C := fun X => X) Fr.id_ hS
  have c0 : w.cell? ⟨gi, 0, none⟩ = some (.int .i64 (r : Int)) := cell_at hg 0 _ rfl
  have hm := fun w => MAdd_any (r : Int) 1 w (w64 (by omega)) (w64 (by omega))
  rw [show m8 ((r : Int) + 1) = (((r + 1) % 8 : Nat) : Int) by unfold m8; omega] at hm
  generalize (r + 1) % 8 = r' at hm ⊢
  have HM := Lib.hid hm
  have HC := Lib.hid (fun w => SClone_big s w hsz)
  have HS := Lib.hid hS
  clear h hS hg hr hm hsz
  go_enter Tryz.func24, Tryz.ntmps24
  go_wp2_with first
    | ((with_reducible refine wpList_storeD (C := fun X => X) Fr.id_ HS.out rfl 4 (.tmp 18) (.tmp 16) rfl 1 (.bool false) rfl rfl (by simp) (run_storeBo _ _ _) ?_); intro w1 hs; have q0 : w1.cell? ⟨gi, 0, none⟩ = some (.int .i64 (r : Int)) := cell_at (Done.at_ (C := fun X => X) Fr.id_ hs) 0 _ rfl; have q1 : w1.cell? ⟨gi, 1, none⟩ = some (.bool false) := cell_at (Done.at_ (C := fun X => X) Fr.id_ hs) 1 _ rfl; have HS1 : Hid (Done w F (CellW gi #[.int .i64 (r : Int), .bool false] 89) w1) := (by show Done _ _ _ _; exact hs); clear hs)
    | (go_at_call 18; (with_reducible refine (dcalls_keep (CellW.stab _ _ _) HS1.out (HM.out _)).mono ?_); rintro e w2 ⟨rfl, hs⟩; have HS2 : Hid (Done w F (CellW gi #[.int .i64 (r : Int), .bool false] 89) w2) := (by show Done _ _ _ _; exact hs); clear hs)
    | ((with_reducible refine wpList_storeD (C := fun X => X) Fr.id_ HS2.out rfl 3 (.tmp 30) (.tmp 28) rfl 0 (.int .i64 (r' : Int)) rfl rfl (by simp) (run_storeI _ _ _) ?_); intro w3 hs; have HS3 : Hid (Done w F (CellW gi #[.int .i64 (r' : Int), .bool false] 89) w3) := (by show Done _ _ _ _; exact hs); clear hs)
    | (go_at_call 58; (with_reducible refine (dcalls_keep (CellW.stab _ _ _) HS3.out (HC.out _)).mono ?_); rintro e w4 ⟨rfl, hs⟩; have HS4 : Hid (Done w F (CellW gi #[.int .i64 (r' : Int), .bool false] 89) w4) := (by show Done _ _ _ _; exact hs); clear hs)
  go_ret2
  exact ⟨rfl, HS4.out⟩
theorem ITake_any (v : Value) (m : InM) (F : List Nat) (ns : Int) (s : ByteArray) (w : World) (h : InW v m w F) (_hn : (Lit.int .i64 ns).wf = true) (hs : m.hit ns = true → s.size ≤ 281474976710656) : Calls Tryz.prog 24 #[v, .int .i64 ns, .string s] w fun e w' => e = .returned (.tuple #[.string (m.told ns s), .bool (m.hit ns)]) ∧ Done w F (InW v (m.take ns)) w' := by
  have hok := InM.ok.take h.1 ns
  obtain ⟨h1, gi, rfl, h2⟩ := h
  obtain ⟨r, o⟩ := m
  by_cases hh : ns = (r : Int)
  · have e1 : InM.hit ⟨r, o⟩ ns = true := decide_eq_true hh
    have e2 : InM.told ⟨r, o⟩ ns s = s := by unfold InM.told; rw [e1]; rfl
    have e3 : InM.take ⟨r, o⟩ ns = ⟨(r + 1) % 8, false⟩ := by unfold InM.take; rw [e1]; rfl
    have hz := hs e1
    rw [e3] at hok
    rw [e1, e2, e3]
    subst hh
    refine (InTake_hit gi r o s w h1 hz F h2).mono ?_
    rintro e w' ⟨rfl, hd⟩
    exact ⟨rfl, hd.mono fun F hF => ⟨hok, gi, rfl, hF⟩⟩
  · have e1 : InM.hit ⟨r, o⟩ ns = false := decide_eq_false hh
    have e2 : InM.told ⟨r, o⟩ ns s = ⟨#[]⟩ := by unfold InM.told; rw [e1]; rfl
    have e3 : InM.take ⟨r, o⟩ ns = ⟨r, true⟩ := by unfold InM.take; rw [e1]; rfl
    rw [e3] at hok
    rw [e1, e2, e3]
    refine (InTake_miss gi r o ns s w hh F h2).mono ?_
    rintro e w' ⟨rfl, hd⟩
    exact ⟨rfl, hd.mono fun F hF => ⟨hok, gi, rfl, hF⟩⟩
end Go.Proofs.YtocjhpaackccpaaGreatDoor
