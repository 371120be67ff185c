/- Words for memory: a slice that reads as bytes, a row of the call's own that is bytes, append of the one onto the other. -/
import Derived.Test.YtameiegmeicnoaaProg
import Derived.WalkKit
import Derived.Below
import Derived.Laws.OwnMore
import Derived.Laws.CopyOwn
import Derived.Maps.AppendAt
import Derived.Deep.AppendLies
import Derived.Deep.Draws
import Derived.RegionTactic
import Derived.OwnWalk
import Derived.Laws.IdiomStrings
namespace Go.Proofs.Ytameiegmeicnoaa
open Go.RowKit

theorem block_of_add (a : Addr) (n : Nat) : (a.add n).block = a.block := by unfold Addr.add; split <;> rfl
theorem add_of_add (a : Addr) (i j : Nat) : (a.add i).add j = a.add (i + j) := by
  unfold Addr.add
  by_cases hi : i = 0 <;> by_cases hj : j = 0 <;> simp [hi, hj, Nat.add_assoc]

def Reads (w : World) (B size : Nat) (A : Option Addr) (n : Nat) (xs : List Value) : Prop :=
  xs.length = n * size ∧ (0 < n → ∃ ad, A = some ad ∧ ad.block < B ∧ ∀ j u, xs[j]? = some u → w.cell? (ad.add j) = some u)

section
variable {w w' : World} {B B' size n : Nat} {A : Option Addr} {xs : List Value}
theorem Reads.none_ : Reads w B size A 0 [] := ⟨by simp, fun h => absurd h (by omega)⟩
theorem Reads.at_ {k : Nat} (h : Reads w B 1 A n xs) (hk : k < n) : ∃ ad u, A = some ad ∧ ad.block < B ∧ xs[k]? = some u ∧ w.cell? (ad.add k) = some u := by
  obtain ⟨ad, e, hb, hc⟩ := h.2 (by omega)
  have hl : k < xs.length := by have := h.1; omega
  exact ⟨ad, xs[k], e, hb, List.getElem?_eq_getElem hl, hc k _ (List.getElem?_eq_getElem hl)⟩
theorem Reads.keep (h : Reads w B size A n xs) (hk : ∀ p : Addr, p.block < B → w'.cell? p = w.cell? p) : Reads w' B size A n xs :=
  ⟨h.1, fun hn => by
    obtain ⟨ad, e, hb, hc⟩ := h.2 hn
    exact ⟨ad, e, hb, fun j u hu => (hk _ (by rw [block_of_add]; exact hb)).trans (hc j u hu)⟩⟩
theorem Reads.more (h : Reads w B size A n xs) (hB : B ≤ B') : Reads w B' size A n xs :=
  ⟨h.1, fun hn => by
    obtain ⟨ad, e, hb, hc⟩ := h.2 hn
    exact ⟨ad, e, by omega, hc⟩⟩
theorem Reads.below (h : Reads w B size A n xs) (hb : Below B w w') : Reads w' B size A n xs := h.keep fun _ hp => hb.cell hp
theorem Reads.drew (h : Reads w B size A n xs) : Reads w.drew B size A n xs := h
theorem Reads.drewN (h : Reads w B size A n xs) (k : Nat) : Reads (w.drewN k) B size A n xs := h
theorem Reads.alloc (h : Reads w B size A n xs) (hB : B ≤ w.heap.size) (o : Obj) : Reads (w.alloc o) B size A n xs := h.keep fun p hp => World.cell?_alloc_lt w o p (by omega)
theorem Reads.setCell (h : Reads w B size A n xs) {p : Addr} (hB : B ≤ p.block) (u : Value) : Reads (w.setCell p u) B size A n xs :=
  h.keep fun q hq => World.cell?_setCell_other w p q u (fun e => by subst e; omega)
theorem Reads.grown (h : Reads w B size A n xs) {row : Option Nat} (hg : w.grownBy w' row) (hB : B ≤ w.heap.size) (hr : ∀ g, row = some g → B ≤ g) : Reads w' B size A n xs :=
  h.keep fun p hp => World.cell?_of_block (hg.block p.block (by omega) (fun e => by have := hr _ e.symm; omega))
theorem Reads.cut (h : Reads w B size A n xs) {k cap : Nat} (hk : k ≤ n) (hc : n ≤ cap) :
    Reads w B size (if cap = k then A else A.map (·.add (k * size))) (n - k) (xs.drop (k * size)) := by
  refine ⟨by rw [List.length_drop, h.1, Nat.sub_mul], fun hn => ?_⟩
  obtain ⟨ad, rfl, hb, hcell⟩ := h.2 (by omega)
  rw [if_neg (by omega)]
  refine ⟨ad.add (k * size), rfl, by rw [block_of_add]; exact hb, fun j u hu => ?_⟩
  rw [add_of_add]
  exact hcell _ u (by rw [← hu, List.getElem?_drop])
theorem Reads.of_own {base : Nat} {e : TypeId} {c : Nat} (h : w.ownsRow base e size (.slice A n c) n xs) : Reads w w.heap.size size A n xs := by
  refine ⟨h.1, fun hn => ?_⟩
  obtain ⟨g, cap, hv, _, hlt⟩ := h.form hn
  have hA : A = some ⟨g, 0, none⟩ := by injection hv
  subst hA
  exact ⟨_, rfl, hlt, h.cells (g := g) rfl⟩
end
section
variable {P : Program} (w : World)

theorem run_append_of_nil (base : Nat) (t ty e : TypeId) (i : TypeInfo) (size : Nat) (ht : P.underlying t = some (.slice e)) (hi : P.info? e = some i)
    (v : Value) (n : Nat) (xs : List Value) (hown : w.ownsRow base e size v n xs) (c : Nat) : (Builtin.append_ #[t, t] ty #[v, .slice none 0 c]).run P w = .ok v w := by
  rcases hown.2 with ⟨rfl, rfl⟩ | ⟨g, cap, cur, rfl, _, _, hnc, _⟩
  · simp [Builtin.append_, run_underlying ht, sizeOf, typeInfo, hi, Builtin.lenOf, Builtin.firstCells]
  · simp [Builtin.append_, run_underlying ht, sizeOf, typeInfo, hi, Builtin.lenOf, Builtin.firstCells, hnc, storeCells]

theorem run_append_any (base : Nat) (t ty e : TypeId) (i : TypeInfo) (z : Value) (size bytes : Nat) (ht : P.underlying t = some (.slice e)) (hi : P.info? e = some i) (hz : i.zero = some z)
    (hsize : i.size = size) (hby : i.bytes = bytes) (hzs : z.cells.size = size) (hsz : 0 < size)
    (v : Value) (n : Nat) (xs : List Value) (hown : w.ownsRow base e size v n xs)
    (B : Nat) (A : Option Addr) (m c : Nat) (news : List Value) (hr : Reads w B size A m news) (h1 : ∀ u ∈ news, u.oneCell' = true)
    (h63 : n + m ≤ maxLen) (hbytes : (n + m) * bytes ≤ 140737488355328) (hbase : base ≤ w.heap.size) :
    ∃ v' w', (Builtin.append_ #[t, t] ty #[v, .slice A m c]).run P w = .ok v' w' ∧ w'.ownsRow base e size v' (n + m) (xs ++ news) ∧ w.grownBy w' v.ownBlock ∧
      (v'.ownBlock = v.ownBlock ∨ v'.ownBlock = some w.heap.size) := by
  rcases A with _ | ad
  · have hm : m = 0 := by
      rcases Nat.eq_zero_or_pos m with h0 | h0
      · exact h0
      · obtain ⟨ad, h, _⟩ := hr.2 h0
        cases h
    subst hm
    have hn : news = [] := List.eq_nil_of_length_eq_zero (by simpa using hr.1)
    subst hn
    exact ⟨v, w, run_append_of_nil w base t ty e i size ht hi v n xs hown c, by simpa using hown, World.grownBy.refl w _, .inl rfl⟩
  · have hcells : ∀ j u, news[j]? = some u → w.cell? (ad.add j) = some u := by
      intro j u hu
      rcases Nat.eq_zero_or_pos m with h0 | h0
      · subst h0
        have hn : news = [] := List.eq_nil_of_length_eq_zero (by simpa using hr.1)
        subst hn
        simp at hu
      · obtain ⟨ad', h, _, hc⟩ := hr.2 h0
        injection h with h
        subst h
        exact hc j u hu
    obtain ⟨v', w', hrun, h2, h3, _, h5⟩ := run_append_own_at (P := P) w base t ty e i z size bytes ht hi hz hsize hby hzs hsz v n xs hown ad m c news hr.1 hcells h1 h63 hbytes hbase
    exact ⟨v', w', hrun, h2, h3, h5⟩

theorem wp_append_any {o : Oper} {a : Act} {K : Act → World → Prop} {Q : Exit → Act → World → Prop} (s x : Operand) (t : TypeId)
    (ho : o.op = .call { callee := .builtin .append, args := #[s, x], argTypes := #[t, t] })
    (base : Nat) (e : TypeId) (i : TypeInfo) (z : Value) (size bytes : Nat) (ht : P.underlying t = some (.slice e)) (hi : P.info? e = some i) (hz : i.zero = some z)
    (hsize : i.size = size) (hby : i.bytes = bytes) (hzs : z.cells.size = size) (hsz : 0 < size)
    (v : Value) (n : Nat) (xs : List Value) (hs : a.eval s = v) (hown : w.ownsRow base e size v n xs)
    (B : Nat) (A : Option Addr) (m c : Nat) (news : List Value) (hx : a.eval x = .slice A m c) (hr : Reads w B size A m news) (h1 : ∀ u ∈ news, u.oneCell' = true)
    (h63 : n + m ≤ maxLen) (hbytes : (n + m) * bytes ≤ 140737488355328) (hbase : base ≤ w.heap.size)
    (h : ∀ v' w', w'.ownsRow base e size v' (n + m) (xs ++ news) → w.grownBy w' v.ownBlock → (v'.ownBlock = v.ownBlock ∨ v'.ownBlock = some w.heap.size) → K (a.put o.dst v') w') : o.wp P a w K Q := by
  obtain ⟨v', w', hrun, h2, h3, h4⟩ := run_append_any (P := P) w base t o.type e i z size bytes ht hi hz hsize hby hzs hsz v n xs hown B A m c news hr h1 h63 hbytes hbase
  unfold Oper.wp execOp
  simp only [ho, resolve, invoke, builtin, Sem.run_bind, Sem.run_pure, Result.andThen_ok, List.map_toArray, List.map_cons, List.map_nil, hs, hx, hrun]
  exact h v' w' h2 h3 h4

theorem wpList_append_any {ops : Array Oper} {rest : List Oper} {o : Oper} {a : Act} {Q : Exit → Act → World → Prop} (hgd : o.guard = none) (s x : Operand) (t : TypeId)
    (ho : o.op = .call { callee := .builtin .append, args := #[s, x], argTypes := #[t, t] })
    (base : Nat) (e : TypeId) (i : TypeInfo) (z : Value) (size bytes : Nat) (ht : P.underlying t = some (.slice e)) (hi : P.info? e = some i) (hz : i.zero = some z)
    (hsize : i.size = size) (hby : i.bytes = bytes) (hzs : z.cells.size = size) (hsz : 0 < size)
    (v : Value) (n : Nat) (xs : List Value) (hs : a.eval s = v) (hown : w.ownsRow base e size v n xs)
    (B : Nat) (A : Option Addr) (m c : Nat) (news : List Value) (hx : a.eval x = .slice A m c) (hr : Reads w B size A m news) (h1 : ∀ u ∈ news, u.oneCell' = true)
    (h63 : n + m ≤ maxLen) (hbytes : (n + m) * bytes ≤ 140737488355328) (hbase : base ≤ w.heap.size)
    (h : ∀ v' w', w'.ownsRow base e size v' (n + m) (xs ++ news) → w.grownBy w' v.ownBlock → (v'.ownBlock = v.ownBlock ∨ v'.ownBlock = some w.heap.size) → wpList P ops Q rest (a.put o.dst v') w') : wpList P ops Q (o :: rest) a w :=
  wpList_plain hgd fun _ hK => wp_append_any w s x t ho base e i z size bytes ht hi hz hsize hby hzs hsz v n xs hs hown B A m c news hx hr h1 h63 hbytes hbase fun v' w' h2 h3 h4 => hK _ _ (h v' w' h2 h3 h4)

theorem step_append_any {ops : Array Oper} {o : Oper} {a : Act} {K : Act → World → Prop} {Q : Exit → Act → World → Prop} {E : Prop} (hgd : o.guard = none) (s x : Operand) (t : TypeId)
    (ho : o.op = .call { callee := .builtin .append, args := #[s, x], argTypes := #[t, t] })
    (base : Nat) (e : TypeId) (i : TypeInfo) (z : Value) (size bytes : Nat) (ht : P.underlying t = some (.slice e)) (hi : P.info? e = some i) (hz : i.zero = some z)
    (hsize : i.size = size) (hby : i.bytes = bytes) (hzs : z.cells.size = size) (hsz : 0 < size)
    (v : Value) (n : Nat) (xs : List Value) (hs : a.eval s = v) (hown : w.ownsRow base e size v n xs)
    (B : Nat) (A : Option Addr) (m c : Nat) (news : List Value) (hx : a.eval x = .slice A m c) (hr : Reads w B size A m news) (h1 : ∀ u ∈ news, u.oneCell' = true)
    (h63 : n + m ≤ maxLen) (hbytes : (n + m) * bytes ≤ 140737488355328) (hbase : base ≤ w.heap.size)
    (h : ∀ v' w', w'.ownsRow base e size v' (n + m) (xs ++ news) → w.grownBy w' v.ownBlock → (v'.ownBlock = v.ownBlock ∨ v'.ownBlock = some w.heap.size) → K (a.put o.dst v') w') :
    if Region.wanted o (yielded ops a.tmps) = true then Oper.wp P o a w K Q else E := by
  have hw : Region.wanted o (yielded ops a.tmps) = true := by simp [Region.wanted, hgd]
  rw [if_pos hw]
  exact wp_append_any w s x t ho base e i z size bytes ht hi hz hsize hby hzs hsz v n xs hs hown B A m c news hx hr h1 h63 hbytes hbase h
end

/-! bytes -/
/-- A byte's cell. -/
def bc (x : UInt8) : Value := .int .u8 (x.toNat : Int)
/-- Bytes' cells. -/
def bcs (l : List UInt8) : List Value := l.map bc
theorem bcs_length (l : List UInt8) : (bcs l).length = l.length := by simp [bcs]
theorem bcs_append (l m : List UInt8) : bcs (l ++ m) = bcs l ++ bcs m := by simp [bcs]
theorem bcs_one (l : List UInt8) : ∀ u ∈ bcs l, u.oneCell' = true := by
  intro u hu
  simp only [bcs, List.mem_map] at hu
  obtain ⟨x, _, rfl⟩ := hu
  rfl
/-- A slice's address leads to the bytes l. -/
def Rd (w : World) (A : Option Addr) (l : List UInt8) : Prop :=
  0 < l.length → ∃ b off, A = some ⟨b, off, none⟩ ∧ ∀ j, j < l.length → w.cell? ⟨b, off + j, none⟩ = some (bc (l.getD j 0))
/-- The value v is a slice that reads as the bytes l. -/
def Rds (w : World) (v : Value) (l : List UInt8) : Prop := ∃ A cap, v = .slice A l.length cap ∧ l.length ≤ cap ∧ cap ≤ maxLen ∧ Rd w A l
/-- The value v is a slice of the call's own (from block base on) of the bytes l. -/
def Own (w : World) (base : Nat) (v : Value) (l : List UInt8) : Prop := w.ownsRow base 5 1 v l.length (bcs l)

theorem Rd.keep {w w' : World} {A : Option Addr} {l : List UInt8} (h : Rd w A l) (hk : ∀ b off, A = some ⟨b, off, none⟩ → b < w.heap.size → ∀ o, w'.cell? ⟨b, o, none⟩ = w.cell? ⟨b, o, none⟩) : Rd w' A l := by
  intro hl
  obtain ⟨b, off, rfl, hc⟩ := h hl
  have hb := World.block_lt_of_cell? w _ (hc 0 hl)
  exact ⟨b, off, rfl, fun j hj => (hk b off rfl hb _).trans (hc j hj)⟩
/-- What is written in the row leaves the bytes m of u as they are. -/
def Apart (u : Value) (m : List UInt8) (row : Option Nat) : Prop := row = none ∨ u.ownBlock ≠ row ∨ m = []
theorem Rd.nil_ (w : World) (A : Option Addr) : Rd w A [] := fun h => absurd h (by simp)
theorem Rds.grown {w w' : World} {v : Value} {l : List UInt8} (h : Rds w v l) {row : Option Nat} (hg : w.grownBy w' row) (hne : Apart v l row) : Rds w' v l := by
  obtain ⟨A, cap, rfl, h1, h2, h3⟩ := h
  rcases hne with rfl | hne | rfl
  · refine ⟨A, cap, rfl, h1, h2, h3.keep ?_⟩
    rintro b off rfl hb o
    exact World.cell?_of_block (hg.block b hb (by simp))
  · refine ⟨A, cap, rfl, h1, h2, h3.keep ?_⟩
    rintro b off rfl hb o
    exact World.cell?_of_block (hg.block b hb (by simpa [Value.ownBlock] using hne))
  · exact ⟨A, cap, rfl, h1, h2, Rd.nil_ _ _⟩
theorem Rds.apart_new {w : World} {u : Value} {m : List UInt8} (h : Rds w u m) {g : Nat} (hg : w.heap.size ≤ g) : Apart u m (some g) := by
  by_cases h0 : 0 < m.length
  · refine .inr (.inl ?_)
    obtain ⟨A, cap, rfl, h1, h2, h3⟩ := h
    obtain ⟨b, off, rfl, hc⟩ := h3 h0
    have hb := World.block_lt_of_cell? w _ (hc 0 h0)
    simp only [Value.ownBlock, ne_eq, Option.some.injEq]
    simp only at hb
    omega
  · exact .inr (.inr (List.eq_nil_of_length_eq_zero (by omega)))
theorem Rds.below {w w' : World} {v : Value} {l : List UInt8} (h : Rds w v l) (hb : Below w.heap.size w w') : Rds w' v l := by
  obtain ⟨A, cap, rfl, h1, h2, h3⟩ := h
  refine ⟨A, cap, rfl, h1, h2, h3.keep ?_⟩
  rintro b off rfl hlt o
  exact World.cell?_of_block (hb.block b hlt)
theorem Rds.alloc {w : World} {v : Value} {l : List UInt8} (h : Rds w v l) (o : Obj) : Rds (w.alloc o) v l := h.below ((Below.refl _ _).alloc (Nat.le_refl _) o)
theorem addr_add (b off j : Nat) : (⟨b, off, none⟩ : Addr).add j = ⟨b, off + j, none⟩ := by
  unfold Addr.add; split <;> simp_all
theorem Rds.reads {w : World} {v : Value} {l : List UInt8} (h : Rds w v l) : ∃ A cap, v = .slice A l.length cap ∧ Reads w w.heap.size 1 A l.length (bcs l) := by
  obtain ⟨A, cap, rfl, h1, h2, h3⟩ := h
  refine ⟨A, cap, rfl, by simp [bcs_length], fun hl => ?_⟩
  obtain ⟨b, off, rfl, hc⟩ := h3 hl
  refine ⟨_, rfl, World.block_lt_of_cell? w _ (hc 0 hl), fun j u hu => ?_⟩
  rw [addr_add]
  have hj : j < l.length := by
    have := (List.getElem?_eq_some_iff.1 hu).1
    rwa [bcs_length] at this
  rw [hc j hj]
  simp only [bcs, List.getElem?_map] at hu
  rw [← hu]
  simp [hj]
theorem Rds.len {w : World} {v : Value} {l : List UInt8} (h : Rds w v l) : l.length ≤ maxLen := by
  obtain ⟨A, cap, rfl, h1, h2, h3⟩ := h; omega
theorem Own.rds {w : World} {base : Nat} {v : Value} {l : List UInt8} (h : Own w base v l) : Rds w v l := by
  have hcells := @World.ownsRow.cells w base 5 1 v l.length (bcs l) h
  rcases h.2 with ⟨rfl, hn⟩ | ⟨g, cap, cur, rfl, hb, hh, hc, hm, hs, ht⟩
  · exact ⟨none, 0, by rw [hn], by omega, by simp [maxLen], fun h0 => by omega⟩
  · refine ⟨_, cap, rfl, hc, hm, fun _ => ⟨g, 0, rfl, fun j hj => ?_⟩⟩
    have := hcells (g := g) rfl j (bc (l.getD j 0)) (by simp [bcs, hj])
    rw [addr_add] at this
    exact this
theorem Own.nil_ (w : World) (base : Nat) : Own w base (.slice none 0 0) [] := World.ownsRow_nil w base 5 1
theorem Own.grown {w w' : World} {base : Nat} {v : Value} {l : List UInt8} (h : Own w base v l) {row : Option Nat} (hg : w.grownBy w' row) (hne : v.ownBlock = none ∨ v.ownBlock ≠ row) : Own w' base v l := World.ownsRow.kept h hg hne
theorem grownBy_of_below {w w' : World} (h : Below w.heap.size w w') (row : Option Nat) : w.grownBy w' row := ⟨h.os, h.tape, h.output, h.size, fun i hi _ => h.block i hi⟩
theorem below_of_grown {w w' : World} (h : w.grownBy w' none) : Below w.heap.size w w' := ⟨h.os, h.tape, h.output, h.size, fun i hi => h.block i hi (by simp)⟩
theorem Own.below {w w' : World} {base : Nat} {v : Value} {l : List UInt8} (h : Own w base v l) (hb : Below w.heap.size w w') : Own w' base v l :=
  h.grown (grownBy_of_below hb none) (by cases hv : v.ownBlock <;> simp)
theorem Own.alloc {w : World} {base : Nat} {v : Value} {l : List UInt8} (h : Own w base v l) (o : Obj) : Own (w.alloc o) base v l := World.ownsRow.alloc h o
theorem Own.more {w : World} {base base' : Nat} {v : Value} {l : List UInt8} (h : Own w base v l) (hb : base' ≤ base) : Own w base' v l := by
  refine ⟨h.1, ?_⟩
  rcases h.2 with h2 | ⟨g, cap, cur, hv, hg, r⟩
  · exact .inl h2
  · exact .inr ⟨g, cap, cur, hv, by omega, r⟩
theorem Own.lt {w : World} {base : Nat} {v : Value} {l : List UInt8} (h : Own w base v l) : ∀ k, v.ownBlock = some k → base ≤ k ∧ k < w.heap.size := World.ownsRow.lt h
/-- What 'buildSlice' makes. -/
theorem Own.built (w : World) (l : List UInt8) (base : Nat) (hb : base ≤ w.heap.size) (hl : l.length ≤ maxLen) : Own (w.alloc (.cells (bcs l).toArray 5)) base (.slice (some ⟨w.heap.size, 0, none⟩) l.length l.length) l := by
  refine ⟨by simp [bcs_length], .inr ⟨w.heap.size, l.length, (bcs l).toArray, rfl, hb, heap_alloc_new w _, Nat.le_refl _, hl, by simp [bcs_length], ?_⟩⟩
  simp only [Nat.mul_one]
  exact List.take_of_length_le (by simp [bcs_length])

theorem byte_info : (Try.prog.info? 5).map (fun i => (i.zero, i.size, i.bytes)) = some (some (.int .u8 0), 1, 1) := by kernel_rfl

/-- append of bytes onto bytes of the call's own. -/
theorem wpList_app {w : World} {ops : Array Oper} {rest : List Oper} {o : Oper} {a : Act} {Q : Exit → Act → World → Prop} (hgd : o.guard = none) (s x : Operand)
    (ho : o.op = .call { callee := .builtin .append, args := #[s, x], argTypes := #[22, 22] })
    (base : Nat) (v u : Value) (l m : List UInt8) (hs : a.eval s = v) (hx : a.eval x = u) (hown : Own w base v l) (hr : Rds w u m) (hlen : l.length + m.length ≤ 140737488355328) (hbase : base ≤ w.heap.size)
    (h : ∀ v' w', Own w' base v' (l ++ m) → w.grownBy w' v.ownBlock → (v'.ownBlock = v.ownBlock ∨ v'.ownBlock = some w.heap.size) → wpList Try.prog ops Q rest (a.put o.dst v') w') : wpList Try.prog ops Q (o :: rest) a w := by
  obtain ⟨i0, hi, hz0, hz1, hz2⟩ := info_parts byte_info
  obtain ⟨A, cap, rfl, hreads⟩ := hr.reads
  refine wpList_append_any w hgd s x 22 ho base 5 i0 _ 1 1 Try.underlying22 hi hz0 hz1 hz2 rfl (by omega) v l.length (bcs l) hs hown w.heap.size A m.length cap (bcs m) hx hreads (bcs_one m) (by simp only [maxLen]; omega) (by omega) hbase ?_
  intro v' w' h1 h2 h3
  exact h v' w' (by unfold Own; rw [List.length_append, bcs_append]; exact h1) h2 h3

theorem byte_infoS : (Try.prog.info? 5).map (·.size) = some 1 := by kernel_rfl
/-- copy of bytes over the whole of a row that was just made. -/
theorem wpList_copyB {w : World} {ops : Array Oper} {rest : List Oper} {o : Oper} {a : Act} {Q : Exit → Act → World → Prop} (hgd : o.guard = none) (d s : Operand)
    (ho : o.op = .call { callee := .builtin .copy, args := #[d, s], argTypes := #[22, 22] }) (g c base : Nat) (w0 : World) (cur : Array Value) (u : Value) (m : List UInt8)
    (hd : a.eval d = .slice (some ⟨g, 0, none⟩) m.length c) (hs : a.eval s = u) (hg : w.heap[g]? = some (.cells cur 5 (0, 0))) (hsz : cur.size = c) (hmc : m.length ≤ c) (hcm : c ≤ maxLen) (hr : Rds w u m)
    (hb : Below base w0 w) (hbg : base ≤ g)
    (h : ∀ w', Own w' base (.slice (some ⟨g, 0, none⟩) m.length c) m → Below base w0 w' → wpList Try.prog ops Q rest (a.put o.dst (goInt m.length)) w') : wpList Try.prog ops Q (o :: rest) a w := by
  obtain ⟨A, cap, rfl, hreads⟩ := hr.reads
  refine wpList_copy_splice hgd d s 22 22 ho 5 Try.underlying22 byte_infoS _ A m.length c m.length cap hd hs g 0 cur.toList 5 (by simpa using hg) (bcs m) (by simp [bcs_length]) (fun hp => ⟨rfl, ?_⟩) (by simp [bcs_length]; omega) (bcs_one m) base w0 hb hbg ?_
  · obtain ⟨ad, h1, _, h2⟩ := hreads.2 (by rw [bcs_length] at hp; exact hp)
    exact ⟨ad, h1, h2⟩
  · intro w' hh hb'
    rw [bcs_length]
    refine h w' ⟨by simp [bcs_length], .inr ⟨g, c, _, rfl, hbg, hh, hmc, hcm, ?_, ?_⟩⟩ hb'
    · simp [splice, bcs_length, hsz]
      omega
    · simp only [splice, Nat.mul_one, List.take_zero, List.nil_append]
      rw [← bcs_length m, List.take_left']
      rfl

/-- 'string(b)'. -/
theorem run_str {w : World} {v : Value} {l : List UInt8} (h : Rds w v l) : (convert 22 9 v).run Try.prog w = .ok (.string ⟨l.toArray⟩) w := by
  obtain ⟨A, cap, rfl, h1, h2, h3⟩ := h
  rcases l with _ | ⟨x, l⟩
  · rw [run_convert_bytes_string w 22 9 5 A _ cap Try.underlying22 Try.underlying5 Try.underlying9]
    rcases A with _ | a
    · simp [Conv.bytesToString]
      rfl
    · have := run_bytesToString (P := Try.prog) w a 0 cap [] (by simpa using run_loadCells_list (P := Try.prog) w a [] (fun j v h => by simp at h))
      exact this
  · obtain ⟨b, off, rfl, hc⟩ := h3 (by simp)
    refine run_convert_bytes_back w 22 9 5 _ cap (x :: l) Try.underlying22 Try.underlying5 Try.underlying9 fun j hj => ?_
    rw [addr_add, hc j hj, bc, List.getD_eq_getElem?_getD, List.getElem?_eq_getElem hj]
    rfl
theorem below_drewN {B : Nat} {a w : World} (h : Below B a w) (n : Nat) : Below B a (w.drewN n) := ⟨h.os, h.tape, h.output, h.size, h.block⟩

theorem grown_trans {w w1 w2 : World} {row row1 : Option Nat} (h : w.grownBy w1 row) (h1 : w1.grownBy w2 row1) (hr : row1 = row ∨ ∀ g, row1 = some g → w.heap.size ≤ g) : w.grownBy w2 row := by
  refine ⟨h1.os.trans h.os, h1.tape.trans h.tape, h1.output.trans h.output, Nat.le_trans h.size h1.size, fun k hk hne => ?_⟩
  refine (h1.block k (Nat.lt_of_lt_of_le hk h.size) ?_).trans (h.block k hk hne)
  rintro e
  rcases hr with rfl | hr
  · exact hne e
  · have := hr k e.symm
    omega
/-- v' is v with more bytes, in its own block or in a new one; else only new blocks. -/
def Onto (w : World) (base : Nat) (v : Value) (w' : World) (v' : Value) (l : List UInt8) : Prop :=
  Own w' base v' l ∧ w.grownBy w' v.ownBlock ∧ (v'.ownBlock = v.ownBlock ∨ ∃ g, v'.ownBlock = some g ∧ w.heap.size ≤ g)
theorem grownBy_refl (w : World) (row : Option Nat) : w.grownBy w row := ⟨rfl, rfl, rfl, Nat.le_refl _, fun _ _ _ => rfl⟩
theorem Onto.start {w : World} {base : Nat} {v : Value} {l : List UInt8} (h : Own w base v l) : Onto w base v w v l := ⟨h, grownBy_refl w _, .inl rfl⟩
theorem Onto.app {w w1 w1' w2 : World} {base : Nat} {v v1 v2 : Value} {l l2 : List UInt8} (h : Onto w base v w1 v1 l) (hb : Below w1.heap.size w1 w1') (h2 : Own w2 base v2 l2) (hg : w1'.grownBy w2 v1.ownBlock)
    (hat : v2.ownBlock = v1.ownBlock ∨ v2.ownBlock = some w1'.heap.size) : Onto w base v w2 v2 l2 := by
  obtain ⟨ho, hg1, ha1⟩ := h
  have hz := hg1.size
  have hz1 := hb.size
  refine ⟨h2, ?_, ?_⟩
  · refine grown_trans (grown_trans hg1 (grownBy_of_below hb none) (.inr (by simp))) hg ?_
    rcases ha1 with e | ⟨g, e, hge⟩
    · exact .inl e
    · right
      intro g' hg'
      rw [e] at hg'
      injection hg' with hg'
      omega
  · rcases hat with e | e
    · rw [e]; exact ha1
    · right
      exact ⟨_, e, by omega⟩
theorem Onto.below {w w' : World} {base : Nat} {v v' : Value} {l : List UInt8} (h : Onto w base v w' v' l) (hv : v.ownBlock = none ∨ base ≤ w.heap.size ∧ ∀ g, v.ownBlock = some g → base ≤ g) : w.heap.size ≤ w'.heap.size ∧ ∀ B, B ≤ base → B ≤ w.heap.size → Below B w w' := by
  obtain ⟨_, hg, _⟩ := h
  refine ⟨hg.size, fun B h1 h2 => ⟨hg.os, hg.tape, hg.output, hg.size, fun k hk => hg.block k (by omega) ?_⟩⟩
  rcases hv with e | ⟨_, hv⟩
  · rw [e]; simp
  · intro e
    have := hv k e.symm
    omega
theorem Onto.trans {w w1 w1' w2 : World} {base : Nat} {v v1 v2 : Value} {l l2 : List UInt8} (h : Onto w base v w1 v1 l) (hb : Below w1.heap.size w1 w1') (h2 : Onto w1' base v1 w2 v2 l2) : Onto w base v w2 v2 l2 := by
  obtain ⟨ho, hg1, ha1⟩ := h
  obtain ⟨ho2, hg2, ha2⟩ := h2
  have hz := hg1.size
  have hz1 := hb.size
  refine ⟨ho2, ?_, ?_⟩
  · refine grown_trans (grown_trans hg1 (grownBy_of_below hb none) (.inr (by simp))) hg2 ?_
    rcases ha1 with e | ⟨g, e, hge⟩
    · exact .inl e
    · right
      intro g' hg'
      rw [e] at hg'
      injection hg' with hg'
      omega
  · rcases ha2 with e | ⟨g, e, hge⟩
    · rw [e]; exact ha1
    · right
      exact ⟨g, e, by omega⟩
theorem Own.apart {w w' : World} {base base' : Nat} {v u : Value} {l m : List UInt8} (h : Own w base v l) (h' : Own w' base' u m) (hb : w.heap.size ≤ base') : Apart u m v.ownBlock := by
  rcases hv : v.ownBlock with _ | g
  · exact .inl rfl
  · refine .inr (.inl fun e => ?_)
    have h1 := h.lt g hv
    have h2 := h'.lt g e
    omega
end Go.Proofs.Ytameiegmeicnoaa
