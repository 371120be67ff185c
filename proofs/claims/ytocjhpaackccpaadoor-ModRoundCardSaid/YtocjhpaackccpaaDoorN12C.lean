/- Of layer 12: S12, Ref12a, OpenG. -/
import Derived.Test.YtocjhpaackccpaaDoorTurnA2
import Derived.Test.YtocjhpaackccpaaDoorN12B
import Derived.Test.YtocjhpaackccpaaDoorBegun4

set_option linter.all false

namespace Go.Proofs.YtocjhpaackccpaaDoor
open Go.RowKit

/-- A frame whose text may be copied. -/
def PIn.okT (p : PIn) : Prop := p.ok ∧ p.body.size ≤ 281474976710656
end Go.Proofs.YtocjhpaackccpaaDoor

namespace Go.Proofs.YtocjhpaackccpaaDoor
open Go.RowKit

theorem m8_bound (n : Int) : 0 ≤ m8 n ∧ m8 n ≤ 7 := by unfold m8; omega
end Go.Proofs.YtocjhpaackccpaaDoor

namespace Go.Proofs.YtocjhpaackccpaaDoor
open Go.ChangeShapes Go.WideShapes Go.ChangeAt Go.RowKit

section
variable {α : Type} {f : α → List Value} {k : Nat}
theorem flat_length (hf : ∀ x, (f x).length = k) : ∀ l : List α, (l.flatMap f).length = l.length * k
  | [] => by simp
  | x :: l => by rw [List.flatMap_cons, List.length_append, hf, flat_length hf l, List.length_cons, Nat.succ_mul]; omega
theorem flat_at (hf : ∀ x, (f x).length = k) : ∀ (l : List α) (i r : Nat) (h : i < l.length), r < k → (l.flatMap f)[i * k + r]? = (f l[i])[r]?
  | [], i, r, h, _ => by simp at h
  | x :: l, 0, r, _, hr => by
    rw [List.flatMap_cons, Nat.zero_mul, Nat.zero_add, List.getElem?_append_left (by rw [hf]; exact hr)]
    rfl
  | x :: l, i + 1, r, h, hr => by
    rw [List.flatMap_cons, List.getElem?_append_right (by rw [hf, Nat.succ_mul]; omega), hf, show (i + 1) * k + r - k = i * k + r by rw [Nat.succ_mul]; omega, flat_at hf l i r (by simpa using h) hr]
    rfl
/-- One of them. -/
theorem RdG.row {w : World} {A : Option Addr} {n cap : Nat} {l : List α} (hf : ∀ x, (f x).length = k) (h : RdG k w (.slice A n cap) l.length (l.flatMap f)) {i : Nat} (hi : i < l.length) :
    ∃ b off, A = some ⟨b, off, none⟩ ∧ b < w.heap.size ∧ ∀ r u, r < k → (f l[i])[r]? = some u → w.cell? ⟨b, off + i * k + r, none⟩ = some u := by
  obtain ⟨b, off, e, hlt, hc⟩ := h.at_ hi
  exact ⟨b, off, e, hlt, fun r u hr hu => hc r u hr (by rw [flat_at hf l i r hi hr]; exact hu)⟩
end

section
variable {H : Type} {enc : TypeId × Value → H} {W : World}
/-- An operation. -/
structure OpIn where
  kind : Int
  n : Int
  body : ByteArray
  p : PIn
def OpIn.ok (x : OpIn) : Prop := (Lit.int .i64 x.kind).wf = true ∧ (Lit.int .i64 x.n).wf = true ∧ x.body.size ≤ maxLen ∧ x.p.ok
/-- A step of two sides. -/
structure StIn where
  kind : Int
  n : Int
  loss : Int
  body : ByteArray
def StIn.ok (x : StIn) : Prop := (Lit.int .i64 x.kind).wf = true ∧ (Lit.int .i64 x.n).wf = true ∧ (Lit.int .i64 x.loss).wf = true ∧ x.body.size ≤ maxLen
/-- A deal that is handed in. -/
structure De5In where
  b : Int
  s : Int
  wi : Int
  z : Int
  wa : Int
abbrev De5In.val (d : De5In) : Value := .agg #[.int .i64 d.b, .int .i64 d.s, .int .i64 d.wi, .int .i64 d.z, .int .i64 d.wa]
def De5In.ok (d : De5In) : Prop := (Lit.int .i64 d.b).wf = true ∧ (Lit.int .i64 d.s).wf = true ∧ (Lit.int .i64 d.wi).wf = true ∧ (Lit.int .i64 d.z).wf = true ∧ (Lit.int .i64 d.wa).wf = true
end
end Go.Proofs.YtocjhpaackccpaaDoor
