/- Slices of slices of bytes that come in; slices of strings of the call's own. -/
import Derived.Test.YtameiegmeicnoaaEqAll
import Derived.Deep.Matrix
namespace Go.Proofs.Ytameiegmeicnoaa
open Go.RowKit M

/-- The value v is a slice that reads as slices that read as the bytes ll. -/
def Rdss (w : World) (v : Value) (ll : List (List UInt8)) : Prop :=
  ∃ A cap, v = .slice A ll.length cap ∧ ll.length ≤ cap ∧ cap ≤ maxLen ∧ (0 < ll.length → ∃ b off, A = some ⟨b, off, none⟩ ∧ ∀ i, i < ll.length → ∃ u, w.cell? ⟨b, off + i, none⟩ = some u ∧ Rds w u (ll.getD i []))
def IsRows (w : World) (v : Value) : Prop := ∃ ll, Rdss w v ll
theorem IsRows.rdss {w : World} {v : Value} (h : IsRows w v) : ∃ ll, Rdss w v ll := h
theorem IsRows.nil_ (w : World) : IsRows w (.slice none 0 0) := ⟨[], none, 0, rfl, Nat.le_refl _, by simp [maxLen], fun h => absurd h (by simp)⟩
theorem IsRows.of_rows {w : World} {base : Nat} {x : Addr} {l c : Nat} {A : Nat → Option Addr} {L C : Nat → Nat} {Z : Nat → List Int} (hl : l ≤ c) (hm : c ≤ maxLen)
    (h : ∀ r, r < c → w.cell? (x.add r) = some (.slice (A r) (L r) (C r)) ∧ L r ≤ C r ∧ C r ≤ maxLen ∧ (Z r).length = C r ∧ (∀ n ∈ Z r, (Lit.int .u8 n).wf = true) ∧ (A r = none → C r = 0) ∧
        ∀ a', A r = some a' → base ≤ a'.block ∧ ∀ i, i < C r → w.cell? (a'.add i) = some (.int .u8 ((Z r).getD i 0))) : IsRows w (.slice (some x) l c) := by
  have each : ∀ r, ∃ m : List UInt8, r < c → Rds w (.slice (A r) (L r) (C r)) m := by
    intro r
    by_cases hr : r < c
    · obtain ⟨_, h1, h2, h3, h4, h5, h6⟩ := h r hr
      have hrow : IsRow .u8 w (A r) (L r) (C r) (Z r) := by
        rcases hA : A r with _ | a'
        · have hc0 := h5 hA
          exact .inl ⟨rfl, by omega, hc0, List.eq_nil_of_length_eq_zero (by omega)⟩
        · exact .inr ⟨a', rfl, h1, h2, h3, fun i hi => (h6 a' hA).2 i (by omega), h4⟩
      obtain ⟨m, hm⟩ := hrow.rds
      exact ⟨m, fun _ => hm⟩
    · exact ⟨[], fun h => absurd h hr⟩
  obtain ⟨M, hM⟩ : ∃ M : Nat → List UInt8, ∀ r, r < c → Rds w (.slice (A r) (L r) (C r)) (M r) := ⟨fun r => Classical.choose (each r), fun r hr => Classical.choose_spec (each r) hr⟩
  have hlen : ((List.range l).map M).length = l := by simp
  refine ⟨(List.range l).map M, some x, c, by rw [hlen], by rw [hlen]; exact hl, hm, fun h0 => ?_⟩
  rw [hlen] at h0 ⊢
  obtain ⟨b, off, spot⟩ := x
  have hc0 := (h 0 (by omega)).1
  have hspot : spot = none := by simpa [Addr.add] using World.cell?_spot hc0
  subst hspot
  refine ⟨b, off, rfl, fun i hi => ⟨.slice (A i) (L i) (C i), ?_, ?_⟩⟩
  · have := (h i (by omega)).1
    rw [addr_add] at this
    exact this
  · have := hM i (by omega)
    simpa [hi] using this
theorem Rdss.below {w w' : World} {v : Value} {ll : List (List UInt8)} (h : Rdss w v ll) (hb : Below w.heap.size w w') : Rdss w' v ll := by
  obtain ⟨A, cap, rfl, h1, h2, h3⟩ := h
  refine ⟨A, cap, rfl, h1, h2, fun h0 => ?_⟩
  obtain ⟨b, off, rfl, hc⟩ := h3 h0
  refine ⟨b, off, rfl, fun i hi => ?_⟩
  obtain ⟨u, hu, hr⟩ := hc i hi
  have hlt := World.block_lt_of_cell? w _ hu
  exact ⟨u, (hb.cell (p := ⟨b, off + i, none⟩) hlt).trans hu, hr.below hb⟩
theorem Rdss.at_ {w : World} {A : Option Addr} {n cap i : Nat} {ll : List (List UInt8)} (h : Rdss w (.slice A n cap) ll) (hi : i < ll.length) : ∃ b off u, A = some ⟨b, off, none⟩ ∧ w.cell? ⟨b, off + i, none⟩ = some u ∧ Rds w u (ll.getD i []) := by
  obtain ⟨A', cap', he, h1, h2, h3⟩ := h
  injection he with e1 e2 e3
  subst e1
  obtain ⟨b, off, rfl, hc⟩ := h3 (by omega)
  obtain ⟨u, hu, hr⟩ := hc i hi
  exact ⟨b, off, u, rfl, hu, hr⟩

/-- Strings' cells. -/
def strs (ll : List (List UInt8)) : List Value := ll.map fun l => .string ⟨l.toArray⟩
/-- The value v is a slice of the call's own of the strings ll. -/
def OwnS (w : World) (base : Nat) (v : Value) (ll : List (List UInt8)) : Prop := w.ownsRow base 9 1 v ll.length (strs ll)
theorem OwnS.nil_ (w : World) (base : Nat) : OwnS w base (.slice none 0 0) [] := World.ownsRow_nil w base 9 1
theorem OwnS.grown {w w' : World} {base : Nat} {v : Value} {ll : List (List UInt8)} (h : OwnS w base v ll) {row : Option Nat} (hg : w.grownBy w' row) (hne : v.ownBlock = none ∨ v.ownBlock ≠ row) : OwnS w' base v ll := World.ownsRow.kept h hg hne
theorem OwnS.below {w w' : World} {base : Nat} {v : Value} {ll : List (List UInt8)} (h : OwnS w base v ll) (hb : Below w.heap.size w w') : OwnS w' base v ll := h.grown (grownBy_of_below hb none) (by cases hv : v.ownBlock <;> simp)
theorem OwnS.shape {w : World} {base : Nat} {v : Value} {ll : List (List UInt8)} (h : OwnS w base v ll) : ∃ A cap, v = .slice A ll.length cap ∧ ll.length ≤ cap ∧ cap ≤ maxLen := by
  rcases h.2 with ⟨rfl, hn⟩ | ⟨g, cap, cur, rfl, hb, hh, hc, hm, hs, ht⟩
  · exact ⟨none, 0, by rw [hn], by omega, by simp [maxLen]⟩
  · exact ⟨_, cap, rfl, hc, hm⟩
theorem OwnS.at_ {w : World} {base : Nat} {v : Value} {ll : List (List UInt8)} (h : OwnS w base v ll) {i : Nat} (hi : i < ll.length) : ∃ g cap, v = .slice (some ⟨g, 0, none⟩) ll.length cap ∧ w.cell? ⟨g, i, none⟩ = some (.string ⟨(ll.getD i []).toArray⟩) := by
  have hcells := @World.ownsRow.cells w base 9 1 v ll.length (strs ll) h
  rcases h.2 with ⟨rfl, hn⟩ | ⟨g, cap, cur, rfl, hb, hh, hc, hm, hs, ht⟩
  · omega
  · have := hcells (g := g) rfl i (.string ⟨(ll.getD i []).toArray⟩) (by simp [strs, hi])
    rw [addr_add, Nat.zero_add] at this
    exact ⟨g, cap, rfl, this⟩
theorem OwnS.lt {w : World} {base : Nat} {v : Value} {ll : List (List UInt8)} (h : OwnS w base v ll) : ∀ k, v.ownBlock = some k → base ≤ k ∧ k < w.heap.size := World.ownsRow.lt h

theorem string_info : (Try.prog.info? 9).map (fun i => (i.zero, i.size, i.bytes)) = some (some (.string ⟨#[]⟩), 1, 16) := by kernel_rfl
/-- append of one string onto strings of the call's own. -/
theorem wpList_appS {w : World} {ops : Array Oper} {rest : List Oper} {o : Oper} {a : Act} {Q : Exit → Act → World → Prop} (hgd : o.guard = none) (s x : Operand)
    (ho : o.op = .call { callee := .builtin .append, args := #[s, x], argTypes := #[37, 37] })
    (base g : Nat) (v : Value) (ll : List (List UInt8)) (l : List UInt8) (hs : a.eval s = v) (hx : a.eval x = .slice (some ⟨g, 0, none⟩) 1 1) (hg : w.heap[g]? = some (.cells #[.string ⟨l.toArray⟩] 9 (0, 0))) (hown : OwnS w base v ll)
    (hlen : ll.length ≤ 1000000) (hbase : base ≤ w.heap.size)
    (h : ∀ v' w', OwnS w' base v' (ll ++ [l]) → w.grownBy w' v.ownBlock → (v'.ownBlock = v.ownBlock ∨ v'.ownBlock = some w.heap.size) → wpList Try.prog ops Q rest (a.put o.dst v') w') : wpList Try.prog ops Q (o :: rest) a w := by
  obtain ⟨i0, hi, hz0, hz1, hz2⟩ := info_parts string_info
  have hreads : Reads w w.heap.size 1 (some ⟨g, 0, none⟩) 1 [.string ⟨l.toArray⟩] := by
    refine ⟨rfl, fun _ => ⟨_, rfl, ?_, fun j y hy => ?_⟩⟩
    · rcases Nat.lt_or_ge g w.heap.size with hlt | hge
      · exact hlt
      · rw [Array.getElem?_eq_none hge] at hg; cases hg
    · rw [addr_add, cell_of_row w g _ _ 9 (0, 0) hg]
      rcases j with _ | j
      · simpa using hy
      · simp at hy
  refine wpList_append_any w hgd s x 37 ho base 9 i0 _ 1 16 Try.underlying37 hi hz0 hz1 hz2 rfl (by omega) v ll.length (strs ll) hs hown w.heap.size (some ⟨g, 0, none⟩) 1 1 [.string ⟨l.toArray⟩] hx hreads (by simp [Value.oneCell']) (by simp only [maxLen]; omega) (by omega) hbase ?_
  intro v' w' k1 k2 k3
  exact h v' w' (by unfold OwnS; simpa [strs] using k1) k2 k3
end Go.Proofs.Ytameiegmeicnoaa
