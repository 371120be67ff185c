/- The walk of glowwormlaw1's Short; what an argument that is a slice of bytes gives. -/
import Derived.Test.YtaofomkalnagcaaDoorM4A
import Derived.OpenShut

set_option linter.all false

namespace Go.Proofs.YtaofomkalnagcaaDoor
open Go.RowKit M

set_option maxHeartbeats 400000 in
theorem Short_any (v : Value) (l : List UInt8) (n : Int) (w : World) (hv : Rds w v l) (h0 : 0 ≤ n) (h1 : n ≤ 1000000) :
    Calls Tryd.prog 53 #[v, .int .i64 n] w (Makes w (l.take n.toNat)) := by
  have hl := hv.len
  have hv0 := hv
  obtain ⟨A, cap, rfl, hc, hm, hr⟩ := hv
  have hs : Rds w (.slice A (if n < (l.length : Int) then n else (l.length : Int)).toNat cap) (l.take n.toNat) := by
    have e : l.take n.toNat = l.take (if n < (l.length : Int) then n else (l.length : Int)).toNat := by
      by_cases h : n < (l.length : Int)
      · rw [if_pos h]
      · rw [if_neg h, Int.toNat_natCast, List.take_length, List.take_of_length_le (by omega)]
    rw [e]
    exact hv0.take _ (by split <;> omega)
  have hlen : (l.take n.toNat).length ≤ 1000000 := by rw [List.length_take]; omega
  have HS := Lib.hid hs
  clear hr hv0 hs
  generalize l.take n.toNat = m at *
  unfold maxLen at hl hm
  go_enter Tryd.func53, Tryd.ntmps53
  go_wp2_with (at_builtin; refine wpList_app rfl (.const (.slice none 0 0)) (.tmp 10) rfl w.heap.size (.slice none 0 0) _ [] m rfl rfl (Own.nil_ w _) HS.out (by simp only [List.length_nil]; omega) (Nat.le_refl _) ?_; intro v1 w1 hown hg hat)
  all_goals
    go_ret
    exact ⟨v1, rfl, hown, below_of_grown hg⟩
theorem Short_to (v : Value) (l m : List UInt8) (n : Int) (w : World) (hv : Rds w v l) (h0 : 0 ≤ n) (h1 : n ≤ 1000000) (e : m = l.take n.toNat) : Calls Tryd.prog 53 #[v, .int .i64 n] w (Makes w m) := by
  rw [e]; exact Short_any v l n w hv h0 h1

/-- A slice of integers that came in: it is nil; or it leads to a row of cap cells, the numbers zs, each fitting its kind. -/
def IsRow (k : IntKind) (w : World) (a : Option Addr) (len cap : Nat) (zs : List Int) : Prop :=
  (a = none ∧ len = 0 ∧ cap = 0 ∧ zs = []) ∨
  ∃ x, a = some x ∧ len ≤ cap ∧ cap ≤ maxLen ∧ zs.length = cap ∧ (∀ i, i < zs.length → w.cell? (x.add i) = some (.int k (zs.getD i 0))) ∧ ∀ n ∈ zs, (Lit.int k n).wf = true

theorem IsRow.rds {w : World} {a : Option Addr} {len cap : Nat} {zs : List Int} (h : IsRow .u8 w a len cap zs) : ∃ l, Rds w (.slice a len cap) l := by
  rcases h with ⟨rfl, rfl, rfl, rfl⟩ | ⟨x, rfl, hl, hm, hz, hc, hw⟩
  · exact ⟨[], (Own.nil_ w 0).rds⟩
  · have hlen : ((zs.take len).map fun n => UInt8.ofNat n.toNat).length = len := by simp; omega
    refine ⟨(zs.take len).map fun n => UInt8.ofNat n.toNat, some x, cap, by rw [hlen], by omega, hm, fun h0 => ?_⟩
    rw [hlen] at h0
    obtain ⟨b, off, spot⟩ := x
    have hc0 := hc 0 (by omega)
    have hspot : spot = none := by simpa [Addr.add] using World.cell?_spot hc0
    subst hspot
    refine ⟨b, off, rfl, fun j hj => ?_⟩
    rw [hlen] at hj
    have hcj := hc j (by omega)
    rw [addr_add] at hcj
    rw [hcj]
    have hg : zs.getD j 0 = zs[j]'(by omega) := by simp [show j < zs.length by omega]
    have hb := bounds_u8 (hw (zs[j]'(by omega)) (List.getElem_mem _))
    rw [hg, bc]
    have e : (((zs.take len).map fun n => UInt8.ofNat n.toNat).getD j 0) = UInt8.ofNat (zs[j]'(by omega)).toNat := by
      rw [List.getD_eq_getElem?_getD, List.getElem?_map, List.getElem?_take_of_lt hj, List.getElem?_eq_getElem (by omega)]
      rfl
    rw [e]
    congr 2
    rw [UInt8.toNat_ofNat']
    omega
end Go.Proofs.YtaofomkalnagcaaDoor
