/- The law CtlCount. -/
import Derived.Test.YtaofomkalnagcaaDoorLawC4

set_option linter.all false

namespace Go.Proofs.YtaofomkalnagcaaDoor
open Go.RowKit M

/-- Which kind of control a byte is; 0: none. -/
def cls (k : Nat) : Nat := match gb (k : Int) with
  | none => 0
  | some c => c.kind.toNat
/-- How many of the first k bytes are of kind j. -/
def cnt (j k : Nat) : Nat := ((List.range k).filter fun m => cls m == j).length
theorem cnt_succ (j k : Nat) : cnt j (k + 1) = cnt j k + if cls k = j then 1 else 0 := by
  unfold cnt
  rw [List.range_succ, List.filter_append, List.length_append]
  by_cases h : cls k = j <;> simp [List.filter_cons, h]
theorem cnt_le (j k : Nat) : cnt j k ≤ k := by
  unfold cnt
  have := List.length_filter_le (fun m => cls m == j) (List.range k)
  rw [List.length_range] at this
  exact this
set_option maxRecDepth 100000 in
theorem cnt_all : cnt 0 256 = 66 ∧ cnt 1 256 = 128 ∧ cnt 2 256 = 48 ∧ cnt 3 256 = 14 := by decide +kernel
theorem cls_none {k : Nat} (h : gb (k : Int) = none) : cls k = 0 := by unfold cls; rw [h]
theorem cls_some {k : Nat} {c : Cn} (h : gb (k : Int) = some c) : cls k = c.kind.toNat := by unfold cls; rw [h]

/-- k bytes were tried. -/
def CRel (w : World) (k : Nat) (wr : World) : Prop := Below w.heap.size w wr ∧ wr.heap[w.heap.size]? = some (.cells #[.int .i64 (cnt 0 k : Nat), .int .i64 (cnt 1 k : Nat), .int .i64 (cnt 2 k : Nat), .int .i64 (cnt 3 k : Nat)] 92 (0, 0))
theorem CRel.next {w wr w2 : World} {k j : Nat} {v : Value} (h : CRel w k wr) (hj : cls k = j) (hv : v = .int .i64 ((cnt j k : Nat) + 1)) (h4 : j < 4) (hb : Below (wr.setCell ⟨w.heap.size, j, none⟩ v).heap.size (wr.setCell ⟨w.heap.size, j, none⟩ v) w2) : CRel w (k + 1) w2 := by
  obtain ⟨h1, h2⟩ := h
  subst hv
  refine ⟨bel_trans (h1.setCell (p := ⟨w.heap.size, j, none⟩) (Nat.le_refl _) _) hb, keep_at ?_ hb⟩
  rw [cnt_succ, cnt_succ, cnt_succ, cnt_succ, hj]
  have : j = 0 ∨ j = 1 ∨ j = 2 ∨ j = 3 := by omega
  rcases this with rfl | rfl | rfl | rfl <;> simp [World.setCell, Array.getElem?_modify, h2]

set_option maxRecDepth 100000 in
set_option maxHeartbeats 8000000 in
theorem CtlCount_law (w : World) (hC : Codes w) : Calls Tryd.prog 15 #[] w (Holds4 w) := by
  have HC := Lib.hid hC
  clear hC
  go_enter Tryd.func15, Tryd.ntmps15
  go_wp2
  go_loopw [2] (fun i wr => ∃ k : Nat, k ≤ 256 ∧ i = .int .i64 k ∧ CRel w k wr) (fun i _ => 256 - (intOf i).toNat)
  case atStart => exact ⟨0, by omega, rfl, bal (bel0 _) _, heap_alloc_new w _⟩
  case round =>
    obtain ⟨k, hk, rfl, hR⟩ := hrel
    have HR := Lib.hid hR
    have HB := Lib.hid hR.1
    have HH := Lib.hid hR.2
    clear hR
    have q0 := cnt_le 0 k
    have q1 := cnt_le 1 k
    have q2 := cnt_le 2 k
    have q3 := cnt_le 3 k
    have c0 := cell_at HH.out 0 _ rfl
    have c1 := cell_at HH.out 1 _ rfl
    have c2 := cell_at HH.out 2 _ rfl
    have c3 := cell_at HH.out 3 _ rfl
    have cf : ∀ i, wr.frozen? ⟨w.heap.size, i, none⟩ = false := fun i => frz_at HH.out i
    by_cases hlt : k < 256
    · have td : decide ((k : Int) < 256) = true := decide_eq_true (by omega)
      rcases hg : gb (k : Int) with _ | c
      · have HG := Lib.hid (getIs_none (b := (k : Int)) (by omega) hg)
        have HL := Lib.hid (cls_none hg)
        clear hg
        go_wp2_with (go_at_call 37; refine (HG.out _ (HC.out.below HB.out)).mono ?_; rintro e w' ⟨rfl, rfl⟩)
        go_roundw
        case rel => exact ⟨k + 1, by omega, by go_num, HR.out.next HL.out rfl (by omega) (bel0 _)⟩
        case measure => simp [intOf]; omega
      · have hcb := cb_gb (n := (k : Int)) (by omega) hg
        have HPU : Hid (PutIs (cv c) k true) := fun w hC => by
          have := putIs_some (c := c) (n := (k : Int)) (by rw [nm_of_cb hcb]; exact hcb) w hC
          exact this
        have HG0 := Lib.hid (getIs_some (b := (k : Int)) (by omega) hg)
        have hcl := cls_some hg
        rcases cv_form hcb with ⟨ec, ev⟩ | ⟨ec, ev⟩ | ⟨ec, ev⟩
        · have HG : Hid (GetIs (k : Int) (iV c.nr c.ns c.pf) true) := fun w hC => by have := HG0.out w hC; rw [ev] at this; exact this
          have HP : Hid (PutIs (iV c.nr c.ns c.pf) (k : Int) true) := fun w hC => by have := HPU.out w hC; rw [ev] at this; exact this
          have HL : Hid (cls k = 1) := by show _ = _; rw [hcl, ec]; rfl
          clear hg hcb HPU HG0 hcl ec ev
          have a1 := fun W => asI_yes W (.agg #[.int .i64 c.nr, .int .i64 c.ns, .bool c.pf])
          go_wp2_with (first
            | (go_at_call 37; refine (HG.out _ (HC.out.below HB.out)).mono ?_; rintro e w' ⟨rfl, rfl⟩)
            | (go_at_call 35; refine (HP.out _ (HC.out.below (HB.out.setCell (p := ⟨w.heap.size, 1, none⟩) (Nat.le_refl _) _))).mono ?_; rintro e w2 ⟨rfl, hb⟩; have HB2 := Lib.hid hb; clear hb))
          go_roundw
          case rel => exact ⟨k + 1, by omega, by go_num, HR.out.next HL.out rfl (by omega) HB2.out⟩
          case measure => simp [intOf]; omega
        · have HG : Hid (GetIs (k : Int) (sV c.sort c.nr c.pf) true) := fun w hC => by have := HG0.out w hC; rw [ev] at this; exact this
          have HP : Hid (PutIs (sV c.sort c.nr c.pf) (k : Int) true) := fun w hC => by have := HPU.out w hC; rw [ev] at this; exact this
          have HL : Hid (cls k = 2) := by show _ = _; rw [hcl, ec]; rfl
          clear hg hcb HPU HG0 hcl ec ev
          have a1 := fun W => asI_no W 53 (.agg #[.int .i64 c.sort, .int .i64 c.nr, .bool c.pf]) (by decide)
          have a2 := fun W => asS_yes W (.agg #[.int .i64 c.sort, .int .i64 c.nr, .bool c.pf])
          go_wp2_with (first
            | (go_at_call 37; refine (HG.out _ (HC.out.below HB.out)).mono ?_; rintro e w' ⟨rfl, rfl⟩)
            | (go_at_call 35; refine (HP.out _ (HC.out.below (HB.out.setCell (p := ⟨w.heap.size, 2, none⟩) (Nat.le_refl _) _))).mono ?_; rintro e w2 ⟨rfl, hb⟩; have HB2 := Lib.hid hb; clear hb))
          go_roundw
          case rel => exact ⟨k + 1, by omega, by go_num, HR.out.next HL.out rfl (by omega) HB2.out⟩
          case measure => simp [intOf]; omega
        · have HG : Hid (GetIs (k : Int) (uV c.sort c.pf) true) := fun w hC => by have := HG0.out w hC; rw [ev] at this; exact this
          have HP : Hid (PutIs (uV c.sort c.pf) (k : Int) true) := fun w hC => by have := HPU.out w hC; rw [ev] at this; exact this
          have HL : Hid (cls k = 3) := by show _ = _; rw [hcl, ec]; rfl
          clear hg hcb HPU HG0 hcl ec ev
          have a1 := fun W => asI_no W 56 (.agg #[.int .i64 c.sort, .bool c.pf]) (by decide)
          have a2 := fun W => asS_no W 56 (.agg #[.int .i64 c.sort, .bool c.pf]) (by decide)
          have a3 := fun W => asU_yes W (.agg #[.int .i64 c.sort, .bool c.pf])
          go_wp2_with (first
            | (go_at_call 37; refine (HG.out _ (HC.out.below HB.out)).mono ?_; rintro e w' ⟨rfl, rfl⟩)
            | (go_at_call 35; refine (HP.out _ (HC.out.below (HB.out.setCell (p := ⟨w.heap.size, 3, none⟩) (Nat.le_refl _) _))).mono ?_; rintro e w2 ⟨rfl, hb⟩; have HB2 := Lib.hid hb; clear hb))
          go_roundw
          case rel => exact ⟨k + 1, by omega, by go_num, HR.out.next HL.out rfl (by omega) HB2.out⟩
          case measure => simp [intOf]; omega
    · obtain rfl : k = 256 := by omega
      have hall := cnt_all
      have HH2 : Hid (wr.heap[w.heap.size]? = some (.cells #[.int .i64 66, .int .i64 128, .int .i64 48, .int .i64 14] 92 (0, 0))) := by
        have := HH.out
        rw [hall.1, hall.2.1, hall.2.2.1, hall.2.2.2] at this
        exact this
      clear hall c0 c1 c2 c3 cf q0 q1 q2 q3 HH
      go_wp2_with (go_at_call 20; refine (begun4_any _ (HC.out.below HB.out)).mono ?_; rintro e w2 ⟨rfl, hb⟩; have HB2 := Lib.hid (bel_trans HB.out hb); have HH3 := Lib.hid (keep_at HH2.out hb); have c0 := cell_at HH3.out 0 _ rfl; have c1 := cell_at HH3.out 1 _ rfl; have c2 := cell_at HH3.out 2 _ rfl; have c3 := cell_at HH3.out 3 _ rfl; clear hb)
      go_ret
      exact ⟨rfl, HB2.out⟩
end Go.Proofs.YtaofomkalnagcaaDoor
