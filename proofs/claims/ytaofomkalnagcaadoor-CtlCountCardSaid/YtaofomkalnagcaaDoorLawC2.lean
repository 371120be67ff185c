/- The law CtlAll. -/
import Derived.Test.YtaofomkalnagcaaDoorLawC1
import Derived.Test.YtaofomkalnagcaaDoorM4D

set_option linter.all false

namespace Go.Proofs.YtaofomkalnagcaaDoor
open Go.RowKit M

set_option maxRecDepth 100000 in
set_option maxHeartbeats 8000000 in
theorem CtlAll_0 (seat count : Int) (cmd : Bool) (kind sort nr ns : Int) (pf : Bool) (body : ByteArray) (b : Int) (w : World) (hp : PIn.ok ⟨seat, count, cmd, kind, sort, nr, ns, pf, body⟩) (h0 : 0 ≤ b ∧ b < 256) (h1 : kind ≠ 1) (h2 : kind ≠ 2) (h3 : kind ≠ 3) (hC : Codes w) :
    Calls Tryd.prog 5 #[PIn.val ⟨seat, count, cmd, kind, sort, nr, ns, pf, body⟩, .int .u8 b] w (Holds4 w) := by
  have HC := Lib.hid hC
  obtain ⟨tb, htb⟩ : ∃ t, t = body.extract 0 (min body.size 70) := ⟨_, rfl⟩
  have hpl := fun w => LPlain_any ⟨seat, count, cmd, kind, sort, nr, ns, pf, body⟩ hp w
  have hcut : PIn.cut ⟨seat, count, cmd, kind, sort, nr, ns, pf, body⟩ = ⟨seat, count, cmd, kind, sort, nr, ns, pf, tb⟩ := by rw [htb]; rfl
  rw [hcut] at hpl
  have HPL := Lib.hid hpl
  have HA := Lib.hid (fun w => any1_lit seat count cmd kind sort nr ns pf tb w)
  have hb0 := h0.1
  have hb1 := h0.2
  clear hC hpl hcut htb
  have b1 : (kind == 1) = false := beq_eq_false_iff_ne.2 h1
  have b2 : (kind == 2) = false := beq_eq_false_iff_ne.2 h2
  have b3 : (kind == 3) = false := beq_eq_false_iff_ne.2 h3
  have hcb : cb (⟨kind, sort, 0, 0, pf⟩ : Cn) = none := cb_other h1 h2 h3
  have hnm : nm ⟨kind, sort, nr, ns, pf⟩ = ⟨0, 0, 0, 0, false⟩ := by unfold nm; rw [if_neg h1, if_neg h2, if_neg h3]
  have hcn : cb (nm ⟨kind, sort, nr, ns, pf⟩) = none := by rw [hnm]; decide
  clear h1 h2 h3 hnm
  have HCT := Lib.hid (ctlIs_none (c := ⟨kind, sort, 0, 0, pf⟩) hcb)
  have HPU := Lib.hid (putIs_none hcn)
  have HMA := Lib.hid (mayIs (ok := false) (by rw [hcn]; rfl : (cb (nm ⟨kind, sort, nr, ns, pf⟩)).isSome = false))
  clear hcb hcn
  rcases hg : gb b with _ | c
  · have HG := Lib.hid (getIs_none h0 hg)
    have HRG := Lib.hid (refGetIs_none h0 hg)
    have hnn := eq_nils
    clear hg h0 hp
    go_enter Tryd.func5, Tryd.ntmps5
    go_wp2_with (first
      | ((with_reducible refine wpList_boxPlain rfl (.tmp 0) rfl rfl ?_); intro w1 hb1 hlt1 hh1; have HB1 := Lib.hid hb1; have HP1 := Lib.hid hh1; clear hb1 hh1)
      | (go_at_call 20; refine (begun4_any _ (HC.out.below HB1.out)).mono ?_; rintro e w2 ⟨rfl, hb⟩; have HB2 := Lib.hid (bel_trans HB1.out hb); have HP2 := Lib.hid (keep_at HP1.out hb); clear hb)
      | (with_reducible refine wpList_loadB rfl 34 (.tmp 2) rfl w.heap.size rfl 34 #[.int .i64 seat, .int .i64 count, .bool cmd, .int .i64 kind, .int .i64 sort, .int .i64 nr, .int .i64 ns, .bool pf, .string body] HP2.out _ Tryd.underlying34 rfl (by kernel_rfl) ?_)
      | (go_at_call 32; ((with_reducible refine (HPL.out _).mono ?_); rintro e w3 ⟨rfl, hb⟩; have HB3 := Lib.hid (bel_trans HB2.out hb); have HP3 := Lib.hid (keep_at HP2.out hb); clear hb))
      | ((with_reducible refine wpList_storeB rfl 34 (.tmp 2) _ rfl w.heap.size #[.int .i64 seat, .int .i64 count, .bool cmd, .int .i64 kind, .int .i64 sort, .int .i64 nr, .int .i64 ns, .bool pf, .string tb] rfl rfl 34 _ HP3.out (by kernel_rfl) (by kernel_rfl) (by kernel_rfl) ?_); intro w4 hg4 hz4 hh4; have HB4 := Lib.hid (bel_grown HB3.out hg4 (Nat.le_refl _)); have HP4 := Lib.hid hh4; clear hg4 hz4 hh4)
      | (with_reducible refine wpList_loadB rfl 34 (.tmp 2) rfl w.heap.size rfl 34 #[.int .i64 seat, .int .i64 count, .bool cmd, .int .i64 kind, .int .i64 sort, .int .i64 nr, .int .i64 ns, .bool pf, .string tb] HP4.out _ Tryd.underlying34 rfl (by kernel_rfl) ?_)
      | (go_at_call 33; ((with_reducible refine (HA.out _).mono ?_); rintro e w5 ⟨rfl, hb⟩; have HB5 := Lib.hid (bel_trans HB4.out hb); have HP5 := Lib.hid (keep_at HP4.out hb); have hlt5 := lt_at HP5.out; have c3 := cell_at HP5.out 3 _ rfl; clear hb))
      | (with_reducible refine wpList_loadB rfl 34 (.tmp 2) rfl w.heap.size rfl 34 #[.int .i64 seat, .int .i64 count, .bool cmd, .int .i64 kind, .int .i64 sort, .int .i64 nr, .int .i64 ns, .bool pf, .string tb] HP5.out _ Tryd.underlying34 rfl (by kernel_rfl) ?_)
      | (go_at_call 34; ((with_reducible refine (HCT.out _ _ _ _ _).mono ?_); rintro e w6 ⟨rfl, hb⟩; have HB56 := Lib.hid (bel_trans (bal (bel0 w5) _) hb); have HB6 := Lib.hid (bel_trans HB5.out HB56.out); have HP6 := Lib.hid (keep_at HP5.out HB56.out); clear hb))
      | (go_at_call 35; ((with_reducible refine (HPU.out _ (HC.out.below HB6.out)).mono ?_); rintro e w7 ⟨rfl, hb⟩; have HB7 := Lib.hid (bel_trans HB6.out hb); have HP7 := Lib.hid (keep_at HP6.out hb); clear hb))
      | (go_at_call 36; ((with_reducible refine (HMA.out _).mono ?_); rintro e w8 ⟨rfl, hb⟩; have HB8 := Lib.hid (bel_trans HB7.out hb); have HP8 := Lib.hid (keep_at HP7.out hb); clear hb))
      | (go_at_call 37; ((with_reducible refine (HG.out _ (HC.out.below HB8.out)).mono ?_); rintro e w' ⟨rfl, rfl⟩))
      | (go_at_call 39; ((with_reducible refine (HRG.out _).mono ?_); rintro e wA ⟨rfl, hb⟩; have HBA := Lib.hid (bel_trans HB8.out hb); clear hb)))
    go_ret
    exact ⟨rfl, bal HBA.out _⟩
  · have hcc := cb_gb h0 hg
    have HG := Lib.hid (getIs_some h0 hg)
    have HRG := Lib.hid (refGetIs_some h0 hg)
    have HA2 := Lib.hid (fun w => any1_lit 0 0 false c.kind c.sort c.nr c.ns c.pf ⟨#[]⟩ w)
    have heq : ∀ W, (binOp .eql 20 (cv c) (cv c)).run Tryd.prog W = .ok (.bool true) W := fun W => by rw [eql_cv hcc hcc W, decide_eq_true rfl]
    have hgd2 : ∀ (op : BinOp) (t : TypeId) (x y : Operand) (u : Value) (W : World), (eqGuard op t x y (cv c) u).run Tryd.prog W = .ok () W := fun op t x y u W => guard_cv hcc op t x y u W
    clear hg hcc h0 hp
    go_enter Tryd.func5, Tryd.ntmps5
    go_wp2_with (first
      | ((with_reducible refine wpList_boxPlain rfl (.tmp 0) rfl rfl ?_); intro w1 hb1 hlt1 hh1; have HB1 := Lib.hid hb1; have HP1 := Lib.hid hh1; clear hb1 hh1)
      | (go_at_call 20; refine (begun4_any _ (HC.out.below HB1.out)).mono ?_; rintro e w2 ⟨rfl, hb⟩; have HB2 := Lib.hid (bel_trans HB1.out hb); have HP2 := Lib.hid (keep_at HP1.out hb); clear hb)
      | (with_reducible refine wpList_loadB rfl 34 (.tmp 2) rfl w.heap.size rfl 34 #[.int .i64 seat, .int .i64 count, .bool cmd, .int .i64 kind, .int .i64 sort, .int .i64 nr, .int .i64 ns, .bool pf, .string body] HP2.out _ Tryd.underlying34 rfl (by kernel_rfl) ?_)
      | (go_at_call 32; ((with_reducible refine (HPL.out _).mono ?_); rintro e w3 ⟨rfl, hb⟩; have HB3 := Lib.hid (bel_trans HB2.out hb); have HP3 := Lib.hid (keep_at HP2.out hb); clear hb))
      | ((with_reducible refine wpList_storeB rfl 34 (.tmp 2) _ rfl w.heap.size #[.int .i64 seat, .int .i64 count, .bool cmd, .int .i64 kind, .int .i64 sort, .int .i64 nr, .int .i64 ns, .bool pf, .string tb] rfl rfl 34 _ HP3.out (by kernel_rfl) (by kernel_rfl) (by kernel_rfl) ?_); intro w4 hg4 hz4 hh4; have HB4 := Lib.hid (bel_grown HB3.out hg4 (Nat.le_refl _)); have HP4 := Lib.hid hh4; clear hg4 hz4 hh4)
      | (with_reducible refine wpList_loadB rfl 34 (.tmp 2) rfl w.heap.size rfl 34 #[.int .i64 seat, .int .i64 count, .bool cmd, .int .i64 kind, .int .i64 sort, .int .i64 nr, .int .i64 ns, .bool pf, .string tb] HP4.out _ Tryd.underlying34 rfl (by kernel_rfl) ?_)
      | (go_at_call 33; ((with_reducible refine (HA.out _).mono ?_); rintro e w5 ⟨rfl, hb⟩; have HB5 := Lib.hid (bel_trans HB4.out hb); have HP5 := Lib.hid (keep_at HP4.out hb); have hlt5 := lt_at HP5.out; have c3 := cell_at HP5.out 3 _ rfl; clear hb))
      | (with_reducible refine wpList_loadB rfl 34 (.tmp 2) rfl w.heap.size rfl 34 #[.int .i64 seat, .int .i64 count, .bool cmd, .int .i64 kind, .int .i64 sort, .int .i64 nr, .int .i64 ns, .bool pf, .string tb] HP5.out _ Tryd.underlying34 rfl (by kernel_rfl) ?_)
      | (go_at_call 34; ((with_reducible refine (HCT.out _ _ _ _ _).mono ?_); rintro e w6 ⟨rfl, hb⟩; have HB56 := Lib.hid (bel_trans (bal (bel0 w5) _) hb); have HB6 := Lib.hid (bel_trans HB5.out HB56.out); have HP6 := Lib.hid (keep_at HP5.out HB56.out); clear hb))
      | (go_at_call 35; ((with_reducible refine (HPU.out _ (HC.out.below HB6.out)).mono ?_); rintro e w7 ⟨rfl, hb⟩; have HB7 := Lib.hid (bel_trans HB6.out hb); have HP7 := Lib.hid (keep_at HP6.out hb); clear hb))
      | (go_at_call 36; ((with_reducible refine (HMA.out _).mono ?_); rintro e w8 ⟨rfl, hb⟩; have HB8 := Lib.hid (bel_trans HB7.out hb); have HP8 := Lib.hid (keep_at HP7.out hb); clear hb))
      | (go_at_call 37; ((with_reducible refine (HG.out _ (HC.out.below HB8.out)).mono ?_); rintro e w' ⟨rfl, rfl⟩))
      | (go_at_call 39; ((with_reducible refine (HRG.out _).mono ?_); rintro e wA ⟨rfl, hb⟩; have HBA := Lib.hid (bel_trans HB8.out hb); clear hb))
      | (go_at_call 33; ((with_reducible refine (HA2.out _).mono ?_); rintro e wB ⟨rfl, hb⟩; have HBB := Lib.hid (bel_trans HBA.out (bel_trans (bal (bel0 wA) _) hb)); clear hb)))
    go_ret
    exact ⟨rfl, HBB.out⟩

set_option maxRecDepth 100000 in
set_option maxHeartbeats 8000000 in
theorem CtlAll_1 (seat count : Int) (cmd : Bool) (sort nr ns : Int) (pf : Bool) (body : ByteArray) (b : Int) (w : World) (hp : PIn.ok ⟨seat, count, cmd, 1, sort, nr, ns, pf, body⟩) (h0 : 0 ≤ b ∧ b < 256) (hC : Codes w) :
    Calls Tryd.prog 5 #[PIn.val ⟨seat, count, cmd, 1, sort, nr, ns, pf, body⟩, .int .u8 b] w (Holds4 w) := by
  have HC := Lib.hid hC
  obtain ⟨tb, htb⟩ : ∃ t, t = body.extract 0 (min body.size 70) := ⟨_, rfl⟩
  have hpl := fun w => LPlain_any ⟨seat, count, cmd, 1, sort, nr, ns, pf, body⟩ hp w
  have hcut : PIn.cut ⟨seat, count, cmd, 1, sort, nr, ns, pf, body⟩ = ⟨seat, count, cmd, 1, sort, nr, ns, pf, tb⟩ := by rw [htb]; rfl
  rw [hcut] at hpl
  have HPL := Lib.hid hpl
  have HA := Lib.hid (fun w => any1_lit seat count cmd 1 sort nr ns pf tb w)
  have hb0 := h0.1
  have hb1 := h0.2
  clear hC hpl hcut htb
  rcases hcb : cb (⟨1, 0, nr, ns, pf⟩ : Cn) with _ | n
  · have hcn : cb (nm ⟨1, sort, nr, ns, pf⟩) = none := hcb
    have HCT := Lib.hid (ctlIs_none (c := ⟨1, 0, nr, ns, pf⟩) hcb)
    have HPU := Lib.hid (putIs_none hcn)
    have HMA := Lib.hid (mayIs (ok := false) (by rw [hcn]; rfl : (cb (nm ⟨1, sort, nr, ns, pf⟩)).isSome = false))
    clear hcb hcn
    rcases hg : gb b with _ | c
    · have HG := Lib.hid (getIs_none h0 hg)
      have HRG := Lib.hid (refGetIs_none h0 hg)
      have hnn := eq_nils
      clear hg h0 hp
      go_enter Tryd.func5, Tryd.ntmps5
      go_wp2_with (first
        | ((with_reducible refine wpList_boxPlain rfl (.tmp 0) rfl rfl ?_); intro w1 hb1 hlt1 hh1; have HB1 := Lib.hid hb1; have HP1 := Lib.hid hh1; clear hb1 hh1)
        | (go_at_call 20; refine (begun4_any _ (HC.out.below HB1.out)).mono ?_; rintro e w2 ⟨rfl, hb⟩; have HB2 := Lib.hid (bel_trans HB1.out hb); have HP2 := Lib.hid (keep_at HP1.out hb); clear hb)
        | (with_reducible refine wpList_loadB rfl 34 (.tmp 2) rfl w.heap.size rfl 34 #[.int .i64 seat, .int .i64 count, .bool cmd, .int .i64 1, .int .i64 sort, .int .i64 nr, .int .i64 ns, .bool pf, .string body] HP2.out _ Tryd.underlying34 rfl (by kernel_rfl) ?_)
        | (go_at_call 32; ((with_reducible refine (HPL.out _).mono ?_); rintro e w3 ⟨rfl, hb⟩; have HB3 := Lib.hid (bel_trans HB2.out hb); have HP3 := Lib.hid (keep_at HP2.out hb); clear hb))
        | ((with_reducible refine wpList_storeB rfl 34 (.tmp 2) _ rfl w.heap.size #[.int .i64 seat, .int .i64 count, .bool cmd, .int .i64 1, .int .i64 sort, .int .i64 nr, .int .i64 ns, .bool pf, .string tb] rfl rfl 34 _ HP3.out (by kernel_rfl) (by kernel_rfl) (by kernel_rfl) ?_); intro w4 hg4 hz4 hh4; have HB4 := Lib.hid (bel_grown HB3.out hg4 (Nat.le_refl _)); have HP4 := Lib.hid hh4; clear hg4 hz4 hh4)
        | (with_reducible refine wpList_loadB rfl 34 (.tmp 2) rfl w.heap.size rfl 34 #[.int .i64 seat, .int .i64 count, .bool cmd, .int .i64 1, .int .i64 sort, .int .i64 nr, .int .i64 ns, .bool pf, .string tb] HP4.out _ Tryd.underlying34 rfl (by kernel_rfl) ?_)
        | (go_at_call 33; ((with_reducible refine (HA.out _).mono ?_); rintro e w5 ⟨rfl, hb⟩; have HB5 := Lib.hid (bel_trans HB4.out hb); have HP5 := Lib.hid (keep_at HP4.out hb); have hlt5 := lt_at HP5.out; have c3 := cell_at HP5.out 3 _ rfl; clear hb))
        | (with_reducible refine wpList_loadB rfl 34 (.tmp 2) rfl w.heap.size rfl 34 #[.int .i64 seat, .int .i64 count, .bool cmd, .int .i64 1, .int .i64 sort, .int .i64 nr, .int .i64 ns, .bool pf, .string tb] HP5.out _ Tryd.underlying34 rfl (by kernel_rfl) ?_)
        | (go_at_call 34; ((with_reducible refine (HCT.out _ _ _ _ _).mono ?_); rintro e w6 ⟨rfl, hb⟩; have HB56 := Lib.hid (bel_trans (bal (bel0 w5) _) hb); have HB6 := Lib.hid (bel_trans HB5.out HB56.out); have HP6 := Lib.hid (keep_at HP5.out HB56.out); clear hb))
        | (go_at_call 35; ((with_reducible refine (HPU.out _ (HC.out.below HB6.out)).mono ?_); rintro e w7 ⟨rfl, hb⟩; have HB7 := Lib.hid (bel_trans HB6.out hb); have HP7 := Lib.hid (keep_at HP6.out hb); clear hb))
        | (go_at_call 36; ((with_reducible refine (HMA.out _).mono ?_); rintro e w8 ⟨rfl, hb⟩; have HB8 := Lib.hid (bel_trans HB7.out hb); have HP8 := Lib.hid (keep_at HP7.out hb); clear hb))
        | (go_at_call 37; ((with_reducible refine (HG.out _ (HC.out.below HB8.out)).mono ?_); rintro e w' ⟨rfl, rfl⟩))
        | (go_at_call 39; ((with_reducible refine (HRG.out _).mono ?_); rintro e wA ⟨rfl, hb⟩; have HBA := Lib.hid (bel_trans HB8.out hb); clear hb)))
      go_ret
      exact ⟨rfl, bal HBA.out _⟩
    · have hcc := cb_gb h0 hg
      have HG := Lib.hid (getIs_some h0 hg)
      have HRG := Lib.hid (refGetIs_some h0 hg)
      have HA2 := Lib.hid (fun w => any1_lit 0 0 false c.kind c.sort c.nr c.ns c.pf ⟨#[]⟩ w)
      have heq : ∀ W, (binOp .eql 20 (cv c) (cv c)).run Tryd.prog W = .ok (.bool true) W := fun W => by rw [eql_cv hcc hcc W, decide_eq_true rfl]
      have hgd2 : ∀ (op : BinOp) (t : TypeId) (x y : Operand) (u : Value) (W : World), (eqGuard op t x y (cv c) u).run Tryd.prog W = .ok () W := fun op t x y u W => guard_cv hcc op t x y u W
      clear hg hcc h0 hp
      go_enter Tryd.func5, Tryd.ntmps5
      go_wp2_with (first
        | ((with_reducible refine wpList_boxPlain rfl (.tmp 0) rfl rfl ?_); intro w1 hb1 hlt1 hh1; have HB1 := Lib.hid hb1; have HP1 := Lib.hid hh1; clear hb1 hh1)
        | (go_at_call 20; refine (begun4_any _ (HC.out.below HB1.out)).mono ?_; rintro e w2 ⟨rfl, hb⟩; have HB2 := Lib.hid (bel_trans HB1.out hb); have HP2 := Lib.hid (keep_at HP1.out hb); clear hb)
        | (with_reducible refine wpList_loadB rfl 34 (.tmp 2) rfl w.heap.size rfl 34 #[.int .i64 seat, .int .i64 count, .bool cmd, .int .i64 1, .int .i64 sort, .int .i64 nr, .int .i64 ns, .bool pf, .string body] HP2.out _ Tryd.underlying34 rfl (by kernel_rfl) ?_)
        | (go_at_call 32; ((with_reducible refine (HPL.out _).mono ?_); rintro e w3 ⟨rfl, hb⟩; have HB3 := Lib.hid (bel_trans HB2.out hb); have HP3 := Lib.hid (keep_at HP2.out hb); clear hb))
        | ((with_reducible refine wpList_storeB rfl 34 (.tmp 2) _ rfl w.heap.size #[.int .i64 seat, .int .i64 count, .bool cmd, .int .i64 1, .int .i64 sort, .int .i64 nr, .int .i64 ns, .bool pf, .string tb] rfl rfl 34 _ HP3.out (by kernel_rfl) (by kernel_rfl) (by kernel_rfl) ?_); intro w4 hg4 hz4 hh4; have HB4 := Lib.hid (bel_grown HB3.out hg4 (Nat.le_refl _)); have HP4 := Lib.hid hh4; clear hg4 hz4 hh4)
        | (with_reducible refine wpList_loadB rfl 34 (.tmp 2) rfl w.heap.size rfl 34 #[.int .i64 seat, .int .i64 count, .bool cmd, .int .i64 1, .int .i64 sort, .int .i64 nr, .int .i64 ns, .bool pf, .string tb] HP4.out _ Tryd.underlying34 rfl (by kernel_rfl) ?_)
        | (go_at_call 33; ((with_reducible refine (HA.out _).mono ?_); rintro e w5 ⟨rfl, hb⟩; have HB5 := Lib.hid (bel_trans HB4.out hb); have HP5 := Lib.hid (keep_at HP4.out hb); have hlt5 := lt_at HP5.out; have c3 := cell_at HP5.out 3 _ rfl; clear hb))
        | (with_reducible refine wpList_loadB rfl 34 (.tmp 2) rfl w.heap.size rfl 34 #[.int .i64 seat, .int .i64 count, .bool cmd, .int .i64 1, .int .i64 sort, .int .i64 nr, .int .i64 ns, .bool pf, .string tb] HP5.out _ Tryd.underlying34 rfl (by kernel_rfl) ?_)
        | (go_at_call 34; ((with_reducible refine (HCT.out _ _ _ _ _).mono ?_); rintro e w6 ⟨rfl, hb⟩; have HB56 := Lib.hid (bel_trans (bal (bel0 w5) _) hb); have HB6 := Lib.hid (bel_trans HB5.out HB56.out); have HP6 := Lib.hid (keep_at HP5.out HB56.out); clear hb))
        | (go_at_call 35; ((with_reducible refine (HPU.out _ (HC.out.below HB6.out)).mono ?_); rintro e w7 ⟨rfl, hb⟩; have HB7 := Lib.hid (bel_trans HB6.out hb); have HP7 := Lib.hid (keep_at HP6.out hb); clear hb))
        | (go_at_call 36; ((with_reducible refine (HMA.out _).mono ?_); rintro e w8 ⟨rfl, hb⟩; have HB8 := Lib.hid (bel_trans HB7.out hb); have HP8 := Lib.hid (keep_at HP7.out hb); clear hb))
        | (go_at_call 37; ((with_reducible refine (HG.out _ (HC.out.below HB8.out)).mono ?_); rintro e w' ⟨rfl, rfl⟩))
        | (go_at_call 39; ((with_reducible refine (HRG.out _).mono ?_); rintro e wA ⟨rfl, hb⟩; have HBA := Lib.hid (bel_trans HB8.out hb); clear hb))
        | (go_at_call 33; ((with_reducible refine (HA2.out _).mono ?_); rintro e wB ⟨rfl, hb⟩; have HBB := Lib.hid (bel_trans HBA.out (bel_trans (bal (bel0 wA) _) hb)); clear hb)))
      go_ret
      exact ⟨rfl, HBB.out⟩
  · have hcn : cb (nm ⟨1, sort, nr, ns, pf⟩) = some n := hcb
    have HCT := Lib.hid (ctlIs_some (c := ⟨1, 0, nr, ns, pf⟩) hcb)
    have HPU := Lib.hid (putIs_some hcn)
    have HMA := Lib.hid (mayIs (ok := true) (by rw [hcn]; rfl : (cb (nm ⟨1, sort, nr, ns, pf⟩)).isSome = true))
    have HG1 := Lib.hid (getIs_some (cb_range hcn) (gb_cb hcn))
    have hne : ∀ W, (binOp .neq 20 (cv (nm ⟨1, sort, nr, ns, pf⟩)) (cv ⟨1, sort, nr, ns, pf⟩)).run Tryd.prog W = .ok (.bool false) W := fun W => by rw [cv_nm ⟨1, sort, nr, ns, pf⟩, neq_cv hcn hcn W, decide_eq_true rfl]; rfl
    have hgd : ∀ (op : BinOp) (t : TypeId) (x y : Operand) (u : Value) (W : World), (eqGuard op t x y (cv (nm ⟨1, sort, nr, ns, pf⟩)) u).run Tryd.prog W = .ok () W := fun op t x y u W => guard_cv hcn op t x y u W
    have HPF : Hid (∀ w, Calls Tryd.prog 38 #[cv ⟨1, sort, nr, ns, pf⟩] w fun e w' => e = .returned (.bool pf) ∧ Below w.heap.size w w') := fun w => CPF_any (isAny_cv ⟨1, sort, nr, ns, pf⟩) w
    clear hcb hcn
    rcases hg : gb b with _ | c
    · have HG := Lib.hid (getIs_none h0 hg)
      have HRG := Lib.hid (refGetIs_none h0 hg)
      have hnn := eq_nils
      clear hg h0 hp
      go_enter Tryd.func5, Tryd.ntmps5
      go_wp2_with (first
        | ((with_reducible refine wpList_boxPlain rfl (.tmp 0) rfl rfl ?_); intro w1 hb1 hlt1 hh1; have HB1 := Lib.hid hb1; have HP1 := Lib.hid hh1; clear hb1 hh1)
        | (go_at_call 20; refine (begun4_any _ (HC.out.below HB1.out)).mono ?_; rintro e w2 ⟨rfl, hb⟩; have HB2 := Lib.hid (bel_trans HB1.out hb); have HP2 := Lib.hid (keep_at HP1.out hb); clear hb)
        | (with_reducible refine wpList_loadB rfl 34 (.tmp 2) rfl w.heap.size rfl 34 #[.int .i64 seat, .int .i64 count, .bool cmd, .int .i64 1, .int .i64 sort, .int .i64 nr, .int .i64 ns, .bool pf, .string body] HP2.out _ Tryd.underlying34 rfl (by kernel_rfl) ?_)
        | (go_at_call 32; ((with_reducible refine (HPL.out _).mono ?_); rintro e w3 ⟨rfl, hb⟩; have HB3 := Lib.hid (bel_trans HB2.out hb); have HP3 := Lib.hid (keep_at HP2.out hb); clear hb))
        | ((with_reducible refine wpList_storeB rfl 34 (.tmp 2) _ rfl w.heap.size #[.int .i64 seat, .int .i64 count, .bool cmd, .int .i64 1, .int .i64 sort, .int .i64 nr, .int .i64 ns, .bool pf, .string tb] rfl rfl 34 _ HP3.out (by kernel_rfl) (by kernel_rfl) (by kernel_rfl) ?_); intro w4 hg4 hz4 hh4; have HB4 := Lib.hid (bel_grown HB3.out hg4 (Nat.le_refl _)); have HP4 := Lib.hid hh4; clear hg4 hz4 hh4)
        | (with_reducible refine wpList_loadB rfl 34 (.tmp 2) rfl w.heap.size rfl 34 #[.int .i64 seat, .int .i64 count, .bool cmd, .int .i64 1, .int .i64 sort, .int .i64 nr, .int .i64 ns, .bool pf, .string tb] HP4.out _ Tryd.underlying34 rfl (by kernel_rfl) ?_)
        | (go_at_call 33; ((with_reducible refine (HA.out _).mono ?_); rintro e w5 ⟨rfl, hb⟩; have HB5 := Lib.hid (bel_trans HB4.out hb); have HP5 := Lib.hid (keep_at HP4.out hb); have hlt5 := lt_at HP5.out; have c3 := cell_at HP5.out 3 _ rfl; clear hb))
        | (with_reducible refine wpList_loadB rfl 34 (.tmp 2) rfl w.heap.size rfl 34 #[.int .i64 seat, .int .i64 count, .bool cmd, .int .i64 1, .int .i64 sort, .int .i64 nr, .int .i64 ns, .bool pf, .string tb] HP5.out _ Tryd.underlying34 rfl (by kernel_rfl) ?_)
        | (go_at_call 34; ((with_reducible refine (HCT.out _ _ _ _ _).mono ?_); rintro e w6 ⟨rfl, hb⟩; have HB56 := Lib.hid (bel_trans (bal (bel0 w5) _) hb); have HB6 := Lib.hid (bel_trans HB5.out HB56.out); have HP6 := Lib.hid (keep_at HP5.out HB56.out); clear hb))
        | (go_at_call 35; ((with_reducible refine (HPU.out _ (HC.out.below HB6.out)).mono ?_); rintro e w7 ⟨rfl, hb⟩; have HB7 := Lib.hid (bel_trans HB6.out hb); have HP7 := Lib.hid (keep_at HP6.out hb); clear hb))
        | (go_at_call 36; ((with_reducible refine (HMA.out _).mono ?_); rintro e w8 ⟨rfl, hb⟩; have HB8 := Lib.hid (bel_trans HB7.out hb); have HP8 := Lib.hid (keep_at HP7.out hb); clear hb))
        | (go_at_call 37; ((with_reducible refine (HG1.out _ (HC.out.below HB8.out)).mono ?_); rintro e w' ⟨rfl, rfl⟩)))
      have c7 := cell_at HP8.out 7 _ rfl
      have hl8 := lt_at HP8.out
      refine rest_begin (by kernel_rfl) ?_
      refine rest_take 0 (oi := _) (v := ?_) (by simp only [List.getElem?_toArray, List.getElem?_cons_zero]; rfl) (by kernel_rfl) (by kernel_rfl) (by kernel_rfl) (by exact fun _ _ _ h => h) (by rfl) ?_ ?_; rotate_left; (· intro W HW; go_simp; try with_reducible rfl)
      simp only [Act.put, List.setIfInBounds_toArray, List.set_cons_zero, List.set_cons_succ]
      refine rest_take 1 (oi := _) (v := ?_) (by simp only [List.getElem?_toArray, List.getElem?_cons_succ, List.getElem?_cons_zero]; rfl) (by kernel_rfl) (by kernel_rfl) (by kernel_rfl) (by exact fun _ _ _ h => h) (by rfl) ?_ ?_; rotate_left; (· intro W HW; go_simp; try with_reducible rfl)
      simp only [Act.put, List.setIfInBounds_toArray, List.set_cons_zero, List.set_cons_succ]
      refine rest_take 2 (oi := _) (v := ?_) (by simp only [List.getElem?_toArray, List.getElem?_cons_succ, List.getElem?_cons_zero]; rfl) (by kernel_rfl) (by kernel_rfl) (by kernel_rfl) (by exact fun _ _ _ h => h) (by rfl) ?_ ?_; rotate_left; (· intro W HW; go_simp; try with_reducible rfl)
      simp only [Act.put, List.setIfInBounds_toArray, List.set_cons_zero, List.set_cons_succ]
      refine rest_take 3 (oi := _) (v := ?_) (by simp only [List.getElem?_toArray, List.getElem?_cons_succ, List.getElem?_cons_zero]; rfl) (by kernel_rfl) (by kernel_rfl) (by kernel_rfl) (by exact fun _ _ _ h => h) (by rfl) ?_ ?_; rotate_left; (· intro W HW; go_simp; try with_reducible rfl)
      simp only [Act.put, List.setIfInBounds_toArray, List.set_cons_zero, List.set_cons_succ]
      refine rest_take 4 (oi := _) (v := ?_) (by simp only [List.getElem?_toArray, List.getElem?_cons_succ, List.getElem?_cons_zero]; rfl) (by kernel_rfl) (by kernel_rfl) (by kernel_rfl) (by exact fun _ _ _ h => h) (by rfl) ?_ ?_; rotate_left; (· intro W HW; go_simp; try with_reducible rfl)
      simp only [Act.put, List.setIfInBounds_toArray, List.set_cons_zero, List.set_cons_succ]
      refine rest_take 5 (oi := _) (v := ?_) (by simp only [List.getElem?_toArray, List.getElem?_cons_succ, List.getElem?_cons_zero]; rfl) (by kernel_rfl) (by kernel_rfl) (by kernel_rfl) (by exact fun _ _ _ h => h) (by rfl) ?_ ?_; rotate_left; (· intro W HW; go_simp; try with_reducible rfl)
      simp only [Act.put, List.setIfInBounds_toArray, List.set_cons_zero, List.set_cons_succ]
      refine rest_take 6 (oi := _) (v := ?_) (by simp only [List.getElem?_toArray, List.getElem?_cons_succ, List.getElem?_cons_zero]; rfl) (by kernel_rfl) (by kernel_rfl) (by kernel_rfl) (by exact fun _ _ _ h => h) (by rfl) ?_ ?_; rotate_left; (· intro W HW; go_simp; try with_reducible rfl)
      simp only [Act.put, List.setIfInBounds_toArray, List.set_cons_zero, List.set_cons_succ]
      refine rest_take 7 (oi := _) (v := ?_) (by simp only [List.getElem?_toArray, List.getElem?_cons_succ, List.getElem?_cons_zero]; rfl) (by kernel_rfl) (by kernel_rfl) (by kernel_rfl) (by exact fun _ _ _ h => h) (by rfl) ?_ ?_; rotate_left; (· intro W HW; go_simp; try with_reducible rfl)
      simp only [Act.put, List.setIfInBounds_toArray, List.set_cons_zero, List.set_cons_succ]
      refine rest_take 8 (oi := _) (v := ?_) (by simp only [List.getElem?_toArray, List.getElem?_cons_succ, List.getElem?_cons_zero]; rfl) (by kernel_rfl) (by kernel_rfl) (by kernel_rfl) (by exact fun _ _ _ h => h) (by rfl) ?_ ?_; rotate_left; (· intro W HW; go_simp; try with_reducible rfl)
      simp only [Act.put, List.setIfInBounds_toArray, List.set_cons_zero, List.set_cons_succ]
      refine rest_take 10 (oi := _) (v := ?_) (by simp only [List.getElem?_toArray, List.getElem?_cons_succ, List.getElem?_cons_zero]; rfl) (by kernel_rfl) (by kernel_rfl) (by kernel_rfl) (by exact fun _ _ _ h => h) (by rfl) ?_ ?_; rotate_left; (· intro W HW; go_simp; try with_reducible rfl)
      simp only [Act.put, List.setIfInBounds_toArray, List.set_cons_zero, List.set_cons_succ]
      refine rest_take 11 (oi := _) (v := ?_) (by simp only [List.getElem?_toArray, List.getElem?_cons_succ, List.getElem?_cons_zero]; rfl) (by kernel_rfl) (by kernel_rfl) (by kernel_rfl) (by exact fun _ _ _ h => h) (by rfl) ?_ ?_; rotate_left; (· intro W HW; have c7w := (HW.cell (p := ⟨w.heap.size, 7, none⟩) hl8).trans c7; go_simp; try with_reducible rfl)
      simp only [Act.put, List.setIfInBounds_toArray, List.set_cons_zero, List.set_cons_succ]
      refine rest_call 9 (oi := _) (by simp only [List.getElem?_toArray, List.getElem?_cons_succ, List.getElem?_cons_zero]; rfl) 38 #[cv ⟨1, sort, nr, ns, pf⟩] _ (by kernel_rfl) (by rfl) (by go_simp) (HPF.out _) ?_
      rintro e w9 ⟨rfl, hb⟩; refine ⟨_, rfl, hb, ?_⟩; have HB9 := Lib.hid (bel_trans HB8.out.drew hb); clear hb
      simp only [Act.put, List.setIfInBounds_toArray, List.set_cons_zero, List.set_cons_succ]
      refine rest_take 12 (oi := _) (v := ?_) (by simp only [List.getElem?_toArray, List.getElem?_cons_succ, List.getElem?_cons_zero]; rfl) (by kernel_rfl) (by kernel_rfl) (by kernel_rfl) (by exact fun _ _ _ h => h) (by rfl) ?_ ?_; rotate_left; (· intro W HW; go_simp; try with_reducible rfl)
      simp only [Act.put, List.setIfInBounds_toArray, List.set_cons_zero, List.set_cons_succ]
      refine rest_take 13 (oi := _) (v := ?_) (by simp only [List.getElem?_toArray, List.getElem?_cons_succ, List.getElem?_cons_zero]; rfl) (by kernel_rfl) (by kernel_rfl) (by kernel_rfl) (by exact fun _ _ _ h => h) (by rfl) ?_ ?_; rotate_left; (· intro W HW; go_simp; try with_reducible rfl)
      simp only [Act.put, List.setIfInBounds_toArray, List.set_cons_zero, List.set_cons_succ]
      refine rest_done (by kernel_rfl) ?_
      go_wp2_with (first
        | (go_at_call 37; ((with_reducible refine (HG.out _ (HC.out.below HB9.out)).mono ?_); rintro e w' ⟨rfl, rfl⟩))
        | (go_at_call 39; ((with_reducible refine (HRG.out _).mono ?_); rintro e wA ⟨rfl, hb⟩; have HBA := Lib.hid (bel_trans HB9.out hb); clear hb)))
      go_ret
      exact ⟨rfl, bal HBA.out _⟩
    · have hcc := cb_gb h0 hg
      have HG := Lib.hid (getIs_some h0 hg)
      have HRG := Lib.hid (refGetIs_some h0 hg)
      have HA2 := Lib.hid (fun w => any1_lit 0 0 false c.kind c.sort c.nr c.ns c.pf ⟨#[]⟩ w)
      have heq : ∀ W, (binOp .eql 20 (cv c) (cv c)).run Tryd.prog W = .ok (.bool true) W := fun W => by rw [eql_cv hcc hcc W, decide_eq_true rfl]
      have hgd2 : ∀ (op : BinOp) (t : TypeId) (x y : Operand) (u : Value) (W : World), (eqGuard op t x y (cv c) u).run Tryd.prog W = .ok () W := fun op t x y u W => guard_cv hcc op t x y u W
      clear hg hcc h0 hp
      go_enter Tryd.func5, Tryd.ntmps5
      go_wp2_with (first
        | ((with_reducible refine wpList_boxPlain rfl (.tmp 0) rfl rfl ?_); intro w1 hb1 hlt1 hh1; have HB1 := Lib.hid hb1; have HP1 := Lib.hid hh1; clear hb1 hh1)
        | (go_at_call 20; refine (begun4_any _ (HC.out.below HB1.out)).mono ?_; rintro e w2 ⟨rfl, hb⟩; have HB2 := Lib.hid (bel_trans HB1.out hb); have HP2 := Lib.hid (keep_at HP1.out hb); clear hb)
        | (with_reducible refine wpList_loadB rfl 34 (.tmp 2) rfl w.heap.size rfl 34 #[.int .i64 seat, .int .i64 count, .bool cmd, .int .i64 1, .int .i64 sort, .int .i64 nr, .int .i64 ns, .bool pf, .string body] HP2.out _ Tryd.underlying34 rfl (by kernel_rfl) ?_)
        | (go_at_call 32; ((with_reducible refine (HPL.out _).mono ?_); rintro e w3 ⟨rfl, hb⟩; have HB3 := Lib.hid (bel_trans HB2.out hb); have HP3 := Lib.hid (keep_at HP2.out hb); clear hb))
        | ((with_reducible refine wpList_storeB rfl 34 (.tmp 2) _ rfl w.heap.size #[.int .i64 seat, .int .i64 count, .bool cmd, .int .i64 1, .int .i64 sort, .int .i64 nr, .int .i64 ns, .bool pf, .string tb] rfl rfl 34 _ HP3.out (by kernel_rfl) (by kernel_rfl) (by kernel_rfl) ?_); intro w4 hg4 hz4 hh4; have HB4 := Lib.hid (bel_grown HB3.out hg4 (Nat.le_refl _)); have HP4 := Lib.hid hh4; clear hg4 hz4 hh4)
        | (with_reducible refine wpList_loadB rfl 34 (.tmp 2) rfl w.heap.size rfl 34 #[.int .i64 seat, .int .i64 count, .bool cmd, .int .i64 1, .int .i64 sort, .int .i64 nr, .int .i64 ns, .bool pf, .string tb] HP4.out _ Tryd.underlying34 rfl (by kernel_rfl) ?_)
        | (go_at_call 33; ((with_reducible refine (HA.out _).mono ?_); rintro e w5 ⟨rfl, hb⟩; have HB5 := Lib.hid (bel_trans HB4.out hb); have HP5 := Lib.hid (keep_at HP4.out hb); have hlt5 := lt_at HP5.out; have c3 := cell_at HP5.out 3 _ rfl; clear hb))
        | (with_reducible refine wpList_loadB rfl 34 (.tmp 2) rfl w.heap.size rfl 34 #[.int .i64 seat, .int .i64 count, .bool cmd, .int .i64 1, .int .i64 sort, .int .i64 nr, .int .i64 ns, .bool pf, .string tb] HP5.out _ Tryd.underlying34 rfl (by kernel_rfl) ?_)
        | (go_at_call 34; ((with_reducible refine (HCT.out _ _ _ _ _).mono ?_); rintro e w6 ⟨rfl, hb⟩; have HB56 := Lib.hid (bel_trans (bal (bel0 w5) _) hb); have HB6 := Lib.hid (bel_trans HB5.out HB56.out); have HP6 := Lib.hid (keep_at HP5.out HB56.out); clear hb))
        | (go_at_call 35; ((with_reducible refine (HPU.out _ (HC.out.below HB6.out)).mono ?_); rintro e w7 ⟨rfl, hb⟩; have HB7 := Lib.hid (bel_trans HB6.out hb); have HP7 := Lib.hid (keep_at HP6.out hb); clear hb))
        | (go_at_call 36; ((with_reducible refine (HMA.out _).mono ?_); rintro e w8 ⟨rfl, hb⟩; have HB8 := Lib.hid (bel_trans HB7.out hb); have HP8 := Lib.hid (keep_at HP7.out hb); clear hb))
        | (go_at_call 37; ((with_reducible refine (HG1.out _ (HC.out.below HB8.out)).mono ?_); rintro e w' ⟨rfl, rfl⟩)))
      have c7 := cell_at HP8.out 7 _ rfl
      have hl8 := lt_at HP8.out
      refine rest_begin (by kernel_rfl) ?_
      refine rest_take 0 (oi := _) (v := ?_) (by simp only [List.getElem?_toArray, List.getElem?_cons_zero]; rfl) (by kernel_rfl) (by kernel_rfl) (by kernel_rfl) (by exact fun _ _ _ h => h) (by rfl) ?_ ?_; rotate_left; (· intro W HW; go_simp; try with_reducible rfl)
      simp only [Act.put, List.setIfInBounds_toArray, List.set_cons_zero, List.set_cons_succ]
      refine rest_take 1 (oi := _) (v := ?_) (by simp only [List.getElem?_toArray, List.getElem?_cons_succ, List.getElem?_cons_zero]; rfl) (by kernel_rfl) (by kernel_rfl) (by kernel_rfl) (by exact fun _ _ _ h => h) (by rfl) ?_ ?_; rotate_left; (· intro W HW; go_simp; try with_reducible rfl)
      simp only [Act.put, List.setIfInBounds_toArray, List.set_cons_zero, List.set_cons_succ]
      refine rest_take 2 (oi := _) (v := ?_) (by simp only [List.getElem?_toArray, List.getElem?_cons_succ, List.getElem?_cons_zero]; rfl) (by kernel_rfl) (by kernel_rfl) (by kernel_rfl) (by exact fun _ _ _ h => h) (by rfl) ?_ ?_; rotate_left; (· intro W HW; go_simp; try with_reducible rfl)
      simp only [Act.put, List.setIfInBounds_toArray, List.set_cons_zero, List.set_cons_succ]
      refine rest_take 3 (oi := _) (v := ?_) (by simp only [List.getElem?_toArray, List.getElem?_cons_succ, List.getElem?_cons_zero]; rfl) (by kernel_rfl) (by kernel_rfl) (by kernel_rfl) (by exact fun _ _ _ h => h) (by rfl) ?_ ?_; rotate_left; (· intro W HW; go_simp; try with_reducible rfl)
      simp only [Act.put, List.setIfInBounds_toArray, List.set_cons_zero, List.set_cons_succ]
      refine rest_take 4 (oi := _) (v := ?_) (by simp only [List.getElem?_toArray, List.getElem?_cons_succ, List.getElem?_cons_zero]; rfl) (by kernel_rfl) (by kernel_rfl) (by kernel_rfl) (by exact fun _ _ _ h => h) (by rfl) ?_ ?_; rotate_left; (· intro W HW; go_simp; try with_reducible rfl)
      simp only [Act.put, List.setIfInBounds_toArray, List.set_cons_zero, List.set_cons_succ]
      refine rest_take 5 (oi := _) (v := ?_) (by simp only [List.getElem?_toArray, List.getElem?_cons_succ, List.getElem?_cons_zero]; rfl) (by kernel_rfl) (by kernel_rfl) (by kernel_rfl) (by exact fun _ _ _ h => h) (by rfl) ?_ ?_; rotate_left; (· intro W HW; go_simp; try with_reducible rfl)
      simp only [Act.put, List.setIfInBounds_toArray, List.set_cons_zero, List.set_cons_succ]
      refine rest_take 6 (oi := _) (v := ?_) (by simp only [List.getElem?_toArray, List.getElem?_cons_succ, List.getElem?_cons_zero]; rfl) (by kernel_rfl) (by kernel_rfl) (by kernel_rfl) (by exact fun _ _ _ h => h) (by rfl) ?_ ?_; rotate_left; (· intro W HW; go_simp; try with_reducible rfl)
      simp only [Act.put, List.setIfInBounds_toArray, List.set_cons_zero, List.set_cons_succ]
      refine rest_take 7 (oi := _) (v := ?_) (by simp only [List.getElem?_toArray, List.getElem?_cons_succ, List.getElem?_cons_zero]; rfl) (by kernel_rfl) (by kernel_rfl) (by kernel_rfl) (by exact fun _ _ _ h => h) (by rfl) ?_ ?_; rotate_left; (· intro W HW; go_simp; try with_reducible rfl)
      simp only [Act.put, List.setIfInBounds_toArray, List.set_cons_zero, List.set_cons_succ]
      refine rest_take 8 (oi := _) (v := ?_) (by simp only [List.getElem?_toArray, List.getElem?_cons_succ, List.getElem?_cons_zero]; rfl) (by kernel_rfl) (by kernel_rfl) (by kernel_rfl) (by exact fun _ _ _ h => h) (by rfl) ?_ ?_; rotate_left; (· intro W HW; go_simp; try with_reducible rfl)
      simp only [Act.put, List.setIfInBounds_toArray, List.set_cons_zero, List.set_cons_succ]
      refine rest_take 10 (oi := _) (v := ?_) (by simp only [List.getElem?_toArray, List.getElem?_cons_succ, List.getElem?_cons_zero]; rfl) (by kernel_rfl) (by kernel_rfl) (by kernel_rfl) (by exact fun _ _ _ h => h) (by rfl) ?_ ?_; rotate_left; (· intro W HW; go_simp; try with_reducible rfl)
      simp only [Act.put, List.setIfInBounds_toArray, List.set_cons_zero, List.set_cons_succ]
      refine rest_take 11 (oi := _) (v := ?_) (by simp only [List.getElem?_toArray, List.getElem?_cons_succ, List.getElem?_cons_zero]; rfl) (by kernel_rfl) (by kernel_rfl) (by kernel_rfl) (by exact fun _ _ _ h => h) (by rfl) ?_ ?_; rotate_left; (· intro W HW; have c7w := (HW.cell (p := ⟨w.heap.size, 7, none⟩) hl8).trans c7; go_simp; try with_reducible rfl)
      simp only [Act.put, List.setIfInBounds_toArray, List.set_cons_zero, List.set_cons_succ]
      refine rest_call 9 (oi := _) (by simp only [List.getElem?_toArray, List.getElem?_cons_succ, List.getElem?_cons_zero]; rfl) 38 #[cv ⟨1, sort, nr, ns, pf⟩] _ (by kernel_rfl) (by rfl) (by go_simp) (HPF.out _) ?_
      rintro e w9 ⟨rfl, hb⟩; refine ⟨_, rfl, hb, ?_⟩; have HB9 := Lib.hid (bel_trans HB8.out.drew hb); clear hb
      simp only [Act.put, List.setIfInBounds_toArray, List.set_cons_zero, List.set_cons_succ]
      refine rest_take 12 (oi := _) (v := ?_) (by simp only [List.getElem?_toArray, List.getElem?_cons_succ, List.getElem?_cons_zero]; rfl) (by kernel_rfl) (by kernel_rfl) (by kernel_rfl) (by exact fun _ _ _ h => h) (by rfl) ?_ ?_; rotate_left; (· intro W HW; go_simp; try with_reducible rfl)
      simp only [Act.put, List.setIfInBounds_toArray, List.set_cons_zero, List.set_cons_succ]
      refine rest_take 13 (oi := _) (v := ?_) (by simp only [List.getElem?_toArray, List.getElem?_cons_succ, List.getElem?_cons_zero]; rfl) (by kernel_rfl) (by kernel_rfl) (by kernel_rfl) (by exact fun _ _ _ h => h) (by rfl) ?_ ?_; rotate_left; (· intro W HW; go_simp; try with_reducible rfl)
      simp only [Act.put, List.setIfInBounds_toArray, List.set_cons_zero, List.set_cons_succ]
      refine rest_done (by kernel_rfl) ?_
      go_wp2_with (first
        | (go_at_call 37; ((with_reducible refine (HG.out _ (HC.out.below HB9.out)).mono ?_); rintro e w' ⟨rfl, rfl⟩))
        | (go_at_call 39; ((with_reducible refine (HRG.out _).mono ?_); rintro e wA ⟨rfl, hb⟩; have HBA := Lib.hid (bel_trans HB9.out hb); clear hb))
        | (go_at_call 33; ((with_reducible refine (HA2.out _).mono ?_); rintro e wB ⟨rfl, hb⟩; have HBB := Lib.hid (bel_trans HBA.out (bel_trans (bal (bel0 wA) _) hb)); clear hb)))
      go_ret
      exact ⟨rfl, HBB.out⟩

end Go.Proofs.YtaofomkalnagcaaDoor
