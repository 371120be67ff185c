/- The law XidTurn. -/
import Derived.Test.YtcmjdbljdkabpaaGreatDoorQ8S
import Derived.Test.YtcmjdbljdkabpaaGreatDoorM8M
import Derived.Test.YtcmjdbljdkabpaaGreatDoorM8C
import Derived.Test.YtcmjdbljdkabpaaGreatDoorBegun8
import Derived.Test.YtcmjdbljdkabpaaGreatDoorM4H
import Derived.Test.YtcmjdbljdkabpaaGreatDoorM4D

set_option linter.all false

namespace Go.Proofs.YtcmjdbljdkabpaaGreatDoor
open Go.RowKit M

theorem mayX_parts {x : Xd} (h : mayX x = true) : (x.slots = 1 ∨ x.slots = 6 ∨ x.slots = 8) ∧ (-1 ≤ x.slot ∧ x.slot < x.slots) := by
  unfold mayX at h
  simp only [Bool.and_eq_true, decide_eq_true_eq] at h
  exact ⟨h.1.1.2, h.1.2⟩
theorem getX_ok {s : List UInt8} {y : Xd} (h : getX s = some y) (hs : s.length ≤ 1000000) : y.xin.ok := by
  obtain ⟨hp, h1, h2⟩ := putX_getX h
  unfold putX at hp
  split at hp
  · rename_i hm
    obtain ⟨h3, h4⟩ := mayX_parts hm
    injection hp with hp
    have hl : y.nick.length ≤ s.length := by rw [← hp]; unfold bytesX; simp only [List.length_append]; omega
    refine ⟨wf32 h1, wf32 h2, wf64 (n := y.slot) (by omega), wf64 (n := y.slots) (by omega), ?_⟩
    show (y.nick.toArray).size ≤ maxLen
    rw [List.size_toArray]
    unfold maxLen
    omega
  · cases hp
theorem set_eq {l : List UInt8} {k : Nat} (hk : k < l.length) (c : UInt8) : l.set k c = l ↔ l[k] = c := by
  constructor
  · intro h
    have : (l.set k c)[k]'(by rw [List.length_set]; exact hk) = l[k] := by simp only [h]
    rw [List.getElem_set_self] at this
    exact this.symm
  · intro h
    subst h
    exact List.set_getElem_self hk
theorem turn_same {x y : Xd} {l : List UInt8} {k : Nat} (hf : u32 x.from_) (ht : u32 x.to_) (hx : putX x = some l) (hk : k < l.length) (c : UInt8) (hy : getX (l.set k c) = some y) : (((l[k]).toNat : Int) == (c.toNat : Int)) = decide (y = x) := by
  rw [Bool.eq_iff_iff, beq_iff_eq, decide_eq_true_iff]
  have h1 : ((l[k]).toNat : Int) = (c.toNat : Int) ↔ l[k] = c := ⟨fun h => UInt8.toNat_inj.1 (by omega), fun h => by rw [h]⟩
  rw [h1, ← set_eq hk c]
  constructor
  · intro h
    rw [h, getX_putX hf ht hx] at hy
    exact (Option.some.inj hy).symm
  · intro h
    subst h
    have := (putX_getX hy).1
    rw [hx] at this
    exact (Option.some.inj this).symm
set_option maxRecDepth 100000 in
set_option maxHeartbeats 8000000 in
theorem XidTurn_0 (f t sl sn : Int) (an : Bool) (nk N P : ByteArray) (at_ : Int) (c : UInt8) (w : World) (hC : Codes w)
    (hTX : ∀ w, Calls Tryz.prog 22 #[.string nk, .int .i64 20] w fun e w' => e = .returned (.string N) ∧ w = w')
    (hP1 : ∀ w, Calls Tryz.prog 47 #[.agg #[.int .u32 f, .int .u32 t, .int .i64 sl, .int .i64 sn, .bool an, .string N]] w fun e w' => e = .returned (.tuple #[.string P, .bool false]) ∧ Below w.heap.size w w') :
    Calls Tryz.prog 15 #[.agg #[.int .u32 f, .int .u32 t, .int .i64 sl, .int .i64 sn, .bool an, .string nk], .int .i64 at_, .int .u8 (c.toNat : Int)] w (Holds8 w) := by
  have HC0 := Lib.hid hC
  have HTX := Lib.hid hTX
  have HP1 := Lib.hid hP1
  clear hC hTX hP1
  go_enter Tryz.func15, Tryz.ntmps15
  go_wp2_with (first
    | ((with_reducible refine wpList_boxS rfl 51 _ (.tmp 0) rfl rfl (run_boxX ⟨f, t, sl, sn, an, nk⟩) ?_); intro w1 hb hlt hh; have HB1 := Lib.hid hb; have HC1 := Lib.hid (HC0.out.below hb); have X1 := Lib.hid (hh); clear hb hlt hh)
    | ((with_reducible refine wpList_store1 rfl 9 (.tmp 22) (.tmp 21) rfl (w.heap.size) 5 (.string N) rfl rfl 51 _ X2.out (by simp) (storeStr w.heap.size 5 _) ?_); intro w3 hg hh; have HB3 := Lib.hid (bel_grown HB2.out hg (Nat.le_refl _)); have X3 : Hid (w3.heap[w.heap.size]? = some (.cells #[.int .u32 f, .int .u32 t, .int .i64 sl, .int .i64 sn, .bool an, .string N] 51 (0, 0))) := hh; clear hg hh)
    | (with_reducible refine wpList_loadB rfl 51 (.tmp 3) rfl (w.heap.size) rfl 51 _ X3.out _ Tryz.underlying51 rfl (by kernel_rfl) ?_)
    | (go_at_call 21; ((with_reducible refine (begun8_any _ HC1.out).mono ?_); rintro e w2 ⟨rfl, hb⟩; have HB2 := Lib.hid (bel_trans HB1.out hb); have X2 := Lib.hid (keep_at X1.out hb); have HC2 := Lib.hid (HC1.out.below hb); have c5 := cell_at X2.out 5 _ rfl; clear hb))
    | (go_at_call 22; ((with_reducible refine (HTX.out _).mono ?_); rintro e w' ⟨rfl, hw'⟩; rw [← hw']; clear hw'))
    | (go_at_call 47; ((with_reducible refine (HP1.out _).mono ?_); rintro e w4 ⟨rfl, hb⟩; have HB4 := Lib.hid (bel_trans HB3.out hb); have X4 := Lib.hid (keep_at X3.out hb); have HL4 := Lib.hid (lt_at X4.out); clear hb)))
  go_ret
  exact ⟨rfl, HB4.out⟩
set_option maxRecDepth 100000 in
set_option maxHeartbeats 8000000 in
theorem XidTurn_1 (f t sl sn : Int) (an : Bool) (nk N P : ByteArray) (at_ : Int) (c : UInt8) (w : World) (hC : Codes w)
    (hTX : ∀ w, Calls Tryz.prog 22 #[.string nk, .int .i64 20] w fun e w' => e = .returned (.string N) ∧ w = w')
    (hP1 : ∀ w, Calls Tryz.prog 47 #[.agg #[.int .u32 f, .int .u32 t, .int .i64 sl, .int .i64 sn, .bool an, .string N]] w fun e w' => e = .returned (.tuple #[.string P, .bool true]) ∧ Below w.heap.size w w')
    (hat : at_ < 0) :
    Calls Tryz.prog 15 #[.agg #[.int .u32 f, .int .u32 t, .int .i64 sl, .int .i64 sn, .bool an, .string nk], .int .i64 at_, .int .u8 (c.toNat : Int)] w (Holds8 w) := by
  have HC0 := Lib.hid hC
  have HTX := Lib.hid hTX
  have HP1 := Lib.hid hP1
  clear hC hTX hP1
  go_enter Tryz.func15, Tryz.ntmps15
  go_wp2_with (first
    | ((with_reducible refine wpList_boxS rfl 51 _ (.tmp 0) rfl rfl (run_boxX ⟨f, t, sl, sn, an, nk⟩) ?_); intro w1 hb hlt hh; have HB1 := Lib.hid hb; have HC1 := Lib.hid (HC0.out.below hb); have X1 := Lib.hid (hh); clear hb hlt hh)
    | ((with_reducible refine wpList_store1 rfl 9 (.tmp 22) (.tmp 21) rfl (w.heap.size) 5 (.string N) rfl rfl 51 _ X2.out (by simp) (storeStr w.heap.size 5 _) ?_); intro w3 hg hh; have HB3 := Lib.hid (bel_grown HB2.out hg (Nat.le_refl _)); have X3 : Hid (w3.heap[w.heap.size]? = some (.cells #[.int .u32 f, .int .u32 t, .int .i64 sl, .int .i64 sn, .bool an, .string N] 51 (0, 0))) := hh; clear hg hh)
    | (with_reducible refine wpList_loadB rfl 51 (.tmp 3) rfl (w.heap.size) rfl 51 _ X3.out _ Tryz.underlying51 rfl (by kernel_rfl) ?_)
    | (go_at_call 21; ((with_reducible refine (begun8_any _ HC1.out).mono ?_); rintro e w2 ⟨rfl, hb⟩; have HB2 := Lib.hid (bel_trans HB1.out hb); have X2 := Lib.hid (keep_at X1.out hb); have HC2 := Lib.hid (HC1.out.below hb); have c5 := cell_at X2.out 5 _ rfl; clear hb))
    | (go_at_call 22; ((with_reducible refine (HTX.out _).mono ?_); rintro e w' ⟨rfl, hw'⟩; rw [← hw']; clear hw'))
    | (go_at_call 47; ((with_reducible refine (HP1.out _).mono ?_); rintro e w4 ⟨rfl, hb⟩; have HB4 := Lib.hid (bel_trans HB3.out hb); have X4 := Lib.hid (keep_at X3.out hb); have HL4 := Lib.hid (lt_at X4.out); clear hb)))
  go_ret
  exact ⟨rfl, HB4.out⟩
set_option maxRecDepth 100000 in
set_option maxHeartbeats 8000000 in
theorem XidTurn_2 (f t sl sn : Int) (an : Bool) (nk N P : ByteArray) (at_ : Int) (c : UInt8) (k : Nat) (y0 y1 y2 y3 : Int) (y4 : Bool) (y5 T2 : ByteArray) (q2 : Bool) (w : World) (hC : Codes w)
    (hTX : ∀ w, Calls Tryz.prog 22 #[.string nk, .int .i64 20] w fun e w' => e = .returned (.string N) ∧ w = w')
    (hP1 : ∀ w, Calls Tryz.prog 47 #[.agg #[.int .u32 f, .int .u32 t, .int .i64 sl, .int .i64 sn, .bool an, .string N]] w fun e w' => e = .returned (.tuple #[.string P, .bool true]) ∧ Below w.heap.size w w')
    (hat : ¬ at_ < 0) (hPZ : P.size ≤ maxLen) (hk : k < P.data.toList.length) (hm : at_.tmod (P.size : Int) = (k : Int))
    (hG : ∀ w, Calls Tryz.prog 50 #[.string ⟨(P.data.toList.set k c).toArray⟩] w fun e w' => e = .returned (.tuple #[.agg #[.int .u32 y0, .int .u32 y1, .int .i64 y2, .int .i64 y3, .bool y4, .string y5], .bool false]) ∧ Below w.heap.size w w')
    (hP2 : ∀ w, Calls Tryz.prog 47 #[.agg #[.int .u32 y0, .int .u32 y1, .int .i64 y2, .int .i64 y3, .bool y4, .string y5]] w fun e w' => e = .returned (.tuple #[.string T2, .bool q2]) ∧ Below w.heap.size w w') :
    Calls Tryz.prog 15 #[.agg #[.int .u32 f, .int .u32 t, .int .i64 sl, .int .i64 sn, .bool an, .string nk], .int .i64 at_, .int .u8 (c.toNat : Int)] w (Holds8 w) := by
  have HC0 := Lib.hid hC
  have HTX := Lib.hid hTX
  have HP1 := Lib.hid hP1
  clear hC hTX hP1
  obtain ⟨wv, hwv⟩ : ∃ wv : Int, ((P.data.toList[k]).toNat : Int) = wv := ⟨_, rfl⟩
  have HWV := Lib.hid hwv
  have hpl : P.data.toList.length = P.size := by rw [Array.length_toList]; rfl
  have HK := Lib.hid hk
  have HPZ := Lib.hid hPZ
  have HG := Lib.hid hG
  have HP2 := Lib.hid hP2
  have HN : Hid (P.size = (P.data.toList.set k c).length) := by show P.size = _; rw [List.length_set]; exact hpl.symm
  have q0 : ¬ (P.size : Int) = 0 := by omega
  have q1 : ¬ P.size = 0 := by omega
  have q2_ : k < P.size := by omega
  have q3 : (0 : Int) ≤ (k : Int) := by omega
  have q4 : (k : Int) < (P.size : Int) := by omega
  have v4 : IntKind.i64.wrap (k : Int) = (k : Int) := IntWalk.i64_in _ (by unfold maxLen at hPZ; omega)
  clear hwv hpl hPZ hG hP2
  go_enter Tryz.func15, Tryz.ntmps15
  go_wp2_with (first
    | ((with_reducible refine wpList_boxS rfl 51 _ (.tmp 0) rfl rfl (run_boxX ⟨f, t, sl, sn, an, nk⟩) ?_); intro w1 hb hlt hh; have HB1 := Lib.hid hb; have HC1 := Lib.hid (HC0.out.below hb); have X1 := Lib.hid (hh); clear hb hlt hh)
    | ((with_reducible refine wpList_store1 rfl 9 (.tmp 22) (.tmp 21) rfl (w.heap.size) 5 (.string N) rfl rfl 51 _ X2.out (by simp) (storeStr w.heap.size 5 _) ?_); intro w3 hg hh; have HB3 := Lib.hid (bel_grown HB2.out hg (Nat.le_refl _)); have X3 : Hid (w3.heap[w.heap.size]? = some (.cells #[.int .u32 f, .int .u32 t, .int .i64 sl, .int .i64 sn, .bool an, .string N] 51 (0, 0))) := hh; clear hg hh)
    | (with_reducible refine wpList_loadB rfl 51 (.tmp 3) rfl (w.heap.size) rfl 51 _ X3.out _ Tryz.underlying51 rfl (by kernel_rfl) ?_)
    | ((with_reducible refine wpList_ofStr rfl (.tmp 34) rfl (P) rfl HPZ.out ?_); intro w5 cap5 hb hs; have HB5 := Lib.hid (bel_trans HB4.out hb); have X5 := Lib.hid (keep_at X4.out hb); have BS5 := Lib.hid hs; have cw := BS5.out.cell HK.out; rw [HWV.out] at cw; have HL5 := Lib.hid (BS5.out.lt); clear hb hs)
    | ((with_reducible refine wpList_setB rfl (.tmp 49) (.tmp 48) rfl (w4.heap.size) k cap5 c (P.data.toList) rfl rfl BS5.out HK.out ?_); intro w6 hg hs; have HB6 := Lib.hid (bel_grown HB5.out hg (HB4.out.size)); have X6 := Lib.hid (keep_grown X5.out hg (Nat.ne_of_lt HL4.out)); have BS6 := Lib.hid hs; clear hg hs)
    | (with_reducible refine wpList_strB rfl (.tmp 51) rfl (.slice (some ⟨w4.heap.size, 0, none⟩) P.size cap5) (P.data.toList.set k c) rfl (BS6.out.rds HN.out) ?_)
    | (with_reducible refine wpList_loadB rfl 51 (.tmp 12) rfl (w7.heap.size) rfl 51 _ Y7.out _ Tryz.underlying51 rfl (by kernel_rfl) ?_)
    | (go_at_call 21; ((with_reducible refine (begun8_any _ HC1.out).mono ?_); rintro e w2 ⟨rfl, hb⟩; have HB2 := Lib.hid (bel_trans HB1.out hb); have X2 := Lib.hid (keep_at X1.out hb); have HC2 := Lib.hid (HC1.out.below hb); have c5 := cell_at X2.out 5 _ rfl; clear hb))
    | (go_at_call 22; ((with_reducible refine (HTX.out _).mono ?_); rintro e w' ⟨rfl, hw'⟩; rw [← hw']; clear hw'))
    | (go_at_call 47; first
      | ((with_reducible refine (HP1.out _).mono ?_); rintro e w4 ⟨rfl, hb⟩; have HB4 := Lib.hid (bel_trans HB3.out hb); have X4 := Lib.hid (keep_at X3.out hb); have HL4 := Lib.hid (lt_at X4.out); clear hb)
      | ((with_reducible refine (HP2.out _).mono ?_); rintro e w8 ⟨rfl, hb⟩; have HB8 := Lib.hid (bel_trans HB7.out hb); have X8 := Lib.hid (keep_at X7.out hb); have Y8 := Lib.hid (keep_at Y7.out hb); have BS8 := Lib.hid (BS7.out.below hb); clear hb))
    | (go_at_call 50; ((with_reducible refine (HG.out _).mono ?_); rintro e w7 ⟨rfl, hb⟩; have HB7 := Lib.hid (bal ((bel_trans HB6.out hb)) (.cells #[.int .u32 y0, .int .u32 y1, .int .i64 y2, .int .i64 y3, .bool y4, .string y5] 51)); have X7 := Lib.hid (keep_at (keep_at X6.out hb) (bal (bel0 w7) (.cells #[.int .u32 y0, .int .u32 y1, .int .i64 y2, .int .i64 y3, .bool y4, .string y5] 51))); have BS7 := Lib.hid ((BS6.out.below hb).below (bal (bel0 w7) (.cells #[.int .u32 y0, .int .u32 y1, .int .i64 y2, .int .i64 y3, .bool y4, .string y5] 51))); have Y7 := Lib.hid ((heap_alloc_new w7 (.cells #[.int .u32 y0, .int .u32 y1, .int .i64 y2, .int .i64 y3, .bool y4, .string y5] 51))); clear hb)))
  go_ret
  refine ⟨?_, HB8.out⟩
  simp
set_option maxRecDepth 100000 in
set_option maxHeartbeats 8000000 in
theorem XidTurn_3 (f t sl sn : Int) (an : Bool) (nk N P : ByteArray) (at_ : Int) (c : UInt8) (k : Nat) (y0 y1 y2 y3 : Int) (y4 : Bool) (y5 T2 : ByteArray) (q2 : Bool) (w : World) (hC : Codes w)
    (hTX : ∀ w, Calls Tryz.prog 22 #[.string nk, .int .i64 20] w fun e w' => e = .returned (.string N) ∧ w = w')
    (hP1 : ∀ w, Calls Tryz.prog 47 #[.agg #[.int .u32 f, .int .u32 t, .int .i64 sl, .int .i64 sn, .bool an, .string N]] w fun e w' => e = .returned (.tuple #[.string P, .bool true]) ∧ Below w.heap.size w w')
    (hat : ¬ at_ < 0) (hPZ : P.size ≤ maxLen) (hk : k < P.data.toList.length) (hm : at_.tmod (P.size : Int) = (k : Int))
    (hG : ∀ w, Calls Tryz.prog 50 #[.string ⟨(P.data.toList.set k c).toArray⟩] w fun e w' => e = .returned (.tuple #[.agg #[.int .u32 y0, .int .u32 y1, .int .i64 y2, .int .i64 y3, .bool y4, .string y5], .bool true]) ∧ Below w.heap.size w w')
    (hP2 : ∀ w, Calls Tryz.prog 47 #[.agg #[.int .u32 y0, .int .u32 y1, .int .i64 y2, .int .i64 y3, .bool y4, .string y5]] w fun e w' => e = .returned (.tuple #[.string T2, .bool q2]) ∧ Below w.heap.size w w')
    (e : Bool) (hT2 : T2 = ⟨(P.data.toList.set k c).toArray⟩) (he : (((P.data.toList[k]).toNat : Int) == (c.toNat : Int)) = e)
    (hEQ : ∀ W : World, (binOp .eql 51 (.agg #[.int .u32 y0, .int .u32 y1, .int .i64 y2, .int .i64 y3, .bool y4, .string y5]) (.agg #[.int .u32 f, .int .u32 t, .int .i64 sl, .int .i64 sn, .bool an, .string N])).run Tryz.prog W = .ok (.bool e) W) :
    Calls Tryz.prog 15 #[.agg #[.int .u32 f, .int .u32 t, .int .i64 sl, .int .i64 sn, .bool an, .string nk], .int .i64 at_, .int .u8 (c.toNat : Int)] w (Holds8 w) := by
  have HC0 := Lib.hid hC
  have HTX := Lib.hid hTX
  have HP1 := Lib.hid hP1
  clear hC hTX hP1
  obtain ⟨wv, hwv⟩ : ∃ wv : Int, ((P.data.toList[k]).toNat : Int) = wv := ⟨_, rfl⟩
  have HWV := Lib.hid hwv
  have hpl : P.data.toList.length = P.size := by rw [Array.length_toList]; rfl
  have HK := Lib.hid hk
  have HPZ := Lib.hid hPZ
  have HG := Lib.hid hG
  have HP2 := Lib.hid hP2
  have HN : Hid (P.size = (P.data.toList.set k c).length) := by show P.size = _; rw [List.length_set]; exact hpl.symm
  have q0 : ¬ (P.size : Int) = 0 := by omega
  have q1 : ¬ P.size = 0 := by omega
  have q2_ : k < P.size := by omega
  have q3 : (0 : Int) ≤ (k : Int) := by omega
  have q4 : (k : Int) < (P.size : Int) := by omega
  have v4 : IntKind.i64.wrap (k : Int) = (k : Int) := IntWalk.i64_in _ (by unfold maxLen at hPZ; omega)
  rw [hwv] at he
  subst hT2
  clear hwv hpl hPZ hG hP2
  cases e
  all_goals
    have HEQ := Lib.hid hEQ
    clear hEQ
    go_enter Tryz.func15, Tryz.ntmps15
    go_wp2_with (first
      | ((with_reducible refine wpList_boxS rfl 51 _ (.tmp 0) rfl rfl (run_boxX ⟨f, t, sl, sn, an, nk⟩) ?_); intro w1 hb hlt hh; have HB1 := Lib.hid hb; have HC1 := Lib.hid (HC0.out.below hb); have X1 := Lib.hid (hh); clear hb hlt hh)
      | ((with_reducible refine wpList_store1 rfl 9 (.tmp 22) (.tmp 21) rfl (w.heap.size) 5 (.string N) rfl rfl 51 _ X2.out (by simp) (storeStr w.heap.size 5 _) ?_); intro w3 hg hh; have HB3 := Lib.hid (bel_grown HB2.out hg (Nat.le_refl _)); have X3 : Hid (w3.heap[w.heap.size]? = some (.cells #[.int .u32 f, .int .u32 t, .int .i64 sl, .int .i64 sn, .bool an, .string N] 51 (0, 0))) := hh; clear hg hh)
      | (with_reducible refine wpList_loadB rfl 51 (.tmp 3) rfl (w.heap.size) rfl 51 _ X3.out _ Tryz.underlying51 rfl (by kernel_rfl) ?_)
      | ((with_reducible refine wpList_ofStr rfl (.tmp 34) rfl (P) rfl HPZ.out ?_); intro w5 cap5 hb hs; have HB5 := Lib.hid (bel_trans HB4.out hb); have X5 := Lib.hid (keep_at X4.out hb); have BS5 := Lib.hid hs; have cw := BS5.out.cell HK.out; rw [HWV.out] at cw; have HL5 := Lib.hid (BS5.out.lt); clear hb hs)
      | ((with_reducible refine wpList_setB rfl (.tmp 49) (.tmp 48) rfl (w4.heap.size) k cap5 c (P.data.toList) rfl rfl BS5.out HK.out ?_); intro w6 hg hs; have HB6 := Lib.hid (bel_grown HB5.out hg (HB4.out.size)); have X6 := Lib.hid (keep_grown X5.out hg (Nat.ne_of_lt HL4.out)); have BS6 := Lib.hid hs; clear hg hs)
      | (with_reducible refine wpList_strB rfl (.tmp 51) rfl (.slice (some ⟨w4.heap.size, 0, none⟩) P.size cap5) (P.data.toList.set k c) rfl (BS6.out.rds HN.out) ?_)
      | (with_reducible refine wpList_loadB rfl 51 (.tmp 12) rfl (w7.heap.size) rfl 51 _ Y7.out _ Tryz.underlying51 rfl (by kernel_rfl) ?_)
      | (with_reducible refine wpList_loadG (by kernel_rfl) 51 (.tmp 12) rfl (w7.heap.size) rfl 51 #[.int .u32 y0, .int .u32 y1, .int .i64 y2, .int .i64 y3, .bool y4, .string y5] Y8.out _ Tryz.underlying51 rfl (by kernel_rfl) ?_)
      | (with_reducible refine wpList_loadG (by kernel_rfl) 51 (.tmp 3) rfl (w.heap.size) rfl 51 #[.int .u32 f, .int .u32 t, .int .i64 sl, .int .i64 sn, .bool an, .string N] X8.out _ Tryz.underlying51 rfl (by kernel_rfl) ?_)
      | (with_reducible refine wpList_eq (by kernel_rfl) 51 (.tmp 64) (.tmp 65) #[.int .u32 y0, .int .u32 y1, .int .i64 y2, .int .i64 y3, .bool y4, .string y5] #[.int .u32 f, .int .u32 t, .int .i64 sl, .int .i64 sn, .bool an, .string N] _ rfl rfl rfl (fun _ _ _ _ => guard_X _ _ _ _ _ _) HEQ.out ?_)
      | (with_reducible refine wpList_strG (by kernel_rfl) (.tmp 73) rfl (.slice (some ⟨w4.heap.size, 0, none⟩) P.size cap5) (P.data.toList.set k c) rfl (BS8.out.rds HN.out) ?_)
      | (go_at_call 21; ((with_reducible refine (begun8_any _ HC1.out).mono ?_); rintro e w2 ⟨rfl, hb⟩; have HB2 := Lib.hid (bel_trans HB1.out hb); have X2 := Lib.hid (keep_at X1.out hb); have HC2 := Lib.hid (HC1.out.below hb); have c5 := cell_at X2.out 5 _ rfl; clear hb))
      | (go_at_call 22; ((with_reducible refine (HTX.out _).mono ?_); rintro e w' ⟨rfl, hw'⟩; rw [← hw']; clear hw'))
      | (go_at_call 47; first
        | ((with_reducible refine (HP1.out _).mono ?_); rintro e w4 ⟨rfl, hb⟩; have HB4 := Lib.hid (bel_trans HB3.out hb); have X4 := Lib.hid (keep_at X3.out hb); have HL4 := Lib.hid (lt_at X4.out); clear hb)
        | ((with_reducible refine (HP2.out _).mono ?_); rintro e w8 ⟨rfl, hb⟩; have HB8 := Lib.hid (bel_trans HB7.out hb); have X8 := Lib.hid (keep_at X7.out hb); have Y8 := Lib.hid (keep_at Y7.out hb); have BS8 := Lib.hid (BS7.out.below hb); clear hb))
      | (go_at_call 50; ((with_reducible refine (HG.out _).mono ?_); rintro e w7 ⟨rfl, hb⟩; have HB7 := Lib.hid (bal ((bel_trans HB6.out hb)) (.cells #[.int .u32 y0, .int .u32 y1, .int .i64 y2, .int .i64 y3, .bool y4, .string y5] 51)); have X7 := Lib.hid (keep_at (keep_at X6.out hb) (bal (bel0 w7) (.cells #[.int .u32 y0, .int .u32 y1, .int .i64 y2, .int .i64 y3, .bool y4, .string y5] 51))); have BS7 := Lib.hid ((BS6.out.below hb).below (bal (bel0 w7) (.cells #[.int .u32 y0, .int .u32 y1, .int .i64 y2, .int .i64 y3, .bool y4, .string y5] 51))); have Y7 := Lib.hid ((heap_alloc_new w7 (.cells #[.int .u32 y0, .int .u32 y1, .int .i64 y2, .int .i64 y3, .bool y4, .string y5] 51))); clear hb)))
    go_ret
    refine ⟨?_, HB8.out⟩
    simp
theorem XidTurn_law (x : XIn) (at_ b : Int) (w : World) (hx : x.ok) (hat : (Lit.int .i64 at_).wf = true) (hb : (Lit.int .u8 b).wf = true) (hC : Codes w) : Calls Tryz.prog 15 #[x.val, .int .i64 at_, .int .u8 b] w (Holds8 w) := by
  obtain ⟨c, rfl⟩ : ∃ c : UInt8, b = (c.toNat : Int) := by
    have := bounds_u8 hb
    exact ⟨UInt8.ofNat b.toNat, by rw [UInt8.toNat_ofNat']; omega⟩
  obtain ⟨f, t, sl, sn, an, nk⟩ := x
  have hxo := hx
  obtain ⟨g1, g2, g3, g4, g5⟩ := hx
  simp only at g1 g2 g3 g4 g5
  have htx := fun w => Text_any nk 20 w g5 (by decide)
  obtain ⟨N, hN⟩ : ∃ N, N = nk.extract 0 (min nk.size 20) := ⟨_, rfl⟩
  have hNs : N.size ≤ 20 := by rw [hN, ByteArray.size_extract]; omega
  rw [← hN] at htx
  have hok : XIn.ok ⟨f, t, sl, sn, an, N⟩ := ⟨g1, g2, g3, g4, by show N.size ≤ maxLen; unfold maxLen; omega⟩
  have hp1 := fun w => XPut_any ⟨f, t, sl, sn, an, N⟩ w hok
  unfold PutR at hp1
  cases e1 : putX (XIn.xd ⟨f, t, sl, sn, an, N⟩) with
  | none =>
    rw [e1] at hp1
    exact XidTurn_0 f t sl sn an nk N _ at_ c w hC htx hp1
  | some l =>
    rw [e1] at hp1
    simp only [Option.getD_some, Option.isSome_some] at hp1
    by_cases h0 : at_ < 0
    · exact XidTurn_1 f t sl sn an nk N _ at_ c w hC htx hp1 h0
    · obtain ⟨P, hP⟩ : ∃ P : ByteArray, P = ⟨l.toArray⟩ := ⟨_, rfl⟩
      have hPl : P.data.toList = l := by rw [hP]
      have hPs : P.size = l.length := by rw [hP]; show (l.toArray).size = _; simp
      rw [← hP] at hp1
      have hl : 11 ≤ l.length ∧ l.length ≤ 1000 := by
        unfold putX at e1
        split at e1
        · injection e1 with e1
          rw [← e1]
          have : N.data.toList.length = N.size := by rw [Array.length_toList]; rfl
          unfold bytesX XIn.xd
          simp only [List.length_append, le4_len, List.length_cons, List.length_nil]
          omega
        · cases e1
      obtain ⟨k, hk, hkl⟩ : ∃ k : Nat, at_.tmod (P.size : Int) = (k : Int) ∧ k < P.data.toList.length := by
        refine ⟨(at_ % (P.size : Int)).toNat, ?_, ?_⟩
        · have := Int.emod_nonneg at_ (show (P.size : Int) ≠ 0 by omega)
          rw [Int.tmod_eq_emod_of_nonneg (by omega)]
          omega
        · have := Int.emod_lt_of_pos at_ (show (0 : Int) < (P.size : Int) by omega)
          have := Int.emod_nonneg at_ (show (P.size : Int) ≠ 0 by omega)
          rw [hPl]
          omega
      have hg := fun w => XGet_any ⟨(P.data.toList.set k c).toArray⟩ w (by show ((P.data.toList.set k c).toArray).size ≤ 1000000; rw [List.size_toArray, List.length_set, hPl]; omega)
      unfold XidR at hg
      have hu := XIn.u hok
      cases e2 : getX (P.data.toList.set k c) with
      | none =>
        rw [show (⟨(P.data.toList.set k c).toArray⟩ : ByteArray).data.toList = P.data.toList.set k c from rfl, e2] at hg
        have hp2 := fun w => XPut_any Xd.zero.xin w ⟨by decide, by decide, by decide, by decide, by decide⟩
        exact XidTurn_2 f t sl sn an nk N P at_ c k 0 0 0 0 false _ _ _ w hC htx hp1 h0 (by unfold maxLen; omega) hkl hk hg hp2
      | some y =>
        rw [show (⟨(P.data.toList.set k c).toArray⟩ : ByteArray).data.toList = P.data.toList.set k c from rfl, e2] at hg
        have hyo := getX_ok e2 (by rw [List.length_set, hPl]; omega)
        have hp2 := fun w => XPut_any y.xin w hyo
        unfold PutR at hp2
        have e3 := (putX_getX e2).1
        rw [show y.xin.xd = y from rfl, e3] at hp2
        exact XidTurn_3 f t sl sn an nk N P at_ c k y.from_ y.to_ y.slot y.slots y.anew _ _ _ w hC htx hp1 h0 (by unfold maxLen; omega) hkl hk hg hp2 _ rfl rfl (fun W => by
          have := eql_xin y.xin ⟨f, t, sl, sn, an, N⟩ W
          rw [turn_same hu.1 hu.2 (by rw [hPl]; exact e1) hkl c e2]
          exact this)
end Go.Proofs.YtcmjdbljdkabpaaGreatDoor
