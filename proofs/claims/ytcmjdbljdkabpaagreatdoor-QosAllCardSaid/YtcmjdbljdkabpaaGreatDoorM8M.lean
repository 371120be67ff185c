/- Of layer 8: Ref8m, Eq8, Eq8b, StrB. -/
import Derived.Test.YtcmjdbljdkabpaaGreatDoorM8L
import Derived.Test.YtcmjdbljdkabpaaGreatDoorM8B
import Derived.Test.YtcmjdbljdkabpaaGreatDoorM4G
import Derived.Test.YtcmjdbljdkabpaaGreatDoorM4H
import Derived.Test.YtcmjdbljdkabpaaGreatDoorM8D
import Derived.Laws.IdiomStrings

set_option linter.all false

namespace Go.Proofs.YtcmjdbljdkabpaaGreatDoor
open Go.RowKit M

theorem gs_offer (s : ByteArray) (r : List UInt8) (w : World) (hs : s.size ≤ 1000000) (hr : (s.extract 10 s.size).data.toList = r) : Calls Tryz.prog 39 #[.string (s.extract 10 s.size)] w (OfferR (getO r) w) := by
  have h := RGetO_any (s.extract 10 s.size) w (by rw [ByteArray.size_extract]; unfold maxLen; omega)
  rw [hr] at h
  exact h
theorem gs_none {r : List UInt8} {s : ByteArray} (hg : getO r = none) (h : ∀ w, Calls Tryz.prog 39 #[.string (s.extract 10 s.size)] w (OfferR (getO r) w)) : ∀ w, Calls Tryz.prog 39 #[.string (s.extract 10 s.size)] w fun e w' => e = .returned (.tuple #[.agg #[.int .i64 0, .int .i64 0, .int .i64 0, .int .i64 0, .int .i64 0], .bool false]) ∧ Below w.heap.size w w' := by
  intro w
  have := h w
  rw [hg] at this
  exact this
theorem gs_some {r : List UInt8} {s : ByteArray} {o : Of5} (hg : getO r = some o) (h : ∀ w, Calls Tryz.prog 39 #[.string (s.extract 10 s.size)] w (OfferR (getO r) w)) : ∀ w, Calls Tryz.prog 39 #[.string (s.extract 10 s.size)] w fun e w' => e = .returned (.tuple #[.agg #[.int .i64 o.baud, .int .i64 o.silent, .int .i64 o.win, .int .i64 o.size, .int .i64 o.wait], .bool true]) ∧ Below w.heap.size w w' := by
  intro w
  have := h w
  rw [hg] at this
  exact this
theorem getS_none {a b c d e f g h i j : UInt8} {r : List UInt8} (hg : getO r = none) : getS (a :: b :: c :: d :: e :: f :: g :: h :: i :: j :: r) = none := by
  rw [getS_cons, hg]; rfl
theorem getS_bad {a b c d e f g h i j : UInt8} {r : List UInt8} {o : Of5} (hg : getO r = some o) (hm : maySt ⟨num4 a b c d, num4 e f g h, (i.toNat : Int), (j.toNat : Int), o⟩ = false) : getS (a :: b :: c :: d :: e :: f :: g :: h :: i :: j :: r) = none := by
  rw [getS_cons, hg, Option.bind_some, hm]; rfl
theorem getS_good {a b c d e f g h i j : UInt8} {r : List UInt8} {o : Of5} (hg : getO r = some o) (hm : maySt ⟨num4 a b c d, num4 e f g h, (i.toNat : Int), (j.toNat : Int), o⟩ = true) : getS (a :: b :: c :: d :: e :: f :: g :: h :: i :: j :: r) = some ⟨num4 a b c d, num4 e f g h, (i.toNat : Int), (j.toNat : Int), o⟩ := by
  rw [getS_cons, hg, Option.bind_some, hm]; rfl
theorem RGetS_any (s : ByteArray) (w : World) (hs : s.size ≤ 1000000) : Calls Tryz.prog 57 #[.string s] w (SetupR (getS s.data.toList) w) := by
  have hl := ba_len s
  by_cases h10 : s.size < 10
  · rw [getS_short (by omega)]
    exact RGetS_short s w h10
  · obtain ⟨a, b, c, d, e, f, g, h, i, j, r, hq⟩ := ten (l := s.data.toList) (by omega)
    have e8 := at_of hq 8 (by omega) (x := i) rfl
    have e9 := at_of hq 9 (by omega) (x := j) rfl
    have hr : (s.extract 10 s.size).data.toList = r := by rw [bl_from_toList, hq]; rfl
    have h4 : (s.extract 4 s.size).data.toList = e :: f :: g :: h :: i :: j :: r := by rw [bl_from_toList, hq]; rfl
    have ho := fun w => gs_offer s r w hs hr
    cases hg : getO r with
    | none =>
      rw [hq, getS_none hg]
      exact RGetS_no s w (num4 a b c d) (num4 e f g h) 0 0 0 0 0 i j (by omega) (by omega) e8 e9 (gs_none hg ho) (fun w => Rnumber_any s w hq) (fun w => Rnumber_any _ w h4)
    | some o =>
      cases hm : maySt ⟨num4 a b c d, num4 e f g h, (i.toNat : Int), (j.toNat : Int), o⟩ with
      | false =>
        rw [hq, getS_bad hg hm]
        exact RGetS_bad s w (num4 a b c d) (num4 e f g h) o.baud o.silent o.win o.size o.wait i j (by omega) (by omega) e8 e9 hm (gs_some hg ho) (fun w => Rnumber_any s w hq) (fun w => Rnumber_any _ w h4)
      | true =>
        rw [hq, getS_good hg hm]
        exact RGetS_good s w (num4 a b c d) (num4 e f g h) o.baud o.silent o.win o.size o.wait i j (by omega) (by omega) e8 e9 hm (gs_some hg ho) (fun w => Rnumber_any s w hq) (fun w => Rnumber_any _ w h4)
end Go.Proofs.YtcmjdbljdkabpaaGreatDoor

namespace Go.Proofs.YtcmjdbljdkabpaaGreatDoor
open Go.RowKit

set_option maxRecDepth 100000 in
theorem in_Of5 (a b c d e a' b' c' d' e' : Int) (n : Nat) (w : World) : (Op.equalIn (n + 2) 23 (.agg #[.int .i64 a, .int .i64 b, .int .i64 c, .int .i64 d, .int .i64 e]) (.agg #[.int .i64 a', .int .i64 b', .int .i64 c', .int .i64 d', .int .i64 e'])).run Tryz.prog w = .ok (a == a' && (b == b' && (c == c' && (d == d' && e == e')))) w := by
  have u3 := Tryz.underlying3
  have hS : Tryz.prog.underlying 23 = some (.struct (Tryz.prog.fieldsOf 23)) := by kernel_rfl
  have hp : Tryz.prog.stoodInHeld 23 = false := by kernel_rfl
  rw [run_equalIn_agg w (n + 1) 23 _ _ hS hp]
  simp only [Program.fieldsOf, Tryz.underlying23]
  go_simp
  by_cases h0 : a = a'
  · subst h0
    by_cases h1 : b = b'
    · subst h1
      by_cases h2 : c = c'
      · subst h2
        by_cases h3 : d = d'
        · subst h3
          by_cases h4 : e = e'
          · subst h4
            simp
          · simp [h4]
        · simp [h3]
      · simp [h2]
    · simp [h1]
  · simp [h0]
theorem eql_Of5 (x y : Of5) (w : World) : (binOp .eql 23 x.val y.val).run Tryz.prog w = .ok (.bool (decide (x = y))) w := by
  obtain ⟨a, b, c, d, e⟩ := x
  obtain ⟨a', b', c', d', e'⟩ := y
  rw [run_eql_struct, show (10000 : Nat) = 9998 + 2 from rfl, in_Of5]
  simp only [Result.andThen_ok]
  congr 2
  rw [Bool.eq_iff_iff]
  simp
set_option maxRecDepth 100000 in
theorem eql_De5 (x y : De5) (w : World) : (binOp .eql 42 x.val y.val).run Tryz.prog w = .ok (.bool (decide (x = y))) w := by
  obtain ⟨a, b, c, d, e⟩ := x
  obtain ⟨a', b', c', d', e'⟩ := y
  have u3 := Tryz.underlying3
  have hS : Tryz.prog.underlying 42 = some (.struct (Tryz.prog.fieldsOf 42)) := by kernel_rfl
  have hp : Tryz.prog.stoodInHeld 42 = false := by kernel_rfl
  rw [run_eql_struct, show (10000 : Nat) = 9999 + 1 from rfl, run_equalIn_agg w 9999 42 _ _ hS hp]
  simp only [Program.fieldsOf, Tryz.underlying42]
  go_simp
  by_cases h0 : a = a'
  · subst h0
    by_cases h1 : b = b'
    · subst h1
      by_cases h2 : c = c'
      · subst h2
        by_cases h3 : d = d'
        · subst h3
          by_cases h4 : e = e'
          · subst h4
            simp
          · simp [h4]
        · simp [h3]
      · simp [h2]
    · simp [h1]
  · simp [h0]
theorem guard_Of5 (op : BinOp) (x y : Operand) (xs ys : Array Value) (W : World) : (eqGuard op 23 x y (.agg xs) (.agg ys)).run Tryz.prog W = .ok () W := run_eqGuard_agg W op 23 x y xs ys (by kernel_rfl)
theorem guard_De5 (op : BinOp) (x y : Operand) (xs ys : Array Value) (W : World) : (eqGuard op 42 x y (.agg xs) (.agg ys)).run Tryz.prog W = .ok () W := run_eqGuard_agg W op 42 x y xs ys (by kernel_rfl)
end Go.Proofs.YtcmjdbljdkabpaaGreatDoor

namespace Go.Proofs.YtcmjdbljdkabpaaGreatDoor
open Go.RowKit

set_option maxRecDepth 100000 in
theorem eql_X (a b c d : Int) (e : Bool) (f : ByteArray) (a' b' c' d' : Int) (e' : Bool) (f' : ByteArray) (w : World) :
    (binOp .eql 51 (.agg #[.int .u32 a, .int .u32 b, .int .i64 c, .int .i64 d, .bool e, .string f]) (.agg #[.int .u32 a', .int .u32 b', .int .i64 c', .int .i64 d', .bool e', .string f'])).run Tryz.prog w =
      .ok (.bool (a == a' && (b == b' && (c == c' && (d == d' && (e == e' && f.toList == f'.toList)))))) w := by
  have u1 := Tryz.underlying49
  have u3 := Tryz.underlying3
  have u4 := Tryz.underlying4
  have u9 := Tryz.underlying9
  have hS : Tryz.prog.underlying 51 = some (.struct (Tryz.prog.fieldsOf 51)) := by kernel_rfl
  have hp : Tryz.prog.stoodInHeld 51 = false := by kernel_rfl
  rw [run_eql_struct, show (10000 : Nat) = 9999 + 1 from rfl, run_equalIn_agg w 9999 51 _ _ hS hp]
  simp only [Program.fieldsOf, Tryz.underlying51]
  go_simp
  by_cases h0 : a = a'
  · subst h0
    by_cases h1 : b = b'
    · subst h1
      by_cases h2 : c = c'
      · subst h2
        by_cases h3 : d = d'
        · subst h3
          by_cases h4 : e = e'
          · subst h4
            by_cases h9 : f.toList = f'.toList <;> simp [h9]
          · simp [h4]
        · simp [h3]
      · simp [h2]
    · simp [h1]
  · simp [h0]
theorem ba_eq {x y : ByteArray} : x.toList = y.toList ↔ x.data.toList = y.data.toList := by
  rw [ByteArray.toList_eq, ByteArray.toList_eq]
theorem eql_xin (x y : XIn) (w : World) : (binOp .eql 51 x.val y.val).run Tryz.prog w = .ok (.bool (decide (x.xd = y.xd))) w := by
  rw [eql_X]
  congr 2
  obtain ⟨a, b, c, d, e, f⟩ := x
  obtain ⟨a', b', c', d', e', f'⟩ := y
  rw [Bool.eq_iff_iff]
  simp [XIn.xd, ba_eq]
theorem guard_X (op : BinOp) (x y : Operand) (xs ys : Array Value) (W : World) : (eqGuard op 51 x y (.agg xs) (.agg ys)).run Tryz.prog W = .ok () W := run_eqGuard_agg W op 51 x y xs ys (by kernel_rfl)
set_option maxRecDepth 100000 in
theorem eql_S (a b c d e f g h i a' b' c' d' e' f' g' h' i' : Int) (w : World) :
    (binOp .eql 64 (.agg #[.int .u32 a, .int .u32 b, .int .i64 c, .int .i64 d, .int .i64 e, .int .i64 f, .int .i64 g, .int .i64 h, .int .i64 i]) (.agg #[.int .u32 a', .int .u32 b', .int .i64 c', .int .i64 d', .int .i64 e', .int .i64 f', .int .i64 g', .int .i64 h', .int .i64 i'])).run Tryz.prog w =
      .ok (.bool (a == a' && (b == b' && ((c == c' && d == d') && (e == e' && (f == f' && (g == g' && (h == h' && i == i')))))))) w := by
  have u1 := Tryz.underlying49
  have hS : Tryz.prog.underlying 64 = some (.struct (Tryz.prog.fieldsOf 64)) := by kernel_rfl
  have hp : Tryz.prog.stoodInHeld 64 = false := by kernel_rfl
  have ha := fun w => in_Addr c d c' d' 9997 w
  have ho := fun w => in_Of5 e f g h i e' f' g' h' i' 9997 w
  rw [run_eql_struct, show (10000 : Nat) = 9999 + 1 from rfl, run_equalIn_agg w 9999 64 _ _ hS hp]
  simp only [Program.fieldsOf, Tryz.underlying64]
  go_simp
  by_cases h0 : a = a'
  · subst h0
    by_cases h1 : b = b'
    · subst h1
      by_cases h2 : (c = c' ∧ d = d')
      · obtain ⟨h2, h3⟩ := h2
        subst h2
        subst h3
        by_cases h4 : (e == e' && (f == f' && (g == g' && (h == h' && i == i')))) = true
        · rw [h4]; simp at h4; simp [h4]
        · rw [Bool.not_eq_true] at h4; rw [h4]; simp at h4; simp; exact h4
      · have h3 : (c == c' && d == d') = false := by simp; exact fun x y => h2 ⟨x, y⟩
        have h4 : (c = c' → ¬d = d') := fun x y => h2 ⟨x, y⟩
        simp [h3, h4]
        all_goals exact fun x y => absurd y (h4 x)
    · simp [h1]
  · simp [h0]
theorem eql_St (s t : St) (w : World) : (binOp .eql 64 s.val t.val).run Tryz.prog w = .ok (.bool (decide (s = t))) w := by
  obtain ⟨a, b, c, d, ⟨e, f, g, h, i⟩⟩ := s
  obtain ⟨a', b', c', d', ⟨e', f', g', h', i'⟩⟩ := t
  rw [eql_S]
  congr 2
  rw [Bool.eq_iff_iff]
  simp [and_assoc]
theorem guard_S (op : BinOp) (x y : Operand) (xs ys : Array Value) (W : World) : (eqGuard op 64 x y (.agg xs) (.agg ys)).run Tryz.prog W = .ok () W := run_eqGuard_agg W op 64 x y xs ys (by kernel_rfl)
/-- '==' of two structs, by what is known of it. -/
theorem wpList_eq {P : Program} {ops : Array Oper} {rest : List Oper} {o : Oper} {a : Act} {w : World} {Q : Exit → Act → World → Prop} (hw : Region.wanted o (yielded ops a.tmps) = true) (t : TypeId) (x y : Operand) (xs ys : Array Value) (b : Bool) (ho : o.op = .binOp .eql t x y t)
    (hx : a.eval x = .agg xs) (hy : a.eval y = .agg ys) (hg : ∀ op x y W, (eqGuard op t x y (.agg xs) (.agg ys)).run P W = .ok () W) (hb : ∀ W, (binOp .eql t (.agg xs) (.agg ys)).run P W = .ok (.bool b) W)
    (h : wpList P ops Q rest (a.put o.dst (.bool b)) w) : wpList P ops Q (o :: rest) a w :=
  Go.BigFrame.wpList_want hw fun K hK => wp_val (exec_cmp ho hx hy (hg _ _ _ _) (hb _)) (hK _ _ h)
theorem wpList_ne {P : Program} {ops : Array Oper} {rest : List Oper} {o : Oper} {a : Act} {w : World} {Q : Exit → Act → World → Prop} (hw : Region.wanted o (yielded ops a.tmps) = true) (t : TypeId) (x y : Operand) (xs ys : Array Value) (b : Bool) (ho : o.op = .binOp .neq t x y t)
    (hx : a.eval x = .agg xs) (hy : a.eval y = .agg ys) (hg : ∀ op x y W, (eqGuard op t x y (.agg xs) (.agg ys)).run P W = .ok () W) (hb : ∀ W, (binOp .neq t (.agg xs) (.agg ys)).run P W = .ok (.bool b) W)
    (h : wpList P ops Q rest (a.put o.dst (.bool b)) w) : wpList P ops Q (o :: rest) a w :=
  Go.BigFrame.wpList_want hw fun K hK => wp_val (exec_cmp ho hx hy (hg _ _ _ _) (hb _)) (hK _ _ h)
end Go.Proofs.YtcmjdbljdkabpaaGreatDoor

namespace Go.Proofs.YtcmjdbljdkabpaaGreatDoor
open Go.RowKit

theorem storeU8 (g k : Nat) (x : Int) (w : World) (h0 : ∃ u, w.cell? ⟨g, k, none⟩ = some u) (z0 : w.frozen? ⟨g, k, none⟩ = false) :
    (Instr.storeAt 5 (.pointer (some ⟨g, k, none⟩)) (.int .u8 x)).run Tryz.prog w = .ok () (w.setCell ⟨g, k, none⟩ (.int .u8 x)) := by
  obtain ⟨u0, h0⟩ := h0
  go_simp
/-- Block g holds the bytes l, and it may be more behind them. -/
def BStr (g cap : Nat) (l : List UInt8) (w : World) : Prop := ∃ (cs : Array Value) (n : Nat), w.heap[g]? = some (.cells cs 5 (n, n + 1)) ∧ cs.size = n ∧ l.length ≤ n ∧ l.length ≤ cap ∧ cap ≤ maxLen ∧ ∀ j (h : j < l.length), cs[j]? = some (.int .u8 (l[j].toNat : Int))
theorem BStr.below {g cap : Nat} {l : List UInt8} {w w' : World} (h : BStr g cap l w) (hb : Below w.heap.size w w') : BStr g cap l w' := by
  obtain ⟨cs, n, h1, h2⟩ := h
  exact ⟨cs, n, keep_at h1 hb, h2⟩
theorem BStr.lt {g cap : Nat} {l : List UInt8} {w : World} (h : BStr g cap l w) : g < w.heap.size := by
  obtain ⟨cs, n, h1, h2⟩ := h
  exact lt_at h1
theorem BStr.cell {g cap : Nat} {l : List UInt8} {w : World} (h : BStr g cap l w) {j : Nat} (hj : j < l.length) : w.cell? ⟨g, j, none⟩ = some (.int .u8 (l[j].toNat : Int)) := by
  obtain ⟨cs, n, h1, -, -, -, -, h6⟩ := h
  unfold World.cell?
  simp [h1, h6 j hj]
theorem BStr.frz {g cap : Nat} {l : List UInt8} {w : World} (h : BStr g cap l w) {j : Nat} (hj : j < l.length) : w.frozen? ⟨g, j, none⟩ = false := by
  obtain ⟨cs, n, h1, h2, h3, -, -, h6⟩ := h
  simp [World.frozen?, h1]
  omega
theorem BStr.rds {g cap n : Nat} {l : List UInt8} {w : World} (h : BStr g cap l w) (hn : n = l.length) : Rds w (.slice (some ⟨g, 0, none⟩) n cap) l := by
  subst hn
  have hc := fun j hj => h.cell (j := j) hj
  obtain ⟨cs, n, h1, h2, h3, h4, h5, h6⟩ := h
  refine ⟨_, cap, rfl, h4, h5, fun h0 => ⟨g, 0, rfl, fun j hj => ?_⟩⟩
  rw [Nat.zero_add, hc j hj]
  simp [bc, List.getD, hj]
theorem wpList_ofStr {w : World} {ops : Array Oper} {rest : List Oper} {o : Oper} {a : Act} {Q : Exit → Act → World → Prop} (hgd : o.guard = none) (x : Operand) (ho : o.op = .convert 9 46 x) (s : ByteArray) (hx : a.eval x = .string s) (hs : s.size ≤ maxLen)
    (h : ∀ w' cap, Below w.heap.size w w' → BStr w.heap.size cap s.data.toList w' → wpList Tryz.prog ops Q rest (a.put o.dst (.slice (some ⟨w.heap.size, 0, none⟩) s.size cap)) w') : wpList Tryz.prog ops Q (o :: rest) a w := by
  refine wpList_plain hgd fun K hK => ?_
  have hrun := run_bytes_of_string (P := Tryz.prog) w 9 46 5 s Tryz.underlying9 Tryz.underlying46 Tryz.underlying5
  have hg1 := grownCap_ge w s.size 0 5
  have hg2 := grownCap_le_maxLen w s.size 0 5 hs
  generalize grownCap w s.size 0 5 = cap at hrun hg1 hg2
  have hr : (execOp a.eval o).run Tryz.prog w = .ok (.value (.slice (some ⟨w.heap.size, 0, none⟩) s.size cap)) (w.drew.alloc (.cells (bytesRow s cap) 5 ((bytesRow s cap).size, (bytesRow s cap).size + 1))) := by
    simp only [execOp, ho, hx, Sem.run_bind, hrun, Result.andThen_ok, Sem.run_pure]
  have hsz : (bytesRow s cap).size = cap := by
    unfold bytesRow
    rw [Array.size_append, Array.size_map, Array.size_replicate]
    show s.size + (cap - s.size) = cap
    omega
  have hl : s.data.toList.length = s.size := by rw [Array.length_toList]; rfl
  unfold Oper.wp
  rw [hr, Oper.upon_value]
  refine hK _ _ (h _ cap (((Below.refl _ w).drew).alloc (Nat.le_refl _) _) ⟨bytesRow s cap, _, heap_alloc_new w.drew _, rfl, by omega, by omega, hg2, fun j hj => ?_⟩)
  have hj2 : j < s.data.size := by have : s.data.size = s.size := rfl; omega
  unfold bytesRow
  rw [Array.getElem?_append_left (by rw [Array.size_map]; exact hj2), Array.getElem?_map]
  simp only [hj2, Array.getElem?_eq_getElem, Option.map_some]
  rfl
theorem wpList_setB {w : World} {ops : Array Oper} {rest : List Oper} {o : Oper} {a : Act} {Q : Exit → Act → World → Prop} (hgd : o.guard = none) (x y : Operand) (ho : o.op = .store 5 x y) (g j cap : Nat) (b : UInt8) (l : List UInt8)
    (hx : a.eval x = .pointer (some ⟨g, j, none⟩)) (hy : a.eval y = .int .u8 (b.toNat : Int)) (hs : BStr g cap l w) (hj : j < l.length)
    (h : ∀ w', w.grownBy w' (some g) → BStr g cap (l.set j b) w' → wpList Tryz.prog ops Q rest (a.put o.dst undef) w') : wpList Tryz.prog ops Q (o :: rest) a w := by
  refine wpList_plain hgd fun K hK => ?_
  have hc := hs.cell hj
  have hf := hs.frz hj
  have hrr := storeU8 g j (b.toNat : Int) w ⟨_, hc⟩ hf
  obtain ⟨cs, n, h1, h2, h3, h4, h5, h6⟩ := hs
  have hgb : w.grownBy (w.setCell ⟨g, j, none⟩ (.int .u8 (b.toNat : Int))) (some g) := ⟨rfl, rfl, rfl, by simp [World.setCell], fun i _ hi => by
    have hne : g ≠ i := fun e => hi (by rw [e])
    simp [World.setCell, Array.getElem?_modify, hne]⟩
  have hh : (w.setCell ⟨g, j, none⟩ (.int .u8 (b.toNat : Int))).heap[g]? = some (.cells (cs.setIfInBounds j (.int .u8 (b.toNat : Int))) 5 (n, n + 1)) := by
    simp [World.setCell, Array.getElem?_modify, h1]
  unfold Oper.wp execOp
  simp only [ho, hx, hy, Sem.run_bind, hrr, Result.andThen_ok, Sem.run_pure]
  refine hK _ _ (h _ hgb ⟨_, n, hh, by rw [Array.size_setIfInBounds]; exact h2, by rw [List.length_set]; exact h3, by rw [List.length_set]; exact h4, h5, fun i hi => ?_⟩)
  rw [List.length_set] at hi
  rw [Array.getElem?_setIfInBounds]
  by_cases e : j = i
  · subst e
    rw [if_pos rfl, if_pos (by omega)]
    simp
  · rw [if_neg e, h6 i hi, List.getElem_set_ne e]
theorem wpList_strG {w : World} {ops : Array Oper} {rest : List Oper} {o : Oper} {a : Act} {Q : Exit → Act → World → Prop} (hw : Region.wanted o (yielded ops a.tmps) = true) (x : Operand) (ho : o.op = .convert 46 9 x) (u : Value) (m : List UInt8) (hx : a.eval x = u) (hu : Rds w u m)
    (h : wpList Tryz.prog ops Q rest (a.put o.dst (.string ⟨m.toArray⟩)) w) : wpList Tryz.prog ops Q (o :: rest) a w :=
  Go.BigFrame.wpList_want hw fun K hK => wp_val (exec_strB ho hx hu) (hK _ _ h)
end Go.Proofs.YtcmjdbljdkabpaaGreatDoor
