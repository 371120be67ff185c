/- The law XidAll. -/
import Derived.Test.YtcmjdbljdkabpaaGreatDoorQ8S
import Derived.Test.YtcmjdbljdkabpaaGreatDoorM8C
import Derived.Test.YtcmjdbljdkabpaaGreatDoorM8D
import Derived.Test.YtcmjdbljdkabpaaGreatDoorM8H
import Derived.Test.YtcmjdbljdkabpaaGreatDoorM8M
import Derived.Test.YtcmjdbljdkabpaaGreatDoorBegun8
import Derived.Test.YtcmjdbljdkabpaaGreatDoorM4H
import Derived.Test.YtcmjdbljdkabpaaGreatDoorM4D

set_option linter.all false

namespace Go.Proofs.YtcmjdbljdkabpaaGreatDoor
open Go.RowKit M

theorem eql_same_X (x : XIn) (w : World) : (binOp .eql 51 x.val x.val).run Tryz.prog w = .ok (.bool true) w := by
  have h := eql_xin x x w
  rw [decide_eq_true rfl] at h
  exact h
theorem neq_same_X (x : XIn) (w : World) : (binOp .neq 51 x.val x.val).run Tryz.prog w = .ok (.bool false) w := neq_agg (eql_same_X x w)
theorem three_str {A S B : ByteArray} (hA : A.size ≤ 100) (hS : S.size ≤ 100) (hB : B.size ≤ 100) {k : Nat} (hk : k < 3) : ∃ T : ByteArray, (#[.string A, .string S, .string B] : Array Value)[k]? = some (.string T) ∧ T.size ≤ 1000 := by
  match k, hk with
  | 0, _ => exact ⟨A, rfl, by omega⟩
  | 1, _ => exact ⟨S, rfl, by omega⟩
  | 2, _ => exact ⟨B, rfl, by omega⟩
set_option maxRecDepth 100000 in
set_option maxHeartbeats 16000000 in
theorem XidAll_false (f t sl sn : Int) (an : Bool) (nk N s S A : ByteArray) (v u : Value) (l0 m0 : List Int) (w : World) (hv : RdU w v l0) (hu : RdU w u m0) (hC : Codes w) (hA : A.size ≤ 100) (hS : S.size ≤ 100)
    (hTX : ∀ w, Calls Tryz.prog 22 #[.string nk, .int .i64 25] w fun e w' => e = .returned (.string N) ∧ w = w')
    (hTS : ∀ w, Calls Tryz.prog 22 #[.string s, .int .i64 40] w fun e w' => e = .returned (.string S) ∧ w = w')
    (hP : ∀ w, Calls Tryz.prog 47 #[.agg #[.int .u32 f, .int .u32 t, .int .i64 sl, .int .i64 sn, .bool an, .string N]] w fun e w' => e = .returned (.tuple #[.string A, .bool false]) ∧ Below w.heap.size w w')
    (hRP : ∀ w, Calls Tryz.prog 48 #[.agg #[.int .u32 f, .int .u32 t, .int .i64 sl, .int .i64 sn, .bool an, .string N]] w fun e w' => e = .returned (.tuple #[.string A, .bool false]) ∧ Below w.heap.size w w')
    (hM : ∀ w, Calls Tryz.prog 49 #[.agg #[.int .u32 f, .int .u32 t, .int .i64 sl, .int .i64 sn, .bool an, .string N]] w fun e w' => e = .returned (.bool false) ∧ Below w.heap.size w w')
    (hGA : ∀ w, Calls Tryz.prog 50 #[.string A] w fun e w' => e = .returned (.tuple #[.agg #[.int .u32 0, .int .u32 0, .int .i64 0, .int .i64 0, .bool false, .string ⟨#[]⟩], .bool false]) ∧ Below w.heap.size w w')
    (hG : ∀ T : ByteArray, T.size ≤ 1000 → ∃ (y0 y1 y2 y3 : Int) (y4 : Bool) (y5 : ByteArray) (k : Bool), (∀ w, Calls Tryz.prog 50 #[.string T] w fun e w' => e = .returned (.tuple #[.agg #[.int .u32 y0, .int .u32 y1, .int .i64 y2, .int .i64 y3, .bool y4, .string y5], .bool k]) ∧ Below w.heap.size w w') ∧ (∀ w, Calls Tryz.prog 51 #[.string T] w fun e w' => e = .returned (.tuple #[.agg #[.int .u32 y0, .int .u32 y1, .int .i64 y2, .int .i64 y3, .bool y4, .string y5], .bool k]) ∧ Below w.heap.size w w')) :
    Calls Tryz.prog 7 #[.agg #[.int .u32 f, .int .u32 t, .int .i64 sl, .int .i64 sn, .bool an, .string nk], .string s, v, u] w (Holds8 w) := by
  have HC0 := Lib.hid hC
  have HTX := Lib.hid hTX
  have HTS := Lib.hid hTS
  have HP := Lib.hid hP
  have HRP := Lib.hid hRP
  have HM := Lib.hid hM
  have HGA := Lib.hid hGA
  have HG := Lib.hid hG
  have HSE := Lib.hid (fun W => eql_same_X ⟨f, t, sl, sn, an, N⟩ W)
  obtain ⟨va, ca, rfl, ha1, ha2, -⟩ := id hv
  obtain ⟨ub, cb, rfl, hb1, hb2, -⟩ := id hu
  obtain ⟨k1, hk1⟩ : ∃ k : Nat, min l0.length 8 = k := ⟨_, rfl⟩
  obtain ⟨k2, hk2⟩ : ∃ k : Nat, min m0.length 8 = k := ⟨_, rfl⟩
  have hv2 := hv.cut (k := k1) (by omega)
  have hu2 := hu.cut (k := k2) (by omega)
  have ml : min (l0.length : Int) 8 = (k1 : Int) := by omega
  have mm : min (m0.length : Int) 8 = (k2 : Int) := by omega
  have b1 : (k1 : Int) ≤ (ca : Int) := by omega
  have b2 : (k2 : Int) ≤ (cb : Int) := by omega
  obtain ⟨Ll, hL⟩ : ∃ L, l0.take k1 = L := ⟨_, rfl⟩
  obtain ⟨Mm, hM_⟩ : ∃ M, m0.take k2 = M := ⟨_, rfl⟩
  have hLl : Ll.length = k1 := by rw [← hL, List.length_take]; omega
  have hMl : Mm.length = k2 := by rw [← hM_, List.length_take]; omega
  rw [hL] at hv2
  rw [hM_] at hu2
  rw [← hLl] at hv2 ml b1
  rw [← hMl] at hu2 mm b2
  have hf1 : ∀ w' (h1 : RdU w' (.slice va Ll.length ca) Ll) (h2 : RdU w' (.slice ub Mm.length cb) Mm), Calls Tryz.prog 52 #[.slice va Ll.length ca, .slice ub Mm.length cb] w' (FreshR Ll Mm w') := fun w' h1 h2 => XFresh_any _ _ Ll Mm w' h1 h2 (by omega) (by omega)
  have hf2 : ∀ w' (h1 : RdU w' (.slice va Ll.length ca) Ll) (h2 : RdU w' (.slice ub Mm.length cb) Mm), Calls Tryz.prog 53 #[.slice va Ll.length ca, .slice ub Mm.length cb] w' (FreshR Ll Mm w') := fun w' h1 h2 => RFresh_any _ _ Ll Mm w' h1 h2 (by omega) (by omega)
  unfold FreshR at hf1 hf2
  generalize (freshM Ll Mm).1 = nn at hf1 hf2
  generalize (freshM Ll Mm).2 = jj at hf1 hf2
  have HF1 := Lib.hid hf1
  have HF2 := Lib.hid hf2
  have HV := Lib.hid hv2
  have HU := Lib.hid hu2
  obtain ⟨ka, hka⟩ : ∃ k : Nat, min A.size 10 = k := ⟨_, rfl⟩
  have mA : min (A.size : Int) 10 = (ka : Int) := by omega
  have mA2 : (0 : Int) ≤ (ka : Int) := by omega
  have mA3 : (ka : Int) ≤ (A.size : Int) := by omega
  have hE : (A.extract 0 ka).size ≤ 100 := by rw [ByteArray.size_extract]; omega
  have HT3 := Lib.hid (fun k => three_str (B := A.extract 0 ka) hA hS hE (k := k))
  clear hv hu hC hTX hTS hP hRP hM hGA hG ha1 ha2 hb1 hb2 hk1 hk2 hv2 hu2 hL hM_ hLl hMl hf1 hf2 hka hE hA hS
  go_enter Tryz.func7, Tryz.ntmps7
  go_wp2_with (first
    | ((with_reducible refine wpList_boxS rfl 51 _ (.tmp 0) rfl rfl (run_boxX ⟨f, t, sl, sn, an, nk⟩) ?_); intro w1 hb hlt hh; have HB1 := Lib.hid hb; have HC1 := Lib.hid (HC0.out.below hb); have X1 := Lib.hid (hh); clear hb hlt hh)
    | ((with_reducible refine wpList_store1 rfl 9 (.tmp 34) (.tmp 31) rfl (w.heap.size) 5 (.string N) rfl rfl 51 _ X2.out (by simp) (storeStr w.heap.size 5 _) ?_); intro w3 hg hh; have HB3 := Lib.hid (bel_grown HB2.out hg (Nat.le_refl _)); have X3 : Hid (w3.heap[w.heap.size]? = some (.cells #[.int .u32 f, .int .u32 t, .int .i64 sl, .int .i64 sn, .bool an, .string N] 51 (0, 0))) := hh; clear hg hh)
    | (go_at_call 21; ((with_reducible refine (begun8_any _ HC1.out).mono ?_); rintro e w2 ⟨rfl, hb⟩; have HB2 := Lib.hid (bel_trans HB1.out hb); have X2 := Lib.hid (keep_at X1.out hb); have HC2 := Lib.hid (HC1.out.below hb); have c5 := cell_at X2.out 5 _ rfl; clear hb))
    | (go_at_call 22; first
      | ((with_reducible refine (HTX.out _).mono ?_); rintro e w' ⟨rfl, hw'⟩; rw [← hw']; clear hw')
      | ((with_reducible refine (HTS.out _).mono ?_); rintro e w' ⟨rfl, hw'⟩; rw [← hw']; clear hw')))
  refine rest_begin (by kernel_rfl) ?_
  refine rest_take 0 (oi := _) (v := ?_) (by simp only [List.getElem?_toArray, List.getElem?_cons_zero]; rfl) (by kernel_rfl) (by kernel_rfl) (by kernel_rfl) (by exact fun _ _ _ h => h) (by rfl) ?_ ?_; rotate_left; (· intro W HW; go_simp; try with_reducible rfl)
  simp only [Act.put, List.setIfInBounds_toArray, List.set_cons_zero, List.set_cons_succ]
  refine rest_take 1 (oi := _) (v := ?_) (by simp only [List.getElem?_toArray, List.getElem?_cons_succ, List.getElem?_cons_zero]; rfl) (by kernel_rfl) (by kernel_rfl) (by kernel_rfl) (by exact fun _ _ _ h => h) (by rfl) ?_ ?_; rotate_left; (· intro W HW; go_simp; try with_reducible rfl)
  simp only [Act.put, List.setIfInBounds_toArray, List.set_cons_zero, List.set_cons_succ]
  refine rest_take 2 (oi := _) (v := ?_) (by simp only [List.getElem?_toArray, List.getElem?_cons_succ, List.getElem?_cons_zero]; rfl) (by kernel_rfl) (by kernel_rfl) (by kernel_rfl) (by exact fun _ _ _ h => h) (by rfl) ?_ ?_; rotate_left; (· intro W HW; go_simp; try with_reducible rfl)
  simp only [Act.put, List.setIfInBounds_toArray, List.set_cons_zero, List.set_cons_succ]
  refine rest_take 3 (oi := _) (v := ?_) (by simp only [List.getElem?_toArray, List.getElem?_cons_succ, List.getElem?_cons_zero]; rfl) (by kernel_rfl) (by kernel_rfl) (by kernel_rfl) (by exact fun _ _ _ h => h) (by rfl) ?_ ?_; rotate_left; (· intro W HW; go_simp; try with_reducible rfl)
  simp only [Act.put, List.setIfInBounds_toArray, List.set_cons_zero, List.set_cons_succ]
  refine rest_take 4 (oi := _) (v := ?_) (by simp only [List.getElem?_toArray, List.getElem?_cons_succ, List.getElem?_cons_zero]; rfl) (by kernel_rfl) (by kernel_rfl) (by kernel_rfl) (by exact fun _ _ _ h => h) (by rfl) ?_ ?_; rotate_left; (· intro W HW; go_simp; try with_reducible rfl)
  simp only [Act.put, List.setIfInBounds_toArray, List.set_cons_zero, List.set_cons_succ]
  refine rest_take 5 (oi := _) (v := ?_) (by simp only [List.getElem?_toArray, List.getElem?_cons_succ, List.getElem?_cons_zero]; rfl) (by kernel_rfl) (by kernel_rfl) (by kernel_rfl) (by exact fun _ _ _ h => h) (by rfl) ?_ ?_; rotate_left; (· intro W HW; go_simp; try with_reducible rfl)
  simp only [Act.put, List.setIfInBounds_toArray, List.set_cons_zero, List.set_cons_succ]
  refine rest_take 6 (oi := _) (v := ?_) (by simp only [List.getElem?_toArray, List.getElem?_cons_succ, List.getElem?_cons_zero]; rfl) (by kernel_rfl) (by kernel_rfl) (by kernel_rfl) (by exact fun _ _ _ h => h) (by rfl) ?_ ?_; rotate_left; (· intro W HW; go_simp; try with_reducible rfl)
  simp only [Act.put, List.setIfInBounds_toArray, List.set_cons_zero, List.set_cons_succ]
  refine rest_take 7 (oi := _) (v := ?_) (by simp only [List.getElem?_toArray, List.getElem?_cons_succ, List.getElem?_cons_zero]; rfl) (by kernel_rfl) (by kernel_rfl) (by kernel_rfl) (by exact fun _ _ _ h => h) (by rfl) ?_ ?_; rotate_left; (· intro W HW; go_simp; try with_reducible rfl)
  simp only [Act.put, List.setIfInBounds_toArray, List.set_cons_zero, List.set_cons_succ]
  refine rest_take 8 (oi := _) (v := ?_) (by simp only [List.getElem?_toArray, List.getElem?_cons_succ, List.getElem?_cons_zero]; rfl) (by kernel_rfl) (by kernel_rfl) (by kernel_rfl) (by exact fun _ _ _ h => h) (by rfl) ?_ ?_; rotate_left; (· intro W HW; go_simp; try with_reducible rfl)
  simp only [Act.put, List.setIfInBounds_toArray, List.set_cons_zero, List.set_cons_succ]
  refine rest_take 9 (oi := _) (v := ?_) (by simp only [List.getElem?_toArray, List.getElem?_cons_succ, List.getElem?_cons_zero]; rfl) (by kernel_rfl) (by kernel_rfl) (by kernel_rfl) (by exact fun _ _ _ h => h) (by rfl) ?_ ?_; rotate_left; (· intro W HW; go_simp; try with_reducible rfl)
  simp only [Act.put, List.setIfInBounds_toArray, List.set_cons_zero, List.set_cons_succ]
  refine rest_take 10 (oi := _) (v := ?_) (by simp only [List.getElem?_toArray, List.getElem?_cons_succ, List.getElem?_cons_zero]; rfl) (by kernel_rfl) (by kernel_rfl) (by kernel_rfl) (by exact fun _ _ _ h => h) (by rfl) ?_ ?_; rotate_left; (· intro W HW; go_simp; try with_reducible rfl)
  simp only [Act.put, List.setIfInBounds_toArray, List.set_cons_zero, List.set_cons_succ]
  refine rest_take 11 (oi := _) (v := ?_) (by simp only [List.getElem?_toArray, List.getElem?_cons_succ, List.getElem?_cons_zero]; rfl) (by kernel_rfl) (by kernel_rfl) (by kernel_rfl) (by exact fun _ _ _ h => h) (by rfl) ?_ ?_; rotate_left; (· intro W HW; go_simp; try with_reducible rfl)
  simp only [Act.put, List.setIfInBounds_toArray, List.set_cons_zero, List.set_cons_succ]
  refine rest_done (by kernel_rfl) ?_
  have HB_3 := Lib.hid (HB3.out).drew
  have X_3 := Lib.hid (show w3.drew.heap[w.heap.size]? = _ from X3.out)
  go_wp2_with (first
    | (with_reducible refine wpList_loadB rfl 51 (.tmp 4) rfl (w.heap.size) rfl 51 _ X_3.out _ Tryz.underlying51 rfl (by kernel_rfl) ?_)
    | (with_reducible refine wpList_loadB rfl 51 (.tmp 4) rfl (w.heap.size) rfl 51 _ X4.out _ Tryz.underlying51 rfl (by kernel_rfl) ?_)
    | (with_reducible refine wpList_loadG (by kernel_rfl) 51 (.tmp 4) rfl (w.heap.size) rfl 51 #[.int .u32 f, .int .u32 t, .int .i64 sl, .int .i64 sn, .bool an, .string N] X5.out _ Tryz.underlying51 rfl (by kernel_rfl) ?_)
    | (go_at_call 47; ((with_reducible refine (HP.out _).mono ?_); rintro e w4 ⟨rfl, hb⟩; have HB4 := Lib.hid (bel_trans HB_3.out hb); have X4 := Lib.hid (keep_at X_3.out hb); clear hb))
    | (go_at_call 48; ((with_reducible refine (HRP.out _).mono ?_); rintro e w5 ⟨rfl, hb⟩; have HB5 := Lib.hid (bel_trans HB4.out hb); have X5 := Lib.hid (keep_at X4.out hb); clear hb))
    | (go_at_call 49; ((with_reducible refine (HM.out _).mono ?_); rintro e w6 ⟨rfl, hb⟩; have HB6 := Lib.hid (bel_trans HB5.out hb); have X6 := Lib.hid (keep_at X5.out hb); clear hb)))
  have hR0 : Below w.heap.size w (w6.alloc (.cells #[.string A, .string S, .string (A.extract 0 ka)] 9)) ∧ (w6.alloc (.cells #[.string A, .string S, .string (A.extract 0 ka)] 9)).heap[w6.heap.size]? = some (.cells #[.string A, .string S, .string (A.extract 0 ka)] 9 (0, 0)) ∧ (w6.alloc (.cells #[.string A, .string S, .string (A.extract 0 ka)] 9)).heap[w.heap.size]? = some (.cells #[.int .u32 f, .int .u32 t, .int .i64 sl, .int .i64 sn, .bool an, .string N] 51 (0, 0)) := ⟨bal HB6.out _, heap_alloc_new w6 _, keep_at X6.out (bal (bel0 w6) _)⟩
  have HR0 := Lib.hid hR0
  clear hR0
  go_loopw [8, 15, 16, 17, 18, 19, 78] (fun q8 _ _ _ _ _ i wr => q8 = .bool false ∧ ∃ k : Nat, k ≤ 3 ∧ i = .int .i64 k ∧ Below w.heap.size w wr ∧ wr.heap[w6.heap.size]? = some (.cells #[.string A, .string S, .string (A.extract 0 ka)] 9 (0, 0)) ∧ wr.heap[w.heap.size]? = some (.cells #[.int .u32 f, .int .u32 t, .int .i64 sl, .int .i64 sn, .bool an, .string N] 51 (0, 0))) (fun _ _ _ _ _ _ i _ => 3 - (intOf i).toNat)
  case atStart => exact ⟨rfl, 0, by omega, rfl, HR0.out⟩
  case round =>
    obtain ⟨rfl, k, hk, rfl, hb, hh, hx⟩ := hrel
    have HBr := Lib.hid hb
    have HGr := Lib.hid hh
    have HXr := Lib.hid hx
    clear hb hx
    by_cases hlt : k < 3
    · have td : decide ((k : Int) < 3) = true := decide_eq_true (by omega)
      obtain ⟨T, hT, hTs⟩ := HT3.out k hlt
      have cT := cell_at hh k _ hT
      obtain ⟨y0, y1, y2, y3, y4, y5, kk, hg1, hg2⟩ := HG.out T hTs
      have HG1 := Lib.hid hg1
      have HG2 := Lib.hid hg2
      have HNE := Lib.hid (fun W => neq_same_X ⟨y0, y1, y2, y3, y4, y5⟩ W)
      clear hg1 hg2 hT hTs hh
      go_wp2_with (first
        | (with_reducible refine wpList_loadB rfl 51 (.tmp 16) rfl (w30.heap.size) rfl 51 _ P31.out _ Tryz.underlying51 rfl (by kernel_rfl) ?_)
        | (with_reducible refine wpList_loadB rfl 51 (.tmp 18) rfl (w31.heap.size) rfl 51 _ Q31.out _ Tryz.underlying51 rfl (by kernel_rfl) ?_)
        | (with_reducible refine wpList_ne (by kernel_rfl) 51 (.tmp 92) (.tmp 93) #[.int .u32 y0, .int .u32 y1, .int .i64 y2, .int .i64 y3, .bool y4, .string y5] #[.int .u32 y0, .int .u32 y1, .int .i64 y2, .int .i64 y3, .bool y4, .string y5] false rfl rfl rfl (fun _ _ _ _ => guard_X _ _ _ _ _ _) HNE.out ?_)
        | (go_at_call 50; ((with_reducible refine (HG1.out _).mono ?_); rintro e w30 ⟨rfl, hb⟩; have HB30 := Lib.hid (bal ((bel_trans HBr.out hb)) (.cells #[.int .u32 y0, .int .u32 y1, .int .i64 y2, .int .i64 y3, .bool y4, .string y5] 51)); have G30 := Lib.hid (keep_at (keep_at HGr.out hb) (bal (bel0 w30) (.cells #[.int .u32 y0, .int .u32 y1, .int .i64 y2, .int .i64 y3, .bool y4, .string y5] 51))); have X30 := Lib.hid (keep_at (keep_at HXr.out hb) (bal (bel0 w30) (.cells #[.int .u32 y0, .int .u32 y1, .int .i64 y2, .int .i64 y3, .bool y4, .string y5] 51))); have P30 := Lib.hid ((heap_alloc_new w30 (.cells #[.int .u32 y0, .int .u32 y1, .int .i64 y2, .int .i64 y3, .bool y4, .string y5] 51))); clear hb))
        | (go_at_call 51; ((with_reducible refine (HG2.out _).mono ?_); rintro e w31 ⟨rfl, hb⟩; have HB31 := Lib.hid (bal ((bel_trans HB30.out hb)) (.cells #[.int .u32 y0, .int .u32 y1, .int .i64 y2, .int .i64 y3, .bool y4, .string y5] 51)); have G31 := Lib.hid (keep_at (keep_at G30.out hb) (bal (bel0 w31) (.cells #[.int .u32 y0, .int .u32 y1, .int .i64 y2, .int .i64 y3, .bool y4, .string y5] 51))); have X31 := Lib.hid (keep_at (keep_at X30.out hb) (bal (bel0 w31) (.cells #[.int .u32 y0, .int .u32 y1, .int .i64 y2, .int .i64 y3, .bool y4, .string y5] 51))); have P31 := Lib.hid (keep_at (keep_at P30.out hb) (bal (bel0 w31) (.cells #[.int .u32 y0, .int .u32 y1, .int .i64 y2, .int .i64 y3, .bool y4, .string y5] 51))); have Q31 := Lib.hid ((heap_alloc_new w31 (.cells #[.int .u32 y0, .int .u32 y1, .int .i64 y2, .int .i64 y3, .bool y4, .string y5] 51))); clear hb)))
      go_roundw
      case rel => first | exact ⟨rfl, k + 1, by omega, by go_num, HB31.out, G31.out, X31.out⟩ | exact ⟨_, _, _, _, _, _, _, _, _, _, _, _, _, _, _, _, _, _, _, _, ⟨rfl, k + 1, by omega, by go_num, HB31.out, G31.out, X31.out⟩, rfl⟩ | exact ⟨_, _, _, _, _, _, _, _, _, _, _, _, _, _, _, _, _, _, _, _, _, ⟨rfl, k + 1, by omega, by go_num, HB31.out, G31.out, X31.out⟩, rfl⟩ | exact ⟨_, _, _, _, _, _, _, _, _, _, _, _, _, _, _, _, _, _, _, _, _, _, ⟨rfl, k + 1, by omega, by go_num, HB31.out, G31.out, X31.out⟩, rfl⟩ | exact ⟨_, _, _, _, _, _, _, _, _, _, _, _, _, _, _, _, _, _, _, _, _, _, _, ⟨rfl, k + 1, by omega, by go_num, HB31.out, G31.out, X31.out⟩, rfl⟩ | exact ⟨_, _, _, _, _, _, _, _, _, _, _, _, _, _, _, _, _, _, _, _, _, _, _, _, ⟨rfl, k + 1, by omega, by go_num, HB31.out, G31.out, X31.out⟩, rfl⟩ | exact ⟨_, _, _, _, _, _, _, _, _, _, _, _, _, _, _, _, _, _, _, _, _, _, _, _, _, ⟨rfl, k + 1, by omega, by go_num, HB31.out, G31.out, X31.out⟩, rfl⟩ | exact ⟨_, _, _, _, _, _, _, _, _, _, _, _, _, _, _, _, _, _, _, _, _, _, _, _, _, _, ⟨rfl, k + 1, by omega, by go_num, HB31.out, G31.out, X31.out⟩, rfl⟩ | exact ⟨_, _, _, _, _, _, _, _, _, _, _, _, _, _, _, _, _, _, _, _, _, _, _, _, _, _, _, ⟨rfl, k + 1, by omega, by go_num, HB31.out, G31.out, X31.out⟩, rfl⟩ | exact ⟨_, _, _, _, _, _, _, _, _, _, _, _, _, _, _, _, _, _, _, _, _, _, _, _, _, _, _, _, ⟨rfl, k + 1, by omega, by go_num, HB31.out, G31.out, X31.out⟩, rfl⟩ | exact ⟨_, _, _, _, _, _, _, _, _, _, _, _, _, _, _, _, _, _, _, _, _, _, _, _, _, _, _, _, _, ⟨rfl, k + 1, by omega, by go_num, HB31.out, G31.out, X31.out⟩, rfl⟩ | exact ⟨_, _, _, _, _, _, _, _, _, _, _, _, _, _, _, _, _, _, _, _, _, _, _, _, _, _, _, _, _, _, ⟨rfl, k + 1, by omega, by go_num, HB31.out, G31.out, X31.out⟩, rfl⟩ | exact ⟨_, _, _, _, _, _, _, _, _, _, _, _, _, _, _, _, _, _, _, _, _, _, _, _, _, _, _, _, _, _, _, ⟨rfl, k + 1, by omega, by go_num, HB31.out, G31.out, X31.out⟩, rfl⟩ | exact ⟨_, _, _, _, _, _, _, _, _, _, _, _, _, _, _, _, _, _, _, _, _, _, _, _, _, _, _, _, _, _, _, _, ⟨rfl, k + 1, by omega, by go_num, HB31.out, G31.out, X31.out⟩, rfl⟩ | exact ⟨_, _, _, _, _, _, _, _, _, _, _, _, _, _, _, _, _, _, _, _, _, _, _, _, _, _, _, _, _, _, _, _, _, ⟨rfl, k + 1, by omega, by go_num, HB31.out, G31.out, X31.out⟩, rfl⟩
      case measure => simp [intOf] <;> omega
    · obtain rfl : k = 3 := by omega
      clear hh
      go_wp2_with (first
        | (go_at_call 52; ((with_reducible refine (HF1.out _ (HV.out.below HBr.out) (HU.out.below HBr.out)).mono ?_); rintro e w40 ⟨rfl, hb⟩; have HB40 := Lib.hid (bel_trans HBr.out hb); have X40 := Lib.hid (keep_at HXr.out hb); clear hb))
        | (go_at_call 53; ((with_reducible refine (HF2.out _ (HV.out.below HB40.out) (HU.out.below HB40.out)).mono ?_); rintro e w41 ⟨rfl, hb⟩; have HB41 := Lib.hid (bel_trans HB40.out hb); have X41 := Lib.hid (keep_at X40.out hb); clear hb))
        | (go_at_call 50; ((with_reducible refine (HGA.out _).mono ?_); rintro e w42 ⟨rfl, hb⟩; have HB42 := Lib.hid (bal ((bel_trans HB41.out hb)) (.cells #[.int .u32 0, .int .u32 0, .int .i64 0, .int .i64 0, .bool false, .string ⟨#[]⟩] 51)); have X42 := Lib.hid (keep_at (keep_at X41.out hb) (bal (bel0 w42) (.cells #[.int .u32 0, .int .u32 0, .int .i64 0, .int .i64 0, .bool false, .string ⟨#[]⟩] 51))); have Y42 := Lib.hid ((heap_alloc_new w42 (.cells #[.int .u32 0, .int .u32 0, .int .i64 0, .int .i64 0, .bool false, .string ⟨#[]⟩] 51))); clear hb)))
      go_ret
      refine ⟨?_, HB42.out⟩
      simp
set_option maxRecDepth 100000 in
set_option maxHeartbeats 16000000 in
theorem XidAll_true (f t sl sn : Int) (an : Bool) (nk N s S A : ByteArray) (v u : Value) (l0 m0 : List Int) (w : World) (hv : RdU w v l0) (hu : RdU w u m0) (hC : Codes w) (hA : A.size ≤ 100) (hS : S.size ≤ 100)
    (hTX : ∀ w, Calls Tryz.prog 22 #[.string nk, .int .i64 25] w fun e w' => e = .returned (.string N) ∧ w = w')
    (hTS : ∀ w, Calls Tryz.prog 22 #[.string s, .int .i64 40] w fun e w' => e = .returned (.string S) ∧ w = w')
    (hP : ∀ w, Calls Tryz.prog 47 #[.agg #[.int .u32 f, .int .u32 t, .int .i64 sl, .int .i64 sn, .bool an, .string N]] w fun e w' => e = .returned (.tuple #[.string A, .bool true]) ∧ Below w.heap.size w w')
    (hRP : ∀ w, Calls Tryz.prog 48 #[.agg #[.int .u32 f, .int .u32 t, .int .i64 sl, .int .i64 sn, .bool an, .string N]] w fun e w' => e = .returned (.tuple #[.string A, .bool true]) ∧ Below w.heap.size w w')
    (hM : ∀ w, Calls Tryz.prog 49 #[.agg #[.int .u32 f, .int .u32 t, .int .i64 sl, .int .i64 sn, .bool an, .string N]] w fun e w' => e = .returned (.bool true) ∧ Below w.heap.size w w')
    (hGA : ∀ w, Calls Tryz.prog 50 #[.string A] w fun e w' => e = .returned (.tuple #[.agg #[.int .u32 f, .int .u32 t, .int .i64 sl, .int .i64 sn, .bool an, .string N], .bool true]) ∧ Below w.heap.size w w')
    (hG : ∀ T : ByteArray, T.size ≤ 1000 → ∃ (y0 y1 y2 y3 : Int) (y4 : Bool) (y5 : ByteArray) (k : Bool), (∀ w, Calls Tryz.prog 50 #[.string T] w fun e w' => e = .returned (.tuple #[.agg #[.int .u32 y0, .int .u32 y1, .int .i64 y2, .int .i64 y3, .bool y4, .string y5], .bool k]) ∧ Below w.heap.size w w') ∧ (∀ w, Calls Tryz.prog 51 #[.string T] w fun e w' => e = .returned (.tuple #[.agg #[.int .u32 y0, .int .u32 y1, .int .i64 y2, .int .i64 y3, .bool y4, .string y5], .bool k]) ∧ Below w.heap.size w w')) :
    Calls Tryz.prog 7 #[.agg #[.int .u32 f, .int .u32 t, .int .i64 sl, .int .i64 sn, .bool an, .string nk], .string s, v, u] w (Holds8 w) := by
  have HC0 := Lib.hid hC
  have HTX := Lib.hid hTX
  have HTS := Lib.hid hTS
  have HP := Lib.hid hP
  have HRP := Lib.hid hRP
  have HM := Lib.hid hM
  have HGA := Lib.hid hGA
  have HG := Lib.hid hG
  have HSE := Lib.hid (fun W => eql_same_X ⟨f, t, sl, sn, an, N⟩ W)
  obtain ⟨va, ca, rfl, ha1, ha2, -⟩ := id hv
  obtain ⟨ub, cb, rfl, hb1, hb2, -⟩ := id hu
  obtain ⟨k1, hk1⟩ : ∃ k : Nat, min l0.length 8 = k := ⟨_, rfl⟩
  obtain ⟨k2, hk2⟩ : ∃ k : Nat, min m0.length 8 = k := ⟨_, rfl⟩
  have hv2 := hv.cut (k := k1) (by omega)
  have hu2 := hu.cut (k := k2) (by omega)
  have ml : min (l0.length : Int) 8 = (k1 : Int) := by omega
  have mm : min (m0.length : Int) 8 = (k2 : Int) := by omega
  have b1 : (k1 : Int) ≤ (ca : Int) := by omega
  have b2 : (k2 : Int) ≤ (cb : Int) := by omega
  obtain ⟨Ll, hL⟩ : ∃ L, l0.take k1 = L := ⟨_, rfl⟩
  obtain ⟨Mm, hM_⟩ : ∃ M, m0.take k2 = M := ⟨_, rfl⟩
  have hLl : Ll.length = k1 := by rw [← hL, List.length_take]; omega
  have hMl : Mm.length = k2 := by rw [← hM_, List.length_take]; omega
  rw [hL] at hv2
  rw [hM_] at hu2
  rw [← hLl] at hv2 ml b1
  rw [← hMl] at hu2 mm b2
  have hf1 : ∀ w' (h1 : RdU w' (.slice va Ll.length ca) Ll) (h2 : RdU w' (.slice ub Mm.length cb) Mm), Calls Tryz.prog 52 #[.slice va Ll.length ca, .slice ub Mm.length cb] w' (FreshR Ll Mm w') := fun w' h1 h2 => XFresh_any _ _ Ll Mm w' h1 h2 (by omega) (by omega)
  have hf2 : ∀ w' (h1 : RdU w' (.slice va Ll.length ca) Ll) (h2 : RdU w' (.slice ub Mm.length cb) Mm), Calls Tryz.prog 53 #[.slice va Ll.length ca, .slice ub Mm.length cb] w' (FreshR Ll Mm w') := fun w' h1 h2 => RFresh_any _ _ Ll Mm w' h1 h2 (by omega) (by omega)
  unfold FreshR at hf1 hf2
  generalize (freshM Ll Mm).1 = nn at hf1 hf2
  generalize (freshM Ll Mm).2 = jj at hf1 hf2
  have HF1 := Lib.hid hf1
  have HF2 := Lib.hid hf2
  have HV := Lib.hid hv2
  have HU := Lib.hid hu2
  obtain ⟨ka, hka⟩ : ∃ k : Nat, min A.size 10 = k := ⟨_, rfl⟩
  have mA : min (A.size : Int) 10 = (ka : Int) := by omega
  have mA2 : (0 : Int) ≤ (ka : Int) := by omega
  have mA3 : (ka : Int) ≤ (A.size : Int) := by omega
  have hE : (A.extract 0 ka).size ≤ 100 := by rw [ByteArray.size_extract]; omega
  have HT3 := Lib.hid (fun k => three_str (B := A.extract 0 ka) hA hS hE (k := k))
  clear hv hu hC hTX hTS hP hRP hM hGA hG ha1 ha2 hb1 hb2 hk1 hk2 hv2 hu2 hL hM_ hLl hMl hf1 hf2 hka hE hA hS
  go_enter Tryz.func7, Tryz.ntmps7
  go_wp2_with (first
    | ((with_reducible refine wpList_boxS rfl 51 _ (.tmp 0) rfl rfl (run_boxX ⟨f, t, sl, sn, an, nk⟩) ?_); intro w1 hb hlt hh; have HB1 := Lib.hid hb; have HC1 := Lib.hid (HC0.out.below hb); have X1 := Lib.hid (hh); clear hb hlt hh)
    | ((with_reducible refine wpList_store1 rfl 9 (.tmp 34) (.tmp 31) rfl (w.heap.size) 5 (.string N) rfl rfl 51 _ X2.out (by simp) (storeStr w.heap.size 5 _) ?_); intro w3 hg hh; have HB3 := Lib.hid (bel_grown HB2.out hg (Nat.le_refl _)); have X3 : Hid (w3.heap[w.heap.size]? = some (.cells #[.int .u32 f, .int .u32 t, .int .i64 sl, .int .i64 sn, .bool an, .string N] 51 (0, 0))) := hh; clear hg hh)
    | (go_at_call 21; ((with_reducible refine (begun8_any _ HC1.out).mono ?_); rintro e w2 ⟨rfl, hb⟩; have HB2 := Lib.hid (bel_trans HB1.out hb); have X2 := Lib.hid (keep_at X1.out hb); have HC2 := Lib.hid (HC1.out.below hb); have c5 := cell_at X2.out 5 _ rfl; clear hb))
    | (go_at_call 22; first
      | ((with_reducible refine (HTX.out _).mono ?_); rintro e w' ⟨rfl, hw'⟩; rw [← hw']; clear hw')
      | ((with_reducible refine (HTS.out _).mono ?_); rintro e w' ⟨rfl, hw'⟩; rw [← hw']; clear hw')))
  refine rest_begin (by kernel_rfl) ?_
  refine rest_take 0 (oi := _) (v := ?_) (by simp only [List.getElem?_toArray, List.getElem?_cons_zero]; rfl) (by kernel_rfl) (by kernel_rfl) (by kernel_rfl) (by exact fun _ _ _ h => h) (by rfl) ?_ ?_; rotate_left; (· intro W HW; go_simp; try with_reducible rfl)
  simp only [Act.put, List.setIfInBounds_toArray, List.set_cons_zero, List.set_cons_succ]
  refine rest_take 1 (oi := _) (v := ?_) (by simp only [List.getElem?_toArray, List.getElem?_cons_succ, List.getElem?_cons_zero]; rfl) (by kernel_rfl) (by kernel_rfl) (by kernel_rfl) (by exact fun _ _ _ h => h) (by rfl) ?_ ?_; rotate_left; (· intro W HW; go_simp; try with_reducible rfl)
  simp only [Act.put, List.setIfInBounds_toArray, List.set_cons_zero, List.set_cons_succ]
  refine rest_take 2 (oi := _) (v := ?_) (by simp only [List.getElem?_toArray, List.getElem?_cons_succ, List.getElem?_cons_zero]; rfl) (by kernel_rfl) (by kernel_rfl) (by kernel_rfl) (by exact fun _ _ _ h => h) (by rfl) ?_ ?_; rotate_left; (· intro W HW; go_simp; try with_reducible rfl)
  simp only [Act.put, List.setIfInBounds_toArray, List.set_cons_zero, List.set_cons_succ]
  refine rest_take 3 (oi := _) (v := ?_) (by simp only [List.getElem?_toArray, List.getElem?_cons_succ, List.getElem?_cons_zero]; rfl) (by kernel_rfl) (by kernel_rfl) (by kernel_rfl) (by exact fun _ _ _ h => h) (by rfl) ?_ ?_; rotate_left; (· intro W HW; go_simp; try with_reducible rfl)
  simp only [Act.put, List.setIfInBounds_toArray, List.set_cons_zero, List.set_cons_succ]
  refine rest_take 4 (oi := _) (v := ?_) (by simp only [List.getElem?_toArray, List.getElem?_cons_succ, List.getElem?_cons_zero]; rfl) (by kernel_rfl) (by kernel_rfl) (by kernel_rfl) (by exact fun _ _ _ h => h) (by rfl) ?_ ?_; rotate_left; (· intro W HW; go_simp; try with_reducible rfl)
  simp only [Act.put, List.setIfInBounds_toArray, List.set_cons_zero, List.set_cons_succ]
  refine rest_take 5 (oi := _) (v := ?_) (by simp only [List.getElem?_toArray, List.getElem?_cons_succ, List.getElem?_cons_zero]; rfl) (by kernel_rfl) (by kernel_rfl) (by kernel_rfl) (by exact fun _ _ _ h => h) (by rfl) ?_ ?_; rotate_left; (· intro W HW; go_simp; try with_reducible rfl)
  simp only [Act.put, List.setIfInBounds_toArray, List.set_cons_zero, List.set_cons_succ]
  refine rest_take 6 (oi := _) (v := ?_) (by simp only [List.getElem?_toArray, List.getElem?_cons_succ, List.getElem?_cons_zero]; rfl) (by kernel_rfl) (by kernel_rfl) (by kernel_rfl) (by exact fun _ _ _ h => h) (by rfl) ?_ ?_; rotate_left; (· intro W HW; go_simp; try with_reducible rfl)
  simp only [Act.put, List.setIfInBounds_toArray, List.set_cons_zero, List.set_cons_succ]
  refine rest_take 7 (oi := _) (v := ?_) (by simp only [List.getElem?_toArray, List.getElem?_cons_succ, List.getElem?_cons_zero]; rfl) (by kernel_rfl) (by kernel_rfl) (by kernel_rfl) (by exact fun _ _ _ h => h) (by rfl) ?_ ?_; rotate_left; (· intro W HW; go_simp; try with_reducible rfl)
  simp only [Act.put, List.setIfInBounds_toArray, List.set_cons_zero, List.set_cons_succ]
  refine rest_take 8 (oi := _) (v := ?_) (by simp only [List.getElem?_toArray, List.getElem?_cons_succ, List.getElem?_cons_zero]; rfl) (by kernel_rfl) (by kernel_rfl) (by kernel_rfl) (by exact fun _ _ _ h => h) (by rfl) ?_ ?_; rotate_left; (· intro W HW; go_simp; try with_reducible rfl)
  simp only [Act.put, List.setIfInBounds_toArray, List.set_cons_zero, List.set_cons_succ]
  refine rest_take 9 (oi := _) (v := ?_) (by simp only [List.getElem?_toArray, List.getElem?_cons_succ, List.getElem?_cons_zero]; rfl) (by kernel_rfl) (by kernel_rfl) (by kernel_rfl) (by exact fun _ _ _ h => h) (by rfl) ?_ ?_; rotate_left; (· intro W HW; go_simp; try with_reducible rfl)
  simp only [Act.put, List.setIfInBounds_toArray, List.set_cons_zero, List.set_cons_succ]
  refine rest_take 10 (oi := _) (v := ?_) (by simp only [List.getElem?_toArray, List.getElem?_cons_succ, List.getElem?_cons_zero]; rfl) (by kernel_rfl) (by kernel_rfl) (by kernel_rfl) (by exact fun _ _ _ h => h) (by rfl) ?_ ?_; rotate_left; (· intro W HW; go_simp; try with_reducible rfl)
  simp only [Act.put, List.setIfInBounds_toArray, List.set_cons_zero, List.set_cons_succ]
  refine rest_take 11 (oi := _) (v := ?_) (by simp only [List.getElem?_toArray, List.getElem?_cons_succ, List.getElem?_cons_zero]; rfl) (by kernel_rfl) (by kernel_rfl) (by kernel_rfl) (by exact fun _ _ _ h => h) (by rfl) ?_ ?_; rotate_left; (· intro W HW; go_simp; try with_reducible rfl)
  simp only [Act.put, List.setIfInBounds_toArray, List.set_cons_zero, List.set_cons_succ]
  refine rest_done (by kernel_rfl) ?_
  have HB_3 := Lib.hid (HB3.out).drew
  have X_3 := Lib.hid (show w3.drew.heap[w.heap.size]? = _ from X3.out)
  go_wp2_with (first
    | (with_reducible refine wpList_loadB rfl 51 (.tmp 4) rfl (w.heap.size) rfl 51 _ X_3.out _ Tryz.underlying51 rfl (by kernel_rfl) ?_)
    | (with_reducible refine wpList_loadB rfl 51 (.tmp 4) rfl (w.heap.size) rfl 51 _ X4.out _ Tryz.underlying51 rfl (by kernel_rfl) ?_)
    | (with_reducible refine wpList_loadG (by kernel_rfl) 51 (.tmp 4) rfl (w.heap.size) rfl 51 #[.int .u32 f, .int .u32 t, .int .i64 sl, .int .i64 sn, .bool an, .string N] X5.out _ Tryz.underlying51 rfl (by kernel_rfl) ?_)
    | (go_at_call 47; ((with_reducible refine (HP.out _).mono ?_); rintro e w4 ⟨rfl, hb⟩; have HB4 := Lib.hid (bel_trans HB_3.out hb); have X4 := Lib.hid (keep_at X_3.out hb); clear hb))
    | (go_at_call 48; ((with_reducible refine (HRP.out _).mono ?_); rintro e w5 ⟨rfl, hb⟩; have HB5 := Lib.hid (bel_trans HB4.out hb); have X5 := Lib.hid (keep_at X4.out hb); clear hb))
    | (go_at_call 49; ((with_reducible refine (HM.out _).mono ?_); rintro e w6 ⟨rfl, hb⟩; have HB6 := Lib.hid (bel_trans HB5.out hb); have X6 := Lib.hid (keep_at X5.out hb); clear hb)))
  have hR0 : Below w.heap.size w (w6.alloc (.cells #[.string A, .string S, .string (A.extract 0 ka)] 9)) ∧ (w6.alloc (.cells #[.string A, .string S, .string (A.extract 0 ka)] 9)).heap[w6.heap.size]? = some (.cells #[.string A, .string S, .string (A.extract 0 ka)] 9 (0, 0)) ∧ (w6.alloc (.cells #[.string A, .string S, .string (A.extract 0 ka)] 9)).heap[w.heap.size]? = some (.cells #[.int .u32 f, .int .u32 t, .int .i64 sl, .int .i64 sn, .bool an, .string N] 51 (0, 0)) := ⟨bal HB6.out _, heap_alloc_new w6 _, keep_at X6.out (bal (bel0 w6) _)⟩
  have HR0 := Lib.hid hR0
  clear hR0
  go_loopw [8, 15, 16, 17, 18, 19, 78] (fun q8 _ _ _ _ _ i wr => q8 = .bool false ∧ ∃ k : Nat, k ≤ 3 ∧ i = .int .i64 k ∧ Below w.heap.size w wr ∧ wr.heap[w6.heap.size]? = some (.cells #[.string A, .string S, .string (A.extract 0 ka)] 9 (0, 0)) ∧ wr.heap[w.heap.size]? = some (.cells #[.int .u32 f, .int .u32 t, .int .i64 sl, .int .i64 sn, .bool an, .string N] 51 (0, 0))) (fun _ _ _ _ _ _ i _ => 3 - (intOf i).toNat)
  case atStart => exact ⟨rfl, 0, by omega, rfl, HR0.out⟩
  case round =>
    obtain ⟨rfl, k, hk, rfl, hb, hh, hx⟩ := hrel
    have HBr := Lib.hid hb
    have HGr := Lib.hid hh
    have HXr := Lib.hid hx
    clear hb hx
    by_cases hlt : k < 3
    · have td : decide ((k : Int) < 3) = true := decide_eq_true (by omega)
      obtain ⟨T, hT, hTs⟩ := HT3.out k hlt
      have cT := cell_at hh k _ hT
      obtain ⟨y0, y1, y2, y3, y4, y5, kk, hg1, hg2⟩ := HG.out T hTs
      have HG1 := Lib.hid hg1
      have HG2 := Lib.hid hg2
      have HNE := Lib.hid (fun W => neq_same_X ⟨y0, y1, y2, y3, y4, y5⟩ W)
      clear hg1 hg2 hT hTs hh
      go_wp2_with (first
        | (with_reducible refine wpList_loadB rfl 51 (.tmp 16) rfl (w30.heap.size) rfl 51 _ P31.out _ Tryz.underlying51 rfl (by kernel_rfl) ?_)
        | (with_reducible refine wpList_loadB rfl 51 (.tmp 18) rfl (w31.heap.size) rfl 51 _ Q31.out _ Tryz.underlying51 rfl (by kernel_rfl) ?_)
        | (with_reducible refine wpList_ne (by kernel_rfl) 51 (.tmp 92) (.tmp 93) #[.int .u32 y0, .int .u32 y1, .int .i64 y2, .int .i64 y3, .bool y4, .string y5] #[.int .u32 y0, .int .u32 y1, .int .i64 y2, .int .i64 y3, .bool y4, .string y5] false rfl rfl rfl (fun _ _ _ _ => guard_X _ _ _ _ _ _) HNE.out ?_)
        | (go_at_call 50; ((with_reducible refine (HG1.out _).mono ?_); rintro e w30 ⟨rfl, hb⟩; have HB30 := Lib.hid (bal ((bel_trans HBr.out hb)) (.cells #[.int .u32 y0, .int .u32 y1, .int .i64 y2, .int .i64 y3, .bool y4, .string y5] 51)); have G30 := Lib.hid (keep_at (keep_at HGr.out hb) (bal (bel0 w30) (.cells #[.int .u32 y0, .int .u32 y1, .int .i64 y2, .int .i64 y3, .bool y4, .string y5] 51))); have X30 := Lib.hid (keep_at (keep_at HXr.out hb) (bal (bel0 w30) (.cells #[.int .u32 y0, .int .u32 y1, .int .i64 y2, .int .i64 y3, .bool y4, .string y5] 51))); have P30 := Lib.hid ((heap_alloc_new w30 (.cells #[.int .u32 y0, .int .u32 y1, .int .i64 y2, .int .i64 y3, .bool y4, .string y5] 51))); clear hb))
        | (go_at_call 51; ((with_reducible refine (HG2.out _).mono ?_); rintro e w31 ⟨rfl, hb⟩; have HB31 := Lib.hid (bal ((bel_trans HB30.out hb)) (.cells #[.int .u32 y0, .int .u32 y1, .int .i64 y2, .int .i64 y3, .bool y4, .string y5] 51)); have G31 := Lib.hid (keep_at (keep_at G30.out hb) (bal (bel0 w31) (.cells #[.int .u32 y0, .int .u32 y1, .int .i64 y2, .int .i64 y3, .bool y4, .string y5] 51))); have X31 := Lib.hid (keep_at (keep_at X30.out hb) (bal (bel0 w31) (.cells #[.int .u32 y0, .int .u32 y1, .int .i64 y2, .int .i64 y3, .bool y4, .string y5] 51))); have P31 := Lib.hid (keep_at (keep_at P30.out hb) (bal (bel0 w31) (.cells #[.int .u32 y0, .int .u32 y1, .int .i64 y2, .int .i64 y3, .bool y4, .string y5] 51))); have Q31 := Lib.hid ((heap_alloc_new w31 (.cells #[.int .u32 y0, .int .u32 y1, .int .i64 y2, .int .i64 y3, .bool y4, .string y5] 51))); clear hb)))
      go_roundw
      case rel => first | exact ⟨rfl, k + 1, by omega, by go_num, HB31.out, G31.out, X31.out⟩ | exact ⟨_, _, _, _, _, _, _, _, _, _, _, _, _, _, _, _, _, _, _, _, ⟨rfl, k + 1, by omega, by go_num, HB31.out, G31.out, X31.out⟩, rfl⟩ | exact ⟨_, _, _, _, _, _, _, _, _, _, _, _, _, _, _, _, _, _, _, _, _, ⟨rfl, k + 1, by omega, by go_num, HB31.out, G31.out, X31.out⟩, rfl⟩ | exact ⟨_, _, _, _, _, _, _, _, _, _, _, _, _, _, _, _, _, _, _, _, _, _, ⟨rfl, k + 1, by omega, by go_num, HB31.out, G31.out, X31.out⟩, rfl⟩ | exact ⟨_, _, _, _, _, _, _, _, _, _, _, _, _, _, _, _, _, _, _, _, _, _, _, ⟨rfl, k + 1, by omega, by go_num, HB31.out, G31.out, X31.out⟩, rfl⟩ | exact ⟨_, _, _, _, _, _, _, _, _, _, _, _, _, _, _, _, _, _, _, _, _, _, _, _, ⟨rfl, k + 1, by omega, by go_num, HB31.out, G31.out, X31.out⟩, rfl⟩ | exact ⟨_, _, _, _, _, _, _, _, _, _, _, _, _, _, _, _, _, _, _, _, _, _, _, _, _, ⟨rfl, k + 1, by omega, by go_num, HB31.out, G31.out, X31.out⟩, rfl⟩ | exact ⟨_, _, _, _, _, _, _, _, _, _, _, _, _, _, _, _, _, _, _, _, _, _, _, _, _, _, ⟨rfl, k + 1, by omega, by go_num, HB31.out, G31.out, X31.out⟩, rfl⟩ | exact ⟨_, _, _, _, _, _, _, _, _, _, _, _, _, _, _, _, _, _, _, _, _, _, _, _, _, _, _, ⟨rfl, k + 1, by omega, by go_num, HB31.out, G31.out, X31.out⟩, rfl⟩ | exact ⟨_, _, _, _, _, _, _, _, _, _, _, _, _, _, _, _, _, _, _, _, _, _, _, _, _, _, _, _, ⟨rfl, k + 1, by omega, by go_num, HB31.out, G31.out, X31.out⟩, rfl⟩ | exact ⟨_, _, _, _, _, _, _, _, _, _, _, _, _, _, _, _, _, _, _, _, _, _, _, _, _, _, _, _, _, ⟨rfl, k + 1, by omega, by go_num, HB31.out, G31.out, X31.out⟩, rfl⟩ | exact ⟨_, _, _, _, _, _, _, _, _, _, _, _, _, _, _, _, _, _, _, _, _, _, _, _, _, _, _, _, _, _, ⟨rfl, k + 1, by omega, by go_num, HB31.out, G31.out, X31.out⟩, rfl⟩ | exact ⟨_, _, _, _, _, _, _, _, _, _, _, _, _, _, _, _, _, _, _, _, _, _, _, _, _, _, _, _, _, _, _, ⟨rfl, k + 1, by omega, by go_num, HB31.out, G31.out, X31.out⟩, rfl⟩ | exact ⟨_, _, _, _, _, _, _, _, _, _, _, _, _, _, _, _, _, _, _, _, _, _, _, _, _, _, _, _, _, _, _, _, ⟨rfl, k + 1, by omega, by go_num, HB31.out, G31.out, X31.out⟩, rfl⟩ | exact ⟨_, _, _, _, _, _, _, _, _, _, _, _, _, _, _, _, _, _, _, _, _, _, _, _, _, _, _, _, _, _, _, _, _, ⟨rfl, k + 1, by omega, by go_num, HB31.out, G31.out, X31.out⟩, rfl⟩
      case measure => simp [intOf] <;> omega
    · obtain rfl : k = 3 := by omega
      clear hh
      go_wp2_with (first
        | (with_reducible refine wpList_loadG (by kernel_rfl) 51 (.tmp 24) rfl (w42.heap.size) rfl 51 #[.int .u32 f, .int .u32 t, .int .i64 sl, .int .i64 sn, .bool an, .string N] Y42.out _ Tryz.underlying51 rfl (by kernel_rfl) ?_)
        | (with_reducible refine wpList_loadG (by kernel_rfl) 51 (.tmp 4) rfl (w.heap.size) rfl 51 #[.int .u32 f, .int .u32 t, .int .i64 sl, .int .i64 sn, .bool an, .string N] X42.out _ Tryz.underlying51 rfl (by kernel_rfl) ?_)
        | (with_reducible refine wpList_eq (by kernel_rfl) 51 (.tmp 135) (.tmp 136) #[.int .u32 f, .int .u32 t, .int .i64 sl, .int .i64 sn, .bool an, .string N] #[.int .u32 f, .int .u32 t, .int .i64 sl, .int .i64 sn, .bool an, .string N] true rfl rfl rfl (fun _ _ _ _ => guard_X _ _ _ _ _ _) HSE.out ?_)
        | (go_at_call 52; ((with_reducible refine (HF1.out _ (HV.out.below HBr.out) (HU.out.below HBr.out)).mono ?_); rintro e w40 ⟨rfl, hb⟩; have HB40 := Lib.hid (bel_trans HBr.out hb); have X40 := Lib.hid (keep_at HXr.out hb); clear hb))
        | (go_at_call 53; ((with_reducible refine (HF2.out _ (HV.out.below HB40.out) (HU.out.below HB40.out)).mono ?_); rintro e w41 ⟨rfl, hb⟩; have HB41 := Lib.hid (bel_trans HB40.out hb); have X41 := Lib.hid (keep_at X40.out hb); clear hb))
        | (go_at_call 50; ((with_reducible refine (HGA.out _).mono ?_); rintro e w42 ⟨rfl, hb⟩; have HB42 := Lib.hid (bal ((bel_trans HB41.out hb)) (.cells #[.int .u32 f, .int .u32 t, .int .i64 sl, .int .i64 sn, .bool an, .string N] 51)); have X42 := Lib.hid (keep_at (keep_at X41.out hb) (bal (bel0 w42) (.cells #[.int .u32 f, .int .u32 t, .int .i64 sl, .int .i64 sn, .bool an, .string N] 51))); have Y42 := Lib.hid ((heap_alloc_new w42 (.cells #[.int .u32 f, .int .u32 t, .int .i64 sl, .int .i64 sn, .bool an, .string N] 51))); clear hb)))
      go_ret
      refine ⟨?_, HB42.out⟩
      simp
theorem putX_len {x : Xd} {l : List UInt8} (h : putX x = some l) {n : Nat} (hn : x.nick.length ≤ n) : l.length ≤ 11 + n := by
  unfold putX at h
  split at h
  · injection h with h
    rw [← h]
    unfold bytesX
    simp only [List.length_append, le4_len, List.length_cons, List.length_nil]
    omega
  · cases h
theorem XidAll_law (x : XIn) (s : ByteArray) (v u : Value) (l0 m0 : List Int) (w : World) (hx : x.ok) (hs : s.size ≤ maxLen) (hv : RdU w v l0) (hu : RdU w u m0) (hC : Codes w) : Calls Tryz.prog 7 #[x.val, .string s, v, u] w (Holds8 w) := by
  obtain ⟨f, t, sl, sn, an, nk⟩ := x
  obtain ⟨g1, g2, g3, g4, g5⟩ := hx
  simp only at g1 g2 g3 g4 g5
  have htx := fun w => Text_any nk 25 w g5 (by decide)
  have hts := fun w => Text_any s 40 w hs (by decide)
  obtain ⟨N, hN⟩ : ∃ N, N = nk.extract 0 (min nk.size 25) := ⟨_, rfl⟩
  obtain ⟨S, hS⟩ : ∃ S, S = s.extract 0 (min s.size 40) := ⟨_, rfl⟩
  have hNs : N.size ≤ 25 := by rw [hN, ByteArray.size_extract]; omega
  have hSs : S.size ≤ 40 := by rw [hS, ByteArray.size_extract]; omega
  rw [← hN] at htx
  rw [← hS] at hts
  have hok : XIn.ok ⟨f, t, sl, sn, an, N⟩ := ⟨g1, g2, g3, g4, by show N.size ≤ maxLen; unfold maxLen; omega⟩
  have hu32 := XIn.u hok
  have hp1 := fun w => XPut_any ⟨f, t, sl, sn, an, N⟩ w hok
  have hp2 := fun w => RPutX_any ⟨f, t, sl, sn, an, N⟩ w (by show N.size ≤ 1000000; omega) hu32.1 hu32.2
  have hm := fun w => XMay_any ⟨f, t, sl, sn, an, N⟩ w hok
  have em : mayX (XIn.xd ⟨f, t, sl, sn, an, N⟩) = (putX (XIn.xd ⟨f, t, sl, sn, an, N⟩)).isSome := by unfold putX; cases mayX (XIn.xd ⟨f, t, sl, sn, an, N⟩) <;> rfl
  rw [em] at hm
  unfold PutR at hp1 hp2
  have hG : ∀ T : ByteArray, T.size ≤ 1000 → ∃ (y0 y1 y2 y3 : Int) (y4 : Bool) (y5 : ByteArray) (k : Bool), (∀ w, Calls Tryz.prog 50 #[.string T] w fun e w' => e = .returned (.tuple #[.agg #[.int .u32 y0, .int .u32 y1, .int .i64 y2, .int .i64 y3, .bool y4, .string y5], .bool k]) ∧ Below w.heap.size w w') ∧ (∀ w, Calls Tryz.prog 51 #[.string T] w fun e w' => e = .returned (.tuple #[.agg #[.int .u32 y0, .int .u32 y1, .int .i64 y2, .int .i64 y3, .bool y4, .string y5], .bool k]) ∧ Below w.heap.size w w') := fun T hT => by
    have g1 := fun w => XGet_any T w (by omega)
    have g2 := fun w => RGetX_any T w (by omega)
    unfold XidR at g1 g2
    exact ⟨_, _, _, _, _, _, _, g1, g2⟩
  cases e1 : putX (XIn.xd ⟨f, t, sl, sn, an, N⟩) with
  | none =>
    rw [e1] at hp1 hp2 hm
    have hga := fun w => XGet_any ⟨#[]⟩ w (by decide)
    unfold XidR at hga
    rw [show getX (⟨#[]⟩ : ByteArray).data.toList = none from rfl] at hga
    exact XidAll_false f t sl sn an nk N s S _ v u l0 m0 w hv hu hC (by decide) (by omega) htx hts hp1 hp2 hm hga hG
  | some l =>
    rw [e1] at hp1 hp2 hm
    have hga := fun w => XGet_any ⟨l.toArray⟩ w (by
      show (l.toArray).size ≤ 1000000
      rw [List.size_toArray]
      have := putX_len e1 (n := 25) (by show N.data.toList.length ≤ 25; have : N.data.toList.length = N.size := by rw [Array.length_toList]; rfl
                                        omega)
      omega)
    unfold XidR at hga
    rw [show getX (⟨l.toArray⟩ : ByteArray).data.toList = some (XIn.xd ⟨f, t, sl, sn, an, N⟩) from getX_putX hu32.1 hu32.2 e1] at hga
    exact XidAll_true f t sl sn an nk N s S _ v u l0 m0 w hv hu hC (by
      show (l.toArray).size ≤ 100
      rw [List.size_toArray]
      have := putX_len e1 (n := 25) (by show N.data.toList.length ≤ 25; have : N.data.toList.length = N.size := by rw [Array.length_toList]; rfl
                                        omega)
      omega) (by omega) htx hts hp1 hp2 hm hga hG
end Go.Proofs.YtcmjdbljdkabpaaGreatDoor
