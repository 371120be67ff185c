/- Of layer 12: L12b, L12c, OutL, TurnL, OutL2, SdArms, TurnB, TurnG, TwoM, TwoP, SwapM, SwapP, SayW, StarP, TwoL. -/
import Derived.Test.YtocjhpaackccpaaGreatDoorL12a
import Derived.Test.YtocjhpaackccpaaGreatDoorN12C
import Derived.Test.YtocjhpaackccpaaGreatDoorN12B
import Derived.Test.YtocjhpaackccpaaGreatDoorN12A
import Derived.Test.YtocjhpaackccpaaGreatDoorM4H
import Derived.Deep.MidRow

set_option linter.all false

namespace Go.Proofs.YtocjhpaackccpaaGreatDoor
open Go.RowKit M

end Go.Proofs.YtocjhpaackccpaaGreatDoor

namespace Go.Proofs.YtocjhpaackccpaaGreatDoor
open Go.RowKit M

def bodyM (i : Nat) : ByteArray := ⟨#[by8 (97 + (i : Int) % 26)]⟩
set_option maxRecDepth 100000 in
theorem Body_any (i : Nat) (w : World) : Calls Tryz.prog 54 #[.int .i64 (i : Int)] w fun e w' => e = .returned (.string (bodyM i)) ∧ Below w.heap.size w w' := by
  obtain ⟨c, hc⟩ : ∃ c : Int, c = 97 + (i : Int) % 26 := ⟨_, rfl⟩
  have hb : 97 ≤ c ∧ c < 123 := by omega
  have e0 : bodyM i = ⟨[by8 c].toArray⟩ := by rw [hc]; rfl
  rw [e0]
  obtain ⟨t, ht⟩ : ∃ t, (i : Int) % 26 = t := ⟨_, rfl⟩
  have ht' : (i : Int).tmod 26 = t := by rw [Int.tmod_eq_emod_of_nonneg (by omega)]; exact ht
  have hct : 97 + t = c := by omega
  have e1 : IntKind.i64.wrap t = t := IntWalk.i64_in _ (by omega)
  have e2 : IntKind.i64.wrap (97 + t) = c := by rw [hct]; exact IntWalk.i64_in _ (by omega)
  have e3 : IntKind.u8.wrap c = c := IntWalk.u8_in _ (by omega)
  have HBC : Hid ((#[.int .u8 c] : Array Value) = (bcs [by8 c]).toArray) := by
    show _ = (#[bc (by8 c)] : Array Value)
    rw [by8_bc (by omega)]
  clear hb e0 hc
  go_enter Tryz.func54, Tryz.ntmps54
  go_wp2_with (first
    | ((with_reducible refine wpList_strB rfl (.tmp 7) rfl (.slice (some ⟨w.heap.size, 0, none⟩) 1 1) [by8 c] rfl ?hu ?_); case hu => (rw [HBC.out]; exact (Own.built w [by8 c] 0 (by omega) (by simp [maxLen])).rds)))
  go_ret
  exact ⟨rfl, bal (bel0 w) _⟩
section
variable {w0 w : World} {v : Value} {r : Nat} {o : Bool} {s : ByteArray}
theorem ITake_hit (h : Sd w0 (InW v ⟨r, o⟩) w) (hr : r < 8) (hz : s.size ≤ 281474976710656) : Calls Tryz.prog 24 #[v, .int .i64 (r : Int), .string s] w fun e w' => e = .returned (.tuple #[.string s, .bool true]) ∧ Sd w0 (InW v ⟨(r + 1) % 8, false⟩) w' := by
  have hh : InM.hit ⟨r, o⟩ (r : Int) = true := decide_eq_true rfl
  have h1 := calls_at (C := fun X => X) (R' := InW v (InM.take ⟨r, o⟩ (r : Int))) Fr.id_ h (fun F hF => ITake_any v ⟨r, o⟩ F (r : Int) s w hF (w64 (by omega)) (fun _ => hz))
  unfold InM.take InM.told at h1
  rw [hh] at h1
  exact h1
theorem ITake_miss {q : Int} (h : Sd w0 (InW v ⟨r, o⟩) w) (hq : (Lit.int .i64 q).wf = true) (hn : ¬ q = (r : Int)) : Calls Tryz.prog 24 #[v, .int .i64 q, .string s] w fun e w' => e = .returned (.tuple #[.string ⟨#[]⟩, .bool false]) ∧ Sd w0 (InW v ⟨r, true⟩) w' := by
  have hh : InM.hit ⟨r, o⟩ q = false := decide_eq_false hn
  have h1 := calls_at (C := fun X => X) (R' := InW v (InM.take ⟨r, o⟩ q)) Fr.id_ h (fun F hF => ITake_any v ⟨r, o⟩ F q s w hF hq (fun h1 => by rw [hh] at h1; cases h1))
  unfold InM.take InM.told at h1
  rw [hh] at h1
  exact h1
theorem INext_S (h : Sd w0 (InW v ⟨r, o⟩) w) : Calls Tryz.prog 26 #[v] w fun e w' => e = .returned (.int .i64 (r : Int)) ∧ Sd w0 (InW v ⟨r, o⟩) w' := calls_look (C := fun X => X) Fr.id_ (InW.stab _ _) h (fun F hF => INext_any v ⟨r, o⟩ F w hF)
theorem IOdd_S (h : Sd w0 (InW v ⟨r, o⟩) w) : Calls Tryz.prog 27 #[v] w fun e w' => e = .returned (.bool o) ∧ Sd w0 (InW v ⟨r, o⟩) w' := calls_look (C := fun X => X) Fr.id_ (InW.stab _ _) h (fun F hF => IOdd_any v ⟨r, o⟩ F w hF)
end
set_option maxRecDepth 100000 in
set_option maxHeartbeats 8000000 in
theorem InOrder_law (a : Value) (l : List Int) (w : World) (ha : RdG 1 w a l.length (ints l)) (hl : ∀ n ∈ l, (Lit.int .i64 n).wf = true) (hC : Codes w) : Calls Tryz.prog 9 #[a] w fun e w' => e = .returned (.bool true) ∧ Below w.heap.size w w' := by
  obtain ⟨A, cap, rfl, hcap, hmax⟩ := ha.shape
  have HA := Lib.hid ha
  have HC := Lib.hid hC
  obtain ⟨L, hL⟩ : ∃ L, L = l.length := ⟨_, rfl⟩
  rw [← hL] at hcap ⊢
  have HL := Lib.hid hL
  have HCAP := Lib.hid hcap
  have HMAX := Lib.hid hmax
  clear ha hC hl hL hcap hmax
  go_enter Tryz.func9, Tryz.ntmps9
  go_wp2_with (first
    | (go_at_call 17; ((with_reducible refine (begun12_any _ HC.out).mono ?_); rintro e w1 ⟨rfl, hb⟩; have HB1 := Lib.hid (hb); clear hb))
    | (go_at_call 23; ((with_reducible refine (INew_any _).mono ?_); rintro e w2 ⟨v, rfl, hd⟩; have HS2 := Lib.hid (Sd.first HB1.out hd); clear hd)))
  go_loopw [5, 6] (fun kv jv wr => ∃ (j k r : Nat) (o : Bool), j ≤ 60 ∧ j ≤ L ∧ k ≤ j ∧ r = k % 8 ∧ jv = .int .i64 (j : Int) ∧ kv = .int .i64 (k : Int) ∧ Sd w (InW v ⟨r, o⟩) wr) (fun _ j _ => (60 - intOf j).toNat)
  case atStart => exact ⟨0, 0, 0, false, by omega, by omega, by omega, rfl, rfl, rfl, HS2.out⟩
  case round =>
    clear HS2 HB1
    obtain ⟨j, k, r, o, hj60, hjL, hkj, hr, rfl, rfl, hs⟩ := hrel
    have HS2 := Lib.hid hs
    clear hs
    have ek : (k : Int).tmod 8 = (r : Int) := by rw [Int.tmod_eq_emod_of_nonneg (by omega)]; omega
    have ek2 : (k : Int) % 8 = (r : Int) := by omega
    have HR : Hid (r < 8) := by show r < 8; omega
    have HRK := Lib.hid hr
    clear hr
    by_cases hlt : j < L
    · have t1 : decide ((j : Int) < (L : Int)) = true := decide_eq_true (by omega)
      by_cases h60 : j < 60
      · have t2 : decide ((j : Int) < 60) = true := decide_eq_true (by omega)
        obtain ⟨x, hx⟩ : ∃ x, l[j]'(by rw [← HL.out]; exact hlt) = x := ⟨_, rfl⟩
        obtain ⟨b, off, rfl, hc⟩ := (HA.out.below HS2.out.bel0).one (i := j) (u := .int .i64 x) (by unfold ints; simp [← hx]) (by rw [← HL.out]; exact hlt)
        have t3 : (j : Int) < (L : Int) := by omega
        have e4 : IntKind.i64.wrap ((j : Int) + 1) = (j : Int) + 1 := IntWalk.i64_in _ (by omega)
        have a1 := Int.lt_tmod_of_pos x (show (0 : Int) < 8 by decide)
        have a2 := Int.tmod_lt_of_pos x (show (0 : Int) < 8 by decide)
        obtain ⟨t, ht⟩ : ∃ t, x.tmod 8 = t := ⟨_, rfl⟩
        rw [ht] at a1 a2
        have e1 : IntKind.i64.wrap t = t := IntWalk.i64_in _ (by omega)
        have e2 : IntKind.i64.wrap (t + 8) = t + 8 := IntWalk.i64_in _ (by omega)
        obtain ⟨Q, hQ⟩ : ∃ Q, t % 8 = Q := ⟨_, rfl⟩
        have e3 : (t + 8).tmod 8 = Q := by rw [Int.tmod_eq_emod_of_nonneg (by omega)]; omega
        have e3' : (t + 8) % 8 = Q := by omega
        have e5 : IntKind.i64.wrap Q = Q := IntWalk.i64_in _ (by omega)
        have HBO := Lib.hid (Body_any j)
        have hq8 : 0 ≤ Q ∧ Q < 8 := by omega
        have HZB : Hid ((bodyM j).size ≤ 281474976710656) := by show (1 : Nat) ≤ 281474976710656; decide
        clear hx a1 a2
        generalize bodyM j = bj at HBO HZB
        by_cases hqr : Q = (r : Int)
        · subst hqr
          obtain ⟨r', hr'⟩ : ∃ r', r' = (r + 1) % 8 := ⟨_, rfl⟩
          have ek3 : ((k : Int) + 1).tmod 8 = (r' : Int) := by have := HRK.out; rw [Int.tmod_eq_emod_of_nonneg (by omega)]; omega
          have ek4 : ((k : Int) + 1) % 8 = (r' : Int) := by have := HRK.out; omega
          have e6 : IntKind.i64.wrap ((k : Int) + 1) = (k : Int) + 1 := IntWalk.i64_in _ (by omega)
          have e7 : IntKind.i64.wrap (r' : Int) = (r' : Int) := IntWalk.i64_in _ (by omega)
          have HR' : Hid ((r + 1) % 8 = r') := hr'.symm
          have HK' : Hid (r' = (k + 1) % 8) := by show _ = _; have := HRK.out; omega
          clear hr' hq8
          go_wp2_with (first
            | (go_at_call 54; first
              | ((with_reducible refine (HBO.out _).mono ?_); rintro e w3 ⟨rfl, hb⟩; have HS3 := Lib.hid (HS2.out.keep (InW.stab _ _) hb); clear hb)
              | ((with_reducible refine (HBO.out _).mono ?_); rintro e w5 ⟨rfl, hb⟩; have HS5 := Lib.hid (HS4.out.keep (InW.stab _ _) hb); clear hb))
            | (go_at_call 24; ((with_reducible refine (ITake_hit HS3.out HR.out HZB.out).mono ?_); rintro e w4 ⟨rfl, hs⟩; rw [HR'.out] at hs; have HS4 := Lib.hid hs; clear hs))
            | (go_at_call 26; ((with_reducible refine (INext_S HS5.out).mono ?_); rintro e w6 ⟨rfl, hs⟩; have HS6 := Lib.hid hs; clear hs))
            | (go_at_call 27; ((with_reducible refine (IOdd_S HS6.out).mono ?_); rintro e w7 ⟨rfl, hs⟩; have HS7 := Lib.hid hs; clear hs)))
          go_roundw
          case rel => exact ⟨j + 1, k + 1, r', _, by omega, by omega, by omega, HK'.out, by go_num, by go_num, HS7.out⟩
          case measure => simp [intOf] <;> omega
        · have hb : (Q == (r : Int)) = false := beq_eq_false_iff_ne.2 hqr
          have HNE := Lib.hid hqr
          have HQW : Hid ((Lit.int .i64 Q).wf = true) := w64 (by omega)
          have e7 : IntKind.i64.wrap (r : Int) = (r : Int) := IntWalk.i64_in _ (by have := HR.out; omega)
          clear hqr hq8
          go_wp2_with (first
            | (go_at_call 54; ((with_reducible refine (HBO.out _).mono ?_); rintro e w3 ⟨rfl, hb⟩; have HS3 := Lib.hid (HS2.out.keep (InW.stab _ _) hb); clear hb))
            | (go_at_call 24; ((with_reducible refine (ITake_miss HS3.out HQW.out HNE.out).mono ?_); rintro e w4 ⟨rfl, hs⟩; have HS4 := Lib.hid hs; clear hs))
            | (go_at_call 26; ((with_reducible refine (INext_S HS4.out).mono ?_); rintro e w5 ⟨rfl, hs⟩; have HS5 := Lib.hid hs; clear hs))
            | (go_at_call 27; ((with_reducible refine (IOdd_S HS5.out).mono ?_); rintro e w6 ⟨rfl, hs⟩; have HS6 := Lib.hid hs; clear hs)))
          go_roundw
          case rel => exact ⟨j + 1, k, r, _, by omega, by omega, by omega, HRK.out, by go_num, rfl, HS6.out⟩
          case measure => simp [intOf] <;> omega
      · have t2 : decide ((j : Int) < 60) = false := decide_eq_false (by omega)
        have e7 : IntKind.i64.wrap (r : Int) = (r : Int) := IntWalk.i64_in _ (by have := HR.out; omega)
        go_wp2_with (first
          | (go_at_call 26; ((with_reducible refine (INext_S HS2.out).mono ?_); rintro e w3 ⟨rfl, hs⟩; have HS3 := Lib.hid hs; clear hs)))
        go_ret
        exact ⟨by simp, HS3.out.bel0⟩
    · have t1 : decide ((j : Int) < (L : Int)) = false := decide_eq_false (by omega)
      have e7 : IntKind.i64.wrap (r : Int) = (r : Int) := IntWalk.i64_in _ (by have := HR.out; omega)
      go_wp2_with (first
        | (go_at_call 26; ((with_reducible refine (INext_S HS2.out).mono ?_); rintro e w3 ⟨rfl, hs⟩; have HS3 := Lib.hid hs; clear hs)))
      go_ret
      exact ⟨by simp, HS3.out.bel0⟩
end Go.Proofs.YtocjhpaackccpaaGreatDoor

namespace Go.Proofs.YtocjhpaackccpaaGreatDoor
open Go.RowKit M

section
variable {w0 w : World} {v : Value} {m m' : OutM}
theorem ONew_S {n : Int} {W : Nat} (hn : n = (W : Int)) (hW : 1 ≤ W ∧ W ≤ 7) (hb : Below w0.heap.size w0 w) : Calls Tryz.prog 53 #[.int .i64 n] w fun e w' => ∃ v, e = .returned v ∧ Sd w0 (OutW v ⟨W, 0, [], 0⟩) w' := by
  subst hn
  refine (ONew_any (W : Int) w (w64 (by omega))).mono ?_
  rintro e w' ⟨v, rfl, hd⟩
  have e1 : OutM.new (W : Int) = ⟨W, 0, [], 0⟩ := by
    unfold OutM.new
    rw [show (max 1 (min (W : Int) 7)).toNat = W by omega]
  rw [e1] at hd
  exact ⟨v, rfl, Sd.first hb hd⟩
end
end Go.Proofs.YtocjhpaackccpaaGreatDoor

namespace Go.Proofs.YtocjhpaackccpaaGreatDoor
open Go.RowKit M

theorem B2i_any (b : Bool) (w : World) : Calls Tryz.prog 55 #[.bool b] w fun e w' => e = .returned (.int .i64 (if b then 1 else 0)) ∧ w' = w := by
  cases b
  · go_enter Tryz.func55, Tryz.ntmps55
    go_wp2
    go_ret
    exact ⟨rfl, rfl⟩
  · go_enter Tryz.func55, Tryz.ntmps55
    go_wp2
    go_ret
    exact ⟨rfl, rfl⟩
theorem exec_load_mid {P : Program} {oi : Oper} {a : Act} {W : World} (ty : TypeId) (x : Operand) (ho : oi.op = .load ty x) (b o : Nat) (hx : a.eval x = .pointer (some ⟨b, o, none⟩)) (cs : List Value) (d : TypeDesc) (hc : W.rangeAt b o cs)
    (hu : P.underlying ty = some d) (hd : d.isRow = true) (hi : (P.info? ty).map (·.size) = some cs.length) : (execOp a.eval oi).run P W = .ok (.value (.agg cs.toArray)) W := by
  unfold execOp
  simp only [ho, hx, Instr.loadAt, Instr.sureAddr, Sem.run_bind, Sem.run_pure, Result.andThen_ok, run_loadVar_mid W b o ty cs d hc hu hd hi]
theorem SlW.addr0 {k n c : Nat} {A : Option Addr} {xs : List Value} {F : List Nat} {w : World} (h : SlW k (.slice A n c) n xs w F) (hn : 0 < n) : ∃ b off, A = some ⟨b, off, none⟩ := by
  obtain ⟨b, off, cap, e, _, _⟩ := h.addr hn
  injection e with e
  exact ⟨b, off, e⟩
/-- The i-th plain frame of a slice. -/
theorem SlW.plain {n c b off i : Nat} {l : List PIn} {F : List Nat} {w : World} (h : SlW 9 (.slice (some ⟨b, off, none⟩) n c) n (plcs l) w F) {p : PIn} (hp : l[i]? = some p) : w.rangeAt b (off + i * 9) (pcs p) := by
  intro j u hu
  rw [Nat.add_assoc]
  refine h.cell ?_
  have hi := (List.getElem?_eq_some_iff.1 hp)
  have hj : j < 9 := (List.getElem?_eq_some_iff.1 hu).1
  unfold plcs
  rw [flat_at (f := pcs) (k := 9) (fun _ => rfl) l i j hi.1 hj, hi.2]
  exact hu
theorem range_below {w w' : World} {b o : Nat} {cs : List Value} (h : w.rangeAt b o cs) (hb : Below w.heap.size w w') : w'.rangeAt b o cs := fun j v hv => (hb.cell (p := ⟨b, o + j, none⟩) (World.block_lt_of_cell? _ _ (h j v hv))).trans (h j v hv)
section
variable {w0 w : World} {v : Value} {m m' : TurnM} {C : Obj → Obj}
theorem TnNew_S {role b s wi z wa : Int} (hr : role = 1 ∨ role = 2) (hwi : (Lit.int .i64 wi).wf = true) (hz : (Lit.int .i64 z).wf = true) (hm : m = TurnM.new role wi z) (hb : Below w0.heap.size w0 w) : Calls Tryz.prog 28 #[.int .i64 role, .agg #[.int .i64 b, .int .i64 s, .int .i64 wi, .int .i64 z, .int .i64 wa]] w fun e w' => ∃ a : Addr, e = .returned (.pointer (some a)) ∧ Sd w0 (TurnW (.pointer (some a)) m) w' := by
  subst hm
  refine (TnNew_any role b s wi z wa w hr hwi hz).mono ?_
  rintro e w' ⟨v, rfl, hd⟩
  have hs := Sd.first hb hd
  obtain ⟨_, h0⟩ := hs.get (C := fun X => X) Fr.id_
  obtain ⟨a, rfl⟩ := h0.ptr
  exact ⟨a, rfl, hs⟩
theorem TnNew_add {H : Obj} {role b s wi z wa : Int} (hH : Stab H) (hr : role = 1 ∨ role = 2) (hwi : (Lit.int .i64 wi).wf = true) (hz : (Lit.int .i64 z).wf = true) (hm : m = TurnM.new role wi z) (h : Sd w0 H w) : Calls Tryz.prog 28 #[.int .i64 role, .agg #[.int .i64 b, .int .i64 s, .int .i64 wi, .int .i64 z, .int .i64 wa]] w fun e w' => ∃ a : Addr, e = .returned (.pointer (some a)) ∧ Sd w0 (Star H (TurnW (.pointer (some a)) m)) w' := by
  subst hm
  refine (TnNew_any role b s wi z wa w hr hwi hz).mono ?_
  rintro e w' ⟨v, rfl, hd⟩
  have hs := h.add hH hd
  obtain ⟨_, h0⟩ := hs.get (C := fun X => Star H X) (Fr.r hH Fr.id_)
  obtain ⟨a, rfl⟩ := h0.ptr
  exact ⟨a, rfl, hs⟩
theorem TnPut_C (hC : Fr C) {s : ByteArray} {e : Int} (hs : s.size ≤ maxLen) (he : e = m.putE s) (hm : m' = m.put s) (h : Sd w0 (C (TurnW v m)) w) : Calls Tryz.prog 31 #[v, .string s] w fun e' w' => e' = .returned (.int .i64 e) ∧ Sd w0 (C (TurnW v m')) w' := by
  subst he; subst hm
  exact calls_at (R' := TurnW v (m.put s)) hC h (fun F hF => TnPut_any v m F s w hF hs)
theorem TnGo_C (hC : Fr C) {n : Nat} {xs : List Value} (hn : n = m.says.length) (hx : xs = plcs m.says) (hm : m' = m.go) (h : Sd w0 (C (TurnW v m)) w) : Calls Tryz.prog 34 #[v] w fun e w' => ∃ A c, e = .returned (.slice A n c) ∧ (n ≤ c ∧ c ≤ maxLen) ∧ Sd w0 (C (Star (TurnW v m') (SlW 9 (.slice A n c) n xs))) w' := by
  subst hn; subst hx; subst hm
  obtain ⟨F, hF, hu⟩ := h.upd hC
  refine (TnGo_any v m F w hF).mono ?_
  rintro e w' ⟨a, rfl, hd⟩
  have hd' := hd
  obtain ⟨F', ⟨F2, F3, rfl, k1, k2, _⟩, _⟩ := hd'
  obtain ⟨A, c, rfl, e1, e2⟩ := k2.shape
  exact ⟨A, c, rfl, ⟨e1, e2⟩, hu hd⟩
theorem TnTake_C (hC : Fr C) {p : PIn} {s : ByteArray} {ok : Bool} (hp : p.okT) (hs : s = m.told p) (hok : ok = m.tells p) (hm : m' = m.take p) (h : Sd w0 (C (TurnW v m)) w) : Calls Tryz.prog 37 #[v, p.val] w fun e w' => e = .returned (.tuple #[.string s, .bool ok]) ∧ Sd w0 (C (TurnW v m')) w' := by
  subst hs; subst hok; subst hm
  exact calls_at (R' := TurnW v (m.take p)) hC h (fun F hF => TnTake_any v m F p w hF hp.1 (fun _ => hp.2))
theorem TnTake_no (hC : Fr C) {p : PIn} {s : ByteArray} {ok : Bool} (hp : p.ok) (hh : m.hears p = false) (hs : s = m.told p) (hok : ok = m.tells p) (hm : m' = m.take p) (h : Sd w0 (C (TurnW v m)) w) : Calls Tryz.prog 37 #[v, p.val] w fun e w' => e = .returned (.tuple #[.string s, .bool ok]) ∧ Sd w0 (C (TurnW v m')) w' := by
  subst hs; subst hok; subst hm
  exact calls_at (R' := TurnW v (m.take p)) hC h (fun F hF => TnTake_any v m F p w hF hp (fun h1 => by rw [hh] at h1; cases h1))
theorem TnLate_C (hC : Fr C) {b : Bool} (hb : b = m.lates) (hm : m' = m.late) (h : Sd w0 (C (TurnW v m)) w) : Calls Tryz.prog 39 #[v] w fun e w' => e = .returned (.bool b) ∧ Sd w0 (C (TurnW v m')) w' := by
  subst hb; subst hm
  exact calls_at (R' := TurnW v m.late) hC h (fun F hF => TnLate_any v m F w hF)
theorem TnSwap_C (hC : Fr C) (hm : m' = m.swap) (h : Sd w0 (C (TurnW v m)) w) : Calls Tryz.prog 41 #[v] w fun e w' => e = .returned (.tuple #[]) ∧ Sd w0 (C (TurnW v m')) w' := by
  subst hm
  exact calls_at (R' := TurnW v m.swap) hC h (fun F hF => TnSwap_any v m F w hF)
theorem TnMine_C (hC : Fr C) (hS : Stab (C (TurnW v m))) {b : Bool} (hb : b = m.mine) (h : Sd w0 (C (TurnW v m)) w) : Calls Tryz.prog 43 #[v] w fun e w' => e = .returned (.bool b) ∧ Sd w0 (C (TurnW v m)) w' := by
  subst hb
  exact calls_look hC hS h (fun F hF => TnMine_any v m F w hF)
theorem TnRole_C (hC : Fr C) (hS : Stab (C (TurnW v m))) {n : Int} (hb : n = m.role) (h : Sd w0 (C (TurnW v m)) w) : Calls Tryz.prog 44 #[v] w fun e w' => e = .returned (.int .i64 n) ∧ Sd w0 (C (TurnW v m)) w' := by
  subst hb
  exact calls_look hC hS h (fun F hF => TnRole_any v m F w hF)
theorem TnLeft_C (hC : Fr C) (hS : Stab (C (TurnW v m))) {n : Int} (hb : n = (m.left : Int)) (h : Sd w0 (C (TurnW v m)) w) : Calls Tryz.prog 45 #[v] w fun e w' => e = .returned (.int .i64 n) ∧ Sd w0 (C (TurnW v m)) w' := by
  subst hb
  exact calls_look hC hS h (fun F hF => TnLeft_any v m F w hF)
end
end Go.Proofs.YtocjhpaackccpaaGreatDoor

namespace Go.Proofs.YtocjhpaackccpaaGreatDoor
open Go.RowKit M

section
variable {w0 w : World} {v : Value} {m m' : OutM} {C : Obj → Obj}
theorem OPut_C (hC : Fr C) {s : ByteArray} {e : Int} (hs : s.size ≤ 1000000) (he : e = if m.full then 3 else 0) (hm : m' = m.put s) (h : Sd w0 (C (OutW v m)) w) : Calls Tryz.prog 49 #[v, .string s] w fun e' w' => e' = .returned (.int .i64 e) ∧ Sd w0 (C (OutW v m')) w' := by
  subst he; subst hm
  exact calls_at (R' := OutW v (m.put s)) hC h (fun F hF => OPut_any v m F s w hF hs)
theorem OBurst_C (hC : Fr C) {k : Nat} {ns bs : List Value} (hk : k = m.k) (hn : ns = ints m.ns) (hb : bs = strg m.bs) (hm : m' = m.burst) (h : Sd w0 (C (OutW v m)) w) : Calls Tryz.prog 47 #[v] w fun e w' => ∃ A c B d, e = .returned (.tuple #[.slice A k c, .slice B k d]) ∧ (k ≤ c ∧ c ≤ maxLen) ∧ (k ≤ d ∧ d ≤ maxLen) ∧ Sd w0 (C (Star (OutW v m') (Star (SlW 1 (.slice A k c) k ns) (SlW 1 (.slice B k d) k bs)))) w' := by
  subst hk; subst hn; subst hb; subst hm
  obtain ⟨F, hF, hu⟩ := h.upd hC
  refine (OBurst_any v m F w hF).mono ?_
  rintro e w' ⟨a, b, rfl, hd⟩
  have hd' := hd
  obtain ⟨F', ⟨F2, F3, rfl, k1, ⟨F4, F5, rfl, k2, k3, _⟩, _⟩, _⟩ := hd'
  obtain ⟨A, c, rfl, e1, e2⟩ := k2.shape
  obtain ⟨B, d, rfl, e3, e4⟩ := k3.shape
  exact ⟨A, c, B, d, rfl, ⟨e1, e2⟩, ⟨e3, e4⟩, hu hd⟩
theorem OAck_C (hC : Fr C) {nr n : Int} {ok : Bool} (hw : (Lit.int .i64 nr).wf = true) (hn : n = (m.ackN nr : Int)) (hok : ok = m.acks nr) (hm : m' = m.ack nr) (h : Sd w0 (C (OutW v m)) w) : Calls Tryz.prog 48 #[v, .int .i64 nr] w fun e w' => e = .returned (.tuple #[.int .i64 n, .bool ok]) ∧ Sd w0 (C (OutW v m')) w' := by
  subst hn; subst hok; subst hm
  exact calls_at (R' := OutW v (m.ack nr)) hC h (fun F hF => OAck_any v m F nr w hF hw)
theorem OLen_C (hC : Fr C) (hS : Stab (C (OutW v m))) {n : Int} (hn : n = (m.l.length : Int)) (h : Sd w0 (C (OutW v m)) w) : Calls Tryz.prog 50 #[v] w fun e w' => e = .returned (.int .i64 n) ∧ Sd w0 (C (OutW v m)) w' := by
  subst hn
  exact calls_look hC hS h (fun F hF => OLen_any v m F w hF)
theorem OFirst_C (hC : Fr C) (hS : Stab (C (OutW v m))) {n : Int} (hn : n = (m.first : Int)) (h : Sd w0 (C (OutW v m)) w) : Calls Tryz.prog 51 #[v] w fun e w' => e = .returned (.int .i64 n) ∧ Sd w0 (C (OutW v m)) w' := by
  subst hn
  exact calls_look hC hS h (fun F hF => OFirst_any v m F w hF)
theorem OWin_C (hC : Fr C) (hS : Stab (C (OutW v m))) {n : Int} (hn : n = (m.win : Int)) (h : Sd w0 (C (OutW v m)) w) : Calls Tryz.prog 52 #[v] w fun e w' => e = .returned (.int .i64 n) ∧ Sd w0 (C (OutW v m)) w' := by
  subst hn
  exact calls_look hC hS h (fun F hF => OWin_any v m F w hF)
theorem Sd.drewN {H : Obj} (h : Sd w0 H w) (hH : Stab H) (n : Nat) : Sd w0 H (w.drewN n) := h.keep hH (below_drewN (Below.refl _ _) n)
end
def bodies (n : Nat) : List ByteArray := (List.range n).map bodyM
theorem bodies_length (n : Nat) : (bodies n).length = n := by simp [bodies]
theorem bodies_at {n j : Nat} (h : j < n) : (bodies n)[j]? = some (bodyM j) := by simp [bodies, h]
/-- An out in which `done` of n numbered texts are acknowledged, k of the others sent. -/
def bodO (W n done k : Nat) : OutM := ⟨W, done % 8, (bodies n).drop done, k⟩
theorem bodO_len (W n done k : Nat) : (bodO W n done k).l.length = n - done := by simp [bodO, bodies_length]
theorem bodO_k (W n done k : Nat) : (bodO W n done k).k = min W (n - done) := by unfold OutM.k; rw [bodO_len]; rfl
theorem bodO_put {W n done k : Nat} (h : n - done < 8) (hd : done ≤ n) : bodO W (n + 1) done k = (bodO W n done k).put (bodyM n) ∧ (0 : Int) = if (bodO W n done k).full then 3 else 0 := by
  have hf : (bodO W n done k).full = false := by unfold OutM.full; rw [bodO_len]; exact decide_eq_false (by omega)
  unfold OutM.put
  rw [hf]
  refine ⟨?_, rfl⟩
  show (⟨W, done % 8, (bodies (n + 1)).drop done, k⟩ : OutM) = ⟨W, done % 8, (bodies n).drop done ++ [bodyM n], k⟩
  have e : bodies (n + 1) = bodies n ++ [bodyM n] := by unfold bodies; rw [List.range_succ, List.map_append]; rfl
  rw [e, List.drop_append_of_le_length (by rw [bodies_length]; exact hd)]
theorem bodO_burst {W n done k K : Nat} (hK : K = min W (n - done)) (hk : k ≤ K) : K = (bodO W n done k).k ∧ bodO W n done K = (bodO W n done k).burst := by
  have h := bodO_k W n done k
  refine ⟨by rw [h]; exact hK, ?_⟩
  unfold OutM.burst
  rw [h, ← hK]
  show _ = (⟨W, done % 8, (bodies n).drop done, max k K⟩ : OutM)
  rw [Nat.max_eq_right hk]
  rfl
theorem bodO_ns {W n done k j : Nat} (hj : j < min W (n - done)) : (ints (bodO W n done k).ns)[j]? = some (.int .i64 (((done + j) % 8 : Nat) : Int)) := by
  unfold ints OutM.ns
  rw [bodO_k]
  have e : (bodO W n done k).first = done % 8 := rfl
  rw [e]
  simp only [List.map_map, List.getElem?_map, List.getElem?_range hj, Option.map_some, Function.comp]
  congr 3
  omega
theorem bodO_bs {W n done k j : Nat} (hj : j < min W (n - done)) : (strg (bodO W n done k).bs)[j]? = some (.string (bodyM (done + j))) := by
  unfold strg OutM.bs
  rw [bodO_k]
  show ((((bodies n).drop done).take (min W (n - done))).map Value.string)[j]? = _
  rw [List.getElem?_map, List.getElem?_take_of_lt hj, List.getElem?_drop, bodies_at (by omega)]
  rfl
theorem bodO_ack {W n done k r : Nat} (hr : r ≤ k) (hr8 : r < 8) (hd : done ≤ n) : true = (bodO W n done k).acks (((done + r) % 8 : Nat) : Int) ∧ (r : Int) = ((bodO W n done k).ackN (((done + r) % 8 : Nat) : Int) : Int) ∧ bodO W n (done + r) (k - r) = (bodO W n done k).ack (((done + r) % 8 : Nat) : Int) := by
  have hd : (bodO W n done k).dif (((done + r) % 8 : Nat) : Int) = r := by
    unfold OutM.dif
    show (((((done + r) % 8 : Nat) : Int) - ((done % 8 : Nat) : Int)) % 8).toNat = r
    omega
  have ha : (bodO W n done k).acks (((done + r) % 8 : Nat) : Int) = true := by
    unfold OutM.acks
    rw [hd]
    exact decide_eq_true ⟨by omega, by omega, hr⟩
  refine ⟨ha.symm, ?_, ?_⟩
  · unfold OutM.ackN
    rw [ha, if_pos rfl, hd]
  · unfold OutM.ack
    rw [ha, if_pos rfl, hd]
    show _ = (⟨W, _, ((bodies n).drop done).drop r, k - r⟩ : OutM)
    rw [List.drop_drop, Int.toNat_natCast]
    rfl
end Go.Proofs.YtocjhpaackccpaaGreatDoor

namespace Go.Proofs.YtocjhpaackccpaaGreatDoor
open Go.RowKit M

section
variable {P : Program} {ops : Array Oper} {rest : List Oper} {o : Oper} {a : Act} {w0 w : World} {Q : Exit → Act → World → Prop} {C : Obj → Obj} {g : Nat} {cs : Array Value} {t : TypeId}
theorem Sd.at_ (hC : Fr C) (h : Sd w0 (C (CellW g cs t)) w) : w.heap[g]? = some (.cells cs t (0, 0)) := by
  obtain ⟨_, -, h1⟩ := h.get hC
  exact h1
theorem Sd.put_ (hC : Fr C) (h : Sd w0 (C (CellW g cs t)) w) {w' : World} {cs' : Array Value} (hg : w.grownBy w' (some g)) (hh : w'.heap[g]? = some (.cells cs' t (0, 0))) : Sd w0 (C (CellW g cs' t)) w' := by
  obtain ⟨F, hF, hu⟩ := h.upd hC
  exact hu (hF.put hg hh)
/-- One cell stored. -/
theorem wpList_storeSd (hC : Fr C) (h : Sd w0 (C (CellW g cs t)) w) (hgd : o.guard = none) (ty : TypeId) (x y : Operand) (ho : o.op = .store ty x y) (k : Nat) (v : Value) (hx : a.eval x = .pointer (some ⟨g, k, none⟩)) (hy : a.eval y = v) (hk : k < cs.size)
    (hrun : ∀ w, (∃ u, w.cell? ⟨g, k, none⟩ = some u) → w.frozen? ⟨g, k, none⟩ = false → (Instr.storeAt ty (.pointer (some ⟨g, k, none⟩)) v).run P w = .ok () (w.setCell ⟨g, k, none⟩ v))
    (hn : ∀ w', Sd w0 (C (CellW g (cs.setIfInBounds k v) t)) w' → wpList P ops Q rest (a.put o.dst undef) w') : wpList P ops Q (o :: rest) a w :=
  wpList_store1 hgd ty x y ho g k v hx hy t cs (h.at_ hC) hk hrun (fun w' hg hh => hn w' (h.put_ hC hg hh))
/-- A whole struct stored. -/
theorem wpList_storeBSd (hC : Fr C) (h : Sd w0 (C (CellW g cs t)) w) (hgd : o.guard = none) (ty : TypeId) (x y : Operand) (ho : o.op = .store ty x y) (cells : Array Value) (hx : a.eval x = .pointer (some ⟨g, 0, none⟩)) (hy : a.eval y = .agg cells)
    (hsz : (P.info? ty).map (·.size) = some cells.size) (hold : cs.size = cells.size) (h1 : cells.all (·.oneCell') = true)
    (hn : ∀ w', Sd w0 (C (CellW g cells t)) w' → wpList P ops Q rest (a.put o.dst undef) w') : wpList P ops Q (o :: rest) a w :=
  wpList_storeB hgd ty x y ho g cells hx hy t cs (h.at_ hC) hsz hold h1 (fun w' hg _ hh => hn w' (h.put_ hC hg hh))
/-- A whole struct loaded. -/
theorem wpList_loadSd (hC : Fr C) (h : Sd w0 (C (CellW g cs t)) w) (hgd : o.guard = none) (ty : TypeId) (x : Operand) (ho : o.op = .load ty x) (hx : a.eval x = .pointer (some ⟨g, 0, none⟩)) (d : TypeDesc)
    (hu : P.underlying ty = some d) (hd : (match d with | .struct _ | .array _ _ => true | _ => false) = true) (hi : (P.info? ty).map (·.size) = some cs.size)
    (hn : wpList P ops Q rest (a.put o.dst (.agg cs)) w) : wpList P ops Q (o :: rest) a w :=
  wpList_loadB hgd ty x ho g hx t cs (h.at_ hC) d hu hd hi hn
end
theorem Sd.two_ {w w1 w2 : World} {A B : Obj} (hA : Stab A) (h1 : Done w [] A w1) (h2 : Done w1 [] B w2) : Sd w (Star A B) w2 := (Sd.first (Below.refl _ _) h1).add hA h2
end Go.Proofs.YtocjhpaackccpaaGreatDoor

namespace Go.Proofs.YtocjhpaackccpaaGreatDoor
open Go.RowKit M

/-- A primary with `done` of n numbered texts acknowledged, k of the others sent. -/
def bodT (mine : Bool) (W n done k : Nat) : TurnM := ⟨1, 8, mine, bodO W n done k, ⟨0, false⟩⟩
theorem bodT_new {wi : Int} {W : Nat} (hW : (max 1 (min wi 7)).toNat = W) : TurnM.new 1 wi 8 = bodT true W 0 0 0 := by
  subst hW
  rfl
theorem bodT_put {W n : Nat} {mine : Bool} (h : n < 8) : bodT mine W (n + 1) 0 0 = (bodT mine W n 0 0).put (bodyM n) ∧ (0 : Int) = (bodT mine W n 0 0).putE (bodyM n) := by
  obtain ⟨h1, h2⟩ := bodO_put (W := W) (n := n) (done := 0) (k := 0) (by omega) (by omega)
  have hs : ¬ ((8 : Int) < ((bodyM n).size : Int)) := by show ¬ ((8 : Int) < ((1 : Nat) : Int)); omega
  unfold TurnM.put TurnM.putE
  show _ = (if (8 : Int) < ((bodyM n).size : Int) then _ else _) ∧ _ = (if (8 : Int) < ((bodyM n).size : Int) then _ else (if (bodO W n 0 0).full then 3 else 0))
  rw [if_neg hs, if_neg hs]
  refine ⟨?_, h2⟩
  unfold bodT
  rw [h1]
theorem bodT_go {W n K : Nat} (hK : K = min W n) : bodT false W n 0 K = (bodT true W n 0 0).go := by
  obtain ⟨_, h2⟩ := bodO_burst (W := W) (n := n) (done := 0) (k := 0) (K := K) hK (Nat.zero_le _)
  show bodT false W n 0 K = (⟨1, 8, false, (bodO W n 0 0).burst, ⟨0, false⟩⟩ : TurnM)
  rw [← h2]
  rfl
/-- How much is said. -/
def saidN (K : Nat) : Nat := if K = 0 then 1 else K
theorem bodT_says {W n K : Nat} (hK : K = min W n) : saidN K = (bodT true W n 0 0).says.length ∧ ∀ j, j < saidN K → ∃ p, (bodT true W n 0 0).says[j]? = some p ∧ p.kind = (if K = 0 then 2 else 1) := by
  have hk : (bodT true W n 0 0).out.k = K := by rw [hK]; exact bodO_k W n 0 0
  have hs : (bodT true W n 0 0).says = if K = 0 then [(bodT true W n 0 0).sayS] else (List.range K).map (bodT true W n 0 0).sayI := by
    unfold TurnM.says
    rw [hk]
    rfl
  rw [hs]
  unfold saidN
  by_cases h0 : K = 0
  · rw [if_pos h0, if_pos h0, if_pos h0]
    refine ⟨rfl, fun j hj => ?_⟩
    obtain rfl : j = 0 := by omega
    exact ⟨_, rfl, rfl⟩
  · rw [if_neg h0, if_neg h0, if_neg h0]
    refine ⟨by simp, fun j hj => ⟨(bodT true W n 0 0).sayI j, by simp [hj], rfl⟩⟩
theorem bodT_takeS {W n K r : Nat} (hr : r ≤ K) (hr8 : r < 8) (hn : K ≤ n) : (TurnM.tells (bodT false W n 0 K) ⟨0, 0, false, 2, 0, (r : Int), 0, true, ⟨#[]⟩⟩ = false ∧ TurnM.told (bodT false W n 0 K) ⟨0, 0, false, 2, 0, (r : Int), 0, true, ⟨#[]⟩⟩ = ⟨#[]⟩ ∧ TurnM.take (bodT false W n 0 K) ⟨0, 0, false, 2, 0, (r : Int), 0, true, ⟨#[]⟩⟩ = bodT true W n r (K - r)) := by
  obtain ⟨_, _, h3⟩ := bodO_ack (W := W) (n := n) (done := 0) (k := K) (r := r) hr hr8 (Nat.zero_le _)
  rw [Nat.zero_add, Nat.mod_eq_of_lt hr8] at h3
  have hh : TurnM.hears (bodT false W n 0 K) ⟨0, 0, false, 2, 0, (r : Int), 0, true, ⟨#[]⟩⟩ = true := decide_eq_true ⟨by show (1 : Int) ≤ 2; decide, by show (2 : Int) ≤ 2; decide, rfl, by show (0 : Int) ≤ (r : Int); omega, by show (r : Int) ≤ 7; omega, by show (0 : Int) ≤ 0; decide, by show (0 : Int) ≤ 7; decide⟩
  have ht : TurnM.tells (bodT false W n 0 K) ⟨0, 0, false, 2, 0, (r : Int), 0, true, ⟨#[]⟩⟩ = false := by unfold TurnM.tells; rw [hh]; rfl
  refine ⟨ht, by unfold TurnM.told; rw [ht]; rfl, ?_⟩
  unfold TurnM.take
  rw [hh]
  show (⟨1, 8, true, (bodO W n 0 K).ack (r : Int), ⟨0, false⟩⟩ : TurnM) = _
  rw [← h3]
  rfl
theorem bodT_takeI {W n K r : Nat} {s : ByteArray} (hr : r ≤ K) (hr8 : r < 8) (hn : K ≤ n) : (TurnM.tells (bodT false W n 0 K) ⟨0, 0, false, 1, 0, (r : Int), 0, true, s⟩ = true ∧ TurnM.told (bodT false W n 0 K) ⟨0, 0, false, 1, 0, (r : Int), 0, true, s⟩ = s ∧ TurnM.take (bodT false W n 0 K) ⟨0, 0, false, 1, 0, (r : Int), 0, true, s⟩ = ⟨1, 8, true, bodO W n r (K - r), ⟨1, false⟩⟩) := by
  obtain ⟨_, _, h3⟩ := bodO_ack (W := W) (n := n) (done := 0) (k := K) (r := r) hr hr8 (Nat.zero_le _)
  rw [Nat.zero_add, Nat.mod_eq_of_lt hr8] at h3
  have hh : TurnM.hears (bodT false W n 0 K) ⟨0, 0, false, 1, 0, (r : Int), 0, true, s⟩ = true := decide_eq_true ⟨by show (1 : Int) ≤ 1; decide, by show (1 : Int) ≤ 2; decide, rfl, by show (0 : Int) ≤ (r : Int); omega, by show (r : Int) ≤ 7; omega, by show (0 : Int) ≤ 0; decide, by show (0 : Int) ≤ 7; decide⟩
  have ht : TurnM.tells (bodT false W n 0 K) ⟨0, 0, false, 1, 0, (r : Int), 0, true, s⟩ = true := by unfold TurnM.tells; rw [hh]; rfl
  refine ⟨ht, by unfold TurnM.told; rw [ht]; rfl, ?_⟩
  unfold TurnM.take
  rw [hh]
  show (⟨1, 8, true, (bodO W n 0 K).ack (r : Int), _⟩ : TurnM) = _
  rw [← h3]
  rfl
theorem pcs_one (p : PIn) : (#[.int .i64 p.seat, .int .i64 p.count, .bool p.cmd, .int .i64 p.kind, .int .i64 p.sort, .int .i64 p.nr, .int .i64 p.ns, .bool p.pf, .string p.body] : Array Value).all (·.oneCell') = true := by simp [Value.oneCell']
end Go.Proofs.YtocjhpaackccpaaGreatDoor

namespace Go.Proofs.YtocjhpaackccpaaGreatDoor
open Go.RowKit M

theorem Sd.drop_ {w0 w : World} {C : Obj → Obj} {A B : Obj} (hC : Fr C) (h : Sd w0 (C (Star A B)) w) : Sd w0 (C A) w := by
  obtain ⟨F, ⟨F1, F2, rfl, h1, _, _⟩, hu⟩ := h.upd hC
  exact hu ⟨F1, h1, Tch.refl _ _, fun g hg => .inl (List.mem_append_left _ hg)⟩
theorem TnGo_len {w0 w : World} {v : Value} {m m' : TurnM} {C : Obj → Obj} (hC : Fr C) {n : Nat} (hn : n = m.says.length) (hm : m' = m.go) (h : Sd w0 (C (TurnW v m)) w) : Calls Tryz.prog 34 #[v] w fun e w' => ∃ A c, e = .returned (.slice A n c) ∧ Sd w0 (C (TurnW v m')) w' := by
  refine (TnGo_C hC hn rfl hm h).mono ?_
  rintro e w' ⟨A, c, rfl, _, hs⟩
  exact ⟨A, c, rfl, hs.drop_ hC⟩
def cut64 (s : ByteArray) : ByteArray := s.extract 0 (min s.size 64)
theorem cut64_size (s : ByteArray) : (cut64 s).size ≤ 64 := by
  unfold cut64
  rw [ByteArray.size_extract]
  omega
/-- A side with the texts l, k of them sent. -/
def gT (R : Int) (mine : Bool) (W : Nat) (l : List ByteArray) (k : Nat) : TurnM := ⟨R, 64, mine, ⟨W, 0, l, k⟩, ⟨0, false⟩⟩
theorem gT_new {R wi : Int} {W : Nat} (hW : (max 1 (min wi 7)).toNat = W) : TurnM.new R wi 64 = gT R (decide (R = 1)) W [] 0 := by
  subst hW
  rfl
theorem gT_put {R : Int} {mine : Bool} {W i : Nat} {l : List ByteArray} (hi : i < l.length) (h8 : i < 8) : gT R mine W ((l.map cut64).take (i + 1)) 0 = (gT R mine W ((l.map cut64).take i) 0).put (cut64 l[i]) ∧ (0 : Int) = (gT R mine W ((l.map cut64).take i) 0).putE (cut64 l[i]) := by
  have hs : ¬ ((64 : Int) < ((cut64 l[i]).size : Int)) := by have := cut64_size l[i]; omega
  have hf : OutM.full ⟨W, 0, (l.map cut64).take i, 0⟩ = false := by unfold OutM.full; simp only [List.length_take, List.length_map]; exact decide_eq_false (by omega)
  unfold TurnM.put TurnM.putE
  show _ = (if (64 : Int) < ((cut64 l[i]).size : Int) then _ else _) ∧ _ = (if (64 : Int) < ((cut64 l[i]).size : Int) then _ else (if OutM.full ⟨W, 0, (l.map cut64).take i, 0⟩ then 3 else 0))
  rw [if_neg hs, if_neg hs, hf]
  refine ⟨?_, rfl⟩
  show _ = (⟨R, 64, mine, OutM.put ⟨W, 0, (l.map cut64).take i, 0⟩ (cut64 l[i]), ⟨0, false⟩⟩ : TurnM)
  unfold OutM.put
  rw [hf]
  show _ = (⟨R, 64, mine, ⟨W, 0, (l.map cut64).take i ++ [cut64 l[i]], 0⟩, ⟨0, false⟩⟩ : TurnM)
  unfold gT
  rw [List.take_succ_eq_append_getElem (by simpa using hi), List.getElem_map]
theorem gT_full {R : Int} {mine : Bool} {W : Nat} {l : List ByteArray} {s : ByteArray} (hi : 8 ≤ l.length) : gT R mine W ((l.map cut64).take 8) 0 = (gT R mine W ((l.map cut64).take 8) 0).put (cut64 s) ∧ (3 : Int) = (gT R mine W ((l.map cut64).take 8) 0).putE (cut64 s) := by
  have hs : ¬ ((64 : Int) < ((cut64 s).size : Int)) := by have := cut64_size s; omega
  have hf : OutM.full ⟨W, 0, (l.map cut64).take 8, 0⟩ = true := by unfold OutM.full; simp only [List.length_take, List.length_map]; exact decide_eq_true (by omega)
  unfold TurnM.put TurnM.putE
  show _ = (if (64 : Int) < ((cut64 s).size : Int) then _ else _) ∧ _ = (if (64 : Int) < ((cut64 s).size : Int) then _ else (if OutM.full ⟨W, 0, (l.map cut64).take 8, 0⟩ then 3 else 0))
  rw [if_neg hs, if_neg hs, hf]
  refine ⟨?_, rfl⟩
  show _ = (⟨R, 64, mine, OutM.put ⟨W, 0, (l.map cut64).take 8, 0⟩ (cut64 s), ⟨0, false⟩⟩ : TurnM)
  unfold OutM.put
  rw [hf]
  rfl
theorem gT_go {W K k : Nat} {l : List ByteArray} (hK : K = min W l.length) (hk : k ≤ K) : gT 1 false W l K = (gT 1 true W l k).go ∧ saidN K = (gT 1 true W l k).says.length := by
  have e : OutM.k ⟨W, 0, l, k⟩ = K := hK.symm
  refine ⟨?_, ?_⟩
  · show _ = (⟨1, 64, false, OutM.burst ⟨W, 0, l, k⟩, ⟨0, false⟩⟩ : TurnM)
    unfold OutM.burst
    rw [e]
    show _ = (⟨1, 64, false, ⟨W, 0, l, max k K⟩, ⟨0, false⟩⟩ : TurnM)
    rw [Nat.max_eq_right hk]
    rfl
  · show saidN K = (if OutM.k ⟨W, 0, l, k⟩ = 0 then [TurnM.sayS (gT 1 true W l k)] else (List.range (OutM.k ⟨W, 0, l, k⟩)).map (TurnM.sayI (gT 1 true W l k))).length
    rw [e]
    unfold saidN
    split
    · rfl
    · simp
/-- What is said, one by one. -/
theorem gT_says {W K j : Nat} {l : List ByteArray} (hK : K = min W l.length) (hK8 : K ≤ 7) (hj : j < saidN K) : ∃ p, (gT 1 true W l 0).says[j]? = some p ∧ p.cmd = true ∧ p.pf = decide (j + 1 = saidN K) ∧ p.kind = (if K = 0 then 2 else 1) ∧ (0 < K → p.ns = (j : Int) ∧ ∃ h : j < l.length, p.body = l[j]) := by
  have e : OutM.k ⟨W, 0, l, 0⟩ = K := hK.symm
  have hs : (gT 1 true W l 0).says = if K = 0 then [TurnM.sayS (gT 1 true W l 0)] else (List.range K).map (TurnM.sayI (gT 1 true W l 0)) := by
    show (if OutM.k ⟨W, 0, l, 0⟩ = 0 then [TurnM.sayS (gT 1 true W l 0)] else (List.range (OutM.k ⟨W, 0, l, 0⟩)).map (TurnM.sayI (gT 1 true W l 0))) = _
    rw [e]
  rw [hs]
  unfold saidN at hj ⊢
  by_cases h0 : K = 0
  · rw [if_pos h0] at hj ⊢
    rw [if_pos h0, if_pos h0]
    obtain rfl : j = 0 := by omega
    exact ⟨_, rfl, rfl, rfl, rfl, fun h => by omega⟩
  · rw [if_neg h0] at hj ⊢
    rw [if_neg h0, if_neg h0]
    refine ⟨TurnM.sayI (gT 1 true W l 0) j, by simp [hj], rfl, ?_, rfl, fun _ => ⟨?_, by omega, ?_⟩⟩
    · show decide (j + 1 = OutM.k ⟨W, 0, l, 0⟩) = _
      rw [e]
    · show ((((0 + j) % 8 : Nat) : Int)) = (j : Int)
      omega
    · show l.getD j ⟨#[]⟩ = l[j]'(by omega)
      simp [show j < l.length by omega]
end Go.Proofs.YtocjhpaackccpaaGreatDoor

namespace Go.Proofs.YtocjhpaackccpaaGreatDoor
open Go.RowKit M

def lossB (loss : Int) (k : Nat) : Bool := atB loss (k % 8)
/-- What b hears of what is said; n: how much it has told. -/
def hearM (loss : Int) : List PIn → Nat → TurnM → Nat → TurnM × Nat
  | [], _, b, n => (b, n)
  | p :: ps, k, b, n => if lossB loss k then hearM loss ps (k + 1) b n else hearM loss ps (k + 1) (b.take p) (n + (if b.tells p then 1 else 0))
/-- From a to b: what was given to a, what b has told. -/
structure Dir (o : OutM) (i : InM) (put told : Nat) : Prop where
  k : ∃ k, put = k + o.l.length ∧ o.first = k % 8 ∧ k ≤ told ∧ told ≤ k + o.sent
  next : i.next = told % 8
structure Roles (a b : TurnM) : Prop where
  r : (a.role = 1 ∧ b.role = 2) ∨ (a.role = 2 ∧ b.role = 1)
/-- A frame of a's. -/
structure IsFr (a : TurnM) (K : Nat) (p : PIn) : Prop where
  cmd : p.cmd = decide (a.role = 1)
  nr : p.nr = (a.inn.next : Int)
  rest : (p.kind = 2 ∧ p.ns = 0) ∨ (p.kind = 1 ∧ ∃ i, i < K ∧ p.ns = (((a.out.first + i) % 8 : Nat) : Int))
theorem isFr_hears {a b : TurnM} {K : Nat} {p : PIn} (h : IsFr a K p) (hr : Roles a b) (ha : a.ok) : b.hears p = true := by
  have h1 : a.inn.next < 8 := ha.inn
  have h2 := h.nr
  unfold TurnM.hears
  refine decide_eq_true ⟨?_, ?_, ?_, by omega, by omega, ?_, ?_⟩
  · rcases h.rest with h3 | h3 <;> omega
  · rcases h.rest with h3 | h3 <;> omega
  · rw [h.cmd]
    rcases hr.r with ⟨h3, h4⟩ | ⟨h3, h4⟩ <;> rw [h3, h4] <;> decide
  · rcases h.rest with ⟨_, h3⟩ | ⟨_, i, _, h3⟩ <;> rw [h3] <;> omega
  · rcases h.rest with ⟨_, h3⟩ | ⟨_, i, _, h3⟩ <;> rw [h3] <;> omega
/-- What is acknowledged. -/
theorem dir_ack {o : OutM} {i : InM} {put told : Nat} (h : Dir o i put told) (ho : o.ok) : Dir (o.ack (i.next : Int)) i put told ∧ ((o.ack (i.next : Int)).l.length = put - told ∧ told ≤ put) ∧ (o.ack (i.next : Int)).win = o.win := by
  obtain ⟨⟨k, h1, h2, h3, h4⟩, h5⟩ := h
  have hs := ho.sent
  have hw := ho.sentw
  have h7 := ho.win7
  have hd : o.dif (i.next : Int) = told - k := by
    unfold OutM.dif
    rw [h5, h2]
    omega
  have ha : o.acks (i.next : Int) = true := by
    unfold OutM.acks
    rw [hd, h5]
    exact decide_eq_true ⟨by omega, by omega, by omega⟩
  unfold OutM.ack
  rw [ha, if_pos rfl, hd]
  refine ⟨⟨⟨told, ?_, ?_, Nat.le_refl _, ?_⟩, h5⟩, ⟨?_, ?_⟩, rfl⟩
  · show put = told + (o.l.drop (told - k)).length
    rw [List.length_drop]; omega
  · show ((i.next : Int)).toNat = told % 8
    rw [h5]; omega
  · show told ≤ told + (o.sent - (told - k)); omega
  · show (o.l.drop (told - k)).length = put - told
    rw [List.length_drop]; omega
  · omega
/-- One frame of a's (a: behind what it said) comes. -/
theorem hear_one {a b : TurnM} {K : Nat} {p : PIn} {put told put' told' : Nat} (h : IsFr a K p) (hr : Roles a b) (ha : a.ok) (hb : b.ok) (hK : K ≤ a.out.sent)
    (d1 : Dir a.out b.inn put told) (d2 : Dir b.out a.inn put' told') :
    (b.take p).ok ∧ Roles a (b.take p) ∧ Dir a.out (b.take p).inn put (told + (if b.tells p then 1 else 0)) ∧ Dir (b.take p).out a.inn put' told' ∧ (b.take p).out.l.length = put' - told' ∧ (b.take p).mine = (b.mine || p.pf) ∧ (b.take p).out.win = b.out.win ∧ (b.take p).size = b.size ∧
      (p.kind = 1 → ∀ i, i < K → p.ns = (((a.out.first + i) % 8 : Nat) : Int) → ∀ k, put = k + a.out.l.length → k + i ≤ told → k + i + 1 ≤ told + (if b.tells p then 1 else 0)) := by
  have hh := isFr_hears h hr ha
  obtain ⟨e1, e2, e3⟩ := dir_ack d2 hb.out
  have hack : (b.take p).out = b.out.ack (a.inn.next : Int) := by
    unfold TurnM.take
    rw [hh, if_pos rfl, h.nr]
  have hinn : (b.take p).inn = if p.kind = 1 then b.inn.take p.ns else b.inn := by
    unfold TurnM.take
    rw [hh, if_pos rfl]
  have htl : b.tells p = (decide (p.kind = 1) && b.inn.hit p.ns) := by unfold TurnM.tells; rw [hh]; rfl
  have hrole : (b.take p).role = b.role := by unfold TurnM.take; rw [hh, if_pos rfl]
  have hsz : (b.take p).size = b.size := by unfold TurnM.take; rw [hh, if_pos rfl]
  have hmine : (b.take p).mine = (b.mine || p.pf) := by unfold TurnM.take; rw [hh, if_pos rfl]
  obtain ⟨⟨k, g1, g2, g3, g4⟩, g5⟩ := d1
  have hs := ha.out.sent
  have hw := ha.out.sentw
  have h7 := ha.out.win7
  refine ⟨hb.take p, ⟨by rw [hrole]; exact hr.r⟩, ?_, by rw [hack]; exact e1, by rw [hack]; exact e2.1, hmine, by rw [hack]; exact e3, hsz, ?_⟩
  · rw [htl, hinn]
    rcases h.rest with ⟨q1, q2⟩ | ⟨q1, i, q2, q3⟩
    · rw [if_neg (by omega)]
      have : decide (p.kind = 1) = false := decide_eq_false (by omega)
      rw [this]
      exact ⟨⟨k, g1, g2, g3, by simpa using g4⟩, by simpa using g5⟩
    · rw [if_pos q1]
      have hd : decide (p.kind = 1) = true := decide_eq_true q1
      rw [hd]
      unfold InM.take
      rcases hit : b.inn.hit p.ns with _ | _
      · exact ⟨⟨k, g1, g2, g3, by simpa using g4⟩, by simpa using g5⟩
      · have hit' := of_decide_eq_true hit
        have : told = k + i := by omega
        exact ⟨⟨k, g1, g2, by simp; omega, by simp; omega⟩, by show (b.inn.next + 1) % 8 = _; simp; omega⟩
  · intro q1 i q2 q3 k' q4 q5
    obtain rfl : k' = k := by omega
    rw [htl]
    have hd : decide (p.kind = 1) = true := decide_eq_true q1
    rw [hd]
    rcases hit : b.inn.hit p.ns with _ | _
    · have hit' := of_decide_eq_false hit
      simp
      omega
    · simp
      omega
/-- All that is said of what a says: whatever is lost. -/
theorem hear_all {a : TurnM} {K : Nat} {put put' told' : Nat} (ha : a.ok) (hK : K ≤ a.out.sent) (loss : Int) : ∀ (ps : List PIn) (k : Nat) (b : TurnM) (n told : Nat), (∀ p ∈ ps, IsFr a K p) → Roles a b → b.ok → Dir a.out b.inn put told → Dir b.out a.inn put' told' →
    ∃ t, (hearM loss ps k b n).2 = n + t ∧ (hearM loss ps k b n).1.ok ∧ Roles a (hearM loss ps k b n).1 ∧ Dir a.out (hearM loss ps k b n).1.inn put (told + t) ∧ Dir (hearM loss ps k b n).1.out a.inn put' told' ∧ (hearM loss ps k b n).1.out.win = b.out.win ∧ (hearM loss ps k b n).1.size = b.size ∧ told + t ≤ put
  | [], _, b, n, told, _, hr, hb, d1, d2 => ⟨0, rfl, hb, hr, d1, d2, rfl, rfl, by
    obtain ⟨⟨k, h1, h2, h3, h4⟩, _⟩ := d1
    have := ha.out.sent
    omega⟩
  | p :: ps, k, b, n, told, hp, hr, hb, d1, d2 => by
    unfold hearM
    rcases lossB loss k with _ | _
    · obtain ⟨g1, g2, g3, g4, g5, g6, g7, g8, g9⟩ := hear_one (hp p (by simp)) hr ha hb hK d1 d2
      obtain ⟨t, i1, i2, i3, i4, i5, i6, i7, i8⟩ := hear_all ha hK loss ps (k + 1) (b.take p) (n + (if b.tells p then 1 else 0)) (told + (if b.tells p then 1 else 0)) (fun q hq => hp q (by simp [hq])) g2 g1 g3 g4
      exact ⟨(if b.tells p then 1 else 0) + t, by rw [← Nat.add_assoc]; exact i1, i2, i3, by rw [← Nat.add_assoc]; exact i4, i5, i6.trans g7, i7.trans g8, by rw [← Nat.add_assoc]; exact i8⟩
    · exact hear_all ha hK loss ps (k + 1) b n told (fun q hq => hp q (by simp [hq])) hr hb d1 d2
end Go.Proofs.YtocjhpaackccpaaGreatDoor

namespace Go.Proofs.YtocjhpaackccpaaGreatDoor
open Go.RowKit M

theorem lossB_zero (k : Nat) : lossB 0 k = false := by
  unfold lossB atB
  rw [Int.zero_ediv]
  rfl
/-- Frames that follow one another, none lost. -/
theorem hear_prog {a : TurnM} {K k0 : Nat} {put put' told' : Nat} (ha : a.ok) (hK : K ≤ a.out.sent) (hk0 : put = k0 + a.out.l.length) (f : Nat → PIn) (hf : ∀ i, i < K → IsFr a K (f i) ∧ (f i).kind = 1 ∧ (f i).ns = (((a.out.first + i) % 8 : Nat) : Int) ∧ (f i).pf = decide (i + 1 = K)) :
    ∀ (m i k : Nat) (b : TurnM) (n told : Nat), i + m = K → Roles a b → b.ok → Dir a.out b.inn put told → Dir b.out a.inn put' told' → k0 + i ≤ told →
      ∃ t, (hearM 0 ((List.range' i m).map f) k b n).2 = n + t ∧ k0 + K ≤ told + t ∧ (0 < m → (hearM 0 ((List.range' i m).map f) k b n).1.mine = true ∧ (hearM 0 ((List.range' i m).map f) k b n).1.out.l.length = put' - told')
  | 0, i, k, b, n, told, hi, _, _, _, _, h0 => ⟨0, rfl, by omega, fun h => absurd h (by omega)⟩
  | m + 1, i, k, b, n, told, hi, hr, hb, d1, d2, h0 => by
    obtain ⟨f1, f2, f3, f4⟩ := hf i (by omega)
    obtain ⟨g1, g2, g3, g4, g5, g6, g7, g8, g9⟩ := hear_one f1 hr ha hb hK d1 d2
    have hp := g9 f2 i (by omega) f3 k0 hk0 h0
    obtain ⟨t, i1, i2, i3⟩ := hear_prog ha hK hk0 f hf m (i + 1) (k + 1) (b.take (f i)) (n + (if b.tells (f i) then 1 else 0)) (told + (if b.tells (f i) then 1 else 0)) (by omega) g2 g1 g3 g4 (by omega)
    have e : hearM 0 ((List.range' i (m + 1)).map f) k b n = hearM 0 ((List.range' (i + 1) m).map f) (k + 1) (b.take (f i)) (n + (if b.tells (f i) then 1 else 0)) := by
      rw [List.range'_succ, List.map_cons]
      show (if lossB 0 k then _ else _) = _
      rw [lossB_zero]
      rfl
    rw [e]
    refine ⟨(if b.tells (f i) then 1 else 0) + t, by rw [← Nat.add_assoc]; exact i1, by omega, fun _ => ?_⟩
    rcases Nat.eq_zero_or_pos m with h | h
    · subst h
      show (b.take (f i)).mine = true ∧ (b.take (f i)).out.l.length = put' - told'
      rw [g6, f4, decide_eq_true (by omega)]
      exact ⟨by simp, g5⟩
    · exact i3 h
/-- What a says are its frames. -/
theorem says_fr {a : TurnM} (hm : a.mine = true) : (∀ p ∈ a.says, IsFr a.go a.out.k p) ∧ a.go.out = a.out.burst ∧ a.go.inn = a.inn ∧ a.go.role = a.role ∧ a.go.size = a.size := by
  have e : a.go = { a with mine := false, out := a.out.burst } := by unfold TurnM.go; rw [hm]; rfl
  refine ⟨fun p hp => ?_, by rw [e], by rw [e], by rw [e], by rw [e]⟩
  unfold TurnM.says at hp
  rw [hm, if_pos rfl] at hp
  rw [e]
  split at hp
  · simp only [List.mem_singleton] at hp
    subst hp
    exact ⟨rfl, rfl, .inl ⟨rfl, rfl⟩⟩
  · obtain ⟨i, hi, rfl⟩ := List.mem_map.1 hp
    exact ⟨rfl, rfl, .inr ⟨rfl, i, List.mem_range.1 hi, rfl⟩⟩
theorem dir_burst {o : OutM} {i : InM} {put told : Nat} (h : Dir o i put told) : Dir o.burst i put told := by
  obtain ⟨⟨k, h1, h2, h3, h4⟩, h5⟩ := h
  refine ⟨⟨k, h1, h2, h3, ?_⟩, h5⟩
  show told ≤ k + max o.sent o.k
  omega
/-- One says, the other one hears, whatever is lost. -/
theorem say_ok {a b : TurnM} {put told put' told' : Nat} (hr : Roles a b) (ha : a.ok) (hb : b.ok) (d1 : Dir a.out b.inn put told) (d2 : Dir b.out a.inn put' told') (loss : Int) :
    ∃ t, (hearM loss a.says 0 b 0).2 = t ∧ a.go.ok ∧ (hearM loss a.says 0 b 0).1.ok ∧ Roles a.go (hearM loss a.says 0 b 0).1 ∧ Dir a.go.out (hearM loss a.says 0 b 0).1.inn put (told + t) ∧ Dir (hearM loss a.says 0 b 0).1.out a.go.inn put' told' ∧ (hearM loss a.says 0 b 0).1.size = b.size ∧ a.go.size = a.size ∧ told + t ≤ put := by
  rcases hm : a.mine with _ | _
  · have e1 : a.says = [] := by unfold TurnM.says; rw [hm]; rfl
    have e2 : a.go = a := by unfold TurnM.go; rw [hm]; rfl
    rw [e1, e2]
    refine ⟨0, rfl, ha, hb, hr, d1, d2, rfl, rfl, ?_⟩
    obtain ⟨⟨k, h1, h2, h3, h4⟩, _⟩ := d1
    have := ha.out.sent
    omega
  · obtain ⟨g1, g2, g3, g4, g5⟩ := says_fr hm
    have hK : a.out.k ≤ a.go.out.sent := by rw [g2]; show a.out.k ≤ max a.out.sent a.out.k; omega
    obtain ⟨t, i1, i2, i3, i4, i5, i6, i7, i8⟩ := hear_all (a := a.go) (K := a.out.k) ha.go hK loss a.says 0 b 0 told g1 ⟨by rw [g4]; exact hr.r⟩ hb (by rw [g2]; exact dir_burst d1) (by rw [g3]; exact d2)
    exact ⟨t, by simpa using i1, ha.go, i2, i3, i4, i5, i7, g5, i8⟩
/-- One says, the other one hears all of it. -/
theorem say_all {a b : TurnM} {put told put' told' : Nat} (hr : Roles a b) (ha : a.ok) (hb : b.ok) (d1 : Dir a.out b.inn put told) (d2 : Dir b.out a.inn put' told') (hm : a.mine = true) :
    (hearM 0 a.says 0 b 0).1.mine = true ∧ (hearM 0 a.says 0 b 0).1.out.l.length = put' - told' ∧ put - (told + (hearM 0 a.says 0 b 0).2) ≤ a.out.l.length - 1 ∧ a.go.out.l.length = a.out.l.length := by
  obtain ⟨g1, g2, g3, g4, g5⟩ := says_fr hm
  have hK : a.out.k ≤ a.go.out.sent := by rw [g2]; show a.out.k ≤ max a.out.sent a.out.k; omega
  have hr' : Roles a.go b := ⟨by rw [g4]; exact hr.r⟩
  have d1' : Dir a.go.out b.inn put told := by rw [g2]; exact dir_burst d1
  have d2' : Dir b.out a.go.inn put' told' := by rw [g3]; exact d2
  have hlen : a.go.out.l.length = a.out.l.length := by rw [g2]; rfl
  have hwin := ha.out.win1
  obtain ⟨k0, q1, q2, q3, q4⟩ := d1.k
  by_cases h0 : a.out.k = 0
  · have e : a.says = [a.sayS] := by unfold TurnM.says; rw [hm, if_pos rfl, if_pos h0]
    have hlz : a.out.l.length = 0 := by unfold OutM.k at h0; omega
    obtain ⟨f1, f2, f3, f4, f5, f6, f7, f8, f9⟩ := hear_one (g1 a.sayS (by rw [e]; simp)) hr' ha.go hb hK d1' d2'
    have e2 : hearM 0 a.says 0 b 0 = (b.take a.sayS, 0 + (if b.tells a.sayS then 1 else 0)) := by
      rw [e]
      show (if lossB 0 0 then _ else _) = _
      rw [lossB_zero]
      rfl
    rw [e2]
    refine ⟨?_, f5, ?_, hlen⟩
    · show (b.take a.sayS).mine = true
      rw [f6]
      show (b.mine || true) = true
      simp
    · have := ha.out.sent
      omega
  · have e : a.says = (List.range a.out.k).map a.sayI := by unfold TurnM.says; rw [hm, if_pos rfl, if_neg h0]
    have hff : ∀ i, i < a.out.k → IsFr a.go a.out.k (a.sayI i) ∧ (a.sayI i).kind = 1 ∧ (a.sayI i).ns = (((a.go.out.first + i) % 8 : Nat) : Int) ∧ (a.sayI i).pf = decide (i + 1 = a.out.k) := fun i hi =>
      ⟨g1 _ (by rw [e]; exact List.mem_map.2 ⟨i, List.mem_range.2 hi, rfl⟩), rfl, by rw [g2]; rfl, rfl⟩
    obtain ⟨t, i1, i2, i3⟩ := hear_prog (a := a.go) (K := a.out.k) (k0 := k0) (put := put) ha.go hK (by rw [hlen]; exact q1) a.sayI hff a.out.k 0 0 b 0 told (by omega) hr' hb d1' d2' (by omega)
    rw [← List.range_eq_range', ← e] at i1 i3
    obtain ⟨i4, i5⟩ := i3 (by omega)
    refine ⟨i4, i5, ?_, hlen⟩
    rw [i1]
    have : 1 ≤ a.out.k := by omega
    omega
/-- Two sides: p: what was given, q: what was told. -/
structure Two (T0 T1 : TurnM) (p0 p1 q0 q1 : Nat) : Prop where
  ok0 : T0.ok
  ok1 : T1.ok
  role0 : T0.role = 1
  role1 : T1.role = 2
  d0 : Dir T0.out T1.inn p0 q1
  d1 : Dir T1.out T0.inn p1 q0
  sz0 : T0.size = 40
  sz1 : T1.size = 40
theorem Two.roles {T0 T1 : TurnM} {p0 p1 q0 q1 : Nat} (h : Two T0 T1 p0 p1 q0 q1) : Roles T0 T1 := ⟨.inl ⟨h.role0, h.role1⟩⟩
theorem Two.roles' {T0 T1 : TurnM} {p0 p1 q0 q1 : Nat} (h : Two T0 T1 p0 p1 q0 q1) : Roles T1 T0 := ⟨.inr ⟨h.role1, h.role0⟩⟩
theorem Dir.le {o : OutM} {i : InM} {put told : Nat} (h : Dir o i put told) (ho : o.ok) : told ≤ put ∧ put - told ≤ o.l.length ∧ o.l.length ≤ put := by
  obtain ⟨⟨k, h1, h2, h3, h4⟩, _⟩ := h
  have := ho.sent
  omega
theorem two_new {w0 w1 : Int} : Two (TurnM.new 1 w0 40) (TurnM.new 2 w1 40) 0 0 0 0 :=
  ⟨TurnM.ok_new (.inl rfl), TurnM.ok_new (.inr rfl), rfl, rfl, ⟨⟨0, rfl, rfl, Nat.le_refl _, Nat.le_refl _⟩, rfl⟩, ⟨⟨0, rfl, rfl, Nat.le_refl _, Nat.le_refl _⟩, rfl⟩, rfl, rfl⟩
theorem dir_put {o : OutM} {i : InM} {put told : Nat} (h : Dir o i put told) (x : ByteArray) (hf : o.full = false) : Dir (o.put x) i (put + 1) told := by
  obtain ⟨⟨k, h1, h2, h3, h4⟩, h5⟩ := h
  unfold OutM.put
  rw [hf]
  refine ⟨⟨k, ?_, h2, h3, h4⟩, h5⟩
  show put + 1 = k + (o.l ++ [x]).length
  simp
  omega
/-- A text of one byte is given. -/
theorem put_one {T : TurnM} {x : ByteArray} (hs : T.size = 40) (hx : x.size = 1) : (T.out.full = false ∧ T.putE x = 0 ∧ T.put x = { T with out := T.out.put x }) ∨ (T.out.full = true ∧ T.putE x = 3 ∧ T.put x = T) := by
  have hn : ¬ (T.size < (x.size : Int)) := by rw [hs, hx]; decide
  unfold TurnM.putE TurnM.put
  rw [if_neg hn, if_neg hn]
  rcases hf : T.out.full with _ | _
  · exact .inl ⟨rfl, rfl, rfl⟩
  · refine .inr ⟨rfl, rfl, ?_⟩
    unfold OutM.put
    rw [hf]
    rfl
theorem Two.put0 {T0 T1 : TurnM} {p0 p1 q0 q1 : Nat} (h : Two T0 T1 p0 p1 q0 q1) {x : ByteArray} (hf : T0.out.full = false) : Two { T0 with out := T0.out.put x } T1 (p0 + 1) p1 q0 q1 :=
  ⟨⟨h.ok0.role, h.ok0.size, h.ok0.out.put x, h.ok0.inn⟩, h.ok1, h.role0, h.role1, dir_put h.d0 x hf, h.d1, h.sz0, h.sz1⟩
theorem Two.put1 {T0 T1 : TurnM} {p0 p1 q0 q1 : Nat} (h : Two T0 T1 p0 p1 q0 q1) {x : ByteArray} (hf : T1.out.full = false) : Two T0 { T1 with out := T1.out.put x } p0 (p1 + 1) q0 q1 :=
  ⟨h.ok0, ⟨h.ok1.role, h.ok1.size, h.ok1.out.put x, h.ok1.inn⟩, h.role0, h.role1, h.d0, dir_put h.d1 x hf, h.sz0, h.sz1⟩
theorem Two.late {T0 T1 : TurnM} {p0 p1 q0 q1 : Nat} (h : Two T0 T1 p0 p1 q0 q1) : Two T0.late T1 p0 p1 q0 q1 := ⟨h.ok0.late, h.ok1, h.role0, h.role1, h.d0, h.d1, h.sz0, h.sz1⟩
theorem Two.say0 {T0 T1 : TurnM} {p0 p1 q0 q1 : Nat} (h : Two T0 T1 p0 p1 q0 q1) (loss : Int) : Two T0.go (hearM loss T0.says 0 T1 0).1 p0 p1 q0 (q1 + (hearM loss T0.says 0 T1 0).2) ∧ q1 + (hearM loss T0.says 0 T1 0).2 ≤ p0 := by
  obtain ⟨t, rfl, g1, g2, g3, g4, g5, g6, g7, g8⟩ := say_ok h.roles h.ok0 h.ok1 h.d0 h.d1 loss
  have hg : T0.go.role = T0.role := by unfold TurnM.go; split <;> rfl
  have r0 : T0.go.role = 1 := by rw [hg]; exact h.role0
  exact ⟨⟨g1, g2, r0, by rcases g3.r with ⟨_, h2⟩ | ⟨h1, _⟩ <;> omega, g4, g5, g7.trans h.sz0, g6.trans h.sz1⟩, g8⟩
theorem Two.say1 {T0 T1 : TurnM} {p0 p1 q0 q1 : Nat} (h : Two T0 T1 p0 p1 q0 q1) (loss : Int) : Two (hearM loss T1.says 0 T0 0).1 T1.go p0 p1 (q0 + (hearM loss T1.says 0 T0 0).2) q1 ∧ q0 + (hearM loss T1.says 0 T0 0).2 ≤ p1 := by
  obtain ⟨t, rfl, g1, g2, g3, g4, g5, g6, g7, g8⟩ := say_ok h.roles' h.ok1 h.ok0 h.d1 h.d0 loss
  have hg : T1.go.role = T1.role := by unfold TurnM.go; split <;> rfl
  have r1 : T1.go.role = 2 := by rw [hg]; exact h.role1
  exact ⟨⟨g2, g1, by rcases g3.r with ⟨h1, _⟩ | ⟨_, h2⟩ <;> omega, r1, g5, g4, g6.trans h.sz0, g7.trans h.sz1⟩, g8⟩
/-- How far one is behind rounds i of which nothing was lost. -/
structure Far (T0 T1 : TurnM) (p0 p1 q0 q1 i : Nat) : Prop where
  two : Two T0 T1 p0 p1 q0 q1
  a : T0.out.l.length ≤ 8 - i
  b : p1 - q0 ≤ 8 - i
  c : 0 < i → T1.out.l.length ≤ 9 - i
theorem Far.start {T0 T1 : TurnM} {p0 p1 q0 q1 : Nat} (h : Two T0 T1 p0 p1 q0 q1) : Far T0 T1 p0 p1 q0 q1 0 :=
  ⟨h, h.ok0.out.len, by have := h.d1.le h.ok1.out; have := h.ok1.out.len; omega, fun h => absurd h (by omega)⟩
theorem Far.round {T0 T1 : TurnM} {p0 p1 q0 q1 i : Nat} (h : Far T0 T1 p0 p1 q0 q1 i) :
    Far (hearM 0 (hearM 0 T0.late.says 0 T1 0).1.says 0 T0.late.go 0).1 (hearM 0 T0.late.says 0 T1 0).1.go p0 p1 (q0 + (hearM 0 (hearM 0 T0.late.says 0 T1 0).1.says 0 T0.late.go 0).2) (q1 + (hearM 0 T0.late.says 0 T1 0).2) (i + 1) ∧
      q1 + (hearM 0 T0.late.says 0 T1 0).2 ≤ p0 ∧ q0 + (hearM 0 (hearM 0 T0.late.says 0 T1 0).1.says 0 T0.late.go 0).2 ≤ p1 := by
  have hl := h.two.late
  have hm : T0.late.mine = true := by show (T0.mine || decide (T0.role = 1)) = true; rw [h.two.role0]; simp
  obtain ⟨s1, s2⟩ := hl.say0 0
  obtain ⟨x1, x2, x3, x4⟩ := say_all hl.roles hl.ok0 hl.ok1 hl.d0 hl.d1 hm
  obtain ⟨u1, u2⟩ := s1.say1 0
  obtain ⟨y1, y2, y3, y4⟩ := say_all s1.roles' s1.ok1 s1.ok0 s1.d1 s1.d0 x1
  have ha := h.a
  have hb := h.b
  have hla : T0.late.out.l.length = T0.out.l.length := rfl
  refine ⟨⟨u1, ?_, ?_, fun _ => ?_⟩, s2, u2⟩
  · rw [y2]; omega
  · omega
  · rw [y4, x2]; omega
theorem Far.done {T0 T1 : TurnM} {p0 p1 q0 q1 i : Nat} (h : Far T0 T1 p0 p1 q0 q1 i) (hi : 9 ≤ i) : q1 = p0 ∧ q0 = p1 ∧ T0.out.l.length = 0 ∧ T1.out.l.length = 0 := by
  have h1 := h.two.d0.le h.two.ok0.out
  have h2 := h.two.d1.le h.two.ok1.out
  have h3 := h.a
  have h4 := h.b
  have h5 := h.c (by omega)
  omega
end Go.Proofs.YtocjhpaackccpaaGreatDoor

namespace Go.Proofs.YtocjhpaackccpaaGreatDoor
open Go.RowKit M

/-- What waits is the end of what was given. -/
def TxI (o : OutM) (tx : List ByteArray) : Prop := o.l = tx.drop (tx.length - o.l.length) ∧ o.l.length ≤ tx.length
theorem TxI.put {o : OutM} {tx : List ByteArray} (h : TxI o tx) (x : ByteArray) (hf : o.full = false) : TxI (o.put x) (tx ++ [x]) := by
  obtain ⟨h1, h2⟩ := h
  unfold OutM.put
  rw [hf]
  show o.l ++ [x] = (tx ++ [x]).drop ((tx ++ [x]).length - (o.l ++ [x]).length) ∧ (o.l ++ [x]).length ≤ (tx ++ [x]).length
  simp only [List.length_append, List.length_cons, List.length_nil]
  refine ⟨?_, by omega⟩
  rw [show tx.length + (0 + 1) - (o.l.length + (0 + 1)) = tx.length - o.l.length by omega, List.drop_append_of_le_length (by omega), ← h1]
theorem TxI.ack {o : OutM} {tx : List ByteArray} (h : TxI o tx) (ho : o.ok) (n : Int) : TxI (o.ack n) tx := by
  obtain ⟨h1, h2⟩ := h
  unfold OutM.ack
  split
  · rename_i ha
    have ha := of_decide_eq_true ha
    have hs := ho.sent
    show o.l.drop (o.dif n) = tx.drop (tx.length - (o.l.drop (o.dif n)).length) ∧ (o.l.drop (o.dif n)).length ≤ tx.length
    rw [List.length_drop]
    refine ⟨?_, by omega⟩
    rw [h1, List.drop_drop]
    congr 1
    rw [List.length_drop]
    omega
  · exact ⟨h1, h2⟩
theorem TxI.burst {o : OutM} {tx : List ByteArray} (h : TxI o tx) : TxI o.burst tx := h
theorem TxI.take {T : TurnM} {tx : List ByteArray} (h : TxI T.out tx) (ho : T.ok) (p : PIn) : TxI (T.take p).out tx := by
  unfold TurnM.take
  split
  · exact h.ack ho.out _
  · exact h
theorem TxI.go {T : TurnM} {tx : List ByteArray} (h : TxI T.out tx) : TxI T.go.out tx := by
  unfold TurnM.go
  split
  · exact h.burst
  · exact h
/-- What is told of the j-th of what a says is the next one of what was given. -/
theorem told_txt {a b : TurnM} {j : Nat} {p : PIn} {put told : Nat} {tx : List ByteArray} (hj : j < 7) (hpt : put = tx.length) (hk : p.kind = 1 → p.ns = (((a.out.first + j) % 8 : Nat) : Int) ∧ p.body = a.out.l.getD j ⟨#[]⟩) (ha : a.out.ok) (d1 : Dir a.out b.inn put told) (ht : TxI a.out tx) (htl : b.tells p = true) (hjl : j < a.out.l.length) :
    told < tx.length ∧ p.body = tx.getD told ⟨#[]⟩ := by
  unfold TurnM.tells at htl
  simp only [Bool.and_eq_true, decide_eq_true_eq] at htl
  obtain ⟨_, hk1, hh⟩ := htl
  have hh := of_decide_eq_true hh
  obtain ⟨e1, e2⟩ := hk hk1
  obtain ⟨⟨k, g1, g2, g3, g4⟩, g5⟩ := d1
  have hs := ha.sent
  have hw := ha.sentw
  have h7 := ha.win7
  have hkj : told = k + j := by omega
  obtain ⟨t1, t2⟩ := ht
  have hkk : tx.length - a.out.l.length = k := by omega
  rw [hkk] at t1
  refine ⟨by omega, ?_⟩
  rw [e2, hkj, List.getD_eq_getElem?_getD, List.getD_eq_getElem?_getD]
  congr 1
  rw [t1, List.getElem?_drop]
/-- Two that have changed places: i whole rounds on. -/
structure Farr (A B : TurnM) (n q0 q1 i : Nat) : Prop where
  okA : A.ok
  okB : B.ok
  roles : Roles A B
  mineA : A.mine = true
  mineB : B.mine = false
  d0 : Dir A.out B.inn n q1
  d1 : Dir B.out A.inn n q0
  a : A.out.l.length ≤ 8 - i
  b : n - q0 ≤ 8 - i
  c : 0 < i → B.out.l.length ≤ 9 - i
theorem go_mine (a : TurnM) : a.go.mine = false := by
  unfold TurnM.go
  rcases h : a.mine with _ | _
  · rw [if_neg (by simp)]; exact h
  · rfl
theorem Farr.round {A B : TurnM} {n q0 q1 i : Nat} (h : Farr A B n q0 q1 i) :
    Farr (hearM 0 (hearM 0 A.says 0 B 0).1.says 0 A.go 0).1 (hearM 0 A.says 0 B 0).1.go n (q0 + (hearM 0 (hearM 0 A.says 0 B 0).1.says 0 A.go 0).2) (q1 + (hearM 0 A.says 0 B 0).2) (i + 1) := by
  obtain ⟨t, rfl, g1, g2, g3, g4, g5, g6, g7, g8⟩ := say_ok h.roles h.okA h.okB h.d0 h.d1 0
  obtain ⟨x1, x2, x3, x4⟩ := say_all h.roles h.okA h.okB h.d0 h.d1 h.mineA
  have hr' : Roles (hearM 0 A.says 0 B 0).1 A.go := ⟨g3.r.elim (fun h => .inr ⟨h.2, h.1⟩) (fun h => .inl ⟨h.2, h.1⟩)⟩
  obtain ⟨t2, ht2, u1, u2, u3, u4, u5, u6, u7, u8⟩ := say_ok hr' g2 g1 g5 g4 0
  obtain ⟨y1, y2, y3, y4⟩ := say_all hr' g2 g1 g5 g4 x1
  have ha := h.a
  have hb := h.b
  rw [← ht2] at u4
  refine ⟨u2, u1, ⟨u3.r.elim (fun h => .inr ⟨h.2, h.1⟩) (fun h => .inl ⟨h.2, h.1⟩)⟩, y1, go_mine _, u5, u4, ?_, ?_, fun _ => ?_⟩
  · rw [y2]; omega
  · omega
  · rw [y4, x2]; omega
theorem Farr.done {A B : TurnM} {n q0 q1 i : Nat} (h : Farr A B n q0 q1 i) (hi : 9 ≤ i) : q1 = n ∧ q0 = n ∧ A.out.l.length = 0 ∧ B.out.l.length = 0 := by
  have h1 := h.d0.le h.okA.out
  have h2 := h.d1.le h.okB.out
  have h3 := h.a
  have h4 := h.b
  have h5 := h.c (by omega)
  omega
end Go.Proofs.YtocjhpaackccpaaGreatDoor

namespace Go.Proofs.YtocjhpaackccpaaGreatDoor
open Go.RowKit M

theorem says_mine {a : TurnM} {j : Nat} {p : PIn} (hp : a.says[j]? = some p) : a.mine = true := by
  rcases h : a.mine with _ | _
  · unfold TurnM.says at hp
    rw [h, if_neg (by decide)] at hp
    simp at hp
  · rfl
theorem says_at {a : TurnM} {j : Nat} {p : PIn} (hp : a.says[j]? = some p) (hk : p.kind = 1) : p.ns = (((a.out.first + j) % 8 : Nat) : Int) ∧ p.body = a.out.l.getD j ⟨#[]⟩ ∧ j < a.out.k := by
  have hm := says_mine hp
  unfold TurnM.says at hp
  rw [hm, if_pos rfl] at hp
  split at hp
  · rcases j with _ | j
    · simp only [List.getElem?_cons_zero, Option.some.injEq] at hp
      subst hp
      exact absurd hk (by show ¬ (2 : Int) = 1; decide)
    · simp at hp
  · rw [List.getElem?_map] at hp
    rcases h : (List.range a.out.k)[j]? with _ | i
    · rw [h] at hp; simp at hp
    · rw [h] at hp
      simp only [Option.map_some, Option.some.injEq] at hp
      subst hp
      obtain ⟨h1, h2⟩ := List.getElem?_eq_some_iff.1 h
      rw [List.getElem_range] at h2
      subst h2
      rw [List.length_range] at h1
      exact ⟨rfl, rfl, h1⟩
/-- b hears what a says; told: what it has told by now; txb: what was given to b. -/
structure Hrs (a : TurnM) (put put' told' : Nat) (b : TurnM) (told : Nat) (txb : List ByteArray) : Prop where
  ok : b.ok
  roles : Roles a.go b
  d1 : Dir a.go.out b.inn put told
  d2 : Dir b.out a.go.inn put' told'
  tx : TxI b.out txb
theorem Hrs.step {a b : TurnM} {put put' told told' : Nat} {tx txb : List ByteArray} {j : Nat} {p : PIn} (h : Hrs a put put' told' b told txb) (ha : a.ok) (hp : a.says[j]? = some p) (ht : TxI a.out tx) (hput : put = tx.length) :
    Hrs a put put' told' (b.take p) (told + (if b.tells p then 1 else 0)) txb ∧ (b.tells p = true → told < tx.length ∧ p.body = tx.getD told ⟨#[]⟩) := by
  have hm := says_mine hp
  obtain ⟨g1, g2, g3, g4, g5⟩ := says_fr hm
  have hK : a.out.k ≤ a.go.out.sent := by rw [g2]; show a.out.k ≤ max a.out.sent a.out.k; omega
  have hmem : p ∈ a.says := List.mem_of_getElem? hp
  obtain ⟨f1, f2, f3, f4, _⟩ := hear_one (g1 p hmem) h.roles ha.go h.ok hK h.d1 h.d2
  refine ⟨⟨f1, f2, f3, f4, h.tx.take h.ok p⟩, fun htl => ?_⟩
  have hk1 : p.kind = 1 := by
    have h' := htl
    unfold TurnM.tells at h'
    simp only [Bool.and_eq_true, decide_eq_true_eq] at h'
    exact h'.2.1
  obtain ⟨e1, e2, e3⟩ := says_at hp hk1
  have hl : a.go.out.l = a.out.l := by rw [g2]; rfl
  have hf : a.go.out.first = a.out.first := by rw [g2]; rfl
  have hw := ha.out.win7
  have hkk : a.out.k ≤ a.out.l.length ∧ a.out.k ≤ 7 := by
    have := OutM.k_le ha.out
    refine ⟨?_, by omega⟩
    unfold OutM.k
    omega
  exact told_txt (a := a.go) (j := j) (by omega) hput (fun _ => by rw [hf, hl]; exact ⟨e1, e2⟩) ha.go.out h.d1 (by rw [g2]; exact ht) htl (by rw [hl]; omega)
theorem hrs_start {a b : TurnM} {put put' told told' : Nat} {txb : List ByteArray} (hr : Roles a b) (hb : b.ok) (d1 : Dir a.out b.inn put told) (d2 : Dir b.out a.inn put' told') (ht : TxI b.out txb) : Hrs a put put' told' b told txb := by
  have e : a.go.inn = a.inn ∧ a.go.role = a.role := by
    unfold TurnM.go
    split <;> exact ⟨rfl, rfl⟩
  refine ⟨hb, ⟨by rw [e.2]; exact hr.r⟩, ?_, by rw [e.1]; exact d2, ht⟩
  unfold TurnM.go
  split
  · exact dir_burst d1
  · exact d1
/-- One iteration of the two: A says, B hears and says, A hears. -/
def rdB (A B : TurnM) : TurnM := (hearM 0 A.says 0 B 0).1
def rdb (A B : TurnM) : Nat := (hearM 0 A.says 0 B 0).2
def rdA (A B : TurnM) : TurnM := (hearM 0 (rdB A B).says 0 A.go 0).1
def rda (A B : TurnM) : Nat := (hearM 0 (rdB A B).says 0 A.go 0).2
/-- How two stand at the head of the i-th iteration. -/
structure Swp (A B : TurnM) (n q0 q1 i : Nat) (ta tb : List ByteArray) : Prop where
  okA : A.ok
  okB : B.ok
  roles : Roles A B
  d0 : Dir A.out B.inn n q1
  d1 : Dir B.out A.inn n q0
  ta : TxI A.out ta
  tb : TxI B.out tb
  n0 : i = 0 → A.role = 1 ∧ A.mine = true ∧ B.mine = false
  n1 : i = 1 → A.role = 2 ∧ A.mine = false ∧ B.mine = true
  n2 : 2 ≤ i → A.role = 2 ∧ Farr A B n q0 q1 (i - 2)
theorem role_of {A B : TurnM} (h : Roles A B) : (A.role = 1 → B.role = 2) ∧ (A.role = 2 → B.role = 1) := by
  rcases h.r with h | h <;> exact ⟨fun e => by omega, fun e => by omega⟩
/-- What one iteration leaves, ahead of a change of places. -/
structure Aft (A B A' B' : TurnM) (n q0 q1 q0' q1' i : Nat) (ta tb : List ByteArray) : Prop where
  okA : A'.ok
  okB : B'.ok
  roles : Roles A' B'
  d0 : Dir A'.out B'.inn n q1'
  d1 : Dir B'.out A'.inn n q0'
  ta : TxI A'.out ta
  tb : TxI B'.out tb
  mA : A'.mine = true
  mB : B'.mine = false
  role : A'.role = A.role
  far : 1 ≤ i → Farr A' B' n q0' q1' (i - 1)
theorem take_role (b : TurnM) (p : PIn) : (b.take p).role = b.role := by
  unfold TurnM.take
  split <;> rfl
theorem hear_role (loss : Int) : ∀ (ps : List PIn) (k : Nat) (b : TurnM) (n : Nat), (hearM loss ps k b n).1.role = b.role
  | [], _, _, _ => rfl
  | p :: ps, k, b, n => by
    show (if lossB loss k then hearM loss ps (k + 1) b n else hearM loss ps (k + 1) (b.take p) (n + (if b.tells p then 1 else 0))).1.role = b.role
    split
    · exact hear_role loss ps (k + 1) b n
    · rw [hear_role loss ps (k + 1), take_role]
theorem hear_tx (loss : Int) {tx : List ByteArray} : ∀ (ps : List PIn) (k : Nat) (b : TurnM) (n : Nat), b.ok → TxI b.out tx → TxI (hearM loss ps k b n).1.out tx
  | [], _, _, _, _, h => h
  | p :: ps, k, b, n, ho, h => by
    show TxI (if lossB loss k then hearM loss ps (k + 1) b n else hearM loss ps (k + 1) (b.take p) (n + (if b.tells p then 1 else 0))).1.out tx
    split
    · exact hear_tx loss ps (k + 1) b n ho h
    · exact hear_tx loss ps (k + 1) _ _ (ho.take p) (h.take ho p)
theorem go_role (a : TurnM) : a.go.role = a.role := by
  unfold TurnM.go
  split <;> rfl
theorem rdB_mine {A B : TurnM} {n q0 q1 i : Nat} {ta tb : List ByteArray} (h : Swp A B n q0 q1 i ta tb) : (rdB A B).mine = true := by
  have hA : A.mine = true → (rdB A B).mine = true := fun hm => (say_all h.roles h.okA h.okB h.d0 h.d1 hm).1
  rcases (show i = 0 ∨ i = 1 ∨ 2 ≤ i by omega) with e | e | e
  · exact hA (h.n0 e).2.1
  · obtain ⟨_, m1, m2⟩ := h.n1 e
    have es : A.says = [] := by unfold TurnM.says; rw [m1]; rfl
    unfold rdB
    rw [es]
    exact m2
  · exact hA (h.n2 e).2.mineA
theorem Swp.round {A B : TurnM} {n q0 q1 i : Nat} {ta tb : List ByteArray} (h : Swp A B n q0 q1 i ta tb) (hn : n ≤ 8) : Aft A B (rdA A B) (rdB A B).go n q0 q1 (q0 + rda A B) (q1 + rdb A B) i ta tb := by
  have hm := rdB_mine h
  obtain ⟨t, e1, g1, g2, g3, g4, g5, _, _, _⟩ := say_ok h.roles h.okA h.okB h.d0 h.d1 0
  have hr' : Roles (rdB A B) A.go := ⟨g3.r.elim (fun h => .inr ⟨h.2, h.1⟩) (fun h => .inl ⟨h.2, h.1⟩)⟩
  obtain ⟨t2, f1, u1, u2, u3, u4, u5, _, _, _⟩ := say_ok hr' g2 g1 g5 g4 0
  obtain ⟨y1, _⟩ := say_all hr' g2 g1 g5 g4 hm
  have er : rdb A B = t := e1
  have er2 : rda A B = t2 := f1
  rw [er, er2]
  have hroles : Roles (rdA A B) (rdB A B).go := ⟨u3.r.elim (fun h => .inr ⟨h.2, h.1⟩) (fun h => .inl ⟨h.2, h.1⟩)⟩
  have l8 := (show (rdA A B).ok from u2).out.len
  refine ⟨u2, u1, hroles, u5, u4, hear_tx 0 _ _ _ _ g1 h.ta.go, TxI.go (hear_tx 0 _ _ _ _ h.okB h.tb), y1, go_mine _, by show (hearM _ _ _ _ _).1.role = _; rw [hear_role, go_role], fun hi => ?_⟩
  rcases (show i = 1 ∨ 2 ≤ i by omega) with e | e
  · subst e
    exact ⟨u2, u1, hroles, y1, go_mine _, u5, u4, by omega, by omega, fun h0 => absurd h0 (by omega)⟩
  · have := (h.n2 e).2.round
    rw [show i - 2 + 1 = i - 1 by omega] at this
    have k1 : (hearM 0 A.says 0 B 0).2 = t := e1
    have k2 : (hearM 0 (hearM 0 A.says 0 B 0).1.says 0 A.go 0).2 = t2 := f1
    rw [k1, k2] at this
    exact this
theorem Aft.next {A B A' B' : TurnM} {n q0 q1 q0' q1' i : Nat} {ta tb : List ByteArray} (h : Swp A B n q0 q1 i ta tb) (k : Aft A B A' B' n q0 q1 q0' q1' i ta tb) (hi : 1 ≤ i) : Swp A' B' n q0' q1' (i + 1) ta tb := by
  have hr : A.role = 2 := by
    rcases (show i = 1 ∨ 2 ≤ i by omega) with e | e
    · exact (h.n1 e).1
    · exact (h.n2 e).1
  refine ⟨k.okA, k.okB, k.roles, k.d0, k.d1, k.ta, k.tb, fun e => absurd e (by omega), fun e => absurd e (by omega), fun _ => ⟨by rw [k.role, hr], ?_⟩⟩
  rw [show i + 1 - 2 = i - 1 by omega]
  exact k.far hi
theorem Aft.swap {A B A' B' : TurnM} {n q0 q1 q0' q1' : Nat} {ta tb : List ByteArray} (h : Swp A B n q0 q1 0 ta tb) (k : Aft A B A' B' n q0 q1 q0' q1' 0 ta tb) : Swp A'.swap B'.swap n q0' q1' 1 ta tb := by
  have r1 : A'.role = 1 := by rw [k.role, (h.n0 rfl).1]
  have r2 : B'.role = 2 := (role_of k.roles).1 r1
  refine ⟨k.okA.swap, k.okB.swap, ⟨.inr ⟨?_, ?_⟩⟩, k.d0, k.d1, k.ta, k.tb, fun e => absurd e (by omega), fun _ => ⟨?_, ?_, ?_⟩, fun e => absurd e (by omega)⟩
  · show 3 - A'.role = 2; omega
  · show 3 - B'.role = 1; omega
  · show 3 - A'.role = 2; omega
  · show decide (A'.role = 2) = false; rw [r1]; rfl
  · show decide (B'.role = 2) = true; rw [r2]; rfl
theorem Swp.done {A B : TurnM} {n q0 q1 i : Nat} {ta tb : List ByteArray} (h : Swp A B n q0 q1 i ta tb) (hi : 11 ≤ i) : q1 = n ∧ q0 = n ∧ A.left = 0 ∧ B.left = 0 := (h.n2 (by omega)).2.done (by omega)
theorem TxI.short {o : OutM} {tx : List ByteArray} (h : TxI o tx) (hs : ∀ s ∈ tx, s.size ≤ 64) : ∀ s ∈ o.l, s.size ≤ 64 := by
  intro s hm
  rw [h.1] at hm
  exact hs s (List.mem_of_mem_drop hm)
/-- A side of texts of at most ten bytes, to which l was given. -/
def sT (R : Int) (mine : Bool) (W : Nat) (l : List ByteArray) : TurnM := ⟨R, 10, mine, ⟨W, 0, l, 0⟩, ⟨0, false⟩⟩
theorem sT_new {R wi : Int} {W : Nat} (hW : (max 1 (min wi 7)).toNat = W) : TurnM.new R wi 10 = sT R (decide (R = 1)) W [] := by
  subst hW
  rfl
def txs (off n : Nat) : List ByteArray := (List.range n).map fun i => bodyM (i + off)
theorem txs_len (off n : Nat) : (txs off n).length = n := by unfold txs; simp
theorem txs_succ (off n : Nat) : txs off (n + 1) = txs off n ++ [bodyM (n + off)] := by unfold txs; rw [List.range_succ, List.map_append]; rfl
theorem txs_at {off n k : Nat} (h : k < n) : (txs off n).getD k ⟨#[]⟩ = bodyM (k + off) := by unfold txs; simp [h]
theorem bodyM_size (i : Nat) : (bodyM i).size = 1 := rfl
theorem txs_short (off n : Nat) : ∀ s ∈ txs off n, s.size ≤ 64 := by
  intro s hs
  unfold txs at hs
  obtain ⟨i, _, rfl⟩ := List.mem_map.1 hs
  rw [bodyM_size]
  omega
theorem sT_put {R : Int} {mine : Bool} {W off i : Nat} (hi : i < 8) : sT R mine W (txs off (i + 1)) = (sT R mine W (txs off i)).put (bodyM (i + off)) ∧ (0 : Int) = (sT R mine W (txs off i)).putE (bodyM (i + off)) := by
  have hs : ¬ ((10 : Int) < ((bodyM (i + off)).size : Int)) := by rw [bodyM_size]; omega
  have hf : OutM.full ⟨W, 0, txs off i, 0⟩ = false := by unfold OutM.full; simp only [txs_len]; exact decide_eq_false (by omega)
  unfold TurnM.put TurnM.putE
  show _ = (if (10 : Int) < ((bodyM (i + off)).size : Int) then _ else _) ∧ _ = (if (10 : Int) < ((bodyM (i + off)).size : Int) then _ else (if OutM.full ⟨W, 0, txs off i, 0⟩ then 3 else 0))
  rw [if_neg hs, if_neg hs, hf]
  refine ⟨?_, rfl⟩
  show _ = (⟨R, 10, mine, OutM.put ⟨W, 0, txs off i, 0⟩ (bodyM (i + off)), ⟨0, false⟩⟩ : TurnM)
  unfold OutM.put
  rw [hf]
  show _ = (⟨R, 10, mine, ⟨W, 0, txs off i ++ [bodyM (i + off)], 0⟩, ⟨0, false⟩⟩ : TurnM)
  unfold sT
  rw [txs_succ]
theorem sT_ok {R : Int} {mine : Bool} {W off n : Nat} (hR : R = 1 ∨ R = 2) (hW : 1 ≤ W ∧ W ≤ 7) (hn : n ≤ 8) : (sT R mine W (txs off n)).ok :=
  ⟨hR, by show (10 : Int) ≤ 64; decide, ⟨hW.1, hW.2, by show 0 < 8; decide, by show (txs off n).length ≤ 8; rw [txs_len]; exact hn, Nat.zero_le _, Nat.zero_le _⟩, by show 0 < 8; decide⟩
theorem swp_start {W n : Nat} (hW : 1 ≤ W ∧ W ≤ 7) (hn : n ≤ 8) : Swp (sT 1 true W (txs 0 n)) (sT 2 false W (txs 10 n)) n 0 0 0 (txs 0 n) (txs 10 n) :=
  ⟨sT_ok (.inl rfl) hW hn, sT_ok (.inr rfl) hW hn, ⟨.inl ⟨rfl, rfl⟩⟩, ⟨⟨0, by show n = 0 + (txs 0 n).length; rw [txs_len]; omega, rfl, Nat.le_refl _, Nat.zero_le _⟩, rfl⟩, ⟨⟨0, by show n = 0 + (txs 10 n).length; rw [txs_len]; omega, rfl, Nat.le_refl _, Nat.zero_le _⟩, rfl⟩,
    ⟨by show txs 0 n = (txs 0 n).drop ((txs 0 n).length - (txs 0 n).length); rw [Nat.sub_self]; rfl, Nat.le_refl _⟩, ⟨by show txs 10 n = (txs 10 n).drop ((txs 10 n).length - (txs 10 n).length); rw [Nat.sub_self]; rfl, Nat.le_refl _⟩,
    fun _ => ⟨rfl, rfl, rfl⟩, fun e => absurd e (by decide), fun e => absurd e (by decide)⟩
end Go.Proofs.YtocjhpaackccpaaGreatDoor

namespace Go.Proofs.YtocjhpaackccpaaGreatDoor
open Go.RowKit M

theorem Fr.comp {C D : Obj → Obj} (hC : Fr C) (hD : Fr D) : Fr (fun X => C (D X)) := ⟨fun h => by
  obtain ⟨F1, h1, h2⟩ := hC.out h
  obtain ⟨F2, h3, h4⟩ := hD.out h1
  exact ⟨F2, h3, fun k => h2 (h4 k)⟩⟩
theorem Sd.drop_at {w0 w : World} {C : Obj → Obj} {A B : Obj} (hC : Fr C) (h : Sd w0 (C (Star A B)) w) : Sd w0 (C A) w := by
  obtain ⟨F, ⟨F1, F2, rfl, h1, _, _⟩, hu⟩ := h.upd hC
  exact hu ⟨F1, h1, Tch.refl _ _, fun g hg => .inl (List.mem_append_left _ hg)⟩
theorem Sd.comm_at {w0 w : World} {C : Obj → Obj} {A B : Obj} (hC : Fr C) (h : Sd w0 (C (Star A B)) w) : Sd w0 (C (Star B A)) w := by
  obtain ⟨F, ⟨F1, F2, rfl, h1, h2, h3⟩, hu⟩ := h.upd hC
  exact hu ⟨F2 ++ F1, ⟨F2, F1, rfl, h2, h1, h3.symm⟩, Tch.refl _ _, fun g hg => .inl (by simpa [or_comm] using hg)⟩
theorem says_ok {a : TurnM} (ha : a.ok) (hz : ∀ s ∈ a.out.l, s.size ≤ 64) : ∀ p ∈ a.says, p.okT := by
  intro p hp
  have hn : a.inn.next < 8 := ha.inn
  have hm : (64 : Nat) ≤ maxLen := by unfold maxLen; decide
  unfold TurnM.says at hp
  split at hp
  · split at hp
    · simp only [List.mem_singleton] at hp
      subst hp
      refine ⟨⟨w64 (n := 0) (by decide), w64 (n := 0) (by decide), w64 (n := 2) (by decide), ?_, w64 (n := (a.inn.next : Int)) (by omega), w64 (n := 0) (by decide), by show (0 : Nat) ≤ maxLen; omega⟩, by show (0 : Nat) ≤ 281474976710656; omega⟩
      show (Lit.int .i64 (if a.inn.odd then 2 else 0)).wf = true
      split <;> decide
    · obtain ⟨i, hi, rfl⟩ := List.mem_map.1 hp
      suffices h64 : (a.out.l.getD i ⟨#[]⟩).size ≤ 64 by
        refine ⟨⟨w64 (n := 0) (by decide), w64 (n := 0) (by decide), w64 (n := 1) (by decide), w64 (n := 0) (by decide), w64 (n := (a.inn.next : Int)) (by omega), w64 (n := (((a.out.first + i) % 8 : Nat) : Int)) (by omega), ?_⟩, ?_⟩
        · show (a.out.l.getD i ⟨#[]⟩).size ≤ maxLen
          omega
        · show (a.out.l.getD i ⟨#[]⟩).size ≤ 281474976710656
          omega
      rw [List.getD_eq_getElem?_getD]
      rcases h : a.out.l[i]? with _ | x
      · exact Nat.zero_le _
      · have := hz x (List.mem_of_getElem? h)
        show x.size ≤ 64
        omega
  · cases hp
theorem says_len {a : TurnM} (ha : a.ok) : a.says.length ≤ 7 := by
  have := OutM.k_le ha.out
  unfold TurnM.says
  split
  · split
    · simp
    · simp; omega
  · simp
set_option maxRecDepth 100000 in
set_option maxHeartbeats 16000000 in
theorem Say_any {w0 w : World} {C : Obj → Obj} {v u : Value} {a b : TurnM} (hC : Fr C) (hCS : ∀ R, Stab R → Stab (C R)) (loss : Int) (ha : a.ok) (hz : ∀ p ∈ a.says, p.okT) (h : Sd w0 (C (Star (TurnW v a) (TurnW u b))) w) :
    Calls Tryz.prog 46 #[v, u, .int .i64 loss] w fun e w' => e = .returned (.int .i64 ((hearM loss a.says 0 b 0).2 : Int)) ∧ Sd w0 (C (Star (TurnW v a.go) (TurnW u (hearM loss a.says 0 b 0).1))) w' := by
  have HF := Lib.hid hC
  have HCS := Lib.hid hCS
  have HS0 := Lib.hid h
  have HZ := Lib.hid hz
  obtain ⟨S, hS⟩ : ∃ S, S = a.says.length := ⟨_, rfl⟩
  have HGN := Lib.hid hS
  have HS8 : Hid (S ≤ 7) := by show S ≤ 7; rw [hS]; exact says_len ha
  obtain ⟨r, hr⟩ : ∃ r, r = hearM loss a.says 0 b 0 := ⟨_, rfl⟩
  rw [← hr]
  have HR0 : Hid (hearM loss (a.says.drop 0) 0 b 0 = r) := hr.symm
  clear hC hCS h hz hS hr ha
  go_enter Tryz.func46, Tryz.ntmps46
  go_wp2_with (first
    | (go_at_call 34; ((with_reducible refine (TnGo_C (C := fun X => C (Star X (TurnW u b))) (Fr.comp HF.out (Fr.l Fr.id_ (TurnW.stab _ _))) HGN.out rfl rfl HS0.out).mono ?_); rintro e w1 ⟨A, c, rfl, hc, hs⟩; have HS1 := Lib.hid hs; clear hs)))
  go_loopw [7, 15] (fun nv jv wr => ∃ (j : Nat) (bj : TurnM) (nj : Nat), j ≤ S ∧ nj ≤ j ∧ jv = .int .i64 (j : Int) ∧ nv = .int .i64 (nj : Int) ∧ hearM loss (a.says.drop j) j bj nj = r ∧ Sd w0 (C (Star (Star (TurnW v a.go) (SlW 9 (.slice A S c) S (plcs a.says))) (TurnW u bj))) wr) (fun _ jv _ => (9 - intOf jv).toNat)
  case atStart => exact ⟨0, b, 0, by omega, by omega, rfl, rfl, HR0.out, HS1.out⟩
  case round =>
    clear HS0 HS1 HR0
    obtain ⟨j, bj, nj, hjS, hnj, rfl, rfl, hh, hs⟩ := hrel
    have HS3 := Lib.hid hs
    by_cases hlt : j < S
    · have t1 : decide ((j : Int) < (S : Int)) = true := decide_eq_true (by omega)
      have t2 : (j : Int) < (S : Int) := by omega
      have e1 : IntKind.i64.wrap ((j : Int) + 1) = (j : Int) + 1 := IntWalk.i64_in _ (by have := HS8.out; omega)
      have e2 : IntKind.i64.wrap ((nj : Int) + 1) = (nj : Int) + 1 := IntWalk.i64_in _ (by have := HS8.out; omega)
      obtain ⟨_, g1⟩ := hs.get (C := fun X => C (Star (Star (TurnW v a.go) X) (TurnW u bj))) (Fr.comp HF.out (Fr.l (Fr.r (TurnW.stab _ _) Fr.id_) (TurnW.stab _ _)))
      obtain ⟨bq, off, rfl⟩ := g1.addr0 (by omega)
      have hjl : j < a.says.length := by rw [← HGN.out]; exact hlt
      obtain ⟨p, hp⟩ : ∃ p, a.says[j] = p := ⟨_, rfl⟩
      have hp1 : a.says[j]? = some p := by rw [List.getElem?_eq_getElem hjl, hp]
      have HRG := Lib.hid (g1.plain hp1)
      have HPK := Lib.hid (HZ.out p (List.mem_of_getElem? hp1))
      have hst : hearM loss (a.says.drop j) j bj nj = if lossB loss j then hearM loss (a.says.drop (j + 1)) (j + 1) bj nj else hearM loss (a.says.drop (j + 1)) (j + 1) (bj.take p) (nj + (if bj.tells p then 1 else 0)) := by
        rw [List.drop_eq_getElem_cons hjl, hp]
        rfl
      have hm7 : bits .and .i64 (j : Int) 7 = ((j % 8 : Nat) : Int) := by rw [show (7 : Int) = 2 ^ 3 - 1 by decide, i64_and_mask 3 (by decide)]; omega
      obtain ⟨q, hq⟩ : ∃ q, j % 8 = q := ⟨_, rfl⟩
      have hq8 : q < 8 := by omega
      have h1 : min q 64 = q := by omega
      have h2 := i64_and1 (loss / 2 ^ q)
      have hlb : lossB loss j = (loss / 2 ^ q % 2 == 1) := by unfold lossB atB; rw [hq]
      rw [hq] at hm7
      clear g1 hs hp1 hp hjl hq
      rcases hls : lossB loss j with _ | _
      · rw [hls] at hlb
        have hlc : (loss / 2 ^ q % 2 == 1) = false := hlb.symm
        clear hlb
        rcases htl : bj.tells p with _ | _
        · have HTO : Hid (false = bj.tells p) := htl.symm
          have HRR : Hid (hearM loss (a.says.drop (j + 1)) (j + 1) (bj.take p) nj = r) := by show _ = r; rw [← hh, hst, if_neg (by rw [hls]; decide), htl]; rfl
          clear htl hst hh
          go_wp2_with (first
            | (with_reducible refine wpList_load_mid rfl 37 (.tmp 18) rfl bq (off + j * 9) rfl (pcs p) _ HRG.out Tryz.underlying37 rfl (by kernel_rfl) ?_)
            | ((with_reducible refine wpList_storeBSd (C := fun X => Star (C (Star (Star (TurnW v a.go) (SlW 9 (.slice (some ⟨bq, off, none⟩) S c) S (plcs a.says))) (TurnW u bj))) X) (Fr.r (HCS.out _ (((TurnW.stab _ _).star (SlW.stab _ _ _ _)).star (TurnW.stab _ _))) Fr.id_) (HS3.out.add (HCS.out _ (((TurnW.stab _ _).star (SlW.stab _ _ _ _)).star (TurnW.stab _ _))) (CellW.new wr #[.int .i64 0, .int .i64 0, .bool false, .int .i64 0, .int .i64 0, .int .i64 0, .int .i64 0, .bool false, .string ⟨#[]⟩] 37)) rfl 37 (.tmp 9) (.tmp 19) rfl #[.int .i64 p.seat, .int .i64 p.count, .bool p.cmd, .int .i64 p.kind, .int .i64 p.sort, .int .i64 p.nr, .int .i64 p.ns, .bool p.pf, .string p.body] rfl rfl (by kernel_rfl) rfl (pcs_one p) ?_); intro w4 hs; have HS4 := Lib.hid hs; clear hs)
            | (with_reducible refine wpList_loadSd (C := fun X => Star (C (Star (Star (TurnW v a.go) (SlW 9 (.slice (some ⟨bq, off, none⟩) S c) S (plcs a.says))) (TurnW u bj))) X) (Fr.r (HCS.out _ (((TurnW.stab _ _).star (SlW.stab _ _ _ _)).star (TurnW.stab _ _))) Fr.id_) HS4.out rfl 37 (.tmp 9) rfl rfl _ Tryz.underlying37 rfl (by kernel_rfl) ?_)
            | (go_at_call 37; ((with_reducible refine (TnTake_C (C := fun X => Star (C (Star (Star (TurnW v a.go) (SlW 9 (.slice (some ⟨bq, off, none⟩) S c) S (plcs a.says))) X)) (CellW wr.heap.size #[.int .i64 p.seat, .int .i64 p.count, .bool p.cmd, .int .i64 p.kind, .int .i64 p.sort, .int .i64 p.nr, .int .i64 p.ns, .bool p.pf, .string p.body] 37)) (Fr.l (Fr.comp HF.out (Fr.r ((TurnW.stab _ _).star (SlW.stab _ _ _ _)) Fr.id_)) (CellW.stab _ _ _)) (p := p) HPK.out rfl HTO.out rfl HS4.out).mono ?_); rintro e w5 ⟨rfl, hs⟩; have HS5 := Lib.hid hs; clear hs)))
          go_roundw
          case rel => exact ⟨j + 1, bj.take p, nj, by omega, by omega, by go_num, rfl, HRR.out, HS5.out.drop⟩
          case measure => have := HS8.out; simp [intOf] <;> omega
        · have HTO : Hid (true = bj.tells p) := htl.symm
          have HRR : Hid (hearM loss (a.says.drop (j + 1)) (j + 1) (bj.take p) (nj + 1) = r) := by show _ = r; rw [← hh, hst, if_neg (by rw [hls]; decide), htl]; rfl
          clear htl hst hh
          go_wp2_with (first
            | (with_reducible refine wpList_load_mid rfl 37 (.tmp 18) rfl bq (off + j * 9) rfl (pcs p) _ HRG.out Tryz.underlying37 rfl (by kernel_rfl) ?_)
            | ((with_reducible refine wpList_storeBSd (C := fun X => Star (C (Star (Star (TurnW v a.go) (SlW 9 (.slice (some ⟨bq, off, none⟩) S c) S (plcs a.says))) (TurnW u bj))) X) (Fr.r (HCS.out _ (((TurnW.stab _ _).star (SlW.stab _ _ _ _)).star (TurnW.stab _ _))) Fr.id_) (HS3.out.add (HCS.out _ (((TurnW.stab _ _).star (SlW.stab _ _ _ _)).star (TurnW.stab _ _))) (CellW.new wr #[.int .i64 0, .int .i64 0, .bool false, .int .i64 0, .int .i64 0, .int .i64 0, .int .i64 0, .bool false, .string ⟨#[]⟩] 37)) rfl 37 (.tmp 9) (.tmp 19) rfl #[.int .i64 p.seat, .int .i64 p.count, .bool p.cmd, .int .i64 p.kind, .int .i64 p.sort, .int .i64 p.nr, .int .i64 p.ns, .bool p.pf, .string p.body] rfl rfl (by kernel_rfl) rfl (pcs_one p) ?_); intro w4 hs; have HS4 := Lib.hid hs; clear hs)
            | (with_reducible refine wpList_loadSd (C := fun X => Star (C (Star (Star (TurnW v a.go) (SlW 9 (.slice (some ⟨bq, off, none⟩) S c) S (plcs a.says))) (TurnW u bj))) X) (Fr.r (HCS.out _ (((TurnW.stab _ _).star (SlW.stab _ _ _ _)).star (TurnW.stab _ _))) Fr.id_) HS4.out rfl 37 (.tmp 9) rfl rfl _ Tryz.underlying37 rfl (by kernel_rfl) ?_)
            | (go_at_call 37; ((with_reducible refine (TnTake_C (C := fun X => Star (C (Star (Star (TurnW v a.go) (SlW 9 (.slice (some ⟨bq, off, none⟩) S c) S (plcs a.says))) X)) (CellW wr.heap.size #[.int .i64 p.seat, .int .i64 p.count, .bool p.cmd, .int .i64 p.kind, .int .i64 p.sort, .int .i64 p.nr, .int .i64 p.ns, .bool p.pf, .string p.body] 37)) (Fr.l (Fr.comp HF.out (Fr.r ((TurnW.stab _ _).star (SlW.stab _ _ _ _)) Fr.id_)) (CellW.stab _ _ _)) (p := p) HPK.out rfl HTO.out rfl HS4.out).mono ?_); rintro e w5 ⟨rfl, hs⟩; have HS5 := Lib.hid hs; clear hs)))
          go_roundw
          case rel => exact ⟨j + 1, bj.take p, nj + 1, by omega, by omega, by go_num, by go_num, HRR.out, HS5.out.drop⟩
          case measure => have := HS8.out; simp [intOf] <;> omega
      · rw [hls] at hlb
        have hlc : (loss / 2 ^ q % 2 == 1) = true := hlb.symm
        have HRR : Hid (hearM loss (a.says.drop (j + 1)) (j + 1) bj nj = r) := by show _ = r; rw [← hh, hst, if_pos hls]
        clear hlb hst hh
        go_wp2_with (first
          | (with_reducible refine wpList_load_mid rfl 37 (.tmp 18) rfl bq (off + j * 9) rfl (pcs p) _ HRG.out Tryz.underlying37 rfl (by kernel_rfl) ?_)
          | ((with_reducible refine wpList_storeBSd (C := fun X => Star (C (Star (Star (TurnW v a.go) (SlW 9 (.slice (some ⟨bq, off, none⟩) S c) S (plcs a.says))) (TurnW u bj))) X) (Fr.r (HCS.out _ (((TurnW.stab _ _).star (SlW.stab _ _ _ _)).star (TurnW.stab _ _))) Fr.id_) (HS3.out.add (HCS.out _ (((TurnW.stab _ _).star (SlW.stab _ _ _ _)).star (TurnW.stab _ _))) (CellW.new wr #[.int .i64 0, .int .i64 0, .bool false, .int .i64 0, .int .i64 0, .int .i64 0, .int .i64 0, .bool false, .string ⟨#[]⟩] 37)) rfl 37 (.tmp 9) (.tmp 19) rfl #[.int .i64 p.seat, .int .i64 p.count, .bool p.cmd, .int .i64 p.kind, .int .i64 p.sort, .int .i64 p.nr, .int .i64 p.ns, .bool p.pf, .string p.body] rfl rfl (by kernel_rfl) rfl (pcs_one p) ?_); intro w4 hs; have HS4 := Lib.hid hs; clear hs))
        go_roundw
        case rel => exact ⟨j + 1, bj, nj, by omega, by omega, by go_num, rfl, HRR.out, HS4.out.drop⟩
        case measure => have := HS8.out; simp [intOf] <;> omega
    · have t1 : decide ((j : Int) < (S : Int)) = false := decide_eq_false (by omega)
      have hR : (bj, nj) = r := by
        rw [← hh, List.drop_eq_nil_of_le (by rw [← HGN.out]; omega)]
        rfl
      have HRV : Hid ((nj : Int) = (r.2 : Int)) := by show _ = _; rw [← hR]
      have HST : Hid (Sd w0 (C (Star (TurnW v a.go) (TurnW u r.1))) wr) := by
        show Sd _ _ _
        rw [← hR]
        exact Sd.drop_at (C := fun X => C (Star X (TurnW u bj))) (Fr.comp HF.out (Fr.l Fr.id_ (TurnW.stab _ _))) hs
      clear hh hs hR
      go_wp2
      go_ret
      exact ⟨by rw [← HRV.out]; rfl, HST.out⟩
end Go.Proofs.YtocjhpaackccpaaGreatDoor

namespace Go.Proofs.YtocjhpaackccpaaGreatDoor
open Go.RowKit M

section
variable {w0 w : World} {C : Obj → Obj} {A B D : Obj}
theorem Sd.assoc_at (hC : Fr C) (h : Sd w0 (C (Star (Star A B) D)) w) : Sd w0 (C (Star A (Star B D))) w := by
  obtain ⟨F, ⟨F1, F2, rfl, ⟨F3, F4, rfl, h1, h2, h3⟩, h4, h5⟩, hu⟩ := h.upd hC
  refine hu ⟨F3 ++ (F4 ++ F2), ⟨F3, F4 ++ F2, rfl, h1, ⟨F4, F2, rfl, h2, h4, h5.r⟩, ?_⟩, Tch.refl _ _, fun g hg => .inl (by simpa [List.append_assoc] using hg)⟩
  intro g hg hg'
  rcases List.mem_append.1 hg' with h6 | h6
  · exact h3 g hg h6
  · exact h5 g (List.mem_append_left _ hg) h6
theorem Sd.assoc_at' (hC : Fr C) (h : Sd w0 (C (Star A (Star B D))) w) : Sd w0 (C (Star (Star A B) D)) w := by
  obtain ⟨F, ⟨F1, F2, rfl, h1, ⟨F3, F4, rfl, h2, h3, h4⟩, h5⟩, hu⟩ := h.upd hC
  refine hu ⟨(F1 ++ F3) ++ F4, ⟨F1 ++ F3, F4, rfl, ⟨F1, F3, rfl, h1, h2, fun g hg hg' => h5 g hg (List.mem_append_left _ hg')⟩, h3, ?_⟩, Tch.refl _ _, fun g hg => .inl (by simpa [List.append_assoc] using hg)⟩
  intro g hg hg'
  rcases List.mem_append.1 hg with h6 | h6
  · exact h5 g h6 (List.mem_append_right _ hg')
  · exact h4 g h6 hg'
end
section
variable {w0 w : World} {X T0 T1 P : Obj}
theorem Sd.permA (hX : Stab X) (h1 : Stab T0) (h2 : Stab T1) (hP : Stab P) (h : Sd w0 (Star (Star (Star X T0) T1) P) w) : Sd w0 (Star (Star X P) (Star T0 T1)) w := by
  have k1 := Sd.assoc_at (C := fun Y => Star Y P) (Fr.l Fr.id_ hP) h
  have k2 := Sd.assoc_at (C := fun Y => Y) Fr.id_ k1
  have k3 := Sd.comm_at (C := fun Y => Star X Y) (Fr.r hX Fr.id_) k2
  exact Sd.assoc_at' (C := fun Y => Y) Fr.id_ k3
theorem Sd.permB (hX : Stab X) (h1 : Stab T0) (h2 : Stab T1) (hP : Stab P) (h : Sd w0 (Star (Star (Star X T0) P) T1) w) : Sd w0 (Star (Star X P) (Star T0 T1)) w := by
  have k1 := Sd.assoc_at (C := fun Y => Star Y T1) (Fr.l Fr.id_ h2) h
  have k2 := Sd.comm_at (C := fun Y => Star (Star X Y) T1) (Fr.l (Fr.r hX Fr.id_) h2) k1
  have k3 := Sd.assoc_at' (C := fun Y => Star Y T1) (Fr.l Fr.id_ h2) k2
  exact Sd.assoc_at (C := fun Y => Y) Fr.id_ k3
theorem Sd.permC (h : Sd w0 (Star (Star (Star X P) T0) T1) w) : Sd w0 (Star (Star X P) (Star T0 T1)) w := Sd.assoc_at (C := fun Y => Y) Fr.id_ h
end
theorem region_shared3 {P : Program} {id : Nat} {ops : Array Oper} {a : Act} {w : World} {Q : Exit → Act → World → Prop} (F : Nat → Addr → Addr → World → Prop) (A : Nat → Addr → Addr → Act) (hcont : ∀ g a0 a1 w5, F g a0 a1 w5 → Q .normal (A g a0 a1) w5) (h : (∀ g a0 a1 w5, F g a0 a1 w5 → Q .normal (A g a0 a1) w5) → (Code.region id ops true).wp P Q a w) : (Code.region id ops true).wp P Q a w := h hcont
theorem range_row {w : World} {g : Nat} {cs : List Value} {t : TypeId} (h : w.heap[g]? = some (.cells cs.toArray t (0, 0))) : w.rangeAt g 0 cs := fun j u hu => by
  rw [Nat.zero_add]
  exact cell_at h j u (by simpa using hu)
/-- All texts are short. -/
def Short (T : TurnM) : Prop := ∀ s ∈ T.out.l, s.size ≤ 64
theorem short_new (role win size : Int) : Short (TurnM.new role win size) := fun _ h => by cases h
theorem short_ack {o : OutM} {n : Int} (h : ∀ s ∈ o.l, s.size ≤ 64) : ∀ s ∈ (o.ack n).l, s.size ≤ 64 := by
  unfold OutM.ack
  split
  · exact fun s hs => h s (List.mem_of_mem_drop hs)
  · exact h
theorem short_take {T : TurnM} (h : Short T) (p : PIn) : Short (T.take p) := by
  unfold TurnM.take Short
  split
  · exact short_ack h
  · exact h
theorem short_hear (loss : Int) : ∀ (ps : List PIn) (k : Nat) (b : TurnM) (n : Nat), Short b → Short (hearM loss ps k b n).1
  | [], _, _, _, h => h
  | p :: ps, k, b, n, h => by
    unfold hearM
    split
    · exact short_hear loss ps (k + 1) b n h
    · exact short_hear loss ps (k + 1) (b.take p) _ (short_take h p)
theorem short_go {T : TurnM} (h : Short T) : Short T.go := by
  unfold TurnM.go
  split
  · exact h
  · exact h
theorem short_put {T : TurnM} (h : Short T) {x : ByteArray} (hx : x.size ≤ 64) : Short { T with out := T.out.put x } := by
  show ∀ s ∈ (T.out.put x).l, s.size ≤ 64
  unfold OutM.put
  split
  · exact h
  · intro s hs
    rcases List.mem_append.1 hs with h1 | h1
    · exact h s h1
    · simp only [List.mem_singleton] at h1
      subst h1
      exact hx
end Go.Proofs.YtocjhpaackccpaaGreatDoor

namespace Go.Proofs.YtocjhpaackccpaaGreatDoor
open Go.RowKit M

/-- Two pointers; two sides; two counts each. -/
def H2 (K : Obj) (g gp gt : Nat) (a0 a1 : Addr) (T0 T1 : TurnM) (p0 p1 q0 q1 : Nat) : Obj :=
  Star (Star (Star (Star K (CellW g #[.pointer (some a0), .pointer (some a1)] 64)) (Star (TurnW (.pointer (some a0)) T0) (TurnW (.pointer (some a1)) T1))) (CellW gp #[.int .i64 (p0 : Int), .int .i64 (p1 : Int)] 65)) (CellW gt #[.int .i64 (q0 : Int), .int .i64 (q1 : Int)] 65)
section
variable {w0 w w' : World} {C : Obj → Obj} {K : Obj} {g gp gt : Nat} {a0 a1 : Addr} {T0 T1 : TurnM} {p0 p1 q0 q1 : Nat}
theorem H2.stab (hK : Stab K) : Stab (H2 K g gp gt a0 a1 T0 T1 p0 p1 q0 q1) := (((hK.star (CellW.stab _ _ _)).star ((TurnW.stab _ _).star (TurnW.stab _ _))).star (CellW.stab _ _ _)).star (CellW.stab _ _ _)
theorem H2.frPair (hK : Stab K) : Fr (fun X => Star (Star (Star (Star K (CellW g #[.pointer (some a0), .pointer (some a1)] 64)) X) (CellW gp #[.int .i64 (p0 : Int), .int .i64 (p1 : Int)] 65)) (CellW gt #[.int .i64 (q0 : Int), .int .i64 (q1 : Int)] 65)) :=
  Fr.l (Fr.l (Fr.r (hK.star (CellW.stab _ _ _)) Fr.id_) (CellW.stab _ _ _)) (CellW.stab _ _ _)
theorem H2.stPair (hK : Stab K) (R : Obj) (hR : Stab R) : Stab (Star (Star (Star (Star K (CellW g #[.pointer (some a0), .pointer (some a1)] 64)) R) (CellW gp #[.int .i64 (p0 : Int), .int .i64 (p1 : Int)] 65)) (CellW gt #[.int .i64 (q0 : Int), .int .i64 (q1 : Int)] 65)) :=
  (((hK.star (CellW.stab _ _ _)).star hR).star (CellW.stab _ _ _)).star (CellW.stab _ _ _)
theorem two_fr0 (hC : Fr C) (hK : Stab K) : Fr (fun X => C (Star (Star (Star (Star K (CellW g #[.pointer (some a0), .pointer (some a1)] 64)) (Star X (TurnW (.pointer (some a1)) T1))) (CellW gp #[.int .i64 (p0 : Int), .int .i64 (p1 : Int)] 65)) (CellW gt #[.int .i64 (q0 : Int), .int .i64 (q1 : Int)] 65))) :=
  Fr.comp hC (Fr.comp (H2.frPair hK) (Fr.l Fr.id_ (TurnW.stab _ _)))
theorem two_fr1 (hC : Fr C) (hK : Stab K) : Fr (fun X => C (Star (Star (Star (Star K (CellW g #[.pointer (some a0), .pointer (some a1)] 64)) (Star (TurnW (.pointer (some a0)) T0) X)) (CellW gp #[.int .i64 (p0 : Int), .int .i64 (p1 : Int)] 65)) (CellW gt #[.int .i64 (q0 : Int), .int .i64 (q1 : Int)] 65))) :=
  Fr.comp hC (Fr.comp (H2.frPair hK) (Fr.r (TurnW.stab _ _) Fr.id_))
theorem two_put0 (hC : Fr C) (hK : Stab K) {s : ByteArray} {e : Int} {m' : TurnM} (hs : s.size ≤ maxLen) (he : e = T0.putE s) (hm : m' = T0.put s) (h : Sd w0 (C (H2 K g gp gt a0 a1 T0 T1 p0 p1 q0 q1)) w) : Calls Tryz.prog 31 #[.pointer (some a0), .string s] w fun e' w' => e' = .returned (.int .i64 e) ∧ Sd w0 (C (H2 K g gp gt a0 a1 m' T1 p0 p1 q0 q1)) w' :=
  TnPut_C (two_fr0 hC hK) hs he hm h
theorem two_put1 (hC : Fr C) (hK : Stab K) {s : ByteArray} {e : Int} {m' : TurnM} (hs : s.size ≤ maxLen) (he : e = T1.putE s) (hm : m' = T1.put s) (h : Sd w0 (C (H2 K g gp gt a0 a1 T0 T1 p0 p1 q0 q1)) w) : Calls Tryz.prog 31 #[.pointer (some a1), .string s] w fun e' w' => e' = .returned (.int .i64 e) ∧ Sd w0 (C (H2 K g gp gt a0 a1 T0 m' p0 p1 q0 q1)) w' :=
  TnPut_C (two_fr1 hC hK) hs he hm h
theorem two_late (hC : Fr C) (hK : Stab K) {b : Bool} (hb : b = T0.lates) (h : Sd w0 (C (H2 K g gp gt a0 a1 T0 T1 p0 p1 q0 q1)) w) : Calls Tryz.prog 39 #[.pointer (some a0)] w fun e' w' => e' = .returned (.bool b) ∧ Sd w0 (C (H2 K g gp gt a0 a1 T0.late T1 p0 p1 q0 q1)) w' :=
  TnLate_C (two_fr0 hC hK) hb rfl h
theorem two_mine0 (hC : Fr C) (hCS : ∀ R, Stab R → Stab (C R)) (hK : Stab K) {b : Bool} (hb : b = T0.mine) (h : Sd w0 (C (H2 K g gp gt a0 a1 T0 T1 p0 p1 q0 q1)) w) : Calls Tryz.prog 43 #[.pointer (some a0)] w fun e' w' => e' = .returned (.bool b) ∧ Sd w0 (C (H2 K g gp gt a0 a1 T0 T1 p0 p1 q0 q1)) w' :=
  TnMine_C (two_fr0 hC hK) (hCS _ (H2.stab hK)) hb h
theorem two_mine1 (hC : Fr C) (hCS : ∀ R, Stab R → Stab (C R)) (hK : Stab K) {b : Bool} (hb : b = T1.mine) (h : Sd w0 (C (H2 K g gp gt a0 a1 T0 T1 p0 p1 q0 q1)) w) : Calls Tryz.prog 43 #[.pointer (some a1)] w fun e' w' => e' = .returned (.bool b) ∧ Sd w0 (C (H2 K g gp gt a0 a1 T0 T1 p0 p1 q0 q1)) w' :=
  TnMine_C (two_fr1 hC hK) (hCS _ (H2.stab hK)) hb h
theorem two_left0 (hC : Fr C) (hCS : ∀ R, Stab R → Stab (C R)) (hK : Stab K) {n : Int} (hb : n = (T0.left : Int)) (h : Sd w0 (C (H2 K g gp gt a0 a1 T0 T1 p0 p1 q0 q1)) w) : Calls Tryz.prog 45 #[.pointer (some a0)] w fun e' w' => e' = .returned (.int .i64 n) ∧ Sd w0 (C (H2 K g gp gt a0 a1 T0 T1 p0 p1 q0 q1)) w' :=
  TnLeft_C (two_fr0 hC hK) (hCS _ (H2.stab hK)) hb h
theorem two_left1 (hC : Fr C) (hCS : ∀ R, Stab R → Stab (C R)) (hK : Stab K) {n : Int} (hb : n = (T1.left : Int)) (h : Sd w0 (C (H2 K g gp gt a0 a1 T0 T1 p0 p1 q0 q1)) w) : Calls Tryz.prog 45 #[.pointer (some a1)] w fun e' w' => e' = .returned (.int .i64 n) ∧ Sd w0 (C (H2 K g gp gt a0 a1 T0 T1 p0 p1 q0 q1)) w' :=
  TnLeft_C (two_fr1 hC hK) (hCS _ (H2.stab hK)) hb h
theorem two_say0 (hC : Fr C) (hCS : ∀ R, Stab R → Stab (C R)) (hK : Stab K) (loss : Int) (ha : T0.ok) (hz : Short T0) (h : Sd w0 (C (H2 K g gp gt a0 a1 T0 T1 p0 p1 q0 q1)) w) : Calls Tryz.prog 46 #[.pointer (some a0), .pointer (some a1), .int .i64 loss] w fun e w' => e = .returned (.int .i64 ((hearM loss T0.says 0 T1 0).2 : Int)) ∧ Sd w0 (C (H2 K g gp gt a0 a1 T0.go (hearM loss T0.says 0 T1 0).1 p0 p1 q0 q1)) w' :=
  Say_any (Fr.comp hC (H2.frPair hK)) (fun R hR => hCS _ (H2.stPair hK R hR)) loss ha (says_ok ha hz) h
theorem two_say1 (hC : Fr C) (hCS : ∀ R, Stab R → Stab (C R)) (hK : Stab K) (loss : Int) (ha : T1.ok) (hz : Short T1) (h : Sd w0 (C (H2 K g gp gt a0 a1 T0 T1 p0 p1 q0 q1)) w) : Calls Tryz.prog 46 #[.pointer (some a1), .pointer (some a0), .int .i64 loss] w fun e w' => e = .returned (.int .i64 ((hearM loss T1.says 0 T0 0).2 : Int)) ∧ Sd w0 (C (H2 K g gp gt a0 a1 (hearM loss T1.says 0 T0 0).1 T1.go p0 p1 q0 q1)) w' :=
  (Say_any (C := fun X => C (Star (Star (Star (Star K (CellW g #[.pointer (some a0), .pointer (some a1)] 64)) X) (CellW gp #[.int .i64 (p0 : Int), .int .i64 (p1 : Int)] 65)) (CellW gt #[.int .i64 (q0 : Int), .int .i64 (q1 : Int)] 65))) (Fr.comp hC (H2.frPair hK)) (fun R hR => hCS _ (H2.stPair hK R hR)) loss ha (says_ok ha hz) (Sd.comm_at (C := fun X => C (Star (Star (Star (Star K (CellW g #[.pointer (some a0), .pointer (some a1)] 64)) X) (CellW gp #[.int .i64 (p0 : Int), .int .i64 (p1 : Int)] 65)) (CellW gt #[.int .i64 (q0 : Int), .int .i64 (q1 : Int)] 65))) (A := TurnW (.pointer (some a0)) T0) (B := TurnW (.pointer (some a1)) T1) (Fr.comp hC (H2.frPair hK)) h)).mono fun _ _ ⟨he, hs⟩ => ⟨he, Sd.comm_at (C := fun X => C (Star (Star (Star (Star K (CellW g #[.pointer (some a0), .pointer (some a1)] 64)) X) (CellW gp #[.int .i64 (p0 : Int), .int .i64 (p1 : Int)] 65)) (CellW gt #[.int .i64 (q0 : Int), .int .i64 (q1 : Int)] 65))) (A := TurnW (.pointer (some a1)) T1.go) (B := TurnW (.pointer (some a0)) (hearM loss T1.says 0 T0 0).1) (Fr.comp hC (H2.frPair hK)) hs⟩
theorem two_heapG (hC : Fr C) (hK : Stab K) (h : Sd w0 (C (H2 K g gp gt a0 a1 T0 T1 p0 p1 q0 q1)) w) : w.heap[g]? = some (.cells #[.pointer (some a0), .pointer (some a1)] 64 (0, 0)) :=
  Sd.at_ (C := fun X => C (Star (Star (Star (Star K X) (Star (TurnW (.pointer (some a0)) T0) (TurnW (.pointer (some a1)) T1))) (CellW gp #[.int .i64 (p0 : Int), .int .i64 (p1 : Int)] 65)) (CellW gt #[.int .i64 (q0 : Int), .int .i64 (q1 : Int)] 65)))
    (Fr.comp hC (Fr.l (Fr.l (Fr.l (Fr.r hK Fr.id_) ((TurnW.stab _ _).star (TurnW.stab _ _))) (CellW.stab _ _ _)) (CellW.stab _ _ _))) h
theorem two_frP (hC : Fr C) (hK : Stab K) : Fr (fun X => C (Star (Star (Star (Star K (CellW g #[.pointer (some a0), .pointer (some a1)] 64)) (Star (TurnW (.pointer (some a0)) T0) (TurnW (.pointer (some a1)) T1))) X) (CellW gt #[.int .i64 (q0 : Int), .int .i64 (q1 : Int)] 65))) :=
  Fr.comp hC (Fr.l (Fr.r ((hK.star (CellW.stab _ _ _)).star ((TurnW.stab _ _).star (TurnW.stab _ _))) Fr.id_) (CellW.stab _ _ _))
theorem two_frQ (hC : Fr C) (hK : Stab K) : Fr (fun X => C (Star (Star (Star (Star K (CellW g #[.pointer (some a0), .pointer (some a1)] 64)) (Star (TurnW (.pointer (some a0)) T0) (TurnW (.pointer (some a1)) T1))) (CellW gp #[.int .i64 (p0 : Int), .int .i64 (p1 : Int)] 65)) X)) :=
  Fr.comp hC (Fr.r (((hK.star (CellW.stab _ _ _)).star ((TurnW.stab _ _).star (TurnW.stab _ _))).star (CellW.stab _ _ _)) Fr.id_)
theorem two_heapP (hC : Fr C) (hK : Stab K) (h : Sd w0 (C (H2 K g gp gt a0 a1 T0 T1 p0 p1 q0 q1)) w) : w.heap[gp]? = some (.cells #[.int .i64 (p0 : Int), .int .i64 (p1 : Int)] 65 (0, 0)) := Sd.at_ (two_frP hC hK) h
theorem two_heapQ (hC : Fr C) (hK : Stab K) (h : Sd w0 (C (H2 K g gp gt a0 a1 T0 T1 p0 p1 q0 q1)) w) : w.heap[gt]? = some (.cells #[.int .i64 (q0 : Int), .int .i64 (q1 : Int)] 65 (0, 0)) := Sd.at_ (two_frQ hC hK) h
theorem two_setP (hC : Fr C) (hK : Stab K) (h : Sd w0 (C (H2 K g gp gt a0 a1 T0 T1 p0 p1 q0 q1)) w) {r0 r1 : Nat} (hg : w.grownBy w' (some gp)) (hh : w'.heap[gp]? = some (.cells #[.int .i64 (r0 : Int), .int .i64 (r1 : Int)] 65 (0, 0))) : Sd w0 (C (H2 K g gp gt a0 a1 T0 T1 r0 r1 q0 q1)) w' :=
  Sd.put_ (two_frP hC hK) h hg hh
theorem two_setQ (hC : Fr C) (hK : Stab K) (h : Sd w0 (C (H2 K g gp gt a0 a1 T0 T1 p0 p1 q0 q1)) w) {r0 r1 : Nat} (hg : w.grownBy w' (some gt)) (hh : w'.heap[gt]? = some (.cells #[.int .i64 (r0 : Int), .int .i64 (r1 : Int)] 65 (0, 0))) : Sd w0 (C (H2 K g gp gt a0 a1 T0 T1 p0 p1 r0 r1)) w' :=
  Sd.put_ (two_frQ hC hK) h hg hh
end
end Go.Proofs.YtocjhpaackccpaaGreatDoor
