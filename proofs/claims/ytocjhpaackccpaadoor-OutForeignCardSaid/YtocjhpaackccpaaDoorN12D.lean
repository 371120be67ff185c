/- Of layer 12: L12b, L12c, OutL. -/
import Derived.Test.YtocjhpaackccpaaDoorL12a
import Derived.Test.YtocjhpaackccpaaDoorN12C
import Derived.Test.YtocjhpaackccpaaDoorN12B

set_option linter.all false

namespace Go.Proofs.YtocjhpaackccpaaDoor
open Go.RowKit M

/-- How many of those below x are among n from a on. -/
def cntM (a n : Int) : Nat → Int
  | 0 => 0
  | x + 1 => cntM a n x + (if inM (x : Int) a n then 1 else 0)
theorem inM_mod (x a n : Int) : inM x a n = inM x (a % 8) n := by
  unfold inM
  congr 1
  rw [eq_iff_iff]
  have : (x - a) % 8 = (x - a % 8) % 8 := by omega
  rw [this]
theorem cntM_mod (a n : Int) : ∀ x, cntM a n x = cntM (a % 8) n x
  | 0 => rfl
  | x + 1 => by unfold cntM; rw [inM_mod, cntM_mod a n x]
theorem cntM_all (a n : Int) (h : 0 ≤ n ∧ n < 12) : cntM a n 8 = min n 8 := by
  rw [cntM_mod]
  obtain ⟨r, hr⟩ : ∃ r : Nat, a % 8 = r := ⟨(a % 8).toNat, by omega⟩
  obtain ⟨k, rfl⟩ : ∃ k : Nat, n = k := ⟨n.toNat, by omega⟩
  rw [hr]
  have key : ∀ r : Fin 8, ∀ k : Fin 12, cntM (r.1 : Int) (k.1 : Int) 8 = min (k.1 : Int) 8 := by decide +kernel
  exact key ⟨r, by omega⟩ ⟨k, by omega⟩
theorem cntM_bound (a n : Int) : ∀ x : Nat, 0 ≤ cntM a n x ∧ cntM a n x ≤ x
  | 0 => by simp [cntM]
  | x + 1 => by
    have := cntM_bound a n x
    unfold cntM
    split <;> omega
theorem mod12 (n : Int) : 0 ≤ (n.tmod 12 + 12) % 12 ∧ (n.tmod 12 + 12) % 12 < 12 ∧ -11 ≤ n.tmod 12 ∧ n.tmod 12 ≤ 11 := by
  have a1 := Int.lt_tmod_of_pos n (show (0 : Int) < 12 by decide)
  have a2 := Int.tmod_lt_of_pos n (show (0 : Int) < 12 by decide)
  omega
set_option maxRecDepth 100000 in
set_option maxHeartbeats 4000000 in
theorem ModRound_law (a b n : Int) (w : World) (hC : Codes w) : Calls Tryd.prog 3 #[.int .i64 a, .int .i64 b, .int .i64 n] w fun e w' => e = .returned (.bool true) ∧ Below w.heap.size w w' := by
  have ma : bits .and .i64 a 1023 = a % 1024 := i64_and_mask 10 (by decide) a
  have mb : bits .and .i64 b 1023 = b % 1024 := i64_and_mask 10 (by decide) b
  obtain ⟨A, hA⟩ : ∃ A, a % 1024 = A := ⟨_, rfl⟩
  obtain ⟨B, hB⟩ : ∃ B, b % 1024 = B := ⟨_, rfl⟩
  rw [hA] at ma
  rw [hB] at mb
  have ba : 0 ≤ A ∧ A < 1024 := by omega
  have bb : 0 ≤ B ∧ B < 1024 := by omega
  obtain ⟨n1, n2, n3, n4⟩ := mod12 n
  have e1 : IntKind.i64.wrap (n.tmod 12) = n.tmod 12 := IntWalk.i64_in _ (by omega)
  have e2 : IntKind.i64.wrap (n.tmod 12 + 12) = n.tmod 12 + 12 := IntWalk.i64_in _ (by omega)
  obtain ⟨t, ht⟩ : ∃ t, n.tmod 12 = t := ⟨_, rfl⟩
  rw [ht] at n1 n2 n3 n4 e1 e2
  have e3 : (t + 12).tmod 12 = t % 12 := by rw [Int.tmod_eq_emod_of_nonneg (by omega)]; omega
  have e3' : (t + 12) % 12 = t % 12 := by omega
  rw [e3'] at n1 n2
  obtain ⟨N, hN⟩ : ∃ N, t % 12 = N := ⟨_, rfl⟩
  rw [hN] at n1 n2 e3
  have h1 := fun w => MAdd_any A 8 w (w64 (by omega)) (by decide)
  have h2 := fun w => MAdd_any A 0 w (w64 (by omega)) (by decide)
  have h3 := fun w => MAdd_any A B w (w64 (by omega)) (w64 (by omega))
  have h4 := fun w => MAdd_any (m8 (A + B)) 0 w (m8_wf _) (by decide)
  have h5 := fun w => MAdd_any B A w (w64 (by omega)) (w64 (by omega))
  have h6 := fun w => MDiff_any A A w (w64 (by omega)) (w64 (by omega))
  have h7 := fun w => MIn_any A A 1 w (w64 (by omega)) (w64 (by omega)) (by decide)
  have h8 := fun w => MDiff_any A B w (w64 (by omega)) (w64 (by omega))
  have h9 := fun w => MDiff_any B A w (w64 (by omega)) (w64 (by omega))
  have h10 := fun w => MAdd_any (m8 (A - B)) (m8 (B - A)) w (m8_wf _) (m8_wf _)
  have hin := fun (x : Nat) (hx : x < 8) w => MIn_any (x : Int) A N w (w64 (by omega)) (w64 (by omega)) (w64 (by omega))
  have hall := cntM_all A N ⟨n1, n2⟩
  rw [show m8 (A + 0) = m8 (A + 8) by unfold m8; omega] at h2
  rw [show m8 (m8 (A + B) + 0) = m8 (A + B) by unfold m8; omega] at h4
  rw [show m8 (B + A) = m8 (A + B) by unfold m8; omega] at h5
  rw [show m8 (A - A) = 0 by unfold m8; omega] at h6
  rw [show inM A A 1 = true by unfold inM; rw [Int.sub_self]; rfl] at h7
  rw [show m8 (m8 (A - B) + m8 (B - A)) = 0 by unfold m8; omega] at h10
  generalize m8 (A + 8) = x1 at h1 h2
  generalize m8 (A + B) = x2 at h3 h4 h5
  generalize m8 (A - B) = x3 at h8 h10
  generalize m8 (B - A) = x4 at h9 h10
  have bnd := cntM_bound A N
  have hst : ∀ x : Nat, cntM A N (x + 1) = cntM A N x + (if inM (x : Int) A N then 1 else 0) := fun _ => rfl
  have h0 : cntM A N 0 = 0 := rfl
  generalize cntM A N = q at hall bnd hst h0
  have H1 := Lib.hid h1
  have H2 := Lib.hid h2
  have H3 := Lib.hid h3
  have H4 := Lib.hid h4
  have H5 := Lib.hid h5
  have H6 := Lib.hid h6
  have H7 := Lib.hid h7
  have H8 := Lib.hid h8
  have H9 := Lib.hid h9
  have H10 := Lib.hid h10
  have HI := Lib.hid hin
  have HALL := Lib.hid hall
  have HBD := Lib.hid bnd
  have HST := Lib.hid hst
  have H0 := Lib.hid h0
  have HC := Lib.hid hC
  clear h1 h2 h3 h4 h5 h6 h7 h8 h9 h10 hC hin hall bnd hst h0 n1 n2 n3 n4 ba bb hA hB e3'
  go_enter Tryd.func3, Tryd.ntmps3
  go_wp2_with (first
    | (go_at_call 7; ((with_reducible refine (begun12_any _ HC.out).mono ?_); rintro e w1 ⟨rfl, hb⟩; have HB1 := Lib.hid (hb); clear hb)))
  go_loopw [8, 9] (fun c i wr => ∃ x : Nat, x ≤ 8 ∧ i = .int .i64 (x : Int) ∧ c = .int .i64 (q x) ∧ Below w.heap.size w wr) (fun _ i _ => (8 - intOf i).toNat)
  case atStart => exact ⟨0, by omega, rfl, by rw [H0.out], HB1.out⟩
  case round =>
    obtain ⟨x, hx, rfl, rfl, hb⟩ := hrel
    have HB2 := Lib.hid hb
    clear hb
    by_cases h8 : x < 8
    · have t1 : decide ((x : Int) < 8) = true := decide_eq_true (by omega)
      have e4 : IntKind.i64.wrap ((x : Int) + 1) = (x : Int) + 1 := IntWalk.i64_in _ (by omega)
      have hi := HI.out x h8
      have bq := HBD.out x
      have e5 : IntKind.i64.wrap (q x + 1) = q x + 1 := IntWalk.i64_in _ (by omega)
      rcases hm : inM (x : Int) A N with _ | _
      · rw [hm] at hi
        have HIN := Lib.hid hi
        have HQ : Hid (q (x + 1) = q x) := by show _ = _; rw [HST.out x, hm]; simp
        clear hi hm bq
        go_wp2_with (first
          | (go_at_call 8; ((with_reducible refine (HIN.out _).mono ?_); rintro e w3 ⟨rfl, hb⟩; have HB3 := Lib.hid (bel_trans HB2.out hb); clear hb)))
        go_roundw
        case rel => exact ⟨x + 1, by omega, by go_num, by rw [HQ.out], HB3.out⟩
        case measure => simp [intOf] <;> omega
      · rw [hm] at hi
        have HIN := Lib.hid hi
        have HQ : Hid (q (x + 1) = q x + 1) := by show _ = _; rw [HST.out x, hm]; simp
        clear hi hm bq
        go_wp2_with (first
          | (go_at_call 8; ((with_reducible refine (HIN.out _).mono ?_); rintro e w3 ⟨rfl, hb⟩; have HB3 := Lib.hid (bel_trans HB2.out hb); clear hb)))
        go_roundw
        case rel => exact ⟨x + 1, by omega, by go_num, by rw [HQ.out], HB3.out⟩
        case measure => simp [intOf] <;> omega
    · have t1 : decide ((x : Int) < 8) = false := decide_eq_false (by omega)
      obtain rfl : x = 8 := by omega
      rw [HALL.out]
      go_wp2_with (first
        | (go_at_call 9; first
          | ((with_reducible refine (H1.out _).mono ?_); rintro e w3 ⟨rfl, hb⟩; have HB3 := Lib.hid (bel_trans HB2.out hb); clear hb)
          | ((with_reducible refine (H2.out _).mono ?_); rintro e w4 ⟨rfl, hb⟩; have HB4 := Lib.hid (bel_trans HB3.out hb); clear hb)
          | ((with_reducible refine (H3.out _).mono ?_); rintro e w5 ⟨rfl, hb⟩; have HB5 := Lib.hid (bel_trans HB4.out hb); clear hb)
          | ((with_reducible refine (H4.out _).mono ?_); rintro e w6 ⟨rfl, hb⟩; have HB6 := Lib.hid (bel_trans HB5.out hb); clear hb)
          | ((with_reducible refine (H5.out _).mono ?_); rintro e w7 ⟨rfl, hb⟩; have HB7 := Lib.hid (bel_trans HB6.out hb); clear hb)
          | ((with_reducible refine (H10.out _).mono ?_); rintro e w12 ⟨rfl, hb⟩; have HB12 := Lib.hid (bel_trans HB11.out hb); clear hb))
        | (go_at_call 10; first
          | ((with_reducible refine (H6.out _).mono ?_); rintro e w8 ⟨rfl, hb⟩; have HB8 := Lib.hid (bel_trans HB7.out hb); clear hb)
          | ((with_reducible refine (H8.out _).mono ?_); rintro e w10 ⟨rfl, hb⟩; have HB10 := Lib.hid (bel_trans HB9.out hb); clear hb)
          | ((with_reducible refine (H9.out _).mono ?_); rintro e w11 ⟨rfl, hb⟩; have HB11 := Lib.hid (bel_trans HB10.out hb); clear hb))
        | (go_at_call 8; ((with_reducible refine (H7.out _).mono ?_); rintro e w9 ⟨rfl, hb⟩; have HB9 := Lib.hid (bel_trans HB8.out hb); clear hb)))
      go_ret
      exact ⟨by simp, HB12.out⟩
end Go.Proofs.YtocjhpaackccpaaDoor

namespace Go.Proofs.YtocjhpaackccpaaDoor
open Go.RowKit M

section
variable {w0 w : World} {v : Value} {r : Nat} {o : Bool} {s : ByteArray}
end
end Go.Proofs.YtocjhpaackccpaaDoor

namespace Go.Proofs.YtocjhpaackccpaaDoor
open Go.RowKit M

section
variable {w0 w : World} {v : Value} {m m' : OutM}
theorem ONew_S {n : Int} {W : Nat} (hn : n = (W : Int)) (hW : 1 ≤ W ∧ W ≤ 7) (hb : Below w0.heap.size w0 w) : Calls Tryd.prog 11 #[.int .i64 n] w fun e w' => ∃ v, e = .returned v ∧ Sd w0 (OutW v ⟨W, 0, [], 0⟩) w' := by
  subst hn
  refine (ONew_any (W : Int) w (w64 (by omega))).mono ?_
  rintro e w' ⟨v, rfl, hd⟩
  have e1 : OutM.new (W : Int) = ⟨W, 0, [], 0⟩ := by
    unfold OutM.new
    rw [show (max 1 (min (W : Int) 7)).toNat = W by omega]
  rw [e1] at hd
  exact ⟨v, rfl, Sd.first hb hd⟩
theorem OPut_S {s : ByteArray} {e : Int} (hs : s.size ≤ 1000000) (he : e = if m.full then 3 else 0) (hm : m' = m.put s) (h : Sd w0 (OutW v m) w) : Calls Tryd.prog 12 #[v, .string s] w fun e' w' => e' = .returned (.int .i64 e) ∧ Sd w0 (OutW v m') w' := by
  subst he; subst hm
  exact calls_at (C := fun X => X) (R' := OutW v (m.put s)) Fr.id_ h (fun F hF => OPut_any v m F s w hF hs)
theorem OBurst_S {k : Nat} {ns bs : List Value} (hk : k = m.k) (hn : ns = ints m.ns) (hb : bs = strg m.bs) (hm : m' = m.burst) (h : Sd w0 (OutW v m) w) : Calls Tryd.prog 14 #[v] w fun e w' => ∃ a b, e = .returned (.tuple #[a, b]) ∧ Sd w0 (Star (OutW v m') (Star (SlW 1 a k ns) (SlW 1 b k bs))) w' := by
  subst hk; subst hn; subst hb; subst hm
  obtain ⟨F, hF, hu⟩ := h.upd (C := fun X => X) Fr.id_
  refine (OBurst_any v m F w hF).mono ?_
  rintro e w' ⟨a, b, rfl, hd⟩
  exact ⟨a, b, rfl, hu hd⟩
theorem OBurst_len {k : Nat} (hk : k = m.k) (hm : m' = m.burst) (h : Sd w0 (OutW v m) w) : Calls Tryd.prog 14 #[v] w fun e w' => ∃ A c A2 c2, e = .returned (.tuple #[.slice A k c, .slice A2 k c2]) ∧ Sd w0 (OutW v m') w' := by
  refine (OBurst_S hk rfl rfl hm h).mono ?_
  rintro e w' ⟨a, b, rfl, hs⟩
  obtain ⟨_, h1⟩ := hs.get (C := fun X => Star (OutW v m') (Star X (SlW 1 b k (strg m.bs)))) (Fr.r (OutW.stab _ _) (Fr.l Fr.id_ (SlW.stab _ _ _ _)))
  obtain ⟨_, h2⟩ := hs.get (C := fun X => Star (OutW v m') (Star (SlW 1 a k (ints m.ns)) X)) (Fr.r (OutW.stab _ _) (Fr.r (SlW.stab _ _ _ _) Fr.id_))
  obtain ⟨A, c, rfl, _, _⟩ := h1.shape
  obtain ⟨A2, c2, rfl, _, _⟩ := h2.shape
  exact ⟨A, c, A2, c2, rfl, hs.drop⟩
theorem OAck_S {nr n : Int} {ok : Bool} (hw : (Lit.int .i64 nr).wf = true) (hn : n = (m.ackN nr : Int)) (hok : ok = m.acks nr) (hm : m' = m.ack nr) (h : Sd w0 (OutW v m) w) : Calls Tryd.prog 15 #[v, .int .i64 nr] w fun e w' => e = .returned (.tuple #[.int .i64 n, .bool ok]) ∧ Sd w0 (OutW v m') w' := by
  subst hn; subst hok; subst hm
  exact calls_at (C := fun X => X) (R' := OutW v (m.ack nr)) Fr.id_ h (fun F hF => OAck_any v m F nr w hF hw)
theorem OLen_S {n : Int} (hn : n = (m.l.length : Int)) (h : Sd w0 (OutW v m) w) : Calls Tryd.prog 13 #[v] w fun e w' => e = .returned (.int .i64 n) ∧ Sd w0 (OutW v m) w' := by
  subst hn
  exact calls_look (C := fun X => X) Fr.id_ (OutW.stab _ _) h (fun F hF => OLen_any v m F w hF)
end
/-- An out with i times s in it, of which k were sent. -/
def repO (W : Nat) (s : ByteArray) (i k : Nat) : OutM := ⟨W, 0, List.replicate i s, k⟩
theorem repO_put {W i : Nat} {s : ByteArray} (h : i < 8) : repO W s (i + 1) 0 = (repO W s i 0).put s ∧ (0 : Int) = if (repO W s i 0).full then 3 else 0 := by
  have hf : (repO W s i 0).full = false := by unfold OutM.full repO; simp only [List.length_replicate]; exact decide_eq_false (by omega)
  unfold OutM.put
  rw [hf]
  refine ⟨?_, rfl⟩
  show _ = (⟨W, 0, List.replicate i s ++ [s], 0⟩ : OutM)
  unfold repO
  rw [List.replicate_succ']
theorem repO_full {W i : Nat} {s : ByteArray} (h : 8 ≤ i) : repO W s i 0 = (repO W s i 0).put s ∧ (3 : Int) = if (repO W s i 0).full then 3 else 0 := by
  have hf : (repO W s i 0).full = true := by unfold OutM.full repO; simp only [List.length_replicate]; exact decide_eq_true (by omega)
  unfold OutM.put
  rw [hf]
  exact ⟨rfl, rfl⟩
theorem repO_burst (W i : Nat) (s : ByteArray) : min W i = (repO W s i 0).k ∧ repO W s i (min W i) = (repO W s i 0).burst := by
  have hk : (repO W s i 0).k = min W i := by unfold OutM.k repO; simp
  refine ⟨hk.symm, ?_⟩
  unfold OutM.burst
  rw [hk]
  unfold repO
  simp
/-- Some of those that were sent are acknowledged. -/
def repA (W : Nat) (s : ByteArray) (i k r : Nat) : OutM := ⟨W, r, List.replicate (i - r) s, k - r⟩
theorem repO_dif {W i k : Nat} {s : ByteArray} {r : Nat} (hr : r < 8) : (repO W s i k).dif (r : Int) = r := by
  unfold OutM.dif repO
  simp only
  omega
theorem repO_ack {W i k r : Nat} {s : ByteArray} (hr : r ≤ k) (hr8 : r < 8) : true = (repO W s i k).acks (r : Int) ∧ (r : Int) = ((repO W s i k).ackN (r : Int) : Int) ∧ repA W s i k r = (repO W s i k).ack (r : Int) := by
  have hd := repO_dif (W := W) (i := i) (k := k) (s := s) hr8
  have ha : (repO W s i k).acks (r : Int) = true := by
    unfold OutM.acks
    rw [hd]
    exact decide_eq_true ⟨by omega, by omega, hr⟩
  refine ⟨ha.symm, ?_, ?_⟩
  · unfold OutM.ackN
    rw [ha, if_pos rfl, hd]
  · unfold OutM.ack
    rw [ha, if_pos rfl, hd]
    unfold repA repO
    simp
theorem repO_nack {W i k r : Nat} {s : ByteArray} (hr : k < r) (hr8 : r < 8) : false = (repO W s i k).acks (r : Int) ∧ (0 : Int) = ((repO W s i k).ackN (r : Int) : Int) ∧ repO W s i k = (repO W s i k).ack (r : Int) := by
  have hd := repO_dif (W := W) (i := i) (k := k) (s := s) hr8
  have ha : (repO W s i k).acks (r : Int) = false := by
    unfold OutM.acks
    rw [hd]
    refine decide_eq_false fun h => ?_
    have : r ≤ k := h.2.2
    omega
  refine ⟨ha.symm, ?_, ?_⟩
  · unfold OutM.ackN
    rw [ha]; rfl
  · unfold OutM.ack
    rw [ha]; rfl
theorem repA_again {W i k r : Nat} {s : ByteArray} (hr8 : r < 8) : true = (repA W s i k r).acks (r : Int) ∧ (0 : Int) = ((repA W s i k r).ackN (r : Int) : Int) ∧ repA W s i k r = (repA W s i k r).ack (r : Int) := by
  have hd : (repA W s i k r).dif (r : Int) = 0 := by unfold OutM.dif repA; simp
  have ha : (repA W s i k r).acks (r : Int) = true := by
    unfold OutM.acks
    rw [hd]
    exact decide_eq_true ⟨by omega, by omega, Nat.zero_le _⟩
  refine ⟨ha.symm, ?_, ?_⟩
  · unfold OutM.ackN
    rw [ha, if_pos rfl, hd]; rfl
  · unfold OutM.ack
    rw [ha, if_pos rfl, hd]
    unfold repA
    simp
theorem repA_len (W i k r : Nat) (s : ByteArray) : (repA W s i k r).l.length = i - r := by simp [repA]
theorem repO_len (W i k : Nat) (s : ByteArray) : (repO W s i k).l.length = i := by simp [repO]
end Go.Proofs.YtocjhpaackccpaaDoor
