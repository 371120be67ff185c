/- The reference of layer 12: what is acknowledged. -/
import Derived.Test.YtocjhpaackccpaaGreatDoorRO

set_option linter.all false

namespace Go.Proofs.YtocjhpaackccpaaGreatDoor
open Go.RowKit M

set_option maxRecDepth 100000 in
set_option maxHeartbeats 16000000 in
theorem ROAck_any (go : Nat) (o : OutM) (F : List Nat) (nr : Int) (w : World) (h : ROut go o w F) : Calls Tryz.prog 64 #[.pointer (some ⟨go, 0, none⟩), .int .i64 nr] w fun e w' => e = .returned (.tuple #[.int .i64 (o.ackN nr : Int), .bool (o.acks nr)]) ∧ Done w F (ROut go (o.ack nr)) w' := by
  obtain ⟨hok, A, cap, hcap, h⟩ := h.shape
  obtain ⟨W, f, l, sn⟩ := o
  unfold ROut2 outc at h
  simp only at h hcap
  obtain ⟨n, hn⟩ : ∃ n, n = l.length := ⟨_, rfl⟩
  rw [← hn] at h hcap
  have hS := Done.start h
  have hg := (Done.at_ (C := fun X => Star (X) (OwnK 9 1 (.slice A n cap) n (strg l))) (Fr.l Fr.id_ (OwnK.stab _ _ _ _ _)) hS)
  have q1 : w.cell? ⟨go, 1, none⟩ = some (.int .i64 (f : Int)) := cell_at hg 1 _ rfl
  have q2 : w.cell? ⟨go, 2, none⟩ = some (.slice A n cap) := cell_at hg 2 _ rfl
  have q3 : w.cell? ⟨go, 3, none⟩ = some (.int .i64 (sn : Int)) := cell_at hg 3 _ rfl
  have HL8 : Hid (n ≤ 8) := by show _ ≤ _; rw [hn]; exact hok.len
  have HSN : Hid (sn ≤ n) := by show _ ≤ _; rw [hn]; exact hok.sent
  have HSW : Hid (sn ≤ 7) := by show _ ≤ _; exact Nat.le_trans hok.sentw hok.win7
  have HF8 : Hid (f < 8) := by show _ < _; exact hok.first
  have HOK := Lib.hid hok
  have HN := Lib.hid hn
  have HS := Lib.hid hS
  have HCAP := Lib.hid hcap
  have hrd : RdG 1 w (.slice A n cap) n (strg l) := ((Done.get (C := fun X => Star (CellW go #[.int .i64 (W : Int), .int .i64 (f : Int), .slice A n cap, .int .i64 (sn : Int)] 61) X) (Fr.r (CellW.stab _ _ _) Fr.id_) hS).elim fun _ h => h.rd)
  have HRD := Lib.hid hrd
  have HFM : Hid ((n = 0 ∧ cap = 0 ∧ A = none) ∨ ∃ b, A = some ⟨b, 0, none⟩) := ((Done.get (C := fun X => Star (CellW go #[.int .i64 (W : Int), .int .i64 (f : Int), .slice A n cap, .int .i64 (sn : Int)] 61) X) (Fr.r (CellW.stab _ _ _) Fr.id_) hS).elim fun _ h => own_form h.2)
  have HT := Lib.hid (HS.out.add ((CellW.stab _ _ _).star (OwnK.stab _ _ _ _ _)) (OwnK.nilD 9 1 w))
  obtain ⟨d, hd⟩ : ∃ d, d = OutM.dif ⟨W, f, l, sn⟩ nr := ⟨_, rfl⟩
  have HD : Hid (d = ((nr - (f : Int)) % 8).toNat) := hd
  have hd8 : d < 8 := by rw [hd]; exact OutM.dif_lt _ _
  have HD8 := Lib.hid hd8
  have hm : ∀ k : Nat, k ≤ 7 → 0 ≤ nr → nr ≤ 7 → (m8 ((f : Int) + (k : Int)) = nr ↔ k = d) := fun k hk h1 h2 => by
    have := HD.out
    have := HF8.out
    unfold m8
    omega
  have HM := Lib.hid hm
  have hK : ∀ k, k = d → 0 ≤ nr → nr ≤ 7 → k ≤ sn → OutM.acks ⟨W, f, l, sn⟩ nr = true ∧ OutM.ackN ⟨W, f, l, sn⟩ nr = k ∧ OutM.ack ⟨W, f, l, sn⟩ nr = ⟨W, nr.toNat, l.drop k, sn - k⟩ := fun k hk h1 h2 h3 => by
    have e1 : OutM.acks ⟨W, f, l, sn⟩ nr = true := decide_eq_true ⟨h1, h2, by rw [← hd, ← hk]; exact h3⟩
    refine ⟨e1, ?_, ?_⟩
    · unfold OutM.ackN; rw [e1, hk, hd]; rfl
    · unfold OutM.ack; rw [e1, hk, hd]; rfl
  have hK2 : (0 ≤ nr → nr ≤ 7 → sn < d) → OutM.acks ⟨W, f, l, sn⟩ nr = false ∧ OutM.ackN ⟨W, f, l, sn⟩ nr = 0 ∧ OutM.ack ⟨W, f, l, sn⟩ nr = ⟨W, f, l, sn⟩ := fun h1 => by
    have e1 : OutM.acks ⟨W, f, l, sn⟩ nr = false := decide_eq_false (fun h2 => by have := h1 h2.1 h2.2.1; have := h2.2.2; rw [← hd] at this; simp only at this; omega)
    refine ⟨e1, ?_, ?_⟩
    · unfold OutM.ackN; rw [e1]; rfl
    · unfold OutM.ack; rw [e1]; rfl
  have HK := Lib.hid hK
  have HK2 := Lib.hid hK2
  have HOKA := Lib.hid (hok.ack nr)
  clear hok hn hS hg h hcap hrd hd hd8 hm hK hK2
  go_enter Tryz.func64, Tryz.ntmps64
  go_wp2
  go_loopw [6] (fun iv wr => wr = w ∧ ∃ k : Nat, k ≤ sn + 1 ∧ iv = .int .i64 (k : Int) ∧ (0 ≤ nr → nr ≤ 7 → k ≤ d)) (fun iv _ => (9 - intOf iv).toNat)
  case atStart => exact ⟨rfl, 0, by omega, rfl, fun _ _ => by omega⟩
  case round =>
    obtain ⟨rfl, k, hk, rfl, hkd⟩ := hrel
    have HKD := Lib.hid hkd
    clear hkd
    by_cases hks : k ≤ sn
    · have tl : decide ((k : Int) ≤ (sn : Int)) = true := decide_eq_true (by omega)
      have e2 : IntKind.i64.wrap ((k : Int) + 1) = (k : Int) + 1 := IntWalk.i64_in _ (by have := HSW.out; omega)
      by_cases h0 : 0 ≤ nr
      · have t0 : decide (0 ≤ nr) = true := decide_eq_true h0
        by_cases h7 : nr ≤ 7
        · have t7 : decide (nr ≤ 7) = true := decide_eq_true h7
          have e1 : IntKind.i64.wrap ((f : Int) + (k : Int)) = (f : Int) + (k : Int) := IntWalk.i64_in _ (by have := HSW.out; have := HF8.out; omega)
          have hs := fun w => RMod_any ((f : Int) + (k : Int)) w
          by_cases hkd : k = d
          · have hmd : m8 ((f : Int) + (k : Int)) = nr := (HM.out k (by have := HSW.out; omega) h0 h7).2 hkd
            rw [hmd] at hs
            have HSM := Lib.hid hs
            obtain ⟨hx1, hx2, hx3⟩ := HK.out k hkd h0 h7 hks
            have hok2 := HOKA.out
            rw [hx3] at hok2
            obtain ⟨r, rfl⟩ : ∃ r : Nat, nr = (r : Int) := ⟨nr.toNat, by omega⟩
            have er : ((r : Int)).toNat = r := Int.toNat_natCast r
            rw [er] at hok2 hx3
            have HOK2 := Lib.hid hok2
            have HX1 := Lib.hid hx1
            have HX2 := Lib.hid hx2
            have HX3 := Lib.hid hx3
            have hkn : k ≤ n := by have := HSN.out; omega
            have HKN := Lib.hid hkn
            have tk1 : (k : Int) ≤ (n : Int) := by omega
            have tk2 : (n : Int) ≤ (cap : Int) := by have := HCAP.out.1; omega
            have tk3 : (k : Int) ≤ (cap : Int) := by omega
            have hkc : k ≤ cap := by omega
            have e3 : IntKind.i64.wrap ((sn : Int) - (k : Int)) = (sn : Int) - (k : Int) := IntWalk.i64_in _ (by have := HSW.out; omega)
            have HE4 : Hid ((sn : Int) - (k : Int) = ((sn - k : Nat) : Int)) := by show _ = _; omega
            have HB : Hid (n - k ≤ 1000000) := by show _ ≤ _; have := HL8.out; omega
            have HLD : Hid (strg (l.drop k) = (strg l).drop (k * 1)) := by show _ = _; unfold strg; rw [List.map_drop, Nat.mul_one]
            clear hs hmd hkd hx1 hx2 hx3 hok2 er
            rcases HFM.out with ⟨rfl, rfl, rfl⟩ | ⟨b, rfl⟩
            · obtain rfl : k = 0 := by have := HSN.out; omega
              have HN0 : Hid (strg l = []) := by show _ = _; have := HN.out; rw [List.length_eq_zero_iff.1 this.symm]; rfl
              have HSM0 : Hid (∀ w, Calls Tryz.prog 19 #[.int .i64 (f : Int)] w fun e w' => e = .returned (.int .i64 (r : Int)) ∧ w' = w) := by show ∀ _, _; have := HSM.out; simpa using this
              have e10 : IntKind.i64.wrap (f : Int) = (f : Int) := IntWalk.i64_in _ (by have := HF8.out; omega)
              have e30 : IntKind.i64.wrap (sn : Int) = (sn : Int) := IntWalk.i64_in _ (by have := HSW.out; omega)
              go_wp2_with (first
                | (go_at_call 19; ((with_reducible refine (HSM0.out _).mono ?_); rintro e w' ⟨rfl, hw'⟩; rw [hw']; clear hw'))
                | (at_builtin; (with_reducible refine wpList_appD (C := fun X => Star (Star (CellW go #[.int .i64 (W : Int), .int .i64 (f : Int), .slice none 0 0, .int .i64 (sn : Int)] 61) (OwnK 9 1 (.slice none 0 0) 0 (strg l))) X) (Fr.r ((CellW.stab _ _ _).star (OwnK.stab _ _ _ _ _)) Fr.id_) HT.out rfl _ _ 59 16 (.string ⟨#[]⟩) rfl Tryz.underlying59 (by kernel_rfl) rfl (by decide) (.slice none 0 0) 0 [] rfl rfl (RdG.nil_ 1 _) (by intro y hy; simp at hy) 0 (by omega) (by decide) (strg (l.drop 0)) (by rw [HLD.out, HN0.out]; simp) ?_); intro A1 c1 w1 hs hc; have HS1 := Lib.hid hs; clear hs)
                | ((with_reducible refine wpList_storeD (C := fun X => Star (Star (X) (OwnK 9 1 (.slice none 0 0) 0 (strg l))) (OwnK 9 1 (.slice A1 0 c1) 0 (strg (l.drop 0)))) (Fr.l (Fr.l Fr.id_ (OwnK.stab _ _ _ _ _)) (OwnK.stab _ _ _ _ _)) HS1.out rfl 59 (.tmp 41) (.tmp 39) rfl 2 (.slice A1 0 c1) rfl rfl (by simp) (run_storeS _ _ _ _ _) ?_); intro w2 hs; have HS2 : Hid (Done _ F (Star (Star (CellW go #[.int .i64 (W : Int), .int .i64 (f : Int), .slice A1 0 c1, .int .i64 (sn : Int)] 61) (OwnK 9 1 (.slice none 0 0) 0 (strg l))) (OwnK 9 1 (.slice A1 0 c1) 0 (strg (l.drop 0)))) w2) := (by show Done _ _ _ _; exact hs); have q3' : w2.cell? ⟨go, 3, none⟩ = some (.int .i64 (sn : Int)) := cell_at (Done.at_ (C := fun X => Star (Star (X) (OwnK 9 1 (.slice none 0 0) 0 (strg l))) (OwnK 9 1 (.slice A1 0 c1) 0 (strg (l.drop 0)))) (Fr.l (Fr.l Fr.id_ (OwnK.stab _ _ _ _ _)) (OwnK.stab _ _ _ _ _)) hs) 3 _ rfl; clear hs)
                | ((with_reducible refine wpList_storeD (C := fun X => Star (Star (X) (OwnK 9 1 (.slice none 0 0) 0 (strg l))) (OwnK 9 1 (.slice A1 0 c1) 0 (strg (l.drop 0)))) (Fr.l (Fr.l Fr.id_ (OwnK.stab _ _ _ _ _)) (OwnK.stab _ _ _ _ _)) HS2.out rfl 3 (.tmp 52) (.tmp 44) rfl 1 (.int .i64 (r : Int)) rfl rfl (by simp) (run_storeI _ _ _) ?_); intro w3 hs; have HS3 : Hid (Done _ F (Star (Star (CellW go #[.int .i64 (W : Int), .int .i64 (r : Int), .slice A1 0 c1, .int .i64 (sn : Int)] 61) (OwnK 9 1 (.slice none 0 0) 0 (strg l))) (OwnK 9 1 (.slice A1 0 c1) 0 (strg (l.drop 0)))) w3) := (by show Done _ _ _ _; exact hs); clear hs)
                | ((with_reducible refine wpList_storeD (C := fun X => Star (Star (X) (OwnK 9 1 (.slice none 0 0) 0 (strg l))) (OwnK 9 1 (.slice A1 0 c1) 0 (strg (l.drop 0)))) (Fr.l (Fr.l Fr.id_ (OwnK.stab _ _ _ _ _)) (OwnK.stab _ _ _ _ _)) HS3.out rfl 3 (.tmp 54) (.tmp 50) rfl 3 (.int .i64 (sn : Int)) rfl rfl (by simp) (run_storeI _ _ _) ?_); intro w4 hs; have HS4 := Lib.hid hs; clear hs))
              all_goals
                go_ret2
                refine ⟨by rw [HX1.out, HX2.out]; rfl, ?_⟩
                rw [HX3.out]
                refine HS4.out.drop_mid.mono fun F hF => ⟨HOK2.out, .slice A1 0 c1, ?_⟩
                have e : (l.drop 0).length = 0 := by rw [List.length_drop, ← HN.out]
                unfold ROut2 outc
                simp only
                rw [e]
                exact hF
            · have HFR := Lib.hid (HRD.out.from_ hkn (if cap = k then some ⟨b, 0, none⟩ else some ⟨b, k, none⟩) (fun hlt b' off' he => by injection he with he; injection he with he1 he2; subst he1; subst he2; rw [if_neg (by have := HCAP.out.1; omega)]; simp))
              go_wp2_with (first
                | (go_at_call 19; ((with_reducible refine (HSM.out _).mono ?_); rintro e w' ⟨rfl, hw'⟩; rw [hw']; clear hw'))
                | (at_builtin; (with_reducible refine wpList_appD (C := fun X => Star (Star (CellW go #[.int .i64 (W : Int), .int .i64 (f : Int), .slice (some ⟨b, 0, none⟩) n cap, .int .i64 (sn : Int)] 61) (OwnK 9 1 (.slice (some ⟨b, 0, none⟩) n cap) n (strg l))) X) (Fr.r ((CellW.stab _ _ _).star (OwnK.stab _ _ _ _ _)) Fr.id_) HT.out rfl _ _ 59 16 (.string ⟨#[]⟩) rfl Tryz.underlying59 (by kernel_rfl) rfl (by decide) (.slice (if cap = k then some ⟨b, 0, none⟩ else some ⟨b, k, none⟩) (n - k) (cap - k)) (n - k) ((strg l).drop (k * 1)) rfl rfl HFR.out (by intro y hy; exact strg_one _ y (List.mem_of_mem_drop hy)) (n - k) (by omega) HB.out (strg (l.drop k)) (by rw [HLD.out, List.nil_append]) ?_); intro A1 c1 w1 hs hc; have HS1 := Lib.hid hs; clear hs)
                | ((with_reducible refine wpList_storeD (C := fun X => Star (Star (X) (OwnK 9 1 (.slice (some ⟨b, 0, none⟩) n cap) n (strg l))) (OwnK 9 1 (.slice A1 (n - k) c1) (n - k) (strg (l.drop k)))) (Fr.l (Fr.l Fr.id_ (OwnK.stab _ _ _ _ _)) (OwnK.stab _ _ _ _ _)) HS1.out rfl 59 (.tmp 41) (.tmp 39) rfl 2 (.slice A1 (n - k) c1) rfl rfl (by simp) (run_storeS _ _ _ _ _) ?_); intro w2 hs; have HS2 : Hid (Done _ F (Star (Star (CellW go #[.int .i64 (W : Int), .int .i64 (f : Int), .slice A1 (n - k) c1, .int .i64 (sn : Int)] 61) (OwnK 9 1 (.slice (some ⟨b, 0, none⟩) n cap) n (strg l))) (OwnK 9 1 (.slice A1 (n - k) c1) (n - k) (strg (l.drop k)))) w2) := (by show Done _ _ _ _; exact hs); have q3' : w2.cell? ⟨go, 3, none⟩ = some (.int .i64 (sn : Int)) := cell_at (Done.at_ (C := fun X => Star (Star (X) (OwnK 9 1 (.slice (some ⟨b, 0, none⟩) n cap) n (strg l))) (OwnK 9 1 (.slice A1 (n - k) c1) (n - k) (strg (l.drop k)))) (Fr.l (Fr.l Fr.id_ (OwnK.stab _ _ _ _ _)) (OwnK.stab _ _ _ _ _)) hs) 3 _ rfl; clear hs)
                | ((with_reducible refine wpList_storeD (C := fun X => Star (Star (X) (OwnK 9 1 (.slice (some ⟨b, 0, none⟩) n cap) n (strg l))) (OwnK 9 1 (.slice A1 (n - k) c1) (n - k) (strg (l.drop k)))) (Fr.l (Fr.l Fr.id_ (OwnK.stab _ _ _ _ _)) (OwnK.stab _ _ _ _ _)) HS2.out rfl 3 (.tmp 52) (.tmp 44) rfl 1 (.int .i64 (r : Int)) rfl rfl (by simp) (run_storeI _ _ _) ?_); intro w3 hs; have HS3 : Hid (Done _ F (Star (Star (CellW go #[.int .i64 (W : Int), .int .i64 (r : Int), .slice A1 (n - k) c1, .int .i64 (sn : Int)] 61) (OwnK 9 1 (.slice (some ⟨b, 0, none⟩) n cap) n (strg l))) (OwnK 9 1 (.slice A1 (n - k) c1) (n - k) (strg (l.drop k)))) w3) := (by show Done _ _ _ _; exact hs); clear hs)
                | ((with_reducible refine wpList_storeD (C := fun X => Star (Star (X) (OwnK 9 1 (.slice (some ⟨b, 0, none⟩) n cap) n (strg l))) (OwnK 9 1 (.slice A1 (n - k) c1) (n - k) (strg (l.drop k)))) (Fr.l (Fr.l Fr.id_ (OwnK.stab _ _ _ _ _)) (OwnK.stab _ _ _ _ _)) HS3.out rfl 3 (.tmp 54) (.tmp 50) rfl 3 (.int .i64 ((sn : Int) - (k : Int))) rfl rfl (by simp) (run_storeI _ _ _) ?_); intro w4 hs; have HS4 := Lib.hid hs; clear hs))
              all_goals
                go_ret2
                refine ⟨by rw [HX1.out, HX2.out]; rfl, ?_⟩
                rw [HX3.out]
                refine HS4.out.drop_mid.mono fun F hF => ⟨HOK2.out, .slice A1 (n - k) c1, ?_⟩
                have e : (l.drop k).length = (n - k) := by rw [List.length_drop, ← HN.out]
                unfold ROut2 outc
                simp only
                rw [e, ← HE4.out]
                exact hF
          · have hmd : ¬ m8 ((f : Int) + (k : Int)) = nr := fun h => hkd ((HM.out k (by have := HSW.out; omega) h0 h7).1 h)
            have tb : (m8 ((f : Int) + (k : Int)) == nr) = false := beq_eq_false_iff_ne.2 hmd
            generalize m8 ((f : Int) + (k : Int)) = q at hs tb
            have HSM := Lib.hid hs
            have HNK := Lib.hid hkd
            clear hs hmd hkd
            go_wp2_with (go_at_call 19; ((with_reducible refine (HSM.out _).mono ?_); rintro e w' ⟨rfl, hw'⟩; rw [hw']; clear hw'))
            go_roundw
            case rel => exact ⟨trivial, k + 1, by omega, by go_num, fun a b => by have := HKD.out a b; have := HNK.out; omega⟩
            case measure => have := HSW.out; simp [intOf] <;> omega
        · have t7 : decide (nr ≤ 7) = false := decide_eq_false h7
          go_wp2
          go_roundw
          case rel => exact ⟨trivial, k + 1, by omega, by go_num, fun _ b => absurd b h7⟩
          case measure => have := HSW.out; simp [intOf] <;> omega
      · have t0 : decide (0 ≤ nr) = false := decide_eq_false h0
        go_wp2
        go_roundw
        case rel => exact ⟨trivial, k + 1, by omega, by go_num, fun a _ => absurd a h0⟩
        case measure => have := HSW.out; simp [intOf] <;> omega
    · have tl : decide ((k : Int) ≤ (sn : Int)) = false := decide_eq_false (by omega)
      obtain ⟨hx1, hx2, hx3⟩ := HK2.out (fun a b => by have := HKD.out a b; omega)
      have HX1 := Lib.hid hx1
      have HX2 := Lib.hid hx2
      have HX3 := Lib.hid hx3
      clear hx1 hx2 hx3
      go_wp2
      go_ret2
      refine ⟨by rw [HX1.out, HX2.out]; rfl, ?_⟩
      rw [HX3.out]
      refine HS.out.mono fun F hF => ?_
      have e := HN.out
      subst e
      exact ⟨HOK.out, _, hF⟩
end Go.Proofs.YtocjhpaackccpaaGreatDoor
