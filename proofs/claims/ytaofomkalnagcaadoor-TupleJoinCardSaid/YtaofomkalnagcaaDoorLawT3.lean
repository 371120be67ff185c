/- The law TupleCut. -/
import Derived.Test.YtaofomkalnagcaaDoorLawT2

set_option linter.all false

namespace Go.Proofs.YtaofomkalnagcaaDoor
open Go.RowKit M

/-- Whether one of the first i begins at k. -/
def sm (L : List Tp) (k i : Nat) : Bool := (List.range i).any fun j => (flat (L.take j)).length == k
theorem sm_succ (L : List Tp) (k i : Nat) : sm L k (i + 1) = (sm L k i || (flat (L.take i)).length == k) := by
  unfold sm
  rw [List.range_succ, List.any_append]
  simp
theorem sm_all {L : List Tp} {S : List UInt8} {k : Nat} (hp : putT L = some S) (hk : k < S.length) : (getT (S.take k)).isSome = sm L k L.length := by
  obtain ⟨rfl, h64, hok⟩ := putT_len hp
  have hg : getT ((flat L).take k) = getL ((flat L).take k) := by unfold getT; rw [if_pos (by rw [List.length_take]; omega)]
  rw [hg, Bool.eq_iff_iff, getL_take hok k (by omega)]
  unfold sm
  rw [List.any_eq_true]
  constructor
  · rintro ⟨i, hi, he⟩
    refine ⟨i, List.mem_range.2 ?_, beq_iff_eq.2 he⟩
    rcases Nat.lt_or_ge i L.length with h | h
    · exact h
    · rw [List.take_of_length_le h] at he; omega
  · rintro ⟨i, hi, he⟩
    exact ⟨i, Nat.le_of_lt (List.mem_range.1 hi), beq_iff_eq.1 he⟩
theorem flat_take_succ {L : List Tp} {i : Nat} (h : i < L.length) : (flat (L.take (i + 1))).length = (flat (L.take i)).length + (2 + (L[i]).2.length) := by
  rw [List.take_succ_eq_append_getElem h, flat_append, List.length_append]
  show _ + (tb L[i] ++ []).length = _
  rw [List.append_nil, tb_len]; omega
theorem flat_take_le (L : List Tp) (i : Nat) : (flat (L.take i)).length ≤ (flat L).length := by
  have e : flat L = flat (L.take i) ++ flat (L.drop i) := by rw [← flat_append, List.take_append_drop]
  rw [e, List.length_append]; omega

set_option maxRecDepth 100000 in
set_option maxHeartbeats 8000000 in
theorem TupleCut_law (v : Value) (n : Nat) (ID : Nat → Int) (T : Nat → ByteArray) (at0 : Int) (w : World) (hv : IsTs w v n ID T) (hat : (Lit.int .i64 at0).wf = true) (hC : Codes w) :
    Calls Tryd.prog 19 #[v, .int .i64 at0] w (Holds4 w) := by
  have HC := Lib.hid hC
  have hba := bounds_i64 hat
  have hr := hv.rd
  have hwf := hv.wf
  obtain ⟨l, hl⟩ : ∃ l, l = lst n ID T := ⟨_, rfl⟩
  rw [← hl] at hr hwf
  have hfew := fun w (h : RdT w v l) => few_any v l w h (fun t ht => (hwf t ht).2)
  have hL1 := fewL_len l
  have hL2 := fewL_small l
  obtain ⟨L, hL⟩ : ∃ L, L = fewL l := ⟨_, rfl⟩
  rw [← hL] at hfew hL1 hL2
  have HR := Lib.hid hr
  have HFW := Lib.hid hfew
  have HL2 : Hid (∀ t ∈ L, t.2.length ≤ 1000) := fun t ht => by have := hL2 t ht; omega
  obtain ⟨A0, c0, hv0, _, _, _⟩ := hr
  subst hv0
  clear hC hv hwf hfew hL hl hL2 hat
  rcases hp : putT L with _ | S
  · have HP := Lib.hid hp
    clear hp
    go_enter Tryd.func19, Tryd.ntmps19
    go_wp2_with (first
      | (go_at_call 20; refine (begun4_any _ HC.out).mono ?_; rintro e w1 ⟨rfl, hb⟩; have HB1 := Lib.hid hb; have HR1 := Lib.hid (HR.out.below hb); clear hb)
      | (go_at_call 55; refine (HFW.out _ HR1.out).mono ?_; rintro e w2 ⟨v2, rfl, ho2, hb⟩; have HB2 := Lib.hid (bel_trans HB1.out hb); have HR2 := Lib.hid ho2.rd; obtain ⟨A2, c2, rfl, _, _⟩ := ho2.shape; clear ho2 hb)
      | (go_at_call 56; refine (putTP_no (TPut_any _ L _ HR2.out (by omega) HL2.out) HP.out).mono ?_; rintro e w3 ⟨rfl, hb⟩; have HB3 := Lib.hid (bel_trans HB2.out hb); clear hb))
    go_ret
    exact ⟨rfl, HB3.out⟩
  · have hpl := putT_len hp
    obtain ⟨sb, hsb⟩ : ∃ sb : ByteArray, sb = ⟨S.toArray⟩ := ⟨_, rfl⟩
    have hsz : sb.size = S.length := by rw [hsb]; show S.toArray.size = _; simp
    have hsd : sb.data.toList = S := by rw [hsb]
    have hpu : ∀ (w : World) (u : Value) (_ : RdT w u L), Calls Tryd.prog 56 #[u] w fun e w' => e = .returned (.tuple #[.string sb, .bool true]) ∧ Below w.heap.size w w' := fun w u h => by
      have := putTP_yes (TPut_any u L w h (by omega) HL2.out) hp
      rw [← hsb] at this
      exact this
    have hs64 : sb.size ≤ 64 := by omega
    have HPU := Lib.hid hpu
    have HSD := Lib.hid hsd
    have HSZ := Lib.hid hsz
    by_cases hz : sb.size = 0 ∨ at0 < 0
    · rcases (show sb.size = 0 ∨ (0 < sb.size ∧ at0 < 0) by omega) with hz | ⟨hz, ha⟩
      · have ez : ((sb.size : Int) == 0) = true := by rw [hz]; rfl
        clear hp hpl hpu hsz hsd hsb hz
        go_enter Tryd.func19, Tryd.ntmps19
        go_wp2_with (first
          | (go_at_call 20; refine (begun4_any _ HC.out).mono ?_; rintro e w1 ⟨rfl, hb⟩; have HB1 := Lib.hid hb; have HR1 := Lib.hid (HR.out.below hb); clear hb)
          | (go_at_call 55; refine (HFW.out _ HR1.out).mono ?_; rintro e w2 ⟨v2, rfl, ho2, hb⟩; have HB2 := Lib.hid (bel_trans HB1.out hb); have HR2 := Lib.hid ho2.rd; obtain ⟨A2, c2, rfl, _, _⟩ := ho2.shape; clear ho2 hb)
          | (go_at_call 56; refine (HPU.out _ _ HR2.out).mono ?_; rintro e w3 ⟨rfl, hb⟩; have HB3 := Lib.hid (bel_trans HB2.out hb); clear hb))
        go_ret
        exact ⟨rfl, HB3.out⟩
      · have ez : ((sb.size : Int) == 0) = false := by rw [beq_eq_false_iff_ne]; omega
        clear hp hpl hpu hsz hsd hsb
        go_enter Tryd.func19, Tryd.ntmps19
        go_wp2_with (first
          | (go_at_call 20; refine (begun4_any _ HC.out).mono ?_; rintro e w1 ⟨rfl, hb⟩; have HB1 := Lib.hid hb; have HR1 := Lib.hid (HR.out.below hb); clear hb)
          | (go_at_call 55; refine (HFW.out _ HR1.out).mono ?_; rintro e w2 ⟨v2, rfl, ho2, hb⟩; have HB2 := Lib.hid (bel_trans HB1.out hb); have HR2 := Lib.hid ho2.rd; obtain ⟨A2, c2, rfl, _, _⟩ := ho2.shape; clear ho2 hb)
          | (go_at_call 56; refine (HPU.out _ _ HR2.out).mono ?_; rintro e w3 ⟨rfl, hb⟩; have HB3 := Lib.hid (bel_trans HB2.out hb); clear hb))
        go_ret
        exact ⟨rfl, HB3.out⟩
    · have hs0 : 0 < sb.size := by omega
      have ha0 : 0 ≤ at0 := by omega
      have ez : ((sb.size : Int) == 0) = false := by rw [beq_eq_false_iff_ne]; omega
      have hm0 := Int.emod_nonneg at0 (show (sb.size : Int) ≠ 0 by omega)
      have hm1 := Int.emod_lt_of_pos at0 (show (0 : Int) < (sb.size : Int) by omega)
      obtain ⟨k, hk⟩ : ∃ k : Nat, k = (at0 % (sb.size : Int)).toNat := ⟨_, rfl⟩
      have hkl : k < sb.size := by omega
      have hall : (getT (S.take k)).isSome = sm L k L.length := sm_all hp (by omega)
      have hext : (sb.extract 0 k).data.toList = S.take k := by rw [ba_ext, hsd]; simp
      have hes : (sb.extract 0 k).size ≤ maxLen := by rw [ByteArray.size_extract]; unfold maxLen; omega
      have hflat : ∀ i, (flat (L.take i)).length ≤ 64 := fun i => by have h1 := flat_take_le L i; rw [← hpl.1] at h1; have := hpl.2.1; omega
      have HALL := Lib.hid hall
      have HEXT := Lib.hid hext
      have HFL := Lib.hid hflat
      have hgt := fun w => TGet_any (sb.extract 0 k) w hes
      have hki : (k : Int) = at0 % (sb.size : Int) := by omega
      have HGT := Lib.hid hgt
      clear hp hpl hpu hsz hsd hsb hz hall hext hflat hgt hk
      have HKI := Lib.hid hki
      have hkt : (at0 % (sb.size : Int)).toNat = k := by omega
      have HKT := Lib.hid hkt
      clear hki hkt
      go_enter Tryd.func19, Tryd.ntmps19
      go_wp2_with (first
        | (go_at_call 20; refine (begun4_any _ HC.out).mono ?_; rintro e w1 ⟨rfl, hb⟩; have HB1 := Lib.hid hb; have HR1 := Lib.hid (HR.out.below hb); clear hb)
        | (go_at_call 55; refine (HFW.out _ HR1.out).mono ?_; rintro e w2 ⟨v2, rfl, ho2, hb⟩; have HB2 := Lib.hid (bel_trans HB1.out hb); have HR2 := Lib.hid ho2.rd; obtain ⟨A2, c2, rfl, _, _⟩ := ho2.shape; clear ho2 hb)
        | (go_at_call 56; refine (HPU.out _ _ HR2.out).mono ?_; rintro e w3 ⟨rfl, hb⟩; have HB3 := Lib.hid (bel_trans HB2.out hb); have HR3 := Lib.hid (HR2.out.below hb); clear hb))
      go_loop [9, 10, 41] (fun q9 q10 i => ∃ (j : Nat) (b : Bool), j ≤ L.length ∧ i = .int .i64 j ∧ q9 = .bool b ∧ sm L k j = b ∧ q10 = .int .i64 ((flat (L.take j)).length : Nat)) (fun _ _ i => L.length - (intOf i).toNat)
      case atStart => exact ⟨0, false, by omega, rfl, rfl, rfl, rfl⟩
      case round =>
        obtain ⟨j, b, hj, rfl, rfl, hb, rfl⟩ := hrel
        have HBJ := Lib.hid hb
        have hf64 := HFL.out j
        obtain ⟨fl, hfl⟩ : ∃ fl, (flat (L.take j)).length = fl := ⟨_, rfl⟩
        rw [hfl] at hf64 ⊢
        have HFJ := Lib.hid hfl
        clear hb hfl
        by_cases hlt : j < L.length
        · obtain ⟨bk, off, rfl, hbl, hc1, hc2⟩ := HR3.out.at_ hlt
          have hst : (⟨(L[j]).2.toArray⟩ : ByteArray).size = (L[j]).2.length := by show ((L[j]).2.toArray).size = _; simp
          obtain ⟨tb0, htb⟩ : ∃ tb0 : ByteArray, tb0 = ⟨(L[j]).2.toArray⟩ := ⟨_, rfl⟩
          rw [← htb] at hc2 hst
          have hts := HL2.out L[j] (List.getElem_mem hlt)
          rw [← hst] at hts
          have HST := Lib.hid hst
          clear htb hst
          have i1 : (j : Int) < (L.length : Int) := by omega
          have hnext : Hid ((flat (L.take (j + 1))).length = fl + (2 + tb0.size)) := by show _ = _; rw [flat_take_succ hlt, HFJ.out, HST.out]
          rcases b with _ | _
          · rcases heq : ((fl : Int) == at0 % (sb.size : Int)) with _ | _
            all_goals
              have hsm : Hid (sm L k (j + 1) = ((fl : Int) == at0 % (sb.size : Int))) := by
                show _ = _
                have := HKI.out
                rw [sm_succ, HBJ.out, HFJ.out, Bool.false_or, Bool.eq_iff_iff, beq_iff_eq, beq_iff_eq]; omega
              rw [heq] at hsm
              go_wp2
              go_round
              case rel => exact ⟨j + 1, _, by omega, by go_num, rfl, hsm.out, by rw [hnext.out]; go_num⟩
              case measure => simp [intOf]; omega
          · have hsm : Hid (sm L k (j + 1) = true) := by show _ = _; rw [sm_succ, HBJ.out]; rfl
            go_wp2
            go_round
            case rel => exact ⟨j + 1, _, by omega, by go_num, rfl, hsm.out, by rw [hnext.out]; go_num⟩
            case measure => simp [intOf]; omega
        · obtain rfl : j = L.length := by omega
          have hgt := HGT.out
          rw [← HKT.out] at hgt
          have HGT2 := Lib.hid hgt
          clear hgt
          go_wp2_with (go_at_call 58; ((with_reducible refine (HGT2.out _).mono ?_); rintro e w4 ⟨v4, rfl, ho4, hb4⟩; have HB4 := Lib.hid (bel_trans HB3.out hb4); obtain ⟨A4, c4, rfl, _, _⟩ := ho4.shape; clear ho4 hb4))
          go_ret
          refine ⟨?_, HB4.out⟩
          show Ending.returned (.bool ((getT (List.take (at0 % (sb.size : Int)).toNat sb.data.toList)).isSome == b)) = _
          rw [HKT.out, HSD.out, HALL.out, HBJ.out]
          cases b <;> rfl
end Go.Proofs.YtaofomkalnagcaaDoor
