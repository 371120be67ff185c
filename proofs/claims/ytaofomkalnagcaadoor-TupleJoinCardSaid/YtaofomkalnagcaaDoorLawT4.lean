/- The law TupleJoin. -/
import Derived.Test.YtaofomkalnagcaaDoorLawT3

set_option linter.all false

namespace Go.Proofs.YtaofomkalnagcaaDoor
open Go.RowKit M

theorem join_ba (S T : List UInt8) : (⟨S.toArray⟩ : ByteArray) ++ ⟨T.toArray⟩ = ⟨(S ++ T).toArray⟩ := by
  have h : ((⟨S.toArray⟩ : ByteArray) ++ ⟨T.toArray⟩).data = (S ++ T).toArray := by rw [ByteArray.data_append]; simp
  rw [← h]
theorem Apart_nil (w : World) (base : Nat) : (Value.slice none 0 0).ownBlock = none := rfl

set_option maxRecDepth 100000 in
set_option maxHeartbeats 8000000 in
theorem TupleJoin_law (va : Value) (na : Nat) (Ia : Nat → Int) (Ta : Nat → ByteArray) (vb : Value) (nb : Nat) (Ib : Nat → Int) (Tb : Nat → ByteArray) (w : World) (hva : IsTs w va na Ia Ta) (hvb : IsTs w vb nb Ib Tb) (hC : Codes w) :
    Calls Tryd.prog 18 #[va, vb] w (Holds4 w) := by
  have HC := Lib.hid hC
  have hra := hva.rd
  have hwa := hva.wf
  have hrb := hvb.rd
  have hwb := hvb.wf
  obtain ⟨la, hla⟩ : ∃ l, l = lst na Ia Ta := ⟨_, rfl⟩
  obtain ⟨lb, hlb⟩ : ∃ l, l = lst nb Ib Tb := ⟨_, rfl⟩
  rw [← hla] at hra hwa
  rw [← hlb] at hrb hwb
  have hfa := fun w (h : RdT w va la) => few_any va la w h (fun t ht => (hwa t ht).2)
  have hfb := fun w (h : RdT w vb lb) => few_any vb lb w h (fun t ht => (hwb t ht).2)
  have hA1 := fewL_len la
  have hB1 := fewL_len lb
  have hA2 := fewL_small la
  have hB2 := fewL_small lb
  obtain ⟨A, hA⟩ : ∃ L, L = fewL la := ⟨_, rfl⟩
  obtain ⟨B, hB⟩ : ∃ L, L = fewL lb := ⟨_, rfl⟩
  rw [← hA] at hfa hA1 hA2
  rw [← hB] at hfb hB1 hB2
  have HRA := Lib.hid hra
  have HRB := Lib.hid hrb
  have HFA := Lib.hid hfa
  have HFB := Lib.hid hfb
  have HA2 : Hid (∀ t ∈ A, t.2.length ≤ 1000) := fun t ht => by have := hA2 t ht; omega
  have HB2 : Hid (∀ t ∈ B, t.2.length ≤ 1000) := fun t ht => by have := hB2 t ht; omega
  have HAB : Hid (∀ t ∈ A ++ B, t.2.length ≤ 1000) := fun t ht => by
    rcases List.mem_append.1 ht with h | h
    · exact HA2.out t h
    · exact HB2.out t h
  obtain ⟨Aa, ca, hva0, _, _, _⟩ := hra
  obtain ⟨Ab, cb0, hvb0, _, _, _⟩ := hrb
  subst hva0
  subst hvb0
  clear hC hva hvb hwa hwb hfa hfb hA hB hla hlb hA2 hB2
  rcases hpa : putT A with _ | S
  · have HPA := Lib.hid hpa
    clear hpa
    rcases hpb : putT B with _ | T
    all_goals
      have HPB := Lib.hid hpb
      clear hpb
      go_enter Tryd.func18, Tryd.ntmps18
      go_wp2_with (first
        | (go_at_call 20; refine (begun4_any _ HC.out).mono ?_; rintro e w1 ⟨rfl, hb⟩; have HB1 := Lib.hid hb; have HRA1 := Lib.hid (HRA.out.below hb); have HRB1 := Lib.hid (HRB.out.below hb); clear hb)
        | (go_at_call_of 55 (Value.slice Aa la.length ca); refine (HFA.out _ HRA1.out).mono ?_; rintro e w2 ⟨v2, rfl, ho2, hb⟩; have HB2w := Lib.hid (bel_trans HB1.out hb); have HXA2 := Lib.hid ho2.rd; have HRB2 := Lib.hid (HRB1.out.below hb); obtain ⟨A2, c2, rfl, _, _⟩ := ho2.shape; clear ho2 hb)
        | (go_at_call_of 55 (Value.slice Ab lb.length cb0); refine (HFB.out _ HRB2.out).mono ?_; rintro e w3 ⟨v3, rfl, ho3, hb⟩; have HB3 := Lib.hid (bel_trans HB2w.out hb); have HXB3 := Lib.hid ho3.rd; have HXA3 := Lib.hid (HXA2.out.below hb); obtain ⟨A3, c3, rfl, _, _⟩ := ho3.shape; clear ho3 hb)
        | (go_at_call_of 56 (Value.slice A2 A.length c2); refine (putTP_no (TPut_any _ A _ HXA3.out (by omega) HA2.out) HPA.out).mono ?_; rintro e w4 ⟨rfl, hb⟩; have HB4 := Lib.hid (bel_trans HB3.out hb); have HXB4 := Lib.hid (HXB3.out.below hb); clear hb)
        | (go_at_call_of 56 (Value.slice A3 B.length c3); first | (refine (putTP_no (TPut_any _ B _ HXB4.out (by omega) HB2.out) HPB.out).mono ?_; rintro e w5 ⟨rfl, hb⟩; have HB5 := Lib.hid (bel_trans HB4.out hb); clear hb) | (refine (putTP_yes (TPut_any _ B _ HXB4.out (by omega) HB2.out) HPB.out).mono ?_; rintro e w5 ⟨rfl, hb⟩; have HB5 := Lib.hid (bel_trans HB4.out hb); clear hb)))
      go_ret
      exact ⟨rfl, HB5.out⟩
  · have HPA : Hid (∀ (w : World) (u : Value), RdT w u A → Calls Tryd.prog 56 #[u] w fun e w' => e = .returned (.tuple #[.string ⟨S.toArray⟩, .bool true]) ∧ Below w.heap.size w w') := fun w u h => putTP_yes (TPut_any u A w h (by omega) HA2.out) hpa
    rcases hpb : putT B with _ | T
    · have HPB : Hid (∀ (w : World) (u : Value), RdT w u B → Calls Tryd.prog 56 #[u] w fun e w' => e = .returned (.tuple #[.string ⟨#[]⟩, .bool false]) ∧ Below w.heap.size w w') := fun w u h => putTP_no (TPut_any u B w h (by omega) HB2.out) hpb
      clear hpa hpb
      go_enter Tryd.func18, Tryd.ntmps18
      go_wp2_with (first
        | (go_at_call 20; refine (begun4_any _ HC.out).mono ?_; rintro e w1 ⟨rfl, hb⟩; have HB1 := Lib.hid hb; have HRA1 := Lib.hid (HRA.out.below hb); have HRB1 := Lib.hid (HRB.out.below hb); clear hb)
        | (go_at_call_of 55 (Value.slice Aa la.length ca); refine (HFA.out _ HRA1.out).mono ?_; rintro e w2 ⟨v2, rfl, ho2, hb⟩; have HB2w := Lib.hid (bel_trans HB1.out hb); have HXA2 := Lib.hid ho2.rd; have HRB2 := Lib.hid (HRB1.out.below hb); obtain ⟨A2, c2, rfl, _, _⟩ := ho2.shape; clear ho2 hb)
        | (go_at_call_of 55 (Value.slice Ab lb.length cb0); refine (HFB.out _ HRB2.out).mono ?_; rintro e w3 ⟨v3, rfl, ho3, hb⟩; have HB3 := Lib.hid (bel_trans HB2w.out hb); have HXB3 := Lib.hid ho3.rd; have HXA3 := Lib.hid (HXA2.out.below hb); obtain ⟨A3, c3, rfl, _, _⟩ := ho3.shape; clear ho3 hb)
        | (go_at_call_of 56 (Value.slice A2 A.length c2); refine (HPA.out _ _ HXA3.out).mono ?_; rintro e w4 ⟨rfl, hb⟩; have HB4 := Lib.hid (bel_trans HB3.out hb); have HXB4 := Lib.hid (HXB3.out.below hb); have HXA4 := Lib.hid (HXA3.out.below hb); clear hb)
        | (go_at_call_of 56 (Value.slice A3 B.length c3); refine (HPB.out _ _ HXB4.out).mono ?_; rintro e w5 ⟨rfl, hb⟩; have HB5 := Lib.hid (bel_trans HB4.out hb); have HXB5 := Lib.hid (HXB4.out.below hb); have HXA5 := Lib.hid (HXA4.out.below hb); clear hb))
      go_ret
      exact ⟨rfl, HB5.out⟩
    · have HPB : Hid (∀ (w : World) (u : Value), RdT w u B → Calls Tryd.prog 56 #[u] w fun e w' => e = .returned (.tuple #[.string ⟨T.toArray⟩, .bool true]) ∧ Below w.heap.size w w') := fun w u h => putTP_yes (TPut_any u B w h (by omega) HB2.out) hpb
      have hu := putT_append hpa hpb
      have hg := getT_append hpa hpb
      have hS := (putT_len hpa).2.1
      have hT := (putT_len hpb).2.1
      obtain ⟨sa, hsa⟩ : ∃ sa : ByteArray, sa = ⟨S.toArray⟩ := ⟨_, rfl⟩
      obtain ⟨sb, hsb⟩ : ∃ sb : ByteArray, sb = ⟨T.toArray⟩ := ⟨_, rfl⟩
      have hza : sa.size = S.length := by rw [hsa]; show S.toArray.size = _; simp
      have hzb : sb.size = T.length := by rw [hsb]; show T.toArray.size = _; simp
      have hab : sa ++ sb = ⟨(S ++ T).toArray⟩ := by rw [hsa, hsb]; exact join_ba S T
      have habd : (sa ++ sb).data.toList = S ++ T := by rw [hab]
      have habz : (sa ++ sb).size ≤ maxLen := by rw [ByteArray.size_append]; unfold maxLen; omega
      rw [← hsa] at HPA
      rw [← hsb] at HPB
      have hsa64 : sa.size ≤ 64 := by omega
      have hsb64 : sb.size ≤ 64 := by omega
      by_cases h64 : S.length + T.length ≤ 64
      · rw [if_pos h64] at hu hg
        have HPU : Hid (∀ (w : World) (u : Value), RdT w u (A ++ B) → Calls Tryd.prog 56 #[u] w fun e w' => e = .returned (.tuple #[.string (sa ++ sb), .bool true]) ∧ Below w.heap.size w w') := fun w u h => by
          have := putTP_yes (TPut_any u (A ++ B) w h (by rw [List.length_append]; omega) HAB.out) hu
          rw [← hab] at this
          exact this
        have HGT : Hid (∀ (w : World), Calls Tryd.prog 58 #[.string (sa ++ sb)] w fun e w' => ∃ v, e = .returned (.tuple #[v, .bool true]) ∧ OwnT w' w.heap.size v (A ++ B) ∧ Below w.heap.size w w') := fun w => getTP_yes (TGet_any (sa ++ sb) w habz) (by rw [habd]; exact hg)
        have HLEN : Hid ((A ++ B).length = A.length + B.length) := List.length_append
        have t64 : (sa.size : Int) + (sb.size : Int) ≤ 64 := by omega
        have td : decide ((sa.size : Int) + (sb.size : Int) ≤ 64) = true := decide_eq_true t64
        clear hpa hpb hu hg hS hT hsa hsb hza hzb hab habd habz h64
        go_enter Tryd.func18, Tryd.ntmps18
        go_wp2_with (first
          | (go_at_call 20; refine (begun4_any _ HC.out).mono ?_; rintro e w1 ⟨rfl, hb⟩; have HB1 := Lib.hid hb; have HRA1 := Lib.hid (HRA.out.below hb); have HRB1 := Lib.hid (HRB.out.below hb); clear hb)
          | (go_at_call_of 55 (Value.slice Aa la.length ca); refine (HFA.out _ HRA1.out).mono ?_; rintro e w2 ⟨v2, rfl, ho2, hb⟩; have HB2w := Lib.hid (bel_trans HB1.out hb); have HXA2 := Lib.hid ho2.rd; have HRB2 := Lib.hid (HRB1.out.below hb); obtain ⟨A2, c2, rfl, _, _⟩ := ho2.shape; clear ho2 hb)
          | (go_at_call_of 55 (Value.slice Ab lb.length cb0); refine (HFB.out _ HRB2.out).mono ?_; rintro e w3 ⟨v3, rfl, ho3, hb⟩; have HB3 := Lib.hid (bel_trans HB2w.out hb); have HXB3 := Lib.hid ho3.rd; have HXA3 := Lib.hid (HXA2.out.below hb); obtain ⟨A3, c3, rfl, _, _⟩ := ho3.shape; clear ho3 hb)
          | (go_at_call_of 56 (Value.slice A2 A.length c2); refine (HPA.out _ _ HXA3.out).mono ?_; rintro e w4 ⟨rfl, hb⟩; have HB4 := Lib.hid (bel_trans HB3.out hb); have HXB4 := Lib.hid (HXB3.out.below hb); have HXA4 := Lib.hid (HXA3.out.below hb); clear hb)
          | (go_at_call_of 56 (Value.slice A3 B.length c3); refine (HPB.out _ _ HXB4.out).mono ?_; rintro e w5 ⟨rfl, hb⟩; have HB5 := Lib.hid (bel_trans HB4.out hb); have HXB5 := Lib.hid (HXB4.out.below hb); have HXA5 := Lib.hid (HXA4.out.below hb); clear hb)
          | (at_builtin
             refine wpList_appTs rfl (.const (.slice none 0 0)) (.tmp 38) rfl w.heap.size (.slice none 0 0) _ [] A rfl rfl (OwnT.nil_ _ _) HXA5.out (by simp; omega) HB5.out.size ?_
             intro v6 w6 ho6 hg6 hat6
             have HB6 := Lib.hid (HB5.out.grown hg6 HB5.out.size (fun k hk => by simp [Value.ownBlock] at hk))
             have HXB6 := Lib.hid (HXB5.out.below (below_of_grown hg6))
             rw [List.nil_append] at ho6
             obtain ⟨A6, c6, rfl, _, _⟩ := ho6.shape
             have HO6 := Lib.hid ho6
             clear ho6 hg6 hat6)
          | (at_builtin
             refine wpList_appTs rfl (.tmp 39) (.tmp 40) rfl w.heap.size (.slice A6 A.length c6) _ A B rfl rfl HO6.out HXB6.out (by omega) HB6.out.size ?_
             intro v7 w7 ho7 hg7 hat7
             have HB7 := Lib.hid (HB6.out.grown hg7 HB6.out.size (fun k hk => (HO6.out.lt k hk).1))
             have HX7 := Lib.hid ho7.rd
             obtain ⟨A7, c7, hv7, _, _⟩ := ho7.shape
             rw [List.length_append] at hv7
             subst hv7
             clear ho7 hg7 hat7)
          | (go_at_call_of 56 (Value.slice A7 (A.length + B.length) c7); refine (HPU.out _ _ HX7.out).mono ?_; rintro e w8 ⟨rfl, hb⟩; have HB8 := Lib.hid (bel_trans HB7.out hb); clear hb)
          | (go_at_call 58; refine (HGT.out _).mono ?_; rintro e w9 ⟨v9, rfl, ho9, hb⟩; have HB9 := Lib.hid (bel_trans HB8.out hb); obtain ⟨A9, c9, hv9, _, _⟩ := ho9.shape; rw [HLEN.out] at hv9; subst hv9; clear ho9 hb))
        go_ret
        exact ⟨rfl, HB9.out⟩
      · rw [if_neg h64] at hu hg
        have HPU : Hid (∀ (w : World) (u : Value), RdT w u (A ++ B) → Calls Tryd.prog 56 #[u] w fun e w' => e = .returned (.tuple #[.string ⟨#[]⟩, .bool false]) ∧ Below w.heap.size w w') := fun w u h => putTP_no (TPut_any u (A ++ B) w h (by rw [List.length_append]; omega) HAB.out) hu
        have HGT : Hid (∀ (w : World), Calls Tryd.prog 58 #[.string (sa ++ sb)] w fun e w' => ∃ v, e = .returned (.tuple #[v, .bool false]) ∧ OwnT w' w.heap.size v [] ∧ Below w.heap.size w w') := fun w => getTP_no (TGet_any (sa ++ sb) w habz) (by rw [habd]; exact hg)
        have HLEN : Hid (([] : List Tp).length = 0) := rfl
        have t64 : ¬ (sa.size : Int) + (sb.size : Int) ≤ 64 := by omega
        have td : decide ((sa.size : Int) + (sb.size : Int) ≤ 64) = false := decide_eq_false t64
        clear hpa hpb hu hg hS hT hsa hsb hza hzb hab habd habz h64
        go_enter Tryd.func18, Tryd.ntmps18
        go_wp2_with (first
          | (go_at_call 20; refine (begun4_any _ HC.out).mono ?_; rintro e w1 ⟨rfl, hb⟩; have HB1 := Lib.hid hb; have HRA1 := Lib.hid (HRA.out.below hb); have HRB1 := Lib.hid (HRB.out.below hb); clear hb)
          | (go_at_call_of 55 (Value.slice Aa la.length ca); refine (HFA.out _ HRA1.out).mono ?_; rintro e w2 ⟨v2, rfl, ho2, hb⟩; have HB2w := Lib.hid (bel_trans HB1.out hb); have HXA2 := Lib.hid ho2.rd; have HRB2 := Lib.hid (HRB1.out.below hb); obtain ⟨A2, c2, rfl, _, _⟩ := ho2.shape; clear ho2 hb)
          | (go_at_call_of 55 (Value.slice Ab lb.length cb0); refine (HFB.out _ HRB2.out).mono ?_; rintro e w3 ⟨v3, rfl, ho3, hb⟩; have HB3 := Lib.hid (bel_trans HB2w.out hb); have HXB3 := Lib.hid ho3.rd; have HXA3 := Lib.hid (HXA2.out.below hb); obtain ⟨A3, c3, rfl, _, _⟩ := ho3.shape; clear ho3 hb)
          | (go_at_call_of 56 (Value.slice A2 A.length c2); refine (HPA.out _ _ HXA3.out).mono ?_; rintro e w4 ⟨rfl, hb⟩; have HB4 := Lib.hid (bel_trans HB3.out hb); have HXB4 := Lib.hid (HXB3.out.below hb); have HXA4 := Lib.hid (HXA3.out.below hb); clear hb)
          | (go_at_call_of 56 (Value.slice A3 B.length c3); refine (HPB.out _ _ HXB4.out).mono ?_; rintro e w5 ⟨rfl, hb⟩; have HB5 := Lib.hid (bel_trans HB4.out hb); have HXB5 := Lib.hid (HXB4.out.below hb); have HXA5 := Lib.hid (HXA4.out.below hb); clear hb)
          | (at_builtin
             refine wpList_appTs rfl (.const (.slice none 0 0)) (.tmp 38) rfl w.heap.size (.slice none 0 0) _ [] A rfl rfl (OwnT.nil_ _ _) HXA5.out (by simp; omega) HB5.out.size ?_
             intro v6 w6 ho6 hg6 hat6
             have HB6 := Lib.hid (HB5.out.grown hg6 HB5.out.size (fun k hk => by simp [Value.ownBlock] at hk))
             have HXB6 := Lib.hid (HXB5.out.below (below_of_grown hg6))
             rw [List.nil_append] at ho6
             obtain ⟨A6, c6, rfl, _, _⟩ := ho6.shape
             have HO6 := Lib.hid ho6
             clear ho6 hg6 hat6)
          | (at_builtin
             refine wpList_appTs rfl (.tmp 39) (.tmp 40) rfl w.heap.size (.slice A6 A.length c6) _ A B rfl rfl HO6.out HXB6.out (by omega) HB6.out.size ?_
             intro v7 w7 ho7 hg7 hat7
             have HB7 := Lib.hid (HB6.out.grown hg7 HB6.out.size (fun k hk => (HO6.out.lt k hk).1))
             have HX7 := Lib.hid ho7.rd
             obtain ⟨A7, c7, hv7, _, _⟩ := ho7.shape
             rw [List.length_append] at hv7
             subst hv7
             clear ho7 hg7 hat7)
          | (go_at_call_of 56 (Value.slice A7 (A.length + B.length) c7); refine (HPU.out _ _ HX7.out).mono ?_; rintro e w8 ⟨rfl, hb⟩; have HB8 := Lib.hid (bel_trans HB7.out hb); clear hb)
          | (go_at_call 58; refine (HGT.out _).mono ?_; rintro e w9 ⟨v9, rfl, ho9, hb⟩; have HB9 := Lib.hid (bel_trans HB8.out hb); obtain ⟨A9, c9, hv9, _, _⟩ := ho9.shape; rw [HLEN.out] at hv9; subst hv9; clear ho9 hb))
        go_ret
        exact ⟨rfl, HB9.out⟩
end Go.Proofs.YtaofomkalnagcaaDoor
