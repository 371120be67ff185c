/- The law TupleAll. -/
import Derived.Test.YtaofomkalnagcaaDoorLawT1

set_option linter.all false

namespace Go.Proofs.YtaofomkalnagcaaDoor
open Go.RowKit M

theorem putTP_no {f : FuncId} {args : Array Value} {l : List Tp} {w : World} (h : Calls Tryd.prog f args w (PutTP l w)) (hp : putT l = none) : Calls Tryd.prog f args w fun e w' => e = .returned (.tuple #[.string ⟨#[]⟩, .bool false]) ∧ Below w.heap.size w w' := by
  unfold PutTP at h
  rw [hp] at h
  exact h
theorem putTP_yes {f : FuncId} {args : Array Value} {l : List Tp} {s : List UInt8} {w : World} (h : Calls Tryd.prog f args w (PutTP l w)) (hp : putT l = some s) : Calls Tryd.prog f args w fun e w' => e = .returned (.tuple #[.string ⟨s.toArray⟩, .bool true]) ∧ Below w.heap.size w w' := by
  unfold PutTP at h
  rw [hp] at h
  exact h
theorem getTP_yes {f : FuncId} {args : Array Value} {s : List UInt8} {l : List Tp} {w : World} (h : Calls Tryd.prog f args w (GetTP s w)) (hg : getT s = some l) : Calls Tryd.prog f args w fun e w' => ∃ v, e = .returned (.tuple #[v, .bool true]) ∧ OwnT w' w.heap.size v l ∧ Below w.heap.size w w' := by
  unfold GetTP at h
  rw [hg] at h
  exact h
theorem getTP_no {f : FuncId} {args : Array Value} {s : List UInt8} {w : World} (h : Calls Tryd.prog f args w (GetTP s w)) (hg : getT s = none) : Calls Tryd.prog f args w fun e w' => ∃ v, e = .returned (.tuple #[v, .bool false]) ∧ OwnT w' w.heap.size v [] ∧ Below w.heap.size w w' := by
  unfold GetTP at h
  rw [hg] at h
  exact h
theorem putT_len {l : List Tp} {s : List UInt8} (h : putT l = some s) : s = flat l ∧ s.length ≤ 64 ∧ ∀ t ∈ l, okT t := by
  unfold putT at h
  split at h
  · rename_i hc
    injection h with h
    subst h
    exact ⟨rfl, hc.2, hc.1⟩
  · cases h
theorem fnd_at {l : List Tp} {id : Int} {k : Nat} (hk : k < l.length) (hno : ∀ j, (h : j < k) → (l[j]'(by omega)).1 ≠ id) (he : (l[k]).1 = id) : fnd l id = some (l[k]).2 := by
  have hf : l.find? (fun t => t.1 == id) = some l[k] := by
    rw [List.find?_eq_some_iff_getElem]
    refine ⟨beq_iff_eq.2 he, k, hk, rfl, fun j hj => ?_⟩
    have := hno j hj
    simpa using this
  unfold fnd
  rw [hf]; rfl
theorem fnd_no {l : List Tp} {id : Int} (hno : ∀ j, (h : j < l.length) → (l[j]).1 ≠ id) : fnd l id = none := by
  have hf : l.find? (fun t => t.1 == id) = none := by
    rw [List.find?_eq_none]
    intro t ht
    obtain ⟨j, hj, rfl⟩ := List.mem_iff_getElem.1 ht
    simpa using hno j hj
  unfold fnd
  rw [hf]; rfl

set_option maxRecDepth 100000 in
set_option maxHeartbeats 8000000 in
theorem TupleAll_law (v : Value) (n : Nat) (ID : Nat → Int) (T : Nat → ByteArray) (s0 : ByteArray) (id : Int) (w : World) (hv : IsTs w v n ID T) (hs0 : s0.size ≤ maxLen) (hid : (Lit.int .i64 id).wf = true) (hC : Codes w) :
    Calls Tryd.prog 9 #[v, .string s0, .int .i64 id] w (Holds4 w) := by
  have HC := Lib.hid hC
  have hr := hv.rd
  have hwf := hv.wf
  obtain ⟨l, hl⟩ : ∃ l, l = lst n ID T := ⟨_, rfl⟩
  rw [← hl] at hr hwf
  have hfew := fun w (h : RdT w v l) => few_any v l w h (fun t ht => (hwf t ht).2)
  have hL1 := fewL_len l
  have hL2 := fewL_small l
  obtain ⟨L, hL⟩ : ∃ L, L = fewL l := ⟨_, rfl⟩
  rw [← hL] at hfew hL1 hL2
  have HR := Lib.hid hr
  have HFW := Lib.hid hfew
  have HL2 : Hid (∀ t ∈ L, t.2.length ≤ 1000) := fun t ht => by have := hL2 t ht; omega
  have htx := fun w => Text_any s0 70 w hs0 (by omega)
  have hsz : (s0.extract 0 (min s0.size 70)).size ≤ maxLen := by rw [ByteArray.size_extract]; unfold maxLen; omega
  obtain ⟨s, hs⟩ : ∃ s, s = s0.extract 0 (min s0.size 70) := ⟨_, rfl⟩
  rw [← hs] at htx hsz
  have HTX := Lib.hid htx
  have HBK := Lib.hid (fun w => back_any s w hsz)
  obtain ⟨A0, c0, hv0, _, _, _⟩ := hr
  subst hv0
  clear hC hv hwf hfew hL hl hL2 htx hsz hs hs0
  rcases hp : putT L with _ | S
  · have HP := Lib.hid hp
    clear hp
    go_enter Tryd.func9, Tryd.ntmps9
    go_wp2_with (first
      | (go_at_call 20; refine (begun4_any _ HC.out).mono ?_; rintro e w1 ⟨rfl, hb⟩; have HB1 := Lib.hid hb; have HR1 := Lib.hid (HR.out.below hb); clear hb)
      | (go_at_call 55; refine (HFW.out _ HR1.out).mono ?_; rintro e w2 ⟨v2, rfl, ho2, hb⟩; have HB2 := Lib.hid (bel_trans HB1.out hb); have HR2 := Lib.hid ho2.rd; obtain ⟨A2, c2, rfl, _, _⟩ := ho2.shape; clear ho2 hb)
      | (go_at_call 21; refine (HTX.out _).mono ?_; rintro e w' ⟨rfl, rfl⟩)
      | (go_at_call 56; refine (putTP_no (TPut_any _ L _ HR2.out (by omega) HL2.out) HP.out).mono ?_; rintro e w3 ⟨rfl, hb⟩; have HB3 := Lib.hid (bel_trans HB2.out hb); have HR3 := Lib.hid (HR2.out.below hb); clear hb)
      | (go_at_call 57; refine (putTP_no (RefPutT_any _ L _ HR3.out (by omega) HL2.out) HP.out).mono ?_; rintro e w4 ⟨rfl, hb⟩; have HB4 := Lib.hid (bel_trans HB3.out hb); clear hb)
      | (go_at_call 61; refine (HBK.out _).mono ?_; rintro e w5 ⟨rfl, hb⟩; have HB5 := Lib.hid (bel_trans HB4.out hb); clear hb))
    go_ret
    exact ⟨rfl, HB5.out⟩
  · have hpl := putT_len hp
    have hgt := getT_putT hp
    have HP := Lib.hid hp
    have HG := Lib.hid hgt
    have hSm : (⟨S.toArray⟩ : ByteArray).size ≤ maxLen := by show S.toArray.size ≤ _; simp only [List.size_toArray, maxLen]; omega
    have HSM := Lib.hid hSm
    have hdec : decide (L = L) = true := decide_eq_true rfl
    clear hp hpl hgt hSm
    go_enter Tryd.func9, Tryd.ntmps9
    rcases hf : fnd L id with _ | tx
    all_goals
      have HF := Lib.hid hf
      clear hf
      go_wp2_with (first
        | (go_at_call 20; refine (begun4_any _ HC.out).mono ?_; rintro e w1 ⟨rfl, hb⟩; have HB1 := Lib.hid hb; have HR1 := Lib.hid (HR.out.below hb); clear hb)
        | (go_at_call 55; refine (HFW.out _ HR1.out).mono ?_; rintro e w2 ⟨v2, rfl, ho2, hb⟩; have HB2 := Lib.hid (bel_trans HB1.out hb); have HR2 := Lib.hid ho2.rd; obtain ⟨A2, c2, rfl, _, _⟩ := ho2.shape; clear ho2 hb)
        | (go_at_call 21; refine (HTX.out _).mono ?_; rintro e w' ⟨rfl, rfl⟩)
        | (go_at_call 56; refine (putTP_yes (TPut_any _ L _ HR2.out (by omega) HL2.out) HP.out).mono ?_; rintro e w3 ⟨rfl, hb⟩; have HB3 := Lib.hid (bel_trans HB2.out hb); have HR3 := Lib.hid (HR2.out.below hb); clear hb)
        | (go_at_call 57; refine (putTP_yes (RefPutT_any _ L _ HR3.out (by omega) HL2.out) HP.out).mono ?_; rintro e w4 ⟨rfl, hb⟩; have HB4 := Lib.hid (bel_trans HB3.out hb); have HR4 := Lib.hid (HR3.out.below hb); clear hb)
        | (go_at_call 58; refine (getTP_yes (TGet_any _ _ HSM.out) HG.out).mono ?_; rintro e w5 ⟨v5, rfl, ho5, hb⟩; have HB5 := Lib.hid (bel_trans HB4.out hb); have HR5 := Lib.hid (HR4.out.below hb); have HM5 := Lib.hid ho5.rd; obtain ⟨A5, c5, rfl, _, _⟩ := ho5.shape; clear ho5 hb)
        | (go_at_call 59; refine (eqT_any _ _ _ _ _ HM5.out HR5.out).mono ?_; rintro e w6 ⟨rfl, hb⟩; have HB6 := Lib.hid (bel_trans HB5.out hb); have HR6 := Lib.hid (HR5.out.below hb); have HM6 := Lib.hid (HM5.out.below hb); clear hb)
        | (go_at_call 60; refine (TFind_any _ L id _ HM6.out (by omega) HL2.out).mono ?_; rintro e w7 ⟨he, hb⟩; rw [HF.out] at he; simp only [Option.getD_none, Option.getD_some, Option.isSome_none, Option.isSome_some] at he; subst he; have HB7 := Lib.hid (bel_trans HB6.out hb); have HR7 := Lib.hid (HR6.out.below hb); clear hb))
      go_loop [6, 64] (fun q i => q = .bool false ∧ ∃ k : Nat, k ≤ L.length ∧ i = .int .i64 k ∧ ∀ j, (h : j < k) → (h2 : j < L.length) → (L[j]).1 ≠ id) (fun _ i => L.length - (intOf i).toNat)
      case atStart => exact ⟨rfl, 0, by omega, rfl, fun j h => by omega⟩
      case round =>
        obtain ⟨rfl, k, hk, rfl, hno⟩ := hrel
        have HNO := Lib.hid hno
        clear hno
        by_cases hlt : k < L.length
        · obtain ⟨b, off, rfl, hbl, hc1, hc2⟩ := HR7.out.at_ hlt
          obtain ⟨t, ht⟩ : ∃ t, L[k] = t := ⟨_, rfl⟩
          rw [ht] at hc1 hc2
          have HT := Lib.hid ht
          clear ht
          have i1 : (k : Int) < (L.length : Int) := by omega
          rcases he : (t.1 == id) with _ | _
          · have HE := Lib.hid (beq_eq_false_iff_ne.1 he)
            go_wp2
            go_round
            case rel =>
              refine ⟨rfl, k + 1, by omega, by go_num, fun j h1 h2 => ?_⟩
              by_cases hj : j = k
              · subst hj; rw [HT.out]; exact HE.out
              · exact HNO.out j (by omega) h2
            case measure => simp [intOf]; omega
          · have HE : Hid (fnd L id = some t.2) := by
              show fnd L id = _
              rw [← HT.out]
              exact fnd_at hlt (fun j h => HNO.out j h (by omega)) (by rw [HT.out]; exact beq_iff_eq.1 he)
            first
              | (exfalso; have h1 := HE.out; have h2 := HF.out; rw [h2] at h1; cases h1; done)
              | (have htx2 : tx = t.2 := by have h1 := HE.out; have h2 := HF.out; rw [h2] at h1; injection h1
                 subst htx2
                 go_wp2_with (go_at_call 61; refine (HBK.out _).mono ?_; rintro e w8 ⟨rfl, hb⟩; have HB8 := Lib.hid (bel_trans HB7.out hb); clear hb)
                 go_ret
                 exact ⟨rfl, HB8.out⟩)
        · have HE : Hid (fnd L id = none) := fnd_no (fun j h => HNO.out j (by omega) h)
          first
            | (exfalso; have h1 := HE.out; have h2 := HF.out; rw [h2] at h1; cases h1; done)
            | (go_wp2_with (go_at_call 61; refine (HBK.out _).mono ?_; rintro e w8 ⟨rfl, hb⟩; have HB8 := Lib.hid (bel_trans HB7.out hb); clear hb)
               go_ret
               exact ⟨rfl, HB8.out⟩)
end Go.Proofs.YtaofomkalnagcaaDoor
