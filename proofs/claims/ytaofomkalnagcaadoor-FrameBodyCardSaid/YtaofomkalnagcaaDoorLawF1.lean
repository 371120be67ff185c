/- The law FrameBody. -/
import Derived.Test.YtaofomkalnagcaaDoorM4H
import Derived.Test.YtaofomkalnagcaaDoorBegun4

set_option linter.all false

namespace Go.Proofs.YtaofomkalnagcaaDoor
open Go.RowKit M

theorem made_bytes (n : Nat) : (madeCells (Value.int .u8 0).cells (n * 1)).toList = bcs (List.replicate n 0) := by
  have hz : ∀ i : Nat, (Value.int .u8 0).cells[i % (Value.int .u8 0).cells.size]! = Value.int .u8 0 := fun i => by
    show (#[Value.int .u8 0] : Array Value)[i % 1]! = _
    rw [Nat.mod_one]; rfl
  unfold madeCells bcs
  rw [Nat.mul_one, Array.toList_map]
  apply List.ext_getElem
  · simp
  · intro i h1 h2
    rw [List.getElem_map, hz]
    simp [bc]
theorem own_zero {w : World} {base g n : Nat} (h : w.ownsRow base 5 1 (.slice (some ⟨g, 0, none⟩) n n) n (madeCells (Value.int .u8 0).cells (n * 1)).toList) : Rds w (.slice (some ⟨g, 0, none⟩) n n) (List.replicate n 0) := by
  rw [made_bytes] at h
  have h2 : Own w base (.slice (some ⟨g, 0, none⟩) n n) (List.replicate n 0) := by unfold Own; rw [List.length_replicate]; exact h
  exact h2.rds
/-- A plain frame of noughts alone. -/
theorem mayF_body (kind sort : Int) (n : Nat) (h : (cb ⟨kind, sort, 0, 0, false⟩).isSome = true) : mayF (PIn.pl ⟨0, 0, false, kind, sort, 0, 0, false, ⟨(List.replicate n 0).toArray⟩⟩) ↔ n ≤ 64 ∧ (kind ≠ 2 ∨ n = 0) := by
  unfold mayF PIn.pl
  simp only [h, List.length_replicate]
  have : (List.replicate n (0 : UInt8)) = [] ↔ n = 0 := by cases n <;> simp [List.replicate]
  constructor
  · rintro ⟨_, _, _, _, _, h5, h6⟩
    refine ⟨by simpa using h5, ?_⟩
    rcases h6 with h6 | h6
    · exact .inl h6
    · exact .inr (this.1 (by simpa using h6))
  · rintro ⟨h5, h6⟩
    refine ⟨trivial, by omega, by omega, by omega, by omega, by simpa using h5, ?_⟩
    rcases h6 with h6 | h6
    · exact .inl h6
    · exact .inr (by simpa using this.2 h6)
theorem wfs (n : Int) (h : -10 ≤ n ∧ n ≤ 10) : (Lit.int .i64 n).wf = true := by
  simp [Lit.wf, IntKind.min, IntKind.max, IntKind.signed, IntKind.bits]
  omega
/-- Of, of a plain frame of which it is known whether it may be. -/
theorem FOf_is (p : PIn) (w : World) (hp : p.ok) (ok : Bool) (hm : decide (mayF p.pl) = ok) (hC : Codes w) : Calls Tryd.prog 45 #[p.val] w fun e w' => ∃ seat count cmd c body, e = .returned (.tuple #[frV seat count cmd (cv c) body, .bool ok]) ∧ Below w.heap.size w w' := by
  cases ok
  · exact (FOf_no p w hp (of_decide_eq_false hm) hC).mono fun e w' ⟨h1, h2⟩ => ⟨0, 0, false, ⟨0, 0, 0, 0, false⟩, ⟨#[]⟩, h1, h2⟩
  · exact (FOf_yes p w hp (of_decide_eq_true hm) hC).mono fun e w' ⟨h1, h2⟩ => ⟨_, _, _, _, _, h1, h2⟩

set_option maxRecDepth 100000 in
set_option maxHeartbeats 8000000 in
theorem FrameBody_law (n0 k0 : Int) (w : World) (hn0 : (Lit.int .i64 n0).wf = true) (hk0 : (Lit.int .i64 k0).wf = true) (hC : Codes w) : Calls Tryd.prog 17 #[.int .i64 n0, .int .i64 k0] w (Holds4 w) := by
  obtain ⟨i0, hi0, hz0, hz1, hz2⟩ := info_parts byte_info
  have HC := Lib.hid hC
  have hbn := bounds_i64 hn0
  have hbk := bounds_i64 hk0
  clear hC hn0 hk0
  have a1 : -69 ≤ n0.tmod 70 := by have := Int.lt_tmod_of_pos n0 (show (0 : Int) < 70 by decide); omega
  have a2 : n0.tmod 70 ≤ 69 := by have := Int.tmod_lt_of_pos n0 (show (0 : Int) < 70 by decide); omega
  have a3 : -2 ≤ k0.tmod 3 := by have := Int.lt_tmod_of_pos k0 (show (0 : Int) < 3 by decide); omega
  have a4 : k0.tmod 3 ≤ 2 := by have := Int.tmod_lt_of_pos k0 (show (0 : Int) < 3 by decide); omega
  obtain ⟨n, hn⟩ : ∃ n : Nat, (n0.tmod 70 + 70) % 70 = (n : Int) := ⟨((n0.tmod 70 + 70) % 70).toNat, by omega⟩
  have hn70 : n < 70 := by omega
  obtain ⟨body, hbody⟩ : ∃ b : ByteArray, b = ⟨(List.replicate n 0).toArray⟩ := ⟨_, rfl⟩
  have hbs : body.size ≤ maxLen := by rw [hbody]; show ((List.replicate n 0).toArray).size ≤ _; simp [maxLen]; omega
  rcases (show (k0.tmod 3 + 3) % 3 = 0 ∨ (k0.tmod 3 + 3) % 3 = 1 ∨ (k0.tmod 3 + 3) % 3 = 2 by omega) with hk | hk | hk
  · have hcb : (cb ⟨1, 0, 0, 0, false⟩).isSome = true := by decide
    have hmb := mayF_body 1 0 n hcb
    rw [← hbody] at hmb
    have hok : PIn.ok ⟨0, 0, false, 1, 0, 0, 0, false, body⟩ := ⟨wfs 0 (by decide), wfs 0 (by decide), wfs 1 (by decide), wfs 0 (by decide), wfs 0 (by decide), wfs 0 (by decide), hbs⟩
    have hof := fun ok (h : decide (mayF (PIn.pl ⟨0, 0, false, 1, 0, 0, 0, false, body⟩)) = ok) w hC => FOf_is ⟨0, 0, false, 1, 0, 0, 0, false, body⟩ w hok ok h hC
    have HBD := Lib.hid hbody
    clear hcb hok hbody hbs
    rcases (show (¬ n ≤ 64) ∨ (n ≤ 64) by omega) with h64 | h64
    · have HOF := Lib.hid (hof false (decide_eq_false (fun hh => h64 (hmb.1 hh).1)))
      have t1 : ¬ (n : Int) ≤ 64 := by omega
      have td : decide ((n : Int) ≤ 64) = false := decide_eq_false t1
      clear h64 hmb hof
      go_enter Tryd.func17, Tryd.ntmps17
      go_wp2_with (first
        | (go_at_call 20; refine (begun4_any _ HC.out).mono ?_; rintro e w1 ⟨rfl, hb⟩; have HB1 := Lib.hid hb; clear hb)
        | ((with_reducible refine wpList_make_full _ rfl (.tmp 22) (.tmp 22) 63 rfl w.heap.size 5 i0 _ 1 Tryd.underlying63 hi0 hz0 hz1 .i64 .i64 ((n0.tmod 70 + 70) % 70) ((n0.tmod 70 + 70) % 70) n rfl rfl hn hn (by rw [hz2]; omega) (by unfold maxLen; omega) HB1.out.size ?_); intro w2 hown2 hg2; have HB2 := Lib.hid (HB1.out.grown hg2 HB1.out.size (fun k hk => by cases hk)); have hstr := run_str (own_zero hown2); rw [← HBD.out] at hstr; clear hown2 hg2)
        | (go_at_call 45; ((with_reducible refine (HOF.out _ (HC.out.below (bal HB2.out _))).mono ?_); rintro e w3 ⟨s1, s2, s3, s4, s5, rfl, hb⟩; have HB3 := Lib.hid (bel_trans (bal HB2.out _) hb); clear hb))
        | ((with_reducible refine wpList_storeB rfl 60 (.tmp 7) _ rfl w3.heap.size #[.int .i64 s1, .int .i64 s2, .bool s3, cv s4, .string s5] rfl rfl 60 _ (heap_alloc_new w3 _) (by kernel_rfl) rfl (frone s1 s2 s3 s4 s5) ?_); intro w4 hg4 hz4 hh4; have HB4 := Lib.hid (bel_grown (bal HB3.out _) hg4 HB3.out.size); clear hg4 hz4 hh4))
      go_ret
      exact ⟨rfl, HB4.out⟩
    · have HOF := Lib.hid (hof true (decide_eq_true (hmb.2 ⟨h64, .inl (by decide)⟩)))
      have t1 : (n : Int) ≤ 64 := by omega
      have td : decide ((n : Int) ≤ 64) = true := decide_eq_true t1
      clear h64 hmb hof
      go_enter Tryd.func17, Tryd.ntmps17
      go_wp2_with (first
        | (go_at_call 20; refine (begun4_any _ HC.out).mono ?_; rintro e w1 ⟨rfl, hb⟩; have HB1 := Lib.hid hb; clear hb)
        | ((with_reducible refine wpList_make_full _ rfl (.tmp 22) (.tmp 22) 63 rfl w.heap.size 5 i0 _ 1 Tryd.underlying63 hi0 hz0 hz1 .i64 .i64 ((n0.tmod 70 + 70) % 70) ((n0.tmod 70 + 70) % 70) n rfl rfl hn hn (by rw [hz2]; omega) (by unfold maxLen; omega) HB1.out.size ?_); intro w2 hown2 hg2; have HB2 := Lib.hid (HB1.out.grown hg2 HB1.out.size (fun k hk => by cases hk)); have hstr := run_str (own_zero hown2); rw [← HBD.out] at hstr; clear hown2 hg2)
        | (go_at_call 45; ((with_reducible refine (HOF.out _ (HC.out.below (bal HB2.out _))).mono ?_); rintro e w3 ⟨s1, s2, s3, s4, s5, rfl, hb⟩; have HB3 := Lib.hid (bel_trans (bal HB2.out _) hb); clear hb))
        | ((with_reducible refine wpList_storeB rfl 60 (.tmp 7) _ rfl w3.heap.size #[.int .i64 s1, .int .i64 s2, .bool s3, cv s4, .string s5] rfl rfl 60 _ (heap_alloc_new w3 _) (by kernel_rfl) rfl (frone s1 s2 s3 s4 s5) ?_); intro w4 hg4 hz4 hh4; have HB4 := Lib.hid (bel_grown (bal HB3.out _) hg4 HB3.out.size); clear hg4 hz4 hh4))
      go_ret
      exact ⟨rfl, HB4.out⟩
  · have hcb : (cb ⟨2, 0, 0, 0, false⟩).isSome = true := by decide
    have hmb := mayF_body 2 0 n hcb
    rw [← hbody] at hmb
    have hok : PIn.ok ⟨0, 0, false, 2, 0, 0, 0, false, body⟩ := ⟨wfs 0 (by decide), wfs 0 (by decide), wfs 2 (by decide), wfs 0 (by decide), wfs 0 (by decide), wfs 0 (by decide), hbs⟩
    have hof := fun ok (h : decide (mayF (PIn.pl ⟨0, 0, false, 2, 0, 0, 0, false, body⟩)) = ok) w hC => FOf_is ⟨0, 0, false, 2, 0, 0, 0, false, body⟩ w hok ok h hC
    have HBD := Lib.hid hbody
    clear hcb hok hbody hbs
    rcases (show (¬ n ≤ 64) ∨ (n ≤ 64 ∧ n = 0) ∨ (n ≤ 64 ∧ n ≠ 0) by omega) with h64 | h64 | h64
    · have HOF := Lib.hid (hof false (decide_eq_false (fun hh => h64 (hmb.1 hh).1)))
      have t1 : ¬ (n : Int) ≤ 64 := by omega
      have td : decide ((n : Int) ≤ 64) = false := decide_eq_false t1
      clear h64 hmb hof
      go_enter Tryd.func17, Tryd.ntmps17
      go_wp2_with (first
        | (go_at_call 20; refine (begun4_any _ HC.out).mono ?_; rintro e w1 ⟨rfl, hb⟩; have HB1 := Lib.hid hb; clear hb)
        | ((with_reducible refine wpList_make_full _ rfl (.tmp 22) (.tmp 22) 63 rfl w.heap.size 5 i0 _ 1 Tryd.underlying63 hi0 hz0 hz1 .i64 .i64 ((n0.tmod 70 + 70) % 70) ((n0.tmod 70 + 70) % 70) n rfl rfl hn hn (by rw [hz2]; omega) (by unfold maxLen; omega) HB1.out.size ?_); intro w2 hown2 hg2; have HB2 := Lib.hid (HB1.out.grown hg2 HB1.out.size (fun k hk => by cases hk)); have hstr := run_str (own_zero hown2); rw [← HBD.out] at hstr; clear hown2 hg2)
        | (go_at_call 45; ((with_reducible refine (HOF.out _ (HC.out.below (bal HB2.out _))).mono ?_); rintro e w3 ⟨s1, s2, s3, s4, s5, rfl, hb⟩; have HB3 := Lib.hid (bel_trans (bal HB2.out _) hb); clear hb))
        | ((with_reducible refine wpList_storeB rfl 60 (.tmp 7) _ rfl w3.heap.size #[.int .i64 s1, .int .i64 s2, .bool s3, cv s4, .string s5] rfl rfl 60 _ (heap_alloc_new w3 _) (by kernel_rfl) rfl (frone s1 s2 s3 s4 s5) ?_); intro w4 hg4 hz4 hh4; have HB4 := Lib.hid (bel_grown (bal HB3.out _) hg4 HB3.out.size); clear hg4 hz4 hh4))
      go_ret
      exact ⟨rfl, HB4.out⟩
    · have HOF := Lib.hid (hof true (decide_eq_true (hmb.2 ⟨h64.1, .inr h64.2⟩)))
      have t1 : (n : Int) ≤ 64 := by omega
      have t2 : ((n : Int) == 0) = true := by rw [beq_iff_eq]; omega
      have td : decide ((n : Int) ≤ 64) = true := decide_eq_true t1
      clear h64 hmb hof
      go_enter Tryd.func17, Tryd.ntmps17
      go_wp2_with (first
        | (go_at_call 20; refine (begun4_any _ HC.out).mono ?_; rintro e w1 ⟨rfl, hb⟩; have HB1 := Lib.hid hb; clear hb)
        | ((with_reducible refine wpList_make_full _ rfl (.tmp 22) (.tmp 22) 63 rfl w.heap.size 5 i0 _ 1 Tryd.underlying63 hi0 hz0 hz1 .i64 .i64 ((n0.tmod 70 + 70) % 70) ((n0.tmod 70 + 70) % 70) n rfl rfl hn hn (by rw [hz2]; omega) (by unfold maxLen; omega) HB1.out.size ?_); intro w2 hown2 hg2; have HB2 := Lib.hid (HB1.out.grown hg2 HB1.out.size (fun k hk => by cases hk)); have hstr := run_str (own_zero hown2); rw [← HBD.out] at hstr; clear hown2 hg2)
        | (go_at_call 45; ((with_reducible refine (HOF.out _ (HC.out.below (bal HB2.out _))).mono ?_); rintro e w3 ⟨s1, s2, s3, s4, s5, rfl, hb⟩; have HB3 := Lib.hid (bel_trans (bal HB2.out _) hb); clear hb))
        | ((with_reducible refine wpList_storeB rfl 60 (.tmp 7) _ rfl w3.heap.size #[.int .i64 s1, .int .i64 s2, .bool s3, cv s4, .string s5] rfl rfl 60 _ (heap_alloc_new w3 _) (by kernel_rfl) rfl (frone s1 s2 s3 s4 s5) ?_); intro w4 hg4 hz4 hh4; have HB4 := Lib.hid (bel_grown (bal HB3.out _) hg4 HB3.out.size); clear hg4 hz4 hh4))
      go_ret
      exact ⟨rfl, HB4.out⟩
    · have HOF := Lib.hid (hof false (decide_eq_false (fun hh => h64.2 (by have h := (hmb.1 hh).2; omega))))
      have t1 : (n : Int) ≤ 64 := by omega
      have t2 : ((n : Int) == 0) = false := by rw [beq_eq_false_iff_ne]; omega
      have td : decide ((n : Int) ≤ 64) = true := decide_eq_true t1
      clear h64 hmb hof
      go_enter Tryd.func17, Tryd.ntmps17
      go_wp2_with (first
        | (go_at_call 20; refine (begun4_any _ HC.out).mono ?_; rintro e w1 ⟨rfl, hb⟩; have HB1 := Lib.hid hb; clear hb)
        | ((with_reducible refine wpList_make_full _ rfl (.tmp 22) (.tmp 22) 63 rfl w.heap.size 5 i0 _ 1 Tryd.underlying63 hi0 hz0 hz1 .i64 .i64 ((n0.tmod 70 + 70) % 70) ((n0.tmod 70 + 70) % 70) n rfl rfl hn hn (by rw [hz2]; omega) (by unfold maxLen; omega) HB1.out.size ?_); intro w2 hown2 hg2; have HB2 := Lib.hid (HB1.out.grown hg2 HB1.out.size (fun k hk => by cases hk)); have hstr := run_str (own_zero hown2); rw [← HBD.out] at hstr; clear hown2 hg2)
        | (go_at_call 45; ((with_reducible refine (HOF.out _ (HC.out.below (bal HB2.out _))).mono ?_); rintro e w3 ⟨s1, s2, s3, s4, s5, rfl, hb⟩; have HB3 := Lib.hid (bel_trans (bal HB2.out _) hb); clear hb))
        | ((with_reducible refine wpList_storeB rfl 60 (.tmp 7) _ rfl w3.heap.size #[.int .i64 s1, .int .i64 s2, .bool s3, cv s4, .string s5] rfl rfl 60 _ (heap_alloc_new w3 _) (by kernel_rfl) rfl (frone s1 s2 s3 s4 s5) ?_); intro w4 hg4 hz4 hh4; have HB4 := Lib.hid (bel_grown (bal HB3.out _) hg4 HB3.out.size); clear hg4 hz4 hh4))
      go_ret
      exact ⟨rfl, HB4.out⟩
  · have hcb : (cb ⟨3, 1, 0, 0, false⟩).isSome = true := by decide
    have hmb := mayF_body 3 1 n hcb
    rw [← hbody] at hmb
    have hok : PIn.ok ⟨0, 0, false, 3, 1, 0, 0, false, body⟩ := ⟨wfs 0 (by decide), wfs 0 (by decide), wfs 3 (by decide), wfs 1 (by decide), wfs 0 (by decide), wfs 0 (by decide), hbs⟩
    have hof := fun ok (h : decide (mayF (PIn.pl ⟨0, 0, false, 3, 1, 0, 0, false, body⟩)) = ok) w hC => FOf_is ⟨0, 0, false, 3, 1, 0, 0, false, body⟩ w hok ok h hC
    have HBD := Lib.hid hbody
    clear hcb hok hbody hbs
    rcases (show (¬ n ≤ 64) ∨ (n ≤ 64) by omega) with h64 | h64
    · have HOF := Lib.hid (hof false (decide_eq_false (fun hh => h64 (hmb.1 hh).1)))
      have t1 : ¬ (n : Int) ≤ 64 := by omega
      have td : decide ((n : Int) ≤ 64) = false := decide_eq_false t1
      clear h64 hmb hof
      go_enter Tryd.func17, Tryd.ntmps17
      go_wp2_with (first
        | (go_at_call 20; refine (begun4_any _ HC.out).mono ?_; rintro e w1 ⟨rfl, hb⟩; have HB1 := Lib.hid hb; clear hb)
        | ((with_reducible refine wpList_make_full _ rfl (.tmp 22) (.tmp 22) 63 rfl w.heap.size 5 i0 _ 1 Tryd.underlying63 hi0 hz0 hz1 .i64 .i64 ((n0.tmod 70 + 70) % 70) ((n0.tmod 70 + 70) % 70) n rfl rfl hn hn (by rw [hz2]; omega) (by unfold maxLen; omega) HB1.out.size ?_); intro w2 hown2 hg2; have HB2 := Lib.hid (HB1.out.grown hg2 HB1.out.size (fun k hk => by cases hk)); have hstr := run_str (own_zero hown2); rw [← HBD.out] at hstr; clear hown2 hg2)
        | (go_at_call 45; ((with_reducible refine (HOF.out _ (HC.out.below (bal HB2.out _))).mono ?_); rintro e w3 ⟨s1, s2, s3, s4, s5, rfl, hb⟩; have HB3 := Lib.hid (bel_trans (bal HB2.out _) hb); clear hb))
        | ((with_reducible refine wpList_storeB rfl 60 (.tmp 7) _ rfl w3.heap.size #[.int .i64 s1, .int .i64 s2, .bool s3, cv s4, .string s5] rfl rfl 60 _ (heap_alloc_new w3 _) (by kernel_rfl) rfl (frone s1 s2 s3 s4 s5) ?_); intro w4 hg4 hz4 hh4; have HB4 := Lib.hid (bel_grown (bal HB3.out _) hg4 HB3.out.size); clear hg4 hz4 hh4))
      go_ret
      exact ⟨rfl, HB4.out⟩
    · have HOF := Lib.hid (hof true (decide_eq_true (hmb.2 ⟨h64, .inl (by decide)⟩)))
      have t1 : (n : Int) ≤ 64 := by omega
      have td : decide ((n : Int) ≤ 64) = true := decide_eq_true t1
      clear h64 hmb hof
      go_enter Tryd.func17, Tryd.ntmps17
      go_wp2_with (first
        | (go_at_call 20; refine (begun4_any _ HC.out).mono ?_; rintro e w1 ⟨rfl, hb⟩; have HB1 := Lib.hid hb; clear hb)
        | ((with_reducible refine wpList_make_full _ rfl (.tmp 22) (.tmp 22) 63 rfl w.heap.size 5 i0 _ 1 Tryd.underlying63 hi0 hz0 hz1 .i64 .i64 ((n0.tmod 70 + 70) % 70) ((n0.tmod 70 + 70) % 70) n rfl rfl hn hn (by rw [hz2]; omega) (by unfold maxLen; omega) HB1.out.size ?_); intro w2 hown2 hg2; have HB2 := Lib.hid (HB1.out.grown hg2 HB1.out.size (fun k hk => by cases hk)); have hstr := run_str (own_zero hown2); rw [← HBD.out] at hstr; clear hown2 hg2)
        | (go_at_call 45; ((with_reducible refine (HOF.out _ (HC.out.below (bal HB2.out _))).mono ?_); rintro e w3 ⟨s1, s2, s3, s4, s5, rfl, hb⟩; have HB3 := Lib.hid (bel_trans (bal HB2.out _) hb); clear hb))
        | ((with_reducible refine wpList_storeB rfl 60 (.tmp 7) _ rfl w3.heap.size #[.int .i64 s1, .int .i64 s2, .bool s3, cv s4, .string s5] rfl rfl 60 _ (heap_alloc_new w3 _) (by kernel_rfl) rfl (frone s1 s2 s3 s4 s5) ?_); intro w4 hg4 hz4 hh4; have HB4 := Lib.hid (bel_grown (bal HB3.out _) hg4 HB3.out.size); clear hg4 hz4 hh4))
      go_ret
      exact ⟨rfl, HB4.out⟩
end Go.Proofs.YtaofomkalnagcaaDoor
