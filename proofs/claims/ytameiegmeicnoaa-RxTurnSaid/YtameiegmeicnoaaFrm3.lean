/- Frames: what RxMany, RxLong and RxTurn say. -/
import Derived.Test.YtameiegmeicnoaaFrm
namespace Go.Proofs.Ytameiegmeicnoaa.M

/-! between frames -/
theorem rput_out {r : R} {b : UInt8} (hi : r.ins = false) (hb : b ≠ 192) : rput r b = (r, [], 0, false) := by
  unfold rput; rw [if_neg hb, if_pos hi]
theorem rall_out : ∀ (l : List UInt8) (r : R), r.ins = false → (∀ x ∈ l, x ≠ 192) → rall r l = ([], r)
  | [], r, _, _ => rfl
  | x :: l, r, hi, h => by
    simp only [rall]
    rw [rput_out hi (h x (by simp))]
    simp only [rall_out l r hi (fun y hy => h y (by simp [hy])), told, List.append_nil]
/-- The bytes of a gap that begin none. -/
def gap5 (g : List UInt8) : List UInt8 := (g.take 5).filter (· != 192)
theorem gap5_clean (g : List UInt8) : ∀ x ∈ gap5 g, x ≠ 192 := by
  intro x hx
  simp only [gap5, List.mem_filter, bne_iff_ne] at hx
  exact hx.2
theorem gap5_len (g : List UInt8) : (gap5 g).length ≤ 5 := by
  unfold gap5
  have h1 := List.length_filter_le (· != (192 : UInt8)) (g.take 5)
  have h2 : (g.take 5).length ≤ 5 := by rw [List.length_take]; omega
  omega
theorem filt_snoc (g : List UInt8) (k : Nat) (h : k < g.length) : (g.take (k + 1)).filter (· != 192) = (g.take k).filter (· != 192) ++ (if g.getD k 0 = 192 then [] else [g.getD k 0]) := by
  rw [List.take_succ_eq_append_getElem h, List.filter_append]
  have e : g.getD k 0 = g[k] := by simp [h]
  rw [e]
  by_cases h1 : g[k] = 192
  · simp [h1]
  · simp [h1]
/-- What RxMany lays: the bytes, and the texts that are to be found. -/
def manyB (gp : List UInt8) (L : Nat → List UInt8) : Nat → List UInt8
  | 0 => []
  | i + 1 => if ((L i).take 30).length = 0 then manyB gp L i else manyB gp L i ++ gp ++ cwrap ((L i).take 30) i
def manyW (L : Nat → List UInt8) : Nat → List (List UInt8)
  | 0 => []
  | i + 1 => if ((L i).take 30).length = 0 then manyW L i else manyW L i ++ [(L i).take 30]
theorem many_all (gp : List UInt8) (L : Nat → List UInt8) (hg : ∀ x ∈ gp, x ≠ 192) : ∀ i, (rall (R.new 30) (manyB gp L i)).1 = manyW L i ∧ (rall (R.new 30) (manyB gp L i)).2.ins = false
  | 0 => ⟨rfl, rfl⟩
  | i + 1 => by
    have ih := many_all gp L hg i
    simp only [manyB, manyW]
    split
    · exact ih
    · rename_i h
      have hm : (R.new 30).most = 30 := by decide
      have hl : ((L i).take 30).length ≤ 30 := by rw [List.length_take]; omega
      rw [List.append_assoc, rall_append, rall_append, rall_out gp _ ih.2 hg]
      simp only [List.nil_append]
      rw [rall_wrap _ _ _ (by rw [rall_most, hm]; exact hl) (by omega), ih.1]
      exact ⟨rfl, rfl⟩
theorem manyW_len (L : Nat → List UInt8) : ∀ i, (manyW L i).length ≤ i
  | 0 => Nat.le_refl _
  | i + 1 => by
    have := manyW_len L i
    simp only [manyW]
    split
    · omega
    · simp; omega
theorem manyB_len (gp : List UInt8) (L : Nat → List UInt8) (hg : gp.length ≤ 5) : ∀ i, (manyB gp L i).length ≤ 100 * i
  | 0 => Nat.le_refl _
  | i + 1 => by
    have := manyB_len gp L hg i
    simp only [manyB]
    split
    · omega
    · have hl : ((L i).take 30).length ≤ 30 := by rw [List.length_take]; omega
      have h1 : (cwrap ((L i).take 30) i).length ≤ 95 := by
        have h2 := (cesc_length (cput ((L i).take 30))).2
        rw [cput_length] at h2
        have h3 : extras i ≤ 10 := by unfold extras; omega
        unfold cwrap
        simp only [List.length_append, List.length_cons, List.length_nil, List.length_replicate]
        omega
      simp only [List.length_append]
      omega

/-! ends, and why -/
/-- Why the frames ended that did, one behind the other; the state behind them. -/
def ends : R → List UInt8 → List Nat × R
  | r, [] => ([], r)
  | r, b :: l => ((if (rput r b).2.2.2 = true then [(rput r b).2.2.1] else []) ++ (ends (rput r b).1 l).1, (ends (rput r b).1 l).2)
theorem ends_append : ∀ (l m : List UInt8) (r : R), ends r (l ++ m) = ((ends r l).1 ++ (ends (ends r l).2 m).1, (ends (ends r l).2 m).2)
  | [], m, r => rfl
  | b :: l, m, r => by simp only [List.cons_append, ends, ends_append l m (rput r b).1, List.append_assoc]
theorem ends_out : ∀ (l : List UInt8) (r : R), r.ins = false → (∀ x ∈ l, x ≠ 192) → ends r l = ([], r)
  | [], r, _, _ => rfl
  | x :: l, r, hi, h => by
    simp only [ends]
    rw [rput_out hi (h x (by simp))]
    simp only [ends_out l r hi (fun y hy => h y (by simp [hy])), List.append_nil]
    rfl
theorem ends_esc : ∀ (l f : List UInt8) (most : Nat), f.length + l.length ≤ most + 2 → ends ⟨most, true, false, f⟩ (cesc l) = ([], ⟨most, true, false, f ++ l⟩)
  | [], f, most, _ => by simp [cesc, ends]
  | x :: l, f, most, h => by
    simp only [List.length_cons] at h
    have hf : f ++ x :: l = (f ++ [x]) ++ l := by simp
    rw [hf]
    have ih := ends_esc l (f ++ [x]) most (by simp; omega)
    simp only [cesc]
    split
    · rename_i hs
      simp only [ends, rput_esc]
      have hy : (x ^^^ 32) ≠ 192 ∧ (x ^^^ 32) ≠ 193 ∧ (x ^^^ 32) ^^^ 32 = x := by
        rcases (special_iff x).1 hs with rfl | rfl | rfl <;> decide
      rw [rput_add hy.1 hy.2.1 (by simp) (by omega)]
      simp only [if_true, hy.2.2, ih]
      rfl
    · rename_i hs
      have h1 : x ≠ 192 := fun e => hs ((special_iff x).2 (.inl e))
      have h2 : x ≠ 193 := fun e => hs ((special_iff x).2 (.inr (.inl e)))
      have h3 : x ≠ 125 := fun e => hs ((special_iff x).2 (.inr (.inr e)))
      simp only [ends]
      rw [rput_add h1 h2 (fun h => h3 h.1) (by omega)]
      simp only [Bool.false_eq_true, if_false, ih]
      rfl
theorem rput_full {most : Nat} {esc : Bool} {f : List UInt8} {b : UInt8} (h1 : b ≠ 192) (h2 : b ≠ 193) (h3 : ¬ (b = 125 ∧ esc = false)) (hl : most + 2 ≤ f.length) :
    rput ⟨most, true, esc, f⟩ b = (⟨most, false, esc, f⟩, [], 7, true) := by
  unfold rput
  rw [if_neg h1, if_neg (by simp), if_neg h2]
  simp only
  rw [if_neg h3, if_pos hl]
theorem cesc_192 (l : List UInt8) : ∀ x ∈ cesc l, x ≠ 192 := fun x hx => (cesc_clean l x hx).1
/-- One byte too many. -/
theorem ends_long : ∀ (l f : List UInt8) (most : Nat), f.length ≤ most + 2 → most + 2 < f.length + l.length → ∃ r, ends ⟨most, true, false, f⟩ (cesc l) = ([7], r) ∧ r.ins = false ∧ r.most = most
  | [], f, most, h1, h2 => by simp at h2; omega
  | x :: l, f, most, h1, h2 => by
    simp only [List.length_cons] at h2
    by_cases hfull : most + 2 ≤ f.length
    · simp only [cesc]
      split
      · rename_i hs
        have hy : (x ^^^ 32) ≠ 192 ∧ (x ^^^ 32) ≠ 193 := by
          rcases (special_iff x).1 hs with rfl | rfl | rfl <;> decide
        simp only [ends, rput_esc]
        rw [rput_full hy.1 hy.2 (by simp) hfull]
        simp only
        rw [ends_out (cesc l) _ rfl (cesc_192 l)]
        exact ⟨_, rfl, rfl, rfl⟩
      · rename_i hs
        have h1 : x ≠ 192 := fun e => hs ((special_iff x).2 (.inl e))
        have h2 : x ≠ 193 := fun e => hs ((special_iff x).2 (.inr (.inl e)))
        have h3 : x ≠ 125 := fun e => hs ((special_iff x).2 (.inr (.inr e)))
        simp only [ends]
        rw [rput_full h1 h2 (fun h => h3 h.1) hfull]
        simp only
        rw [ends_out (cesc l) _ rfl (cesc_192 l)]
        exact ⟨_, rfl, rfl, rfl⟩
    · obtain ⟨r, ih, hr⟩ := ends_long l (f ++ [x]) most (by simp; omega) (by simp; omega)
      refine ⟨r, ?_, hr⟩
      simp only [cesc]
      split
      · rename_i hs
        simp only [ends, rput_esc]
        have hy : (x ^^^ 32) ≠ 192 ∧ (x ^^^ 32) ≠ 193 ∧ (x ^^^ 32) ^^^ 32 = x := by
          rcases (special_iff x).1 hs with rfl | rfl | rfl <;> decide
        rw [rput_add hy.1 hy.2.1 (by simp) (by omega)]
        simp only [if_true, hy.2.2, ih]
        rfl
      · rename_i hs
        have h1 : x ≠ 192 := fun e => hs ((special_iff x).2 (.inl e))
        have h2 : x ≠ 193 := fun e => hs ((special_iff x).2 (.inr (.inl e)))
        have h3 : x ≠ 125 := fun e => hs ((special_iff x).2 (.inr (.inr e)))
        simp only [ends]
        rw [rput_add h1 h2 (fun h => h3 h.1) (by omega)]
        simp only [Bool.false_eq_true, if_false, ih]
        rfl
theorem ends_wrap (r : R) (l : List UInt8) (e : Int) (hi : r.ins = false) (h : l.length ≤ r.most) (h0 : 0 < l.length) : ends r (cwrap l e) = ([0], ⟨r.most, false, false, cput l⟩) := by
  unfold cwrap
  rw [List.append_assoc, ends_append, ends_out _ r hi (by intro x hx; rw [(List.mem_replicate.1 hx).2]; decide)]
  simp only [List.nil_append, List.cons_append, ends, rput_c0]
  rw [ends_append, ends_esc _ _ _ (by rw [cput_length]; simp; omega)]
  simp only [List.nil_append, ends, rput_end, rend_cput l h0]
  rfl
theorem ends_wrap_long (r : R) (l : List UInt8) (e : Int) (hi : r.ins = false) (h : r.most < l.length) : ∃ r', ends r (cwrap l e) = ([7], r') ∧ r'.ins = false ∧ r'.most = r.most := by
  obtain ⟨r', h1, h2, h3⟩ := ends_long (cput l) [] r.most (by simp) (by rw [cput_length]; simp; omega)
  refine ⟨r', ?_, h2, h3⟩
  unfold cwrap
  rw [List.append_assoc, ends_append, ends_out _ r hi (by intro x hx; rw [(List.mem_replicate.1 hx).2]; decide)]
  simp only [List.nil_append, List.cons_append, ends, rput_c0]
  rw [ends_append, h1]
  simp only
  rw [ends_out [193] r' h2 (by decide)]
  rfl
/-- Why, of the last that was not fine. -/
def whyOf : List Nat → Nat
  | [] => 0
  | x :: l => if whyOf l = 0 then x else whyOf l
theorem whyOf_snoc (l : List Nat) (x : Nat) : whyOf (l ++ [x]) = if x = 0 then whyOf l else x := by
  induction l with
  | nil => simp only [List.nil_append, whyOf, if_true]; split <;> simp_all
  | cons y l ih =>
    simp only [List.cons_append, whyOf, ih]
    by_cases hx : x = 0
    · simp [hx]
    · simp [hx]
theorem ends_snoc (l : List UInt8) (r : R) (x : UInt8) : ends r (l ++ [x]) = ((ends r l).1 ++ (if (rput (ends r l).2 x).2.2.2 = true then [(rput (ends r l).2 x).2.2.1] else []), (rput (ends r l).2 x).1) := by
  rw [ends_append]
  simp only [ends, List.append_nil]
theorem ends_ok : ∀ (l : List UInt8) (r : R), r.ok → (ends r l).2.ok
  | [], _, h => h
  | b :: l, r, h => ends_ok l _ (rput_ok r b h)
theorem ends_len : ∀ (l : List UInt8) (r : R), (ends r l).1.length ≤ l.length
  | [], _ => Nat.le_refl _
  | b :: l, r => by
    have := ends_len l (rput r b).1
    simp only [ends, List.length_append, List.length_cons]
    split <;> simp <;> omega
theorem long_all (most : Int) (n : Nat) (c : UInt8) (h1 : 1 ≤ most) (h2 : most ≤ 200) (hn : 1 ≤ n) : (ends (R.new most) (cwrap (List.replicate n c) 0 ++ cwrap [1] 2)).1 = [if (n : Int) ≤ most then 0 else 7, 0] := by
  have hm : ((R.new most).most : Int) = most := by simp only [R.new]; omega
  rw [ends_append]
  by_cases h : (n : Int) ≤ most
  · rw [if_pos h, ends_wrap _ _ _ rfl (by rw [List.length_replicate]; omega) (by rw [List.length_replicate]; omega)]
    simp only
    rw [ends_wrap _ _ _ rfl (by simp only [List.length_cons, List.length_nil]; omega) (by simp)]
    rfl
  · rw [if_neg h]
    obtain ⟨r', e1, e2, e3⟩ := ends_wrap_long (R.new most) (List.replicate n c) 0 rfl (by rw [List.length_replicate]; omega)
    rw [e1]
    simp only
    rw [ends_wrap _ _ _ e2 (by simp only [List.length_cons, List.length_nil]; omega) (by simp)]
    rfl

/-! one byte turned -/
theorem caddAll_turn : ∀ (l : List UInt8) (i : Nat) (d : UInt8) (c : Nat), i < l.length → caddAll c (l.set i (l.getD i 0 ^^^ d)) = caddAll c l ^^^ csteps (8 * (l.length - i)) d.toNat
  | [], i, d, c, h => by simp at h
  | x :: l, 0, d, c, _ => by
    have e1 : caddAll c ((x :: l).set 0 ((x :: l).getD 0 0 ^^^ d)) = caddAll (cadd c (x ^^^ d).toNat) l := rfl
    have e2 : caddAll c (x :: l) = caddAll (cadd c x.toNat) l := rfl
    have h3 : cadd c (x ^^^ d).toNat = cadd c x.toNat ^^^ csteps 8 d.toNat := by
      rw [UInt8.toNat_xor]
      unfold cadd
      rw [← Nat.xor_assoc, csteps_xor]
    have h4 : 8 * ((x :: l).length - 0) = 8 * l.length + 8 := by rw [List.length_cons]; omega
    rw [e1, e2, h3, caddAll_start, h4, csteps_add]
  | x :: l, i + 1, d, c, h => by
    simp only [List.length_cons] at h
    have e1 : caddAll c ((x :: l).set (i + 1) ((x :: l).getD (i + 1) 0 ^^^ d)) = caddAll (cadd c x.toNat) (l.set i (l.getD i 0 ^^^ d)) := rfl
    have e2 : caddAll c (x :: l) = caddAll (cadd c x.toNat) l := rfl
    have h4 : (x :: l).length - (i + 1) = l.length - i := by rw [List.length_cons]; omega
    rw [e1, e2, caddAll_turn l i d _ (by omega), h4]
theorem turned_not_fine (l : List UInt8) (i : Nat) (d : UInt8) (h : i < (cput l).length) (hd : d ≠ 0) : cfine ((cput l).set i ((cput l).getD i 0 ^^^ d)) = false := by
  apply not_fine
  rw [caddAll_turn _ _ _ _ h, cput_residue]
  have hd' : d.toNat ≠ 0 := fun e => hd (UInt8.toNat.inj e)
  intro e
  apply csteps_ne (c := d.toNat) (by have := d.toNat_lt; omega) hd' (8 * ((cput l).length - i))
  have := congrArg (csteps (8 + 8) 65535 ^^^ ·) e
  simpa [← Nat.xor_assoc] using this
theorem xor_back (x y : UInt8) : x ^^^ (x ^^^ y) = y := by rw [← UInt8.xor_assoc, UInt8.xor_self, UInt8.zero_xor]
/-- One byte of what is escaped is another one, which is none that says a thing. -/
theorem esc_turned : ∀ (p : List UInt8) (j : Nat) (y : UInt8), j < (cesc p).length → special ((cesc p).getD j 0) = false → special y = false → y ≠ (cesc p).getD j 0 →
    ∃ i d, i < p.length ∧ d ≠ 0 ∧ ∀ (f : List UInt8) (most : Nat), f.length + p.length ≤ most + 2 → rall ⟨most, true, false, f⟩ ((cesc p).set j y) = ([], ⟨most, true, false, f ++ p.set i (p.getD i 0 ^^^ d)⟩)
  | [], j, y, h, _, _, _ => by simp [cesc] at h
  | x :: l, j, y, hj, ho, hy, hne => by
    have hy1 : y ≠ 192 := fun e => by rw [(special_iff y).2 (.inl e)] at hy; cases hy
    have hy2 : y ≠ 193 := fun e => by rw [(special_iff y).2 (.inr (.inl e))] at hy; cases hy
    have hy3 : y ≠ 125 := fun e => by rw [(special_iff y).2 (.inr (.inr e))] at hy; cases hy
    by_cases hs : special x = true
    · have hc : cesc (x :: l) = 125 :: (x ^^^ 32) :: cesc l := by simp only [cesc, hs, if_true]
      rw [hc] at hj ho hne ⊢
      have hx : (x ^^^ 32) ≠ 192 ∧ (x ^^^ 32) ≠ 193 ∧ (x ^^^ 32) ^^^ 32 = x := by
        rcases (special_iff x).1 hs with rfl | rfl | rfl <;> decide
      rcases j with _ | _ | j
      · simp [special] at ho
      · refine ⟨0, x ^^^ (y ^^^ 32), by simp, ?_, fun f most hl => ?_⟩
        · intro e
          apply hne
          have h1 : x ^^^ (x ^^^ (y ^^^ 32)) = x ^^^ 0 := by rw [e]
          rw [xor_back, UInt8.xor_zero] at h1
          show y = x ^^^ 32
          rw [← h1, UInt8.xor_assoc, UInt8.xor_self, UInt8.xor_zero]
        · simp only [List.length_cons] at hl
          simp only [List.set_cons_succ, List.set_cons_zero, rall, rput_esc, told, List.nil_append, List.getD_cons_zero]
          rw [rput_add hy1 hy2 (by simp) (by omega)]
          simp only [if_true, List.nil_append]
          rw [rall_esc l _ most (by simp; omega), xor_back]
          simp
      · simp only [List.length_cons] at hj
        obtain ⟨i, d, h1, h2, h3⟩ := esc_turned l j y (by omega) ho hy hne
        refine ⟨i + 1, d, by simp; omega, h2, fun f most hl => ?_⟩
        simp only [List.length_cons] at hl
        simp only [List.set_cons_succ, rall, rput_esc, told, List.nil_append, List.getD_cons_succ]
        rw [rput_add hx.1 hx.2.1 (by simp) (by omega)]
        simp only [if_true, List.nil_append, hx.2.2]
        rw [h3 _ most (by simp; omega)]
        simp
    · have hc : cesc (x :: l) = x :: cesc l := by simp only [cesc, hs]; rfl
      rw [hc] at hj ho hne ⊢
      have h1 : x ≠ 192 := fun e => hs ((special_iff x).2 (.inl e))
      have h2 : x ≠ 193 := fun e => hs ((special_iff x).2 (.inr (.inl e)))
      have h3 : x ≠ 125 := fun e => hs ((special_iff x).2 (.inr (.inr e)))
      rcases j with _ | j
      · refine ⟨0, x ^^^ y, by simp, ?_, fun f most hl => ?_⟩
        · intro e
          apply hne
          have h1 : x ^^^ (x ^^^ y) = x ^^^ 0 := by rw [e]
          rw [xor_back, UInt8.xor_zero] at h1
          exact h1
        · simp only [List.length_cons] at hl
          simp only [List.set_cons_zero, rall, List.getD_cons_zero]
          rw [rput_add hy1 hy2 (fun h => hy3 h.1) (by omega)]
          simp only [Bool.false_eq_true, if_false, told, List.nil_append]
          rw [rall_esc l _ most (by simp; omega), xor_back]
          simp
      · simp only [List.length_cons] at hj
        obtain ⟨i, d, k1, k2, k3⟩ := esc_turned l j y (by omega) ho hy hne
        refine ⟨i + 1, d, by simp; omega, k2, fun f most hl => ?_⟩
        simp only [List.length_cons] at hl
        simp only [List.set_cons_succ, rall, List.getD_cons_succ]
        rw [rput_add h1 h2 (fun h => h3 h.1) (by omega)]
        simp only [Bool.false_eq_true, if_false, told, List.nil_append]
        rw [k3 _ most (by simp; omega)]
        simp
theorem rend_bad {f : List UInt8} (h : cfine f = false) : rend false f = ([], 8) := by simp [rend, h]
theorem wrap_zero (b : List UInt8) : cwrap b 0 = 192 :: (cesc (cput b) ++ [193]) := by
  have h : extras 0 = 0 := by decide
  unfold cwrap
  rw [h]
  rfl
theorem frame_turned (b : List UInt8) (k : Nat) (x : UInt8) (r : R) (hb : b.length ≤ r.most) (hk : k < (cwrap b 0).length) (hx : x ≠ 0) (h1 : special ((cwrap b 0).getD k 0) = false) (h2 : special ((cwrap b 0).getD k 0 ^^^ x) = false) :
    (rall r ((cwrap b 0).set k ((cwrap b 0).getD k 0 ^^^ x))).1 = [] := by
  rw [wrap_zero] at hk h1 h2 ⊢
  rcases k with _ | j
  · simp [special] at h1
  · simp only [List.length_cons, List.length_append, List.length_nil, List.getD_cons_succ] at hk h1 h2 ⊢
    have hj : j < (cesc (cput b)).length := by
      rcases Nat.lt_or_ge j (cesc (cput b)).length with h | h
      · exact h
      · have e : j = (cesc (cput b)).length := by omega
        subst e
        simp [special] at h1
    have hgd : (cesc (cput b) ++ [193]).getD j 0 = (cesc (cput b)).getD j 0 := by
      simp only [List.getD_eq_getElem?_getD]
      rw [List.getElem?_append_left hj]
    rw [hgd] at h1 h2 ⊢
    obtain ⟨i, d, k1, k2, k3⟩ := esc_turned (cput b) j _ hj h1 h2 (fun e => by
      apply hx
      have := congrArg ((cesc (cput b)).getD j 0 ^^^ ·) e
      simp only [xor_back, UInt8.xor_self] at this
      exact this)
    rw [List.set_cons_succ, List.set_append_left _ _ hj]
    simp only [rall, rput_c0, told, List.nil_append]
    rw [rall_append, k3 [] r.most (by rw [cput_length]; simp; omega)]
    simp only [List.nil_append, rall, rput_end, rend_bad (turned_not_fine b i d k1 k2), told]
end Go.Proofs.Ytameiegmeicnoaa.M
