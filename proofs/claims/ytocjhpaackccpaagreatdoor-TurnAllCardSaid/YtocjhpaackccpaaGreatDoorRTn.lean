/- The reference of layer 12: one side, all that it does. -/
import Derived.Test.YtocjhpaackccpaaGreatDoorRTakeY
import Derived.Test.YtocjhpaackccpaaGreatDoorRGo

set_option linter.all false

namespace Go.Proofs.YtocjhpaackccpaaGreatDoor
open Go.RowKit M

theorem RTnTake_any (g : Nat) (m : TurnM) (F : List Nat) (p : PIn) (w : World) (h : RTn g m w F) : Calls Tryz.prog 38 #[.pointer (some ⟨g, 0, none⟩), p.val] w fun e w' => e = .returned (.tuple #[.string (m.told p), .bool (m.tells p)]) ∧ Done w F (RTn g (m.take p)) w' := by
  obtain ⟨hok, go, h⟩ := h
  have hok2 := hok.take p
  have hno : m.hears p = false → m.told p = ⟨#[]⟩ ∧ m.tells p = false ∧ m.take p = m := fun hh => by
    have e1 : m.tells p = false := by unfold TurnM.tells; rw [hh]; rfl
    refine ⟨?_, e1, ?_⟩
    · unfold TurnM.told; rw [e1]; rfl
    · unfold TurnM.take; rw [hh]; rfl
  obtain ⟨R, sz, mi, o, i⟩ := m
  obtain ⟨seat, count, cmd, kind, sort, nr, ns, pf, body⟩ := p
  have hrole : R = 1 ∨ R = 2 := hok.role
  have hi : i.ok := hok.inn
  have key : ∀ (hh : TurnM.hears ⟨R, sz, mi, o, i⟩ ⟨seat, count, cmd, kind, sort, nr, ns, pf, body⟩ = false),
      (Calls Tryz.prog 38 #[.pointer (some ⟨g, 0, none⟩), .agg #[.int .i64 seat, .int .i64 count, .bool cmd, .int .i64 kind, .int .i64 sort, .int .i64 nr, .int .i64 ns, .bool pf, .string body]] w fun e w' => e = .returned (.tuple #[.string ⟨#[]⟩, .bool false]) ∧ Done w F (RTn2 g go ⟨R, sz, mi, o, i⟩) w') →
      Calls Tryz.prog 38 #[.pointer (some ⟨g, 0, none⟩), PIn.val ⟨seat, count, cmd, kind, sort, nr, ns, pf, body⟩] w fun e w' => e = .returned (.tuple #[.string (TurnM.told ⟨R, sz, mi, o, i⟩ ⟨seat, count, cmd, kind, sort, nr, ns, pf, body⟩), .bool (TurnM.tells ⟨R, sz, mi, o, i⟩ ⟨seat, count, cmd, kind, sort, nr, ns, pf, body⟩)]) ∧ Done w F (RTn g (TurnM.take ⟨R, sz, mi, o, i⟩ ⟨seat, count, cmd, kind, sort, nr, ns, pf, body⟩)) w' := fun hh hc => by
    obtain ⟨e1, e2, e3⟩ := hno hh
    rw [e1, e2, e3]
    refine hc.mono ?_
    rintro e w' ⟨rfl, hs⟩
    exact ⟨rfl, hs.mono fun F hF => ⟨hok, go, hF⟩⟩
  have bad : ∀ (hn : ¬ (1 ≤ kind ∧ kind ≤ 2 ∧ cmd = decide (R = 2) ∧ 0 ≤ nr ∧ nr ≤ 7 ∧ 0 ≤ ns ∧ ns ≤ 7)), TurnM.hears ⟨R, sz, mi, o, i⟩ ⟨seat, count, cmd, kind, sort, nr, ns, pf, body⟩ = false := fun hn => decide_eq_false hn
  by_cases h1 : kind < 1
  · exact key (bad (by omega)) (RTake_no1 g go R cmd sz mi o i F seat count kind sort nr ns pf body w h1 h)
  by_cases h2 : 2 < kind
  · exact key (bad (by omega)) (RTake_no2 g go R cmd sz mi o i F seat count kind sort nr ns pf body w h1 h2 h)
  rcases hrole with rfl | rfl
  · rcases cmd with _ | _
    · by_cases h4 : nr < 0
      · exact key (bad (by omega)) (RTake_no4_1 g go sz mi o i F seat count kind sort nr ns pf body w h1 h2 h4 h)
      by_cases h5 : 7 < nr
      · exact key (bad (by omega)) (RTake_no5_1 g go sz mi o i F seat count kind sort nr ns pf body w h1 h2 h4 h5 h)
      by_cases h6 : ns < 0
      · exact key (bad (by omega)) (RTake_no6_1 g go sz mi o i F seat count kind sort nr ns pf body w h1 h2 h4 h5 h6 h)
      by_cases h7 : 7 < ns
      · exact key (bad (by omega)) (RTake_no7_1 g go sz mi o i F seat count kind sort nr ns pf body w h1 h2 h4 h5 h6 h7 h)
      have hk : kind = 1 ∨ kind = 2 := by omega
      rcases hk with rfl | rfl
      · have hh : TurnM.hears ⟨1, sz, mi, o, i⟩ ⟨seat, count, false, 1, sort, nr, ns, pf, body⟩ = true := decide_eq_true ⟨by show (1 : Int) ≤ 1; decide, by show (1 : Int) ≤ 2; decide, rfl, by show 0 ≤ nr; omega, by show nr ≤ 7; omega, by show 0 ≤ ns; omega, by show ns ≤ 7; omega⟩
        have e1 : TurnM.tells ⟨1, sz, mi, o, i⟩ ⟨seat, count, false, 1, sort, nr, ns, pf, body⟩ = i.hit ns := by unfold TurnM.tells; rw [hh]; rfl
        have e2 : TurnM.told ⟨1, sz, mi, o, i⟩ ⟨seat, count, false, 1, sort, nr, ns, pf, body⟩ = i.told ns body := by unfold TurnM.told; rw [e1]; rfl
        have e3 : TurnM.take ⟨1, sz, mi, o, i⟩ ⟨seat, count, false, 1, sort, nr, ns, pf, body⟩ = ⟨1, sz, mi || pf, o.ack nr, i.take ns⟩ := by unfold TurnM.take; rw [hh]; rfl
        rw [e3] at hok2
        rw [e1, e2, e3]
        refine (RTake_yes_1_1 g go sz mi o i F seat count sort nr ns pf body w hi h4 h5 h6 h7 h).mono ?_
        rintro e w' ⟨rfl, hs⟩
        exact ⟨rfl, hs.mono fun F hF => ⟨hok2, go, hF⟩⟩
      · have hh : TurnM.hears ⟨1, sz, mi, o, i⟩ ⟨seat, count, false, 2, sort, nr, ns, pf, body⟩ = true := decide_eq_true ⟨by show (1 : Int) ≤ 2; decide, by show (2 : Int) ≤ 2; decide, rfl, by show 0 ≤ nr; omega, by show nr ≤ 7; omega, by show 0 ≤ ns; omega, by show ns ≤ 7; omega⟩
        have e1 : TurnM.tells ⟨1, sz, mi, o, i⟩ ⟨seat, count, false, 2, sort, nr, ns, pf, body⟩ = false := by unfold TurnM.tells; rw [hh]; rfl
        have e2 : TurnM.told ⟨1, sz, mi, o, i⟩ ⟨seat, count, false, 2, sort, nr, ns, pf, body⟩ = ⟨#[]⟩ := by unfold TurnM.told; rw [e1]; rfl
        have e3 : TurnM.take ⟨1, sz, mi, o, i⟩ ⟨seat, count, false, 2, sort, nr, ns, pf, body⟩ = ⟨1, sz, mi || pf, o.ack nr, i⟩ := by unfold TurnM.take; rw [hh]; rfl
        rw [e3] at hok2
        rw [e1, e2, e3]
        refine (RTake_yes_1_2 g go sz mi o i F seat count sort nr ns pf body w hi h4 h5 h6 h7 h).mono ?_
        rintro e w' ⟨rfl, hs⟩
        exact ⟨rfl, hs.mono fun F hF => ⟨hok2, go, hF⟩⟩
    · exact key (bad (fun hn => absurd hn.2.2.1 (by decide))) (RTake_no3_1 g go sz mi o i F seat count kind sort nr ns pf body w h1 h2 h)
  · rcases cmd with _ | _
    · exact key (bad (fun hn => absurd hn.2.2.1 (by decide))) (RTake_no3_2 g go sz mi o i F seat count kind sort nr ns pf body w h1 h2 h)
    · by_cases h4 : nr < 0
      · exact key (bad (by omega)) (RTake_no4_2 g go sz mi o i F seat count kind sort nr ns pf body w h1 h2 h4 h)
      by_cases h5 : 7 < nr
      · exact key (bad (by omega)) (RTake_no5_2 g go sz mi o i F seat count kind sort nr ns pf body w h1 h2 h4 h5 h)
      by_cases h6 : ns < 0
      · exact key (bad (by omega)) (RTake_no6_2 g go sz mi o i F seat count kind sort nr ns pf body w h1 h2 h4 h5 h6 h)
      by_cases h7 : 7 < ns
      · exact key (bad (by omega)) (RTake_no7_2 g go sz mi o i F seat count kind sort nr ns pf body w h1 h2 h4 h5 h6 h7 h)
      have hk : kind = 1 ∨ kind = 2 := by omega
      rcases hk with rfl | rfl
      · have hh : TurnM.hears ⟨2, sz, mi, o, i⟩ ⟨seat, count, true, 1, sort, nr, ns, pf, body⟩ = true := decide_eq_true ⟨by show (1 : Int) ≤ 1; decide, by show (1 : Int) ≤ 2; decide, rfl, by show 0 ≤ nr; omega, by show nr ≤ 7; omega, by show 0 ≤ ns; omega, by show ns ≤ 7; omega⟩
        have e1 : TurnM.tells ⟨2, sz, mi, o, i⟩ ⟨seat, count, true, 1, sort, nr, ns, pf, body⟩ = i.hit ns := by unfold TurnM.tells; rw [hh]; rfl
        have e2 : TurnM.told ⟨2, sz, mi, o, i⟩ ⟨seat, count, true, 1, sort, nr, ns, pf, body⟩ = i.told ns body := by unfold TurnM.told; rw [e1]; rfl
        have e3 : TurnM.take ⟨2, sz, mi, o, i⟩ ⟨seat, count, true, 1, sort, nr, ns, pf, body⟩ = ⟨2, sz, mi || pf, o.ack nr, i.take ns⟩ := by unfold TurnM.take; rw [hh]; rfl
        rw [e3] at hok2
        rw [e1, e2, e3]
        refine (RTake_yes_2_1 g go sz mi o i F seat count sort nr ns pf body w hi h4 h5 h6 h7 h).mono ?_
        rintro e w' ⟨rfl, hs⟩
        exact ⟨rfl, hs.mono fun F hF => ⟨hok2, go, hF⟩⟩
      · have hh : TurnM.hears ⟨2, sz, mi, o, i⟩ ⟨seat, count, true, 2, sort, nr, ns, pf, body⟩ = true := decide_eq_true ⟨by show (1 : Int) ≤ 2; decide, by show (2 : Int) ≤ 2; decide, rfl, by show 0 ≤ nr; omega, by show nr ≤ 7; omega, by show 0 ≤ ns; omega, by show ns ≤ 7; omega⟩
        have e1 : TurnM.tells ⟨2, sz, mi, o, i⟩ ⟨seat, count, true, 2, sort, nr, ns, pf, body⟩ = false := by unfold TurnM.tells; rw [hh]; rfl
        have e2 : TurnM.told ⟨2, sz, mi, o, i⟩ ⟨seat, count, true, 2, sort, nr, ns, pf, body⟩ = ⟨#[]⟩ := by unfold TurnM.told; rw [e1]; rfl
        have e3 : TurnM.take ⟨2, sz, mi, o, i⟩ ⟨seat, count, true, 2, sort, nr, ns, pf, body⟩ = ⟨2, sz, mi || pf, o.ack nr, i⟩ := by unfold TurnM.take; rw [hh]; rfl
        rw [e3] at hok2
        rw [e1, e2, e3]
        refine (RTake_yes_2_2 g go sz mi o i F seat count sort nr ns pf body w hi h4 h5 h6 h7 h).mono ?_
        rintro e w' ⟨rfl, hs⟩
        exact ⟨rfl, hs.mono fun F hF => ⟨hok2, go, hF⟩⟩
theorem RTnGo_any (g : Nat) (m : TurnM) (F : List Nat) (w : World) (h : RTn g m w F) : Calls Tryz.prog 35 #[.pointer (some ⟨g, 0, none⟩)] w fun e w' => ∃ A c, e = .returned (.slice A m.says.length c) ∧ (m.says.length ≤ c ∧ c ≤ maxLen) ∧ Done w F (Star (RTn g m.go) (OwnK 37 9 (.slice A m.says.length c) m.says.length (plcs m.says))) w' := by
  have hok := h.1
  rcases hm : m.mine with _ | _
  · refine (RTnGo_none g m F w hm h).mono ?_
    rintro e w' ⟨rfl, hw'⟩
    rw [hw']
    have e1 : m.says = [] := by unfold TurnM.says; rw [hm]; rfl
    have e2 : m.go = m := by unfold TurnM.go; rw [hm]; rfl
    rw [e1, e2]
    exact ⟨none, 0, rfl, by simp [maxLen], (Done.start h).add (RTn.stab _ _) (OwnK.nilD 37 9 w)⟩
  · obtain ⟨_, go, h2⟩ := h
    obtain ⟨R, sz, mi, ⟨W, f, l, sn⟩, ⟨nx, od⟩⟩ := m
    obtain rfl : mi = true := hm
    have hrole : R = 1 ∨ R = 2 := hok.role
    rcases hrole with rfl | rfl
    · exact RTnGo_1 g go sz W f sn l nx od F w hok h2
    · exact RTnGo_2 g go sz W f sn l nx od F w hok h2
/-- All its cells, for looking at them. -/
def RTn3 (g go : Nat) (A : Option Addr) (c : Nat) (m : TurnM) : Obj := Star (CellW g (turnc m go) 58) (ROut2 go (.slice A m.out.l.length c) m.out)
theorem RTn3.stab (g go : Nat) (A : Option Addr) (c : Nat) (m : TurnM) : Stab (RTn3 g go A c m) := (CellW.stab _ _ _).star (ROut2.stab _ _ _)
theorem RTn.open_ {w0 w : World} {F0 : List Nat} {C : Obj → Obj} {g : Nat} {m : TurnM} (hC : Fr C) (h : Done w0 F0 (C (RTn g m)) w) : m.ok ∧ ∃ go A c, Done w0 F0 (C (RTn3 g go A c m)) w := by
  obtain ⟨F, ⟨hok, go, F1, F2, rfl, k1, k2, k3⟩, hu⟩ := h.upd hC
  obtain ⟨_, A, c, _, k4⟩ := k2.shape
  exact ⟨hok, go, A, c, hu ⟨F1 ++ F2, ⟨F1, F2, rfl, k1, k4, k3⟩, Tch.refl _ _, Sub.refl _ _⟩⟩
theorem RTn.close_ {w0 w : World} {F0 : List Nat} {C : Obj → Obj} {g go c : Nat} {A : Option Addr} {m : TurnM} (hC : Fr C) (hok : m.ok) (h : Done w0 F0 (C (RTn3 g go A c m)) w) : Done w0 F0 (C (RTn g m)) w :=
  h.mono_at hC fun F ⟨F1, F2, e, k1, k2, k3⟩ => ⟨hok, go, F1, F2, e, k1, ⟨hok.out, _, k2⟩, k3⟩
theorem RTn3.cells {w : World} {F : List Nat} {g go c : Nat} {A : Option Addr} {m : TurnM} (h : RTn3 g go A c m w F) : w.cell? ⟨g, 0, none⟩ = some (.int .i64 m.role) ∧ w.cell? ⟨g, 2, none⟩ = some (.bool m.mine) ∧ w.cell? ⟨g, 3, none⟩ = some (.pointer (some ⟨go, 0, none⟩)) ∧ w.cell? ⟨go, 2, none⟩ = some (.slice A m.out.l.length c) := by
  obtain ⟨F1, F2, _, k1, ⟨F3, F4, _, k2, _, _⟩, _⟩ := h
  exact ⟨cell_at k1.2 0 _ rfl, cell_at k1.2 2 _ rfl, cell_at k1.2 3 _ rfl, cell_at k2.2 2 _ rfl⟩
theorem dcalls_look {P : Program} {f : FuncId} {args : Array Value} {ret : Value} {w0 w : World} {F0 : List Nat} {C : Obj → Obj} {R : Obj} (hC : Fr C) (hH : Stab (C R)) (h : Done w0 F0 (C R) w)
    (hc : ∀ F, R w F → Calls P f args w fun e w' => e = .returned ret ∧ Below w.heap.size w w') : Calls P f args w fun e w' => e = .returned ret ∧ Done w0 F0 (C R) w' := by
  obtain ⟨F1, h1⟩ := h.get hC
  exact dcalls_keep hH h (hc F1 h1)
end Go.Proofs.YtocjhpaackccpaaGreatDoor
