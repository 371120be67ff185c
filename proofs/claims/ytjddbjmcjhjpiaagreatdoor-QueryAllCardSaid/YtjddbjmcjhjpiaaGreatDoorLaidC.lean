/- What the statements' condition on package ctl's variable gives: its cells; and that it can be met. -/
import Derived.Test.YtjddbjmcjhjpiaaGreatDoorRows
import Derived.Test.YtjddbjmcjhjpiaaGreatDoorM4C
import Derived.ProofKit
import Derived.LaidMore
import Derived.OpenShut
import Derived.Stop.Joined

set_option linter.all false

namespace Go.Proofs.YtjddbjmcjhjpiaaGreatDoor
open Go.ChangeShapes Go.WideShapes Go.ChangeAt Go.RowKit

theorem own:ownKnob Tryz.prog.godebug=none:=by kernel_rfl
theorem laidOut:laidOutB Tryz.prog=true:=by kernel_rfl
theorem gCodes : Tryz.prog.globalNamed "glowworm/ctl.codes" = some 2 := by kernel_rfl
theorem tCodes:(Tryz.prog.globals[2]?).map (·.type)=some 249:=by kernel_rfl
theorem c8u:Tryz.prog.cellsOf 249=8:=by kernel_rfl
theorem c1u:Tryz.prog.cellsOf 5=1:=by kernel_rfl
abbrev laidC : List (String × DataW Unit) := [("glowworm/ctl.codes", Rows.laid_glowworm_ctl_codes)]

theorem byte_of_trod {H:Type} {enc:TypeId × Value→H} {P:Program} {w:World} {base:Nat} {sp:Nat→Bool} {held:Bool} {fuel:Nat} {t:TypeId} {k:IntKind} {c:Value} {y:DataW H × List MemPlace}
 (ht:P.underlying t=some (.int k)) (h:DataW.trod enc P w base sp held fuel t [c]=some y):∃ n,c=.int k n∧y=(.lit (.int k n),[]):=by
 cases fuel with
 | zero=>simp [DataW.trod] at h
 | succ fuel =>
  cases c <;> simp [DataW.trod,ht] at h
  rename_i k' n
  obtain ⟨⟨rfl,_⟩,rfl⟩:=h
  exact ⟨n,rfl,rfl⟩

theorem codes_of_laid {W:World} (h:laidMetH Tryz.prog laidC W):Codes W:=by
 rw [MakeChecks.laidMetH_plain _ _ _ (by kernel_rfl)] at h
 obtain ⟨ps,⟨g,t,cs,fuel,p,q,hg,ht,hvar,hd,_,hps⟩,_,hfr⟩:=h
 obtain rfl:=Option.some.inj (gCodes.symm.trans hg)
 obtain rfl:=Option.some.inj (tCodes.symm.trans ht)
 have hcs:cs=codesA:=by
  obtain ⟨l⟩:=cs
  cases fuel with
  | zero=>simp [DataW.trod] at hd
  | succ fuel =>
   simp only [DataW.trod,Tryz.underlying249,c8u,c1u] at hd
   split at hd
   · rename_i hl
     obtain ⟨c0,c1,c2,c3,c4,c5,c6,c7,rfl⟩:∃ c0 c1 c2 c3 c4 c5 c6 c7,l=[c0,c1,c2,c3,c4,c5,c6,c7]:=by
      match l,hl with
      | [a,b,c,d,e,f,g,h],_=>exact ⟨a,b,c,d,e,f,g,h,rfl⟩
     have e:List.range 8=[0,1,2,3,4,5,6,7]:=rfl
     rw [e] at hd
     simp only [Option.map_eq_some_iff,List.mapM_cons,List.mapM_nil,Option.bind_eq_bind,Option.bind_eq_some_iff,Option.pure_def,Option.some.injEq] at hd
     obtain ⟨xs,⟨y0,h0,_,⟨y1,h1,_,⟨y2,h2,_,⟨y3,h3,_,⟨y4,h4,_,⟨y5,h5,_,⟨y6,h6,_,⟨y7,h7,_,rfl,rfl⟩,rfl⟩,rfl⟩,rfl⟩,rfl⟩,rfl⟩,rfl⟩,rfl⟩,hx⟩:=hd
     obtain ⟨n0,rfl,rfl⟩:=byte_of_trod Tryz.underlying5 h0
     obtain ⟨n1,rfl,rfl⟩:=byte_of_trod Tryz.underlying5 h1
     obtain ⟨n2,rfl,rfl⟩:=byte_of_trod Tryz.underlying5 h2
     obtain ⟨n3,rfl,rfl⟩:=byte_of_trod Tryz.underlying5 h3
     obtain ⟨n4,rfl,rfl⟩:=byte_of_trod Tryz.underlying5 h4
     obtain ⟨n5,rfl,rfl⟩:=byte_of_trod Tryz.underlying5 h5
     obtain ⟨n6,rfl,rfl⟩:=byte_of_trod Tryz.underlying5 h6
     obtain ⟨n7,rfl,rfl⟩:=byte_of_trod Tryz.underlying5 h7
     simp [Rows.laid_glowworm_ctl_codes] at hx
     obtain ⟨⟨rfl,rfl,rfl,rfl,rfl,rfl,rfl,rfl⟩,_⟩:=hx
     rfl
   · cases hd
 subst hcs
 have hm:MemPlace.cell 2 0 ∈ ps:=by
  rw [hps]
  exact List.mem_append_left _ (List.mem_append_left _ (by decide))
 obtain ⟨⟨c,t,hh⟩,_⟩:=hfr _ _ hm
 unfold World.var? at hvar
 rw [hg] at hvar
 simp only [Option.bind_some,hh] at hvar
 injection hvar with hvar
 subst hvar
 exact ⟨t,hh⟩

theorem door_met (os:Os) (args:Array Value):laidMetH Tryz.prog laidC ((World.doorLaid Tryz.prog 400 os).forCall (fun _ _=>0) ⟨#[],args,[]⟩).memory:=by
 rw [MakeChecks.laidMetH_plain _ _ _ (by kernel_rfl)]
 exact laidMet_of_run' 8 (by kernel_rfl) (by kernel_rfl)
end Go.Proofs.YtjddbjmcjhjpiaaGreatDoor
