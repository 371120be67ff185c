/- The words of the program's head, and the closed facts that go by them. -/
import Derived.Test.YtjddbjmcjhjpiaaGreatDoorRows
import Derived.JoinedOf
import Derived.SevenTiedAt
import Derived.KernelRfl

set_option linter.all false

namespace Go.Proofs.YtjddbjmcjhjpiaaGreatDoor
open Go

def iH:List Char:=([104,97,114,110,101,115,115]:List Nat).map Char.ofNat
def iS:List Char:=([55,55,101,101,101,51,53,54,102,50,56,101,101,54,100,100,98,55,101,53,57,101,53,101,57,57,48,55,100,55,97,100,100,55,98,101,49,56,53,102,57,51,49,55,50,55,51,97,49,54,50,98,56,56,57,57,49,55,102,101,102,49,54,98]:List Nat).map Char.ofNat
def iC:List Char:=([99,117,116]:List Nat).map Char.ofNat
def iR:List Char:=([97,116,32,103,108,111,119,119,111,114,109,47,103,108,111,119,119,111,114,109,108,97,119,49,54,46,81,117,101,114,121,65,108,108,32,103,108,111,119,119,111,114,109,47,103,108,111,119,119,111,114,109,108,97,119,49,54,46,82,101,112,108,121,65,108,108,32,103,108,111,119,119,111,114,109,47,103,108,111,119,119,111,114,109,108,97,119,49,54,46,82,101,112,108,121,79,110,99,101,32,103,108,111,119,119,111,114,109,47,103,108,111,119,119,111,114,109,108,97,119,49,54,46,66,111,120,65,108,108,32,103,108,111,119,119,111,114,109,47,103,108,111,119,119,111,114,109,108,97,119,49,54,46,66,111,120,78,111,110,101,32,103,108,111,119,119,111,114,109,47,103,108,111,119,119,111,114,109,108,97,119,49,54,46,76,111,103,67,108,97,115,104,32,103,108,111,119,119,111,114,109,47,103,108,111,119,119,111,114,109,108,97,119,49,54,46,81,117,101,114,121,84,105,109,101,115,32,103,108,111,119,119,111,114,109,47,103,108,111,119,119,111,114,109,108,97,119,49,54,46,81,117,101,114,121,68,101,97,102,32,103,108,111,119,119,111,114,109,47,103,108,111,119,119,111,114,109,108,97,119,49,54,46,82,101,112,108,121,65,110,101,119,32,103,108,111,119,119,111,114,109,47,103,108,111,119,119,111,114,109,108,97,119,49,54,46,82,101,112,108,121,76,97,116,101,32,103,108,111,119,119,111,114,109,47,103,108,111,119,119,111,114,109,108,97,119,49,54,46,66,111,120,79,114,100,101,114,32,103,108,111,119,119,111,114,109,47,103,108,111,119,119,111,114,109,108,97,119,49,54,46,66,111,120,84,117,114,110,32,103,108,111,119,119,111,114,109,47,103,108,111,119,119,111,114,109,108,97,119,49,54,46,76,111,103,79,114,100,101,114,32,103,108,111,119,119,111,114,109,47,103,108,111,119,119,111,114,109,108,97,119,49,54,46,81,117,101,114,121,79,119,110,32,103,108,111,119,119,111,114,109,47,103,108,111,119,119,111,114,109,108,97,119,49,54,46,82,101,112,108,121,84,119,111]:List Nat).map Char.ofNat
theorem init_is:Tryz.prog.initOrder=String.ofList (iH ++ Char.ofNat 32 :: (iS ++ Char.ofNat 32 :: (iC ++ Char.ofNat 32 :: iR))):=by kernel_rfl
theorem ws_word:∀ (a r:List Char),(∀ c ∈ a,c ≠ Char.ofNat 32)→wordsSigns (a ++ Char.ofNat 32 :: r)=a :: wordsSigns r
 | [],_,_=>rfl
 | c :: a,r,h=>by
  have ih:=ws_word a r (fun x hx=>h x (List.mem_cons_of_mem _ hx))
  rw [List.cons_append,wordsSigns.eq_3 c _ (h c (List.mem_cons_self ..)),ih]
theorem ws_is:wordsSigns Tryz.prog.initOrder.toList=iH :: iS :: iC :: wordsSigns iR:=by
 rw [init_is,String.toList_ofList,ws_word iH _ (by decide +kernel),ws_word iS _ (by decide +kernel),ws_word iC _ (by decide +kernel)]
theorem f_bmw:behindMainWord (iH :: iS :: iC :: wordsSigns iR)=iC :: wordsSigns iR:=by kernel_rfl
theorem f_head:behindMainWord (wordsSigns Tryz.prog.initOrder.toList)=iC :: wordsSigns iR:=(congrArg behindMainWord ws_is).trans f_bmw
theorem n_gc : (iC == "gc".toList) = false := by kernel_rfl
theorem n_spec : (iC == "spec".toList) = false := by kernel_rfl
theorem n_carried : (iC == "carried".toList) = false := by kernel_rfl
theorem y_cut : (iC == "cut".toList) = true := by kernel_rfl
theorem y_har : (iH == "harness".toList) = true := by kernel_rfl
theorem y_sum:isSumSigns iS=true:=by kernel_rfl
theorem make_of (P:Program) (r:List (List Char)) (h:behindMainWord (wordsSigns P.initOrder.toList)=iC :: r):P.make=some .cut:=by
 unfold Program.make
 rw [h]
 simp only [n_gc,n_spec,y_cut,Bool.or_false,Bool.true_or,Bool.false_eq_true,if_false,if_true]
theorem main_of (P:Program) (r:List (List Char)) (h:wordsSigns P.initOrder.toList=iH :: iS :: r):P.mainIs=some (true,iS):=by
 unfold Program.mainIs
 rw [h]
 simp only [y_sum,y_har,Bool.not_true,Bool.false_eq_true,if_false,if_true]
theorem y_some (r : List (List Char)) : ((iC :: r).head? == some "cut".toList) = true := by
 have e : iC = "cut".toList := by simpa using y_cut
 rw [List.head?_cons,e]
 simp
theorem may_of (P:Program) (r:List (List Char)) (h:behindMainWord (wordsSigns P.initOrder.toList)=iC :: r) (hs:stripLifts liftWords (iC :: r)=([],iC :: r)) (h1:P.laysLater=false) (h2:P.bearsReflect=false) (h3:P.doorFits []=true):P.mayEnter=true:=by
 unfold Program.mayEnter
 rw [h]
 simp only [hs,h1,h2,h3,n_gc,n_spec,n_carried,y_some,Bool.or_false,Bool.false_and,Bool.and_true,Bool.not_false,Bool.or_true,List.contains_nil]
theorem f_make:Tryz.prog.make=some .cut:=make_of _ _ f_head
theorem f_strip:stripLifts liftWords (iC :: wordsSigns iR)=([],iC :: wordsSigns iR):=by kernel_rfl
theorem f_heads:Tryz.prog.headLifts=[]:=by
 unfold Program.headLifts
 rw [ws_is,f_bmw,f_strip]
 kernel_rfl
theorem f_final:Tryz.prog.liftsFinal=false:=by
 unfold Program.liftsFinal
 rw [ws_is,f_bmw,f_heads]
 kernel_rfl
theorem f_later:Tryz.prog.laysLater=false:=by kernel_rfl
theorem f_refl:Tryz.prog.bearsReflect=false:=by kernel_rfl
theorem f_door:Tryz.prog.doorFits []=true:=by kernel_rfl
theorem f_may:Tryz.prog.mayEnter=true:=may_of _ _ f_head f_strip f_later f_refl f_door
theorem f_heard:Tryz.prog.stopsHeard=true:=by kernel_rfl
theorem f_rows:mapsRowed Tryz.prog=true:=by kernel_rfl
theorem f_laid:laidOutB Tryz.prog=true:=by kernel_rfl
theorem f_main (t:String) (h:t=String.ofList iS):Tryz.prog.mainIs=some (true,t.toList):=by
 subst h
 rw [String.toList_ofList]
 exact main_of _ _ ws_is
end Go.Proofs.YtjddbjmcjhjpiaaGreatDoor
