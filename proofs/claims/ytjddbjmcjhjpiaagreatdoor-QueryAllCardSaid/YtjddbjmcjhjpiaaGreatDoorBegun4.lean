/- What each law asks first: begun of layers 4 to 7 answers true. (Over what is awaited of package tuple: with Tup in the place of TupS this is Begun4.) -/
import Derived.Test.YtjddbjmcjhjpiaaGreatDoorM4H
import Derived.Test.YtjddbjmcjhjpiaaGreatDoorM4J
import Derived.Test.YtjddbjmcjhjpiaaGreatDoorM4F
import Derived.Test.YtjddbjmcjhjpiaaGreatDoorM4B
import Derived.Test.YtjddbjmcjhjpiaaGreatDoorM4D

set_option linter.all false

namespace Go.Proofs.YtjddbjmcjhjpiaaGreatDoor
set_option maxRecDepth 100000
set_option maxHeartbeats 8000000
open Go.RowKit M

def Holds4 (w:World) (e:Ending) (w' : World):Prop:=e=.returned (.bool true)∧Below w.heap.size w w'

theorem Begun1_any (w:World):Calls Tryz.prog 142 #[] w fun e w' => e=.returned (.bool true)∧Below w.heap.size w w' := by
 go_enter Tryz.func142,Tryz.ntmps142
 go_wp2_with (go_at_call 161;refine (begun_any _).mono ?_;rintro e w1 ⟨rfl,hb1⟩)
 go_ret
 exact ⟨rfl,hb1⟩

def bgF:PIn:=⟨127,255,true,3,2,0,0,true,⟨#[120]⟩⟩
theorem bgF_ok:bgF.ok:=by
 refine ⟨?_,?_,?_,?_,?_,?_,?_⟩ <;> decide
theorem bgF_may:mayF bgF.pl:=by decide +kernel
theorem bgF_put:putF bgF.pl=[255,255,147,120]:=by decide +kernel
abbrev bgV:Value:=frV 127 255 true (uV 2 true) ⟨#[120]⟩
theorem bgF_val:frI bgF=bgV:=rfl
theorem b4put (w:World) (hC:Codes w):Calls Tryz.prog 137 #[bgV] w fun e w' => ∃ v,e=.returned (.tuple #[v,.bool true])∧Own w' w.heap.size v [255,255,147,120]∧Below w.heap.size w w' := by
 have h:=FPut_yes bgF w bgF_may hC
 rw [bgF_put,bgF_val] at h
 exact h
theorem b4get (v:Value) (w:World) (hr:Rds w v [255,255,147,120]) (hC:Codes w):Calls Tryz.prog 138 #[v] w fun e w' => e=.returned (.tuple #[bgV,.bool true])∧Below w.heap.size w w' :=
 FGet_yes v _ bgF.pl w hr (by rw [← bgF_put];exact getF_pl bgF_may) hC
theorem b4plain (w:World):Calls Tryz.prog 139 #[bgV] w fun e w' => e=.returned (.agg #[.int .i64 127,.int .i64 255,.bool true,.int .i64 3,.int .i64 2,.int .i64 0,.int .i64 0,.bool true,.string ⟨#[120]⟩])∧Below w.heap.size w w' := FPlain_yes bgF w bgF_may
theorem b4of (w:World) (hC:Codes w):Calls Tryz.prog 140 #[.agg #[.int .i64 127,.int .i64 255,.bool true,.int .i64 3,.int .i64 2,.int .i64 0,.int .i64 0,.bool true,.string ⟨#[120]⟩]] w fun e w' => e=.returned (.tuple #[bgV,.bool true])∧Below w.heap.size w w' := FOf_yes bgF w bgF_ok bgF_may hC
theorem b4eq (w:World):Calls Tryz.prog 143 #[bgV,bgV] w fun e w' => e=.returned (.bool true)∧Below w.heap.size w w' := by
 have h:=FEq_any bgF bgF w bgF_may bgF_may
 rw [decide_eq_true rfl] at h
 exact h
def bgT:List Tp:=[(3,[113])]
theorem b4tput (v:Value) (w:World) (hr:RdT w v bgT):Calls Tryz.prog 104 #[v] w fun e w' => e=.returned (.tuple #[.string ⟨#[3,1,113]⟩,.bool true])∧Below w.heap.size w w' := by
 have h:=TPut_any v bgT w hr (by decide) (by decide)
 unfold PutTP at h
 rw [show putT bgT=some [3,1,113] by decide +kernel] at h
 exact h
theorem b4tget (w:World):Calls Tryz.prog 106 #[.string ⟨#[3,1,113]⟩] w fun e w' => ∃ v,e=.returned (.tuple #[v,.bool true])∧OwnT w' w.heap.size v bgT∧Below w.heap.size w w' := by
 have h:=TGet_any ⟨#[3,1,113]⟩ w (by decide)
 unfold GetTP at h
 rw [show getT (⟨#[3,1,113]⟩:ByteArray).data.toList=some bgT by decide +kernel] at h
 exact h
theorem b4tfind (v:Value) (w:World) (hr:RdT w v bgT):Calls Tryz.prog 133 #[v,.int .i64 3] w fun e w' => e=.returned (.tuple #[.string ⟨#[113]⟩,.bool true])∧Below w.heap.size w w' := by
 have h:=TFind_any v bgT 3 w hr (by decide) (by decide)
 rw [show fnd bgT 3=some [113] by decide +kernel] at h
 exact h
theorem b4get54 (w:World) (hC:Codes w):Calls Tryz.prog 141 #[.int .u8 84] w fun e w' => e=.returned (.tuple #[iV 2 2 true,.bool true])∧w=w' := by
 have h:=CGet_any 84 (by omega) w hC
 unfold GetP at h
 rw [show gb 84=some ⟨1,0,2,2,true⟩ by decide +kernel] at h
 exact h
theorem eql_I22 (W:World):(binOp .eql 211 (.agg #[.int .i64 2,.int .i64 2,.bool true]) (.agg #[.int .i64 2,.int .i64 2,.bool true])).run Tryz.prog W=.ok (.bool true) W:=by
 rw [run_eql_struct]
 have h:=ifIn_I 2 2 2 2 true true W
 obtain ⟨ms,hu⟩:=any_iface
 rw [show (10000:Nat)=9999 + 1 from rfl,eqIn_iface W 9999 _ _ hu cmp_I] at h
 have hS:Tryz.prog.underlying 211=some (.struct (Tryz.prog.fieldsOf 211)):=by kernel_rfl
 have hp:Tryz.prog.stoodInHeld 211=false:=by kernel_rfl
 rw [show (9999:Nat)=9998 + 1 from rfl,run_equalIn_agg W 9998 211 _ _ hS hp] at h
 rw [show (10000:Nat)=9999 + 1 from rfl,run_equalIn_agg W 9999 211 _ _ hS hp]
 have u3:=Tryz.underlying3
 have u4:=Tryz.underlying4
 simp only [Program.fieldsOf,Tryz.underlying211]
 go_simp
theorem guard_I4 (op:BinOp) (x y:Operand) (xs ys:Array Value) (W:World):(eqGuard op 211 x y (.agg xs) (.agg ys)).run Tryz.prog W=.ok () W:=run_eqGuard_agg W op 211 x y xs ys (by kernel_rfl)
theorem bgT_rd (w:World):RdT (w.alloc (.cells (yP 3 ⟨#[113]⟩) 165)) (.slice (some ⟨w.heap.size,0,none⟩) 1 1) bgT:=by
 refine ⟨_,1,rfl,Nat.le_refl _,by simp [maxLen],fun _=>⟨w.heap.size,0,rfl,by simp,fun j u hu=>?_⟩⟩
 have e:tcs bgT=[.int .i64 3,.string ⟨#[113]⟩]:=rfl
 rw [e] at hu
 rw [Nat.zero_add]
 exact cell_at (heap_alloc_new w _) j u (by simpa using hu)

theorem begun4_any (w:World) (hC:Codes w):Calls Tryz.prog 116 #[] w fun e w' => e=.returned (.bool true)∧Below w.heap.size w w' := by
 have HC:=jzD hC
 clear hC
 go_enter Tryz.func116,Tryz.ntmps116
 go_wp2_with (first
  | (go_at_call 136;((with_reducible refine (FAll_any _).mono ?_);rintro e w1 ⟨rfl,hb⟩;have HB1:=jzD hb;clear hb))
  | ((with_reducible refine wpList_storeB rfl 198 (.tmp 1) _ rfl w1.heap.size #[.int .i64 127,.int .i64 255,.bool true,uV 2 true,.string ⟨#[120]⟩] rfl rfl 198 _ (heap_alloc_new w1 _) (by kernel_rfl) (by kernel_rfl) (by kernel_rfl) ?_);intro w2 hg hz hh;have HB2:=jzD (bel_grown (bal HB1.out _) hg HB1.out.size);have HF2:=jzD hh;  clear hg hz hh)
  | (with_reducible refine wpList_loadB rfl 198 (.tmp 1) rfl w1.heap.size rfl 198 #[.int .i64 127,.int .i64 255,.bool true,uV 2 true,.string ⟨#[120]⟩] HF2.out _ Tryz.underlying198 rfl (by kernel_rfl) ?_)
  | (go_at_call 137;((with_reducible refine (b4put _ (HC.out.below HB2.out)).mono ?_);rintro e w3 ⟨v,rfl,hv,hb⟩;have HB3:=jzD (bel_trans HB2.out hb);have HF3:=jzD (keep_at HF2.out hb);have HV3:=jzD hv.rds;obtain ⟨Av,cv1,hve,_⟩:=hv.rds;obtain rfl:v=.slice Av 4 cv1:=hve;clear hv hb))
  | (go_at_call 138;((with_reducible refine (b4get _ _ HV3.out (HC.out.below HB3.out)).mono ?_);rintro e w4 ⟨rfl,hb⟩;have HB4:=jzD (bel_trans HB3.out hb);have HF4:=jzD (keep_at HF3.out hb);have HV4:=jzD (HV3.out.below hb);clear hb))
  | ((with_reducible refine wpList_storeB rfl 198 (.tmp 4) _ rfl w4.heap.size #[.int .i64 127,.int .i64 255,.bool true,uV 2 true,.string ⟨#[120]⟩] rfl rfl 198 _ (heap_alloc_new w4 _) (by kernel_rfl) (by kernel_rfl) (by kernel_rfl) ?_);intro w5 hg hz hh;have HB5:=jzD (bel_grown (bal HB4.out _) hg HB4.out.size);have HG5:=jzD hh;have HF5:=jzD (keep_grown (keep_at HF4.out (bal (bel0 w4) _)) hg (Nat.ne_of_lt (lt_at HF4.out)));have HV5:=jzD ((HV4.out.alloc _).grown hg (HV4.out.apart_new (Nat.le_refl _)));clear hg hz hh)
  | (with_reducible refine wpList_loadB rfl 198 (.tmp 1) rfl w1.heap.size rfl 198 #[.int .i64 127,.int .i64 255,.bool true,uV 2 true,.string ⟨#[120]⟩] HF5.out _ Tryz.underlying198 rfl (by kernel_rfl) ?_)
  | (go_at_call 139;((with_reducible refine (b4plain _).mono ?_);rintro e w6 ⟨rfl,hb⟩;have HB6:=jzD (bel_trans HB5.out hb);have HF6:=jzD (keep_at HF5.out hb);have HG6:=jzD (keep_at HG5.out hb);have HV6:=jzD (HV5.out.below hb);clear hb))
  | ((with_reducible refine wpList_storeB rfl 204 (.tmp 6) _ rfl w6.heap.size #[.int .i64 127,.int .i64 255,.bool true,.int .i64 3,.int .i64 2,.int .i64 0,.int .i64 0,.bool true,.string ⟨#[120]⟩] rfl rfl 204 _ (heap_alloc_new w6 _) (by kernel_rfl) (by kernel_rfl) (by kernel_rfl) ?_);intro w7 hg hz hh;have HB7:=jzD (bel_grown (bal HB6.out _) hg HB6.out.size);have HP7:=jzD hh;have HF7:=jzD (keep_grown (keep_at HF6.out (bal (bel0 w6) _)) hg (Nat.ne_of_lt (lt_at HF6.out)));have HG7:=jzD (keep_grown (keep_at HG6.out (bal (bel0 w6) _)) hg (Nat.ne_of_lt (lt_at HG6.out)));have HV7:=jzD ((HV6.out.alloc _).grown hg (HV6.out.apart_new (Nat.le_refl _)));clear hg hz hh)
  | (with_reducible refine wpList_loadB rfl 204 (.tmp 6) rfl w6.heap.size rfl 204 #[.int .i64 127,.int .i64 255,.bool true,.int .i64 3,.int .i64 2,.int .i64 0,.int .i64 0,.bool true,.string ⟨#[120]⟩] HP7.out _ Tryz.underlying204 rfl (by kernel_rfl) ?_)
  | (go_at_call 140;((with_reducible refine (b4of _ (HC.out.below HB7.out)).mono ?_);rintro e w8 ⟨rfl,hb⟩;have HB8:=jzD (bel_trans HB7.out hb);have HF8:=jzD (keep_at HF7.out hb);have HG8:=jzD (keep_at HG7.out hb);have HP8:=jzD (keep_at HP7.out hb);have HV8:=jzD (HV7.out.below hb);clear hb))
  | ((with_reducible refine wpList_storeB rfl 198 (.tmp 7) _ rfl w8.heap.size #[.int .i64 127,.int .i64 255,.bool true,uV 2 true,.string ⟨#[120]⟩] rfl rfl 198 _ (heap_alloc_new w8 _) (by kernel_rfl) (by kernel_rfl) (by kernel_rfl) ?_);intro w9 hg hz hh;have HB9:=jzD (bel_grown (bal HB8.out _) hg HB8.out.size);have HH9:=jzD hh;have HF9:=jzD (keep_grown (keep_at HF8.out (bal (bel0 w8) _)) hg (Nat.ne_of_lt (lt_at HF8.out)));have HG9:=jzD (keep_grown (keep_at HG8.out (bal (bel0 w8) _)) hg (Nat.ne_of_lt (lt_at HG8.out)));have HP9:=jzD (keep_grown (keep_at HP8.out (bal (bel0 w8) _)) hg (Nat.ne_of_lt (lt_at HP8.out)));have HV9:=jzD ((HV8.out.alloc _).grown hg (HV8.out.apart_new (Nat.le_refl _)));clear hg hz hh)
  | (go_at_call 104;((with_reducible refine (b4tput _ _ (bgT_rd w9)).mono ?_);rintro e wA ⟨rfl,hb⟩;have HBA:=jzD (bel_trans (bal HB9.out _) hb);have HFA:=jzD (keep_at (keep_at HF9.out (bal (bel0 w9) _)) hb);have HGA:=jzD (keep_at (keep_at HG9.out (bal (bel0 w9) _)) hb);have HPA:=jzD (keep_at (keep_at HP9.out (bal (bel0 w9) _)) hb);have HHA:=jzD (keep_at (keep_at HH9.out (bal (bel0 w9) _)) hb);have HVA:=jzD ((HV9.out.alloc _).below hb);clear hb))
  | (go_at_call 106;((with_reducible refine (b4tget _).mono ?_);rintro e wB ⟨u,rfl,hu,hb⟩;have HBB:=jzD (bel_trans HBA.out hb);have HFB:=jzD (keep_at HFA.out hb);have HGB:=jzD (keep_at HGA.out hb);have HPB:=jzD (keep_at HPA.out hb);have HHB:=jzD (keep_at HHA.out hb);have HVB:=jzD (HVA.out.below hb);have HUB:=jzD hu.rd;obtain ⟨Au,cu,hue,_⟩:=hu.shape;obtain rfl:u=.slice Au 1 cu:=hue;clear hu hb))
  | (go_at_call 133;((with_reducible refine (b4tfind _ _ HUB.out).mono ?_);rintro e wC ⟨rfl,hb⟩;have HBC:=jzD (bel_trans HBB.out hb);have HFC:=jzD (keep_at HFB.out hb);have HGC:=jzD (keep_at HGB.out hb);have HPC:=jzD (keep_at HPB.out hb);have HHC:=jzD (keep_at HHB.out hb);have HVC:=jzD (HVB.out.below hb);clear hb))
  | (go_at_call 141;((with_reducible refine (b4get54 _ (HC.out.below HBC.out)).mono ?_);rintro e wq ⟨rfl,rfl⟩))
  | (go_at_call 142;((with_reducible refine (Begun1_any _).mono ?_);rintro e wD ⟨rfl,hb⟩;have HBD:=jzD (bel_trans HBC.out hb);have HFD:=jzD (keep_at HFC.out hb);have HGD:=jzD (keep_at HGC.out hb);have HPD:=jzD (keep_at HPC.out hb);have HHD:=jzD (keep_at HHC.out hb);have fd0:=cell_at HFD.out 0 _ rfl;have fd1:=cell_at HFD.out 1 _ rfl;have fd2:=cell_at HFD.out 2 _ rfl;have fd3:=cell_at HFD.out 3 _ rfl;have fd4:=cell_at HFD.out 4 _ rfl;have gd0:=cell_at HGD.out 0 _ rfl;have gd1:=cell_at HGD.out 1 _ rfl;have gd2:=cell_at HGD.out 2 _ rfl;have gd3:=cell_at HGD.out 3 _ rfl;have gd4:=cell_at HGD.out 4 _ rfl;have hstr:=run_str (HVC.out.below hb);clear hb))
  | (with_reducible refine wpList_loadG (by kernel_rfl) 198 (.tmp 1) rfl w1.heap.size rfl 198 #[.int .i64 127,.int .i64 255,.bool true,uV 2 true,.string ⟨#[120]⟩] HFD.out _ Tryz.underlying198 rfl (by kernel_rfl) ?_)
  | (with_reducible refine wpList_loadG (by kernel_rfl) 198 (.tmp 4) rfl w4.heap.size rfl 198 #[.int .i64 127,.int .i64 255,.bool true,uV 2 true,.string ⟨#[120]⟩] HGD.out _ Tryz.underlying198 rfl (by kernel_rfl) ?_)
  | (go_at_call 143;first | ((with_reducible refine (b4eq wD).mono ?_);rintro e wE ⟨rfl,hb⟩;have HBE:=jzD (bel_trans HBD.out hb);have HFE:=jzD (keep_at HFD.out hb);have HGE:=jzD (keep_at HGD.out hb);have HPE:=jzD (keep_at HPD.out hb);have HHE:=jzD (keep_at HHD.out hb);have p3:=cell_at HPE.out 3 _ rfl;have p4:=cell_at HPE.out 4 _ rfl;have fe0:=cell_at HFE.out 0 _ rfl;have fe1:=cell_at HFE.out 1 _ rfl;have fe2:=cell_at HFE.out 2 _ rfl;have fe3:=cell_at HFE.out 3 _ rfl;have fe4:=cell_at HFE.out 4 _ rfl;have he0:=cell_at HHE.out 0 _ rfl;have he1:=cell_at HHE.out 1 _ rfl;have he2:=cell_at HHE.out 2 _ rfl;have he3:=cell_at HHE.out 3 _ rfl;have he4:=cell_at HHE.out 4 _ rfl;clear hb) | ((with_reducible refine (b4eq wE).mono ?_);rintro e wF ⟨rfl,hb⟩;have HBF:=jzD (bel_trans HBE.out hb);clear hb))
  | (with_reducible refine wpList_loadG (by kernel_rfl) 198 (.tmp 7) rfl w8.heap.size rfl 198 #[.int .i64 127,.int .i64 255,.bool true,uV 2 true,.string ⟨#[120]⟩] HHE.out _ Tryz.underlying198 rfl (by kernel_rfl) ?_)
  | (with_reducible refine wpList_loadG (by kernel_rfl) 198 (.tmp 1) rfl w1.heap.size rfl 198 #[.int .i64 127,.int .i64 255,.bool true,uV 2 true,.string ⟨#[120]⟩] HFE.out _ Tryz.underlying198 rfl (by kernel_rfl) ?_)
  | (go_at_call 144;((with_reducible refine (MustI_good 2 2 true _).mono ?_);rintro e wG ⟨rfl,hb⟩;have HBG:=jzD (bel_trans HBF.out hb);clear hb))
  | (with_reducible refine wpList_cmpG (by kernel_rfl) rfl rfl rfl (guard_I4 _ _ _ _ _ _) (eql_I22 _) ?_)
  | (go_at_call 73;((with_reducible refine (nb1 _).mono ?_);rintro e wH ⟨rfl,hb⟩;have HBH:=jzD (bel_trans HBG.out hb);clear hb))
  | (go_at_call 145;((with_reducible refine (nb2 _).mono ?_);rintro e wI ⟨rfl,hb⟩;have HBI:=jzD (bel_trans HBH.out hb);clear hb))
  | (go_at_call 146;((with_reducible refine (nb3 _).mono ?_);rintro e wJ ⟨rfl,hb⟩;have HBJ:=jzD (bel_trans HBI.out hb);clear hb))
  | (go_at_call 147;((with_reducible refine (nb4 _).mono ?_);rintro e wK ⟨rfl,hb⟩;have HBK:=jzD (bel_trans HBJ.out hb);clear hb))
  | (go_at_call 95;((with_reducible refine (nb5 _).mono ?_);rintro e wq2 ⟨rfl,rfl⟩)))
 go_ret
 exact ⟨rfl,HBK.out⟩
end Go.Proofs.YtjddbjmcjhjpiaaGreatDoor
