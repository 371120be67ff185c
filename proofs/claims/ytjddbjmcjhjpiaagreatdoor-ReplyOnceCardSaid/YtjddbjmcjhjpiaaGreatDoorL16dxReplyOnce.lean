/- The law ReplyOnce. -/
import Derived.Test.YtjddbjmcjhjpiaaGreatDoorN16J
import Derived.Test.YtjddbjmcjhjpiaaGreatDoorBegun16
import Derived.Test.YtjddbjmcjhjpiaaGreatDoorN16I
import Derived.Test.YtjddbjmcjhjpiaaGreatDoorN16C
import Derived.Test.YtjddbjmcjhjpiaaGreatDoorN16G
import Derived.Test.YtjddbjmcjhjpiaaGreatDoorN16H

set_option linter.all false

namespace Go.Proofs.YtjddbjmcjhjpiaaGreatDoor
set_option maxRecDepth 100000
set_option maxHeartbeats 32000000
open Go.RowKit M

theorem one16_any (b:Bool) (w:World):Calls Tryz.prog 43 #[.bool b] w fun e w' => e=.returned (.int .i64 (if b then 1 else 0))∧w' = w:=by
 cases b
 · go_enter Tryz.func43,Tryz.ntmps43
   go_wp2
   go_ret
   exact ⟨rfl,rfl⟩
 · go_enter Tryz.func43,Tryz.ntmps43
   go_wp2
   go_ret
   exact ⟨rfl,rfl⟩
theorem rep_first {me asker S d D:Int} (hm:mayX (askX asker S 0).xd=true) (hD:D=d % S) (h0:0≤D):(1:Int)=(ReplyM.new me ⟨#[110]⟩).used (askX asker S 0) [d]∧(D == 0)=(ReplyM.new me ⟨#[110]⟩).says (askX asker S 0) [d]∧repR me asker S D=(ReplyM.new me ⟨#[110]⟩).hear (askX asker S 0) [d]:=by
 have hr:(ReplyM.new me ⟨#[110]⟩).roundOf (askX asker S 0) [d]=some (asker,S,D):=by
  show (if true=true then some (asker,S,max (d % S) 0) else none)=_
  rw [if_pos rfl,hD,Int.max_eq_left (by omega)]
 have ha:ReplyM.asked (askX asker S 0)=true:=by unfold ReplyM.asked;rw [hm];rfl
 have hn:(ReplyM.new me ⟨#[110]⟩).renews (askX asker S 0)=false:=by unfold ReplyM.renews;rw [hm];rfl
 refine ⟨?_,?_,?_⟩
 · unfold ReplyM.used;rw [hn,ha];rfl
 · unfold ReplyM.says;rw [ha,hr];rfl
 · unfold ReplyM.hear;rw [hm,hr];rfl
theorem rep_end {r:ReplyM} {asker S d:Int} (hm:mayX (askX asker S (-1)).xd=true):(0:Int)=r.used (askX asker S (-1)) [d]∧false=r.says (askX asker S (-1)) [d]∧ReplyM.xz=r.xid (askX asker S (-1)) [d]:=by
 have ha:ReplyM.asked (askX asker S (-1))=false:=by unfold ReplyM.asked;rw [hm];rfl
 have hn:r.renews (askX asker S (-1))=false:=by unfold ReplyM.renews;rw [hm];rfl
 have hs:r.says (askX asker S (-1)) [d]=false:=by unfold ReplyM.says;rw [ha];rfl
 refine ⟨?_,hs.symm,?_⟩
 · unfold ReplyM.used;rw [hn,ha];rfl
 · unfold ReplyM.xid;rw [hs];rfl
theorem ReplyOnce_law (me asker slots draw:Int) (w:World) (hme:(Lit.int .u32 me).wf=true) (has:(Lit.int .u32 asker).wf=true) (hdr:(Lit.int .u32 draw).wf=true) (hC:Codes w):Calls Tryz.prog 5 #[.int .u32 me,.int .u32 asker,.int .i64 slots,.int .u32 draw] w fun e w' => e=.returned (.bool true)∧Below w.heap.size w w' := by
 have HC:=jzD hC
 have HME:=jzD hme
 have HAS:=jzD has
 have HDR:Hid (u32 draw):=by
  show u32 draw;have h1:IntKind.u32.min=0:=by decide
  have h2:IntKind.u32.max=4294967295:=by decide
  have h3:(decide (IntKind.u32.min≤draw) && decide (draw≤IntKind.u32.max))=true:=hdr
  rw [h1,h2] at h3;simp at h3;unfold u32;omega
 clear hC hme has hdr
 have a1_q:=Int.lt_tmod_of_pos slots (show (0:Int) < 3 by decide)
 have a2_q:=Int.tmod_lt_of_pos slots (show (0:Int) < 3 by decide)
 obtain ⟨t_q,ht_q⟩:∃ t,slots.tmod 3=t:=⟨_,rfl⟩
 rw [ht_q] at a1_q a2_q
 have e1_q:IntKind.i64.wrap t_q=t_q:=IntWalk.i64_in _ (by omega)
 have e2_q:IntKind.i64.wrap (t_q + 3)=t_q + 3:=IntWalk.i64_in _ (by omega)
 obtain ⟨q,h_q⟩:∃ q:Nat,t_q % 3=(q:Int):=⟨(t_q % 3).toNat,by omega⟩
 have e3_q:(t_q + 3).tmod 3=(q:Int):=by rw [Int.tmod_eq_emod_of_nonneg (by omega)];omega
 have e4_q:IntKind.i64.wrap (q:Int)=(q:Int):=IntWalk.i64_in _ (by omega)
 have b_q:q < 3:=by omega
 clear a1_q a2_q
 have hq:q=0 ∨ q=1 ∨ q=2:=by omega
 clear b_q
 have hmn:ReplyM.mayNew me ⟨#[110]⟩=ownN me:=by unfold ReplyM.mayNew;rw [show M.mayL ((⟨#[110]⟩:ByteArray).data.toList)=true by kernel_rfl,Bool.and_true]
 by_cases ho:ownN me=true
 · rw [ho] at hmn
   have HMN:=jzD hmn
   clear hmn ho
   by_cases hoa:ownN asker=true
   · have HOA:=jzD hoa
     have u0:(asker == 0)=false:=by unfold ownN at hoa;simp at hoa ⊢;exact hoa.1
     have u1:(asker == 4294967295)=false:=by unfold ownN at hoa;simp at hoa ⊢;exact hoa.2
     clear hoa
     rcases hq with rfl | rfl | rfl
     · have z0:((0:Nat):Int)=0:=rfl
       rw [z0] at h_q e3_q e4_q
       obtain ⟨D,hD⟩:∃ D:Nat,draw % 1=(D:Int):=⟨(draw % 1).toNat,by omega⟩
       have hDS:D < 1:=by omega
       have HDD:Hid ((D:Int)=draw % 1):=hD.symm
       have m1:draw.tmod 1=(D:Int):=by rw [Int.tmod_eq_emod_of_nonneg HDR.out.1];exact hD
       clear hD
       go_enter Tryz.func5,Tryz.ntmps5
       go_wp2_with (first
        | (go_at_call 18;((with_reducible refine (dcalls_keep Emp.stab (Done.emp w) (begun16_any _ HC.out)).mono ?_);rintro e w1 ⟨rfl,hs⟩;have HT1:Hid (Done w [] (Star Emp (CellW w1.heap.size (yK 1 6 8) 3)) (w1.alloc (.cells (yK 1 6 8) 3))):=hs.add Emp.stab (CellW.new w1 #[.int .i64 1,.int .i64 6,.int .i64 8] 3);clear hs))
        | (go_at_call 36;((with_reducible refine (dR_new HME.out (by decide) HMN.out (Emp.stab.star cS) HT1.out).mono ?_);rintro e w3 ⟨a1,rfl,hs⟩;have HS3:Hid (Done w [] (ReplyW (.pointer (some a1)) (ReplyM.new me ⟨#[110]⟩)) w3):=(by show Done _ _ _ _;exact hs.drop_mid.unemp);clear hs)))
       go_loopw [11,12,13] (fun nv av kv wr=>∃ (k:Nat) (rr:ReplyM),k≤1∧kv=.int .i64 (k:Int)∧((k=0∧nv=.int .i64 0∧av=.int .i64 (-1)∧rr=ReplyM.new me ⟨#[110]⟩) ∨ (0 < k∧k≤D∧nv=.int .i64 0∧av=.int .i64 (-1)∧rr=repR me asker 1 (D:Int)) ∨ (0 < k∧D < k∧nv=.int .i64 1∧av=.int .i64 (D:Int)∧rr=repR me asker 1 (D:Int)))∧Done w [] (ReplyW (.pointer (some a1)) rr) wr) (fun _ _ kv _=>(9 - intOf kv).toNat)
       case atStart=>exact ⟨0,_,by omega,rfl,.inl ⟨rfl,rfl,rfl,rfl⟩,HS3.out⟩
       case round =>
        clear HS3 HT1
        obtain ⟨k,rr,hkS,rfl,hst,hs⟩:=hrel
        have HS2:=jzD hs
        clear hs
        rcases hst with ⟨hk0,rfl,rfl,rfl⟩ | ⟨hk0,hkD,rfl,rfl,rfl⟩ | ⟨hk0,hkD,rfl,rfl,rfl⟩
        · subst hk0
          by_cases hD0:D=0
          · skip
            have hm:=askX_may (asker:=asker) (S:=1) (k:=0) HOA.out (by decide) (by omega)
            obtain ⟨hu,hs,hh⟩:=rep_first (me:=me) (d:=draw) (D:=(D:Int)) hm HDD.out (by omega)
            rw [show ((D:Int) == 0)=true by simp;omega] at hs
            have hy:=rep_xid (me:=me) (r:=(ReplyM.new me ⟨#[110]⟩)) rfl rfl hs
            have HU:=jzD hu
            have HSY:=jzD hs
            have HH:=jzD hh
            have HY:Hid ((⟨me,asker,0,1,false,⟨#[110]⟩⟩:XIn)=(ReplyM.new me ⟨#[110]⟩).xid (askX asker 1 0) [draw]):=hy
            have HXO:=jzD (askX_ok (asker:=asker) (S:=1) (k:=0) HAS.out (by decide) (w64 (by omega)))
            have HS3:Hid (Done w [] (Star (ReplyW (.pointer (some a1)) (ReplyM.new me ⟨#[110]⟩)) (CellW wr.heap.size #[.int .u32 draw] 22)) (wr.alloc (.cells #[.int .u32 draw] 22))):=HS2.out.add (ReplyW.stab _ _) (CellW.new wr #[.int .u32 draw] 22)
            have HNE:Hid (∀ W,(binOp .neq 32 (XIn.val (⟨me,asker,0,1,false,⟨#[110]⟩⟩:XIn)) (XIn.val (⟨me,asker,0,1,false,⟨#[110]⟩⟩:XIn))).run Tryz.prog W=.ok (.bool false) W):=by show ∀ _,_;intro W;have h:=eql_xin (⟨me,asker,0,1,false,⟨#[110]⟩⟩:XIn) (⟨me,asker,0,1,false,⟨#[110]⟩⟩:XIn) W;rw [decide_eq_true rfl] at h;exact neq_agg h
            clear hm hu hs hh hy
            go_wp2_with (first
             | ((with_reducible refine wpList_storeBD (C:=fun X=>Star (Star (ReplyW (.pointer (some a1)) (repR me asker 1 (D:Int))) (CellW wr.heap.size #[.int .u32 draw] 22)) X) (Fr.r ((ReplyW.stab _ _).star cS) Fr.id_) HT4.out rfl 32 (.tmp 14) (.tmp 66) rfl #[.int .u32 me,.int .u32 asker,.int .i64 0,.int .i64 1,.bool false,.string ⟨#[110]⟩] rfl rfl (by kernel_rfl) rfl (by kernel_rfl) ?_);intro w5 hs;have HS5:Hid (Done w [] (Star (Star (ReplyW (.pointer (some a1)) (repR me asker 1 (D:Int))) (CellW wr.heap.size #[.int .u32 draw] 22)) (CellW w4.heap.size (yA me asker 0 1 false ⟨#[110]⟩) 32)) w5):=(by show Done _ _ _ _;exact hs);clear hs)
             | (with_reducible refine wpList_loadD (C:=fun X=>Star (Star (ReplyW (.pointer (some a1)) (repR me asker 1 (D:Int))) (CellW wr.heap.size #[.int .u32 draw] 22)) X) (Fr.r ((ReplyW.stab _ _).star cS) Fr.id_) HS5.out rfl 32 (.tmp 14) rfl rfl _ Tryz.underlying32 rfl (by kernel_rfl) ?_)
             | (with_reducible refine wpList_ne (by kernel_rfl) 32 (.tmp 78) (.tmp 83) #[.int .u32 me,.int .u32 asker,.int .i64 0,.int .i64 1,.bool false,.string ⟨#[110]⟩] #[.int .u32 me,.int .u32 asker,.int .i64 0,.int .i64 1,.bool false,.string ⟨#[110]⟩] false rfl rfl rfl (fun _ _ _ _=>guard_X _ _ _ _ _ _) (HNE.out) ?_)
             | (go_at_call 39;((with_reducible refine (dR_hear (x:=(askX asker 1 0)) (y:=(⟨me,asker,0,1,false,⟨#[110]⟩⟩:XIn)) (n:=1) (b:=true) (l:=[draw]) (m' := (repR me asker 1 (D:Int))) HXO.out (rdU_one (n:=draw) (Done.at_ (C:=fun X=>Star (ReplyW (.pointer (some a1)) (ReplyM.new me ⟨#[110]⟩)) X) (Fr.r (ReplyW.stab _ _) Fr.id_) HS3.out) HDR.out) (by simp) HY.out HU.out HSY.out HH.out (C:=fun X=>Star (X) (CellW wr.heap.size #[.int .u32 draw] 22)) (Fr.l Fr.id_ cS) HS3.out).mono ?_);rintro e w4 ⟨rfl,hs⟩;have HS4:Hid (Done w [] (Star (ReplyW (.pointer (some a1)) (repR me asker 1 (D:Int))) (CellW wr.heap.size #[.int .u32 draw] 22)) w4):=(by show Done _ _ _ _;exact hs);clear hs;have HT4:Hid (Done w [] (Star (Star (ReplyW (.pointer (some a1)) (repR me asker 1 (D:Int))) (CellW wr.heap.size #[.int .u32 draw] 22)) (CellW w4.heap.size (yA 0 0 0 0 false ⟨#[]⟩) 32)) (w4.alloc (.cells (yA 0 0 0 0 false ⟨#[]⟩) 32))):=HS4.out.add ((ReplyW.stab _ _).star cS) (CellW.new w4 #[.int .u32 0,.int .u32 0,.int .i64 0,.int .i64 0,.bool false,.string ⟨#[]⟩] 32)))
             | (go_at_call 43;((with_reducible refine (one16_any _ _).mono ?_);rintro e w' ⟨rfl,hw'⟩;rw [hw'];clear hw')))
            go_roundw
            case rel=>exact ⟨1,_,by omega,by rfl,.inr (.inr ⟨by omega,by omega,by simp,by first | rfl | (congr 1;omega) | (simp;omega),rfl⟩),HS5.out.drop.drop⟩
            case measure=>simp [intOf] <;> omega
          · exfalso;omega
        · have t1:decide ((k:Int) < 1)=true:=decide_eq_true (by omega)
          have t1b:decide (k < 1)=true:=decide_eq_true (by omega)
          have e5:IntKind.i64.wrap ((k:Int) + 1)=(k:Int) + 1:=IntWalk.i64_in _ (by omega)
          by_cases hDk:k=D
          · have hDk1:k≤D:=by omega
            have hDk2:D≤k:=by omega
            clear hDk
            exfalso;omega
          · exfalso;omega
        · by_cases hks:k < 1
          · have t1:decide ((k:Int) < 1)=true:=decide_eq_true (by omega)
            have t1b:decide (k < 1)=true:=decide_eq_true hks
            have e5:IntKind.i64.wrap ((k:Int) + 1)=(k:Int) + 1:=IntWalk.i64_in _ (by omega)
            exfalso;omega
          · have hkk:k=1:=by omega
            have t1:decide ((k:Int) < 1)=false:=decide_eq_false (by omega)
            have t1b:decide (k < 1)=false:=decide_eq_false hks
            have hm:=askX_may (asker:=asker) (S:=1) (k:=-1) HOA.out (by decide) (by omega)
            obtain ⟨hu,hs,hy⟩:=rep_end (r:=repR me asker 1 (D:Int)) (d:=draw) hm
            have HU:=jzD hu
            have HSY:=jzD hs
            have HY:=jzD hy
            have HXO:=jzD (askX_ok (asker:=asker) (S:=1) (k:=-1) HAS.out (by decide) (by decide))
            clear hm hu hs hy hkk
            have HS3:Hid (Done w [] (Star (ReplyW (.pointer (some a1)) (repR me asker 1 (D:Int))) (CellW wr.heap.size #[.int .u32 draw] 22)) (wr.alloc (.cells #[.int .u32 draw] 22))):=HS2.out.add (ReplyW.stab _ _) (CellW.new wr #[.int .u32 draw] 22)
            go_wp2_with (first
             | ((with_reducible refine wpList_storeBD (C:=fun X=>Star (Star (ReplyW (.pointer (some a1)) ((repR me asker 1 (D:Int)).hear (askX asker 1 (-1)) [draw])) (CellW wr.heap.size #[.int .u32 draw] 22)) X) (Fr.r ((ReplyW.stab _ _).star cS) Fr.id_) HT4.out rfl 32 (.tmp 17) (.tmp 93) rfl #[.int .u32 0,.int .u32 0,.int .i64 0,.int .i64 0,.bool false,.string ⟨#[]⟩] rfl rfl (by kernel_rfl) rfl (by kernel_rfl) ?_);intro w5 hs;have HS5:Hid (Done w [] (Star (Star (ReplyW (.pointer (some a1)) ((repR me asker 1 (D:Int)).hear (askX asker 1 (-1)) [draw])) (CellW wr.heap.size #[.int .u32 draw] 22)) (CellW w4.heap.size (yA 0 0 0 0 false ⟨#[]⟩) 32)) w5):=(by show Done _ _ _ _;exact hs);clear hs)
             | (go_at_call 39;((with_reducible refine (dR_hear (x:=askX asker 1 (-1)) (y:=ReplyM.xz) (n:=0) (b:=false) (l:=[draw]) (m' := ((repR me asker 1 (D:Int)).hear (askX asker 1 (-1)) [draw])) HXO.out (rdU_one (n:=draw) (Done.at_ (C:=fun X=>Star (ReplyW (.pointer (some a1)) (repR me asker 1 (D:Int))) X) (Fr.r (ReplyW.stab _ _) Fr.id_) HS3.out) HDR.out) (by simp) HY.out HU.out HSY.out rfl (C:=fun X=>Star (X) (CellW wr.heap.size #[.int .u32 draw] 22)) (Fr.l Fr.id_ cS) HS3.out).mono ?_);rintro e w4 ⟨rfl,hs⟩;have HS4:Hid (Done w [] (Star (ReplyW (.pointer (some a1)) ((repR me asker 1 (D:Int)).hear (askX asker 1 (-1)) [draw])) (CellW wr.heap.size #[.int .u32 draw] 22)) w4):=(by show Done _ _ _ _;exact hs);clear hs;have HT4:Hid (Done w [] (Star (Star (ReplyW (.pointer (some a1)) ((repR me asker 1 (D:Int)).hear (askX asker 1 (-1)) [draw])) (CellW wr.heap.size #[.int .u32 draw] 22)) (CellW w4.heap.size (yA 0 0 0 0 false ⟨#[]⟩) 32)) (w4.alloc (.cells (yA 0 0 0 0 false ⟨#[]⟩) 32))):=HS4.out.add ((ReplyW.stab _ _).star cS) (CellW.new w4 #[.int .u32 0,.int .u32 0,.int .i64 0,.int .i64 0,.bool false,.string ⟨#[]⟩] 32))))
            go_ret
            exact ⟨by simp,HS5.out.bel⟩
     · have z0:((1:Nat):Int)=1:=rfl
       rw [z0] at h_q e3_q e4_q
       obtain ⟨D,hD⟩:∃ D:Nat,draw % 6=(D:Int):=⟨(draw % 6).toNat,by omega⟩
       have hDS:D < 6:=by omega
       have HDD:Hid ((D:Int)=draw % 6):=hD.symm
       have m1:draw.tmod 6=(D:Int):=by rw [Int.tmod_eq_emod_of_nonneg HDR.out.1];exact hD
       clear hD
       go_enter Tryz.func5,Tryz.ntmps5
       go_wp2_with (first
        | (go_at_call 18;((with_reducible refine (dcalls_keep Emp.stab (Done.emp w) (begun16_any _ HC.out)).mono ?_);rintro e w1 ⟨rfl,hs⟩;have HT1:Hid (Done w [] (Star Emp (CellW w1.heap.size (yK 1 6 8) 3)) (w1.alloc (.cells (yK 1 6 8) 3))):=hs.add Emp.stab (CellW.new w1 #[.int .i64 1,.int .i64 6,.int .i64 8] 3);clear hs))
        | (go_at_call 36;((with_reducible refine (dR_new HME.out (by decide) HMN.out (Emp.stab.star cS) HT1.out).mono ?_);rintro e w3 ⟨a1,rfl,hs⟩;have HS3:Hid (Done w [] (ReplyW (.pointer (some a1)) (ReplyM.new me ⟨#[110]⟩)) w3):=(by show Done _ _ _ _;exact hs.drop_mid.unemp);clear hs)))
       go_loopw [11,12,13] (fun nv av kv wr=>∃ (k:Nat) (rr:ReplyM),k≤6∧kv=.int .i64 (k:Int)∧((k=0∧nv=.int .i64 0∧av=.int .i64 (-1)∧rr=ReplyM.new me ⟨#[110]⟩) ∨ (0 < k∧k≤D∧nv=.int .i64 0∧av=.int .i64 (-1)∧rr=repR me asker 6 (D:Int)) ∨ (0 < k∧D < k∧nv=.int .i64 1∧av=.int .i64 (D:Int)∧rr=repR me asker 6 (D:Int)))∧Done w [] (ReplyW (.pointer (some a1)) rr) wr) (fun _ _ kv _=>(9 - intOf kv).toNat)
       case atStart=>exact ⟨0,_,by omega,rfl,.inl ⟨rfl,rfl,rfl,rfl⟩,HS3.out⟩
       case round =>
        clear HS3 HT1
        obtain ⟨k,rr,hkS,rfl,hst,hs⟩:=hrel
        have HS2:=jzD hs
        clear hs
        rcases hst with ⟨hk0,rfl,rfl,rfl⟩ | ⟨hk0,hkD,rfl,rfl,rfl⟩ | ⟨hk0,hkD,rfl,rfl,rfl⟩
        · subst hk0
          by_cases hD0:D=0
          · skip
            have hm:=askX_may (asker:=asker) (S:=6) (k:=0) HOA.out (by decide) (by omega)
            obtain ⟨hu,hs,hh⟩:=rep_first (me:=me) (d:=draw) (D:=(D:Int)) hm HDD.out (by omega)
            rw [show ((D:Int) == 0)=true by simp;omega] at hs
            have hy:=rep_xid (me:=me) (r:=(ReplyM.new me ⟨#[110]⟩)) rfl rfl hs
            have HU:=jzD hu
            have HSY:=jzD hs
            have HH:=jzD hh
            have HY:Hid ((⟨me,asker,0,6,false,⟨#[110]⟩⟩:XIn)=(ReplyM.new me ⟨#[110]⟩).xid (askX asker 6 0) [draw]):=hy
            have HXO:=jzD (askX_ok (asker:=asker) (S:=6) (k:=0) HAS.out (by decide) (w64 (by omega)))
            have HS3:Hid (Done w [] (Star (ReplyW (.pointer (some a1)) (ReplyM.new me ⟨#[110]⟩)) (CellW wr.heap.size #[.int .u32 draw] 22)) (wr.alloc (.cells #[.int .u32 draw] 22))):=HS2.out.add (ReplyW.stab _ _) (CellW.new wr #[.int .u32 draw] 22)
            have HNE:Hid (∀ W,(binOp .neq 32 (XIn.val (⟨me,asker,0,6,false,⟨#[110]⟩⟩:XIn)) (XIn.val (⟨me,asker,0,6,false,⟨#[110]⟩⟩:XIn))).run Tryz.prog W=.ok (.bool false) W):=by show ∀ _,_;intro W;have h:=eql_xin (⟨me,asker,0,6,false,⟨#[110]⟩⟩:XIn) (⟨me,asker,0,6,false,⟨#[110]⟩⟩:XIn) W;rw [decide_eq_true rfl] at h;exact neq_agg h
            clear hm hu hs hh hy
            go_wp2_with (first
             | ((with_reducible refine wpList_storeBD (C:=fun X=>Star (Star (ReplyW (.pointer (some a1)) (repR me asker 6 (D:Int))) (CellW wr.heap.size #[.int .u32 draw] 22)) X) (Fr.r ((ReplyW.stab _ _).star cS) Fr.id_) HT4.out rfl 32 (.tmp 14) (.tmp 66) rfl #[.int .u32 me,.int .u32 asker,.int .i64 0,.int .i64 6,.bool false,.string ⟨#[110]⟩] rfl rfl (by kernel_rfl) rfl (by kernel_rfl) ?_);intro w5 hs;have HS5:Hid (Done w [] (Star (Star (ReplyW (.pointer (some a1)) (repR me asker 6 (D:Int))) (CellW wr.heap.size #[.int .u32 draw] 22)) (CellW w4.heap.size (yA me asker 0 6 false ⟨#[110]⟩) 32)) w5):=(by show Done _ _ _ _;exact hs);clear hs)
             | (with_reducible refine wpList_loadD (C:=fun X=>Star (Star (ReplyW (.pointer (some a1)) (repR me asker 6 (D:Int))) (CellW wr.heap.size #[.int .u32 draw] 22)) X) (Fr.r ((ReplyW.stab _ _).star cS) Fr.id_) HS5.out rfl 32 (.tmp 14) rfl rfl _ Tryz.underlying32 rfl (by kernel_rfl) ?_)
             | (with_reducible refine wpList_ne (by kernel_rfl) 32 (.tmp 78) (.tmp 83) #[.int .u32 me,.int .u32 asker,.int .i64 0,.int .i64 6,.bool false,.string ⟨#[110]⟩] #[.int .u32 me,.int .u32 asker,.int .i64 0,.int .i64 6,.bool false,.string ⟨#[110]⟩] false rfl rfl rfl (fun _ _ _ _=>guard_X _ _ _ _ _ _) (HNE.out) ?_)
             | (go_at_call 39;((with_reducible refine (dR_hear (x:=(askX asker 6 0)) (y:=(⟨me,asker,0,6,false,⟨#[110]⟩⟩:XIn)) (n:=1) (b:=true) (l:=[draw]) (m' := (repR me asker 6 (D:Int))) HXO.out (rdU_one (n:=draw) (Done.at_ (C:=fun X=>Star (ReplyW (.pointer (some a1)) (ReplyM.new me ⟨#[110]⟩)) X) (Fr.r (ReplyW.stab _ _) Fr.id_) HS3.out) HDR.out) (by simp) HY.out HU.out HSY.out HH.out (C:=fun X=>Star (X) (CellW wr.heap.size #[.int .u32 draw] 22)) (Fr.l Fr.id_ cS) HS3.out).mono ?_);rintro e w4 ⟨rfl,hs⟩;have HS4:Hid (Done w [] (Star (ReplyW (.pointer (some a1)) (repR me asker 6 (D:Int))) (CellW wr.heap.size #[.int .u32 draw] 22)) w4):=(by show Done _ _ _ _;exact hs);clear hs;have HT4:Hid (Done w [] (Star (Star (ReplyW (.pointer (some a1)) (repR me asker 6 (D:Int))) (CellW wr.heap.size #[.int .u32 draw] 22)) (CellW w4.heap.size (yA 0 0 0 0 false ⟨#[]⟩) 32)) (w4.alloc (.cells (yA 0 0 0 0 false ⟨#[]⟩) 32))):=HS4.out.add ((ReplyW.stab _ _).star cS) (CellW.new w4 #[.int .u32 0,.int .u32 0,.int .i64 0,.int .i64 0,.bool false,.string ⟨#[]⟩] 32)))
             | (go_at_call 43;((with_reducible refine (one16_any _ _).mono ?_);rintro e w' ⟨rfl,hw'⟩;rw [hw'];clear hw')))
            go_roundw
            case rel=>exact ⟨1,_,by omega,by rfl,.inr (.inr ⟨by omega,by omega,by simp,by first | rfl | (congr 1;omega) | (simp;omega),rfl⟩),HS5.out.drop.drop⟩
            case measure=>simp [intOf] <;> omega
          · skip
            have hm:=askX_may (asker:=asker) (S:=6) (k:=0) HOA.out (by decide) (by omega)
            obtain ⟨hu,hs,hh⟩:=rep_first (me:=me) (d:=draw) (D:=(D:Int)) hm HDD.out (by omega)
            rw [show ((D:Int) == 0)=false by simp;omega] at hs
            have hy:=rep_xid (me:=me) (r:=(ReplyM.new me ⟨#[110]⟩)) rfl rfl hs
            have HU:=jzD hu
            have HSY:=jzD hs
            have HH:=jzD hh
            have HY:Hid (ReplyM.xz=(ReplyM.new me ⟨#[110]⟩).xid (askX asker 6 0) [draw]):=hy
            have HXO:=jzD (askX_ok (asker:=asker) (S:=6) (k:=0) HAS.out (by decide) (w64 (by omega)))
            have HS3:Hid (Done w [] (Star (ReplyW (.pointer (some a1)) (ReplyM.new me ⟨#[110]⟩)) (CellW wr.heap.size #[.int .u32 draw] 22)) (wr.alloc (.cells #[.int .u32 draw] 22))):=HS2.out.add (ReplyW.stab _ _) (CellW.new wr #[.int .u32 draw] 22)
            clear hm hu hs hh hy
            go_wp2_with (first
             | ((with_reducible refine wpList_storeBD (C:=fun X=>Star (Star (ReplyW (.pointer (some a1)) (repR me asker 6 (D:Int))) (CellW wr.heap.size #[.int .u32 draw] 22)) X) (Fr.r ((ReplyW.stab _ _).star cS) Fr.id_) HT4.out rfl 32 (.tmp 14) (.tmp 66) rfl #[.int .u32 0,.int .u32 0,.int .i64 0,.int .i64 0,.bool false,.string ⟨#[]⟩] rfl rfl (by kernel_rfl) rfl (by kernel_rfl) ?_);intro w5 hs;have HS5:Hid (Done w [] (Star (Star (ReplyW (.pointer (some a1)) (repR me asker 6 (D:Int))) (CellW wr.heap.size #[.int .u32 draw] 22)) (CellW w4.heap.size (yA 0 0 0 0 false ⟨#[]⟩) 32)) w5):=(by show Done _ _ _ _;exact hs);clear hs)
             | (go_at_call 39;((with_reducible refine (dR_hear (x:=(askX asker 6 0)) (y:=ReplyM.xz) (n:=1) (b:=false) (l:=[draw]) (m' := (repR me asker 6 (D:Int))) HXO.out (rdU_one (n:=draw) (Done.at_ (C:=fun X=>Star (ReplyW (.pointer (some a1)) (ReplyM.new me ⟨#[110]⟩)) X) (Fr.r (ReplyW.stab _ _) Fr.id_) HS3.out) HDR.out) (by simp) HY.out HU.out HSY.out HH.out (C:=fun X=>Star (X) (CellW wr.heap.size #[.int .u32 draw] 22)) (Fr.l Fr.id_ cS) HS3.out).mono ?_);rintro e w4 ⟨rfl,hs⟩;have HS4:Hid (Done w [] (Star (ReplyW (.pointer (some a1)) (repR me asker 6 (D:Int))) (CellW wr.heap.size #[.int .u32 draw] 22)) w4):=(by show Done _ _ _ _;exact hs);clear hs;have HT4:Hid (Done w [] (Star (Star (ReplyW (.pointer (some a1)) (repR me asker 6 (D:Int))) (CellW wr.heap.size #[.int .u32 draw] 22)) (CellW w4.heap.size (yA 0 0 0 0 false ⟨#[]⟩) 32)) (w4.alloc (.cells (yA 0 0 0 0 false ⟨#[]⟩) 32))):=HS4.out.add ((ReplyW.stab _ _).star cS) (CellW.new w4 #[.int .u32 0,.int .u32 0,.int .i64 0,.int .i64 0,.bool false,.string ⟨#[]⟩] 32)))
             | (go_at_call 43;((with_reducible refine (one16_any _ _).mono ?_);rintro e w' ⟨rfl,hw'⟩;rw [hw'];clear hw')))
            go_roundw
            case rel=>exact ⟨1,_,by omega,by rfl,.inr (.inl ⟨by omega,by omega,rfl,rfl,rfl⟩),HS5.out.drop.drop⟩
            case measure=>simp [intOf] <;> omega
        · have t1:decide ((k:Int) < 6)=true:=decide_eq_true (by omega)
          have t1b:decide (k < 6)=true:=decide_eq_true (by omega)
          have e5:IntKind.i64.wrap ((k:Int) + 1)=(k:Int) + 1:=IntWalk.i64_in _ (by omega)
          by_cases hDk:k=D
          · have hDk1:k≤D:=by omega
            have hDk2:D≤k:=by omega
            clear hDk
            have hm:=askX_may (asker:=asker) (S:=6) (k:=(k:Int)) HOA.out (by decide) (by omega)
            obtain ⟨hu,hs,hh⟩:=rep_next (me:=me) (d:=draw) (D:=(D:Int)) hm (by omega)
            rw [show ((D:Int) == (k:Int))=true by simp;omega] at hs
            have hy:=rep_xid (me:=me) (r:=(repR me asker 6 (D:Int))) rfl rfl hs
            have HU:=jzD hu
            have HSY:=jzD hs
            have HH:=jzD hh
            have HY:Hid ((⟨me,asker,(k:Int),6,false,⟨#[110]⟩⟩:XIn)=(repR me asker 6 (D:Int)).xid (askX asker 6 (k:Int)) [draw]):=hy
            have HXO:=jzD (askX_ok (asker:=asker) (S:=6) (k:=(k:Int)) HAS.out (by decide) (w64 (by omega)))
            have HS3:Hid (Done w [] (Star (ReplyW (.pointer (some a1)) (repR me asker 6 (D:Int))) (CellW wr.heap.size #[.int .u32 draw] 22)) (wr.alloc (.cells #[.int .u32 draw] 22))):=HS2.out.add (ReplyW.stab _ _) (CellW.new wr #[.int .u32 draw] 22)
            have HNE:Hid (∀ W,(binOp .neq 32 (XIn.val (⟨me,asker,(k:Int),6,false,⟨#[110]⟩⟩:XIn)) (XIn.val (⟨me,asker,(k:Int),6,false,⟨#[110]⟩⟩:XIn))).run Tryz.prog W=.ok (.bool false) W):=by show ∀ _,_;intro W;have h:=eql_xin (⟨me,asker,(k:Int),6,false,⟨#[110]⟩⟩:XIn) (⟨me,asker,(k:Int),6,false,⟨#[110]⟩⟩:XIn) W;rw [decide_eq_true rfl] at h;exact neq_agg h
            clear hm hu hs hh hy
            have e0:((k:Int) == 0)=false:=beq_eq_false_iff_ne.2 (by omega)
            go_wp2_with (first
             | ((with_reducible refine wpList_storeBD (C:=fun X=>Star (Star (ReplyW (.pointer (some a1)) (repR me asker 6 (D:Int))) (CellW wr.heap.size #[.int .u32 draw] 22)) X) (Fr.r ((ReplyW.stab _ _).star cS) Fr.id_) HT4.out rfl 32 (.tmp 14) (.tmp 66) rfl #[.int .u32 me,.int .u32 asker,.int .i64 (k:Int),.int .i64 6,.bool false,.string ⟨#[110]⟩] rfl rfl (by kernel_rfl) rfl (by kernel_rfl) ?_);intro w5 hs;have HS5:Hid (Done w [] (Star (Star (ReplyW (.pointer (some a1)) (repR me asker 6 (D:Int))) (CellW wr.heap.size #[.int .u32 draw] 22)) (CellW w4.heap.size (yA me asker (k:Int) 6 false ⟨#[110]⟩) 32)) w5):=(by show Done _ _ _ _;exact hs);clear hs)
             | (with_reducible refine wpList_loadD (C:=fun X=>Star (Star (ReplyW (.pointer (some a1)) (repR me asker 6 (D:Int))) (CellW wr.heap.size #[.int .u32 draw] 22)) X) (Fr.r ((ReplyW.stab _ _).star cS) Fr.id_) HS5.out rfl 32 (.tmp 14) rfl rfl _ Tryz.underlying32 rfl (by kernel_rfl) ?_)
             | (with_reducible refine wpList_ne (by kernel_rfl) 32 (.tmp 78) (.tmp 83) #[.int .u32 me,.int .u32 asker,.int .i64 (k:Int),.int .i64 6,.bool false,.string ⟨#[110]⟩] #[.int .u32 me,.int .u32 asker,.int .i64 (k:Int),.int .i64 6,.bool false,.string ⟨#[110]⟩] false rfl rfl rfl (fun _ _ _ _=>guard_X _ _ _ _ _ _) (HNE.out) ?_)
             | (go_at_call 39;((with_reducible refine (dR_hear (x:=(askX asker 6 (k:Int))) (y:=(⟨me,asker,(k:Int),6,false,⟨#[110]⟩⟩:XIn)) (n:=0) (b:=true) (l:=[draw]) (m' := (repR me asker 6 (D:Int))) HXO.out (rdU_one (n:=draw) (Done.at_ (C:=fun X=>Star (ReplyW (.pointer (some a1)) (repR me asker 6 (D:Int))) X) (Fr.r (ReplyW.stab _ _) Fr.id_) HS3.out) HDR.out) (by simp) HY.out HU.out HSY.out HH.out (C:=fun X=>Star (X) (CellW wr.heap.size #[.int .u32 draw] 22)) (Fr.l Fr.id_ cS) HS3.out).mono ?_);rintro e w4 ⟨rfl,hs⟩;have HS4:Hid (Done w [] (Star (ReplyW (.pointer (some a1)) (repR me asker 6 (D:Int))) (CellW wr.heap.size #[.int .u32 draw] 22)) w4):=(by show Done _ _ _ _;exact hs);clear hs;have HT4:Hid (Done w [] (Star (Star (ReplyW (.pointer (some a1)) (repR me asker 6 (D:Int))) (CellW wr.heap.size #[.int .u32 draw] 22)) (CellW w4.heap.size (yA 0 0 0 0 false ⟨#[]⟩) 32)) (w4.alloc (.cells (yA 0 0 0 0 false ⟨#[]⟩) 32))):=HS4.out.add ((ReplyW.stab _ _).star cS) (CellW.new w4 #[.int .u32 0,.int .u32 0,.int .i64 0,.int .i64 0,.bool false,.string ⟨#[]⟩] 32)))
             | (go_at_call 43;((with_reducible refine (one16_any _ _).mono ?_);rintro e w' ⟨rfl,hw'⟩;rw [hw'];clear hw')))
            go_roundw
            case rel=>exact ⟨k + 1,_,by omega,by go_num,.inr (.inr ⟨by omega,by omega,by simp,by first | rfl | (congr 1;omega) | (simp;omega),rfl⟩),HS5.out.drop.drop⟩
            case measure=>simp [intOf] <;> omega
          · skip
            have hm:=askX_may (asker:=asker) (S:=6) (k:=(k:Int)) HOA.out (by decide) (by omega)
            obtain ⟨hu,hs,hh⟩:=rep_next (me:=me) (d:=draw) (D:=(D:Int)) hm (by omega)
            rw [show ((D:Int) == (k:Int))=false by simp;omega] at hs
            have hy:=rep_xid (me:=me) (r:=(repR me asker 6 (D:Int))) rfl rfl hs
            have HU:=jzD hu
            have HSY:=jzD hs
            have HH:=jzD hh
            have HY:Hid (ReplyM.xz=(repR me asker 6 (D:Int)).xid (askX asker 6 (k:Int)) [draw]):=hy
            have HXO:=jzD (askX_ok (asker:=asker) (S:=6) (k:=(k:Int)) HAS.out (by decide) (w64 (by omega)))
            have HS3:Hid (Done w [] (Star (ReplyW (.pointer (some a1)) (repR me asker 6 (D:Int))) (CellW wr.heap.size #[.int .u32 draw] 22)) (wr.alloc (.cells #[.int .u32 draw] 22))):=HS2.out.add (ReplyW.stab _ _) (CellW.new wr #[.int .u32 draw] 22)
            clear hm hu hs hh hy
            have e0:((k:Int) == 0)=false:=beq_eq_false_iff_ne.2 (by omega)
            go_wp2_with (first
             | ((with_reducible refine wpList_storeBD (C:=fun X=>Star (Star (ReplyW (.pointer (some a1)) (repR me asker 6 (D:Int))) (CellW wr.heap.size #[.int .u32 draw] 22)) X) (Fr.r ((ReplyW.stab _ _).star cS) Fr.id_) HT4.out rfl 32 (.tmp 14) (.tmp 66) rfl #[.int .u32 0,.int .u32 0,.int .i64 0,.int .i64 0,.bool false,.string ⟨#[]⟩] rfl rfl (by kernel_rfl) rfl (by kernel_rfl) ?_);intro w5 hs;have HS5:Hid (Done w [] (Star (Star (ReplyW (.pointer (some a1)) (repR me asker 6 (D:Int))) (CellW wr.heap.size #[.int .u32 draw] 22)) (CellW w4.heap.size (yA 0 0 0 0 false ⟨#[]⟩) 32)) w5):=(by show Done _ _ _ _;exact hs);clear hs)
             | (go_at_call 39;((with_reducible refine (dR_hear (x:=(askX asker 6 (k:Int))) (y:=ReplyM.xz) (n:=0) (b:=false) (l:=[draw]) (m' := (repR me asker 6 (D:Int))) HXO.out (rdU_one (n:=draw) (Done.at_ (C:=fun X=>Star (ReplyW (.pointer (some a1)) (repR me asker 6 (D:Int))) X) (Fr.r (ReplyW.stab _ _) Fr.id_) HS3.out) HDR.out) (by simp) HY.out HU.out HSY.out HH.out (C:=fun X=>Star (X) (CellW wr.heap.size #[.int .u32 draw] 22)) (Fr.l Fr.id_ cS) HS3.out).mono ?_);rintro e w4 ⟨rfl,hs⟩;have HS4:Hid (Done w [] (Star (ReplyW (.pointer (some a1)) (repR me asker 6 (D:Int))) (CellW wr.heap.size #[.int .u32 draw] 22)) w4):=(by show Done _ _ _ _;exact hs);clear hs;have HT4:Hid (Done w [] (Star (Star (ReplyW (.pointer (some a1)) (repR me asker 6 (D:Int))) (CellW wr.heap.size #[.int .u32 draw] 22)) (CellW w4.heap.size (yA 0 0 0 0 false ⟨#[]⟩) 32)) (w4.alloc (.cells (yA 0 0 0 0 false ⟨#[]⟩) 32))):=HS4.out.add ((ReplyW.stab _ _).star cS) (CellW.new w4 #[.int .u32 0,.int .u32 0,.int .i64 0,.int .i64 0,.bool false,.string ⟨#[]⟩] 32)))
             | (go_at_call 43;((with_reducible refine (one16_any _ _).mono ?_);rintro e w' ⟨rfl,hw'⟩;rw [hw'];clear hw')))
            go_roundw
            case rel=>exact ⟨k + 1,_,by omega,by go_num,.inr (.inl ⟨by omega,by omega,rfl,rfl,rfl⟩),HS5.out.drop.drop⟩
            case measure=>simp [intOf] <;> omega
        · by_cases hks:k < 6
          · have t1:decide ((k:Int) < 6)=true:=decide_eq_true (by omega)
            have t1b:decide (k < 6)=true:=decide_eq_true hks
            have e5:IntKind.i64.wrap ((k:Int) + 1)=(k:Int) + 1:=IntWalk.i64_in _ (by omega)
            have hm:=askX_may (asker:=asker) (S:=6) (k:=(k:Int)) HOA.out (by decide) (by omega)
            obtain ⟨hu,hs,hh⟩:=rep_next (me:=me) (d:=draw) (D:=(D:Int)) hm (by omega)
            rw [show ((D:Int) == (k:Int))=false by simp;omega] at hs
            have hy:=rep_xid (me:=me) (r:=(repR me asker 6 (D:Int))) rfl rfl hs
            have HU:=jzD hu
            have HSY:=jzD hs
            have HH:=jzD hh
            have HY:Hid (ReplyM.xz=(repR me asker 6 (D:Int)).xid (askX asker 6 (k:Int)) [draw]):=hy
            have HXO:=jzD (askX_ok (asker:=asker) (S:=6) (k:=(k:Int)) HAS.out (by decide) (w64 (by omega)))
            have HS3:Hid (Done w [] (Star (ReplyW (.pointer (some a1)) (repR me asker 6 (D:Int))) (CellW wr.heap.size #[.int .u32 draw] 22)) (wr.alloc (.cells #[.int .u32 draw] 22))):=HS2.out.add (ReplyW.stab _ _) (CellW.new wr #[.int .u32 draw] 22)
            clear hm hu hs hh hy
            have e0:((k:Int) == 0)=false:=beq_eq_false_iff_ne.2 (by omega)
            go_wp2_with (first
             | ((with_reducible refine wpList_storeBD (C:=fun X=>Star (Star (ReplyW (.pointer (some a1)) (repR me asker 6 (D:Int))) (CellW wr.heap.size #[.int .u32 draw] 22)) X) (Fr.r ((ReplyW.stab _ _).star cS) Fr.id_) HT4.out rfl 32 (.tmp 14) (.tmp 66) rfl #[.int .u32 0,.int .u32 0,.int .i64 0,.int .i64 0,.bool false,.string ⟨#[]⟩] rfl rfl (by kernel_rfl) rfl (by kernel_rfl) ?_);intro w5 hs;have HS5:Hid (Done w [] (Star (Star (ReplyW (.pointer (some a1)) (repR me asker 6 (D:Int))) (CellW wr.heap.size #[.int .u32 draw] 22)) (CellW w4.heap.size (yA 0 0 0 0 false ⟨#[]⟩) 32)) w5):=(by show Done _ _ _ _;exact hs);clear hs)
             | (go_at_call 39;((with_reducible refine (dR_hear (x:=(askX asker 6 (k:Int))) (y:=ReplyM.xz) (n:=0) (b:=false) (l:=[draw]) (m' := (repR me asker 6 (D:Int))) HXO.out (rdU_one (n:=draw) (Done.at_ (C:=fun X=>Star (ReplyW (.pointer (some a1)) (repR me asker 6 (D:Int))) X) (Fr.r (ReplyW.stab _ _) Fr.id_) HS3.out) HDR.out) (by simp) HY.out HU.out HSY.out HH.out (C:=fun X=>Star (X) (CellW wr.heap.size #[.int .u32 draw] 22)) (Fr.l Fr.id_ cS) HS3.out).mono ?_);rintro e w4 ⟨rfl,hs⟩;have HS4:Hid (Done w [] (Star (ReplyW (.pointer (some a1)) (repR me asker 6 (D:Int))) (CellW wr.heap.size #[.int .u32 draw] 22)) w4):=(by show Done _ _ _ _;exact hs);clear hs;have HT4:Hid (Done w [] (Star (Star (ReplyW (.pointer (some a1)) (repR me asker 6 (D:Int))) (CellW wr.heap.size #[.int .u32 draw] 22)) (CellW w4.heap.size (yA 0 0 0 0 false ⟨#[]⟩) 32)) (w4.alloc (.cells (yA 0 0 0 0 false ⟨#[]⟩) 32))):=HS4.out.add ((ReplyW.stab _ _).star cS) (CellW.new w4 #[.int .u32 0,.int .u32 0,.int .i64 0,.int .i64 0,.bool false,.string ⟨#[]⟩] 32)))
             | (go_at_call 43;((with_reducible refine (one16_any _ _).mono ?_);rintro e w' ⟨rfl,hw'⟩;rw [hw'];clear hw')))
            go_roundw
            case rel=>exact ⟨k + 1,_,by omega,by go_num,.inr (.inr ⟨by omega,by omega,rfl,rfl,rfl⟩),HS5.out.drop.drop⟩
            case measure=>simp [intOf] <;> omega
          · have hkk:k=6:=by omega
            have t1:decide ((k:Int) < 6)=false:=decide_eq_false (by omega)
            have t1b:decide (k < 6)=false:=decide_eq_false hks
            have hm:=askX_may (asker:=asker) (S:=6) (k:=-1) HOA.out (by decide) (by omega)
            obtain ⟨hu,hs,hy⟩:=rep_end (r:=repR me asker 6 (D:Int)) (d:=draw) hm
            have HU:=jzD hu
            have HSY:=jzD hs
            have HY:=jzD hy
            have HXO:=jzD (askX_ok (asker:=asker) (S:=6) (k:=-1) HAS.out (by decide) (by decide))
            clear hm hu hs hy hkk
            have HS3:Hid (Done w [] (Star (ReplyW (.pointer (some a1)) (repR me asker 6 (D:Int))) (CellW wr.heap.size #[.int .u32 draw] 22)) (wr.alloc (.cells #[.int .u32 draw] 22))):=HS2.out.add (ReplyW.stab _ _) (CellW.new wr #[.int .u32 draw] 22)
            go_wp2_with (first
             | ((with_reducible refine wpList_storeBD (C:=fun X=>Star (Star (ReplyW (.pointer (some a1)) ((repR me asker 6 (D:Int)).hear (askX asker 6 (-1)) [draw])) (CellW wr.heap.size #[.int .u32 draw] 22)) X) (Fr.r ((ReplyW.stab _ _).star cS) Fr.id_) HT4.out rfl 32 (.tmp 17) (.tmp 93) rfl #[.int .u32 0,.int .u32 0,.int .i64 0,.int .i64 0,.bool false,.string ⟨#[]⟩] rfl rfl (by kernel_rfl) rfl (by kernel_rfl) ?_);intro w5 hs;have HS5:Hid (Done w [] (Star (Star (ReplyW (.pointer (some a1)) ((repR me asker 6 (D:Int)).hear (askX asker 6 (-1)) [draw])) (CellW wr.heap.size #[.int .u32 draw] 22)) (CellW w4.heap.size (yA 0 0 0 0 false ⟨#[]⟩) 32)) w5):=(by show Done _ _ _ _;exact hs);clear hs)
             | (go_at_call 39;((with_reducible refine (dR_hear (x:=askX asker 6 (-1)) (y:=ReplyM.xz) (n:=0) (b:=false) (l:=[draw]) (m' := ((repR me asker 6 (D:Int)).hear (askX asker 6 (-1)) [draw])) HXO.out (rdU_one (n:=draw) (Done.at_ (C:=fun X=>Star (ReplyW (.pointer (some a1)) (repR me asker 6 (D:Int))) X) (Fr.r (ReplyW.stab _ _) Fr.id_) HS3.out) HDR.out) (by simp) HY.out HU.out HSY.out rfl (C:=fun X=>Star (X) (CellW wr.heap.size #[.int .u32 draw] 22)) (Fr.l Fr.id_ cS) HS3.out).mono ?_);rintro e w4 ⟨rfl,hs⟩;have HS4:Hid (Done w [] (Star (ReplyW (.pointer (some a1)) ((repR me asker 6 (D:Int)).hear (askX asker 6 (-1)) [draw])) (CellW wr.heap.size #[.int .u32 draw] 22)) w4):=(by show Done _ _ _ _;exact hs);clear hs;have HT4:Hid (Done w [] (Star (Star (ReplyW (.pointer (some a1)) ((repR me asker 6 (D:Int)).hear (askX asker 6 (-1)) [draw])) (CellW wr.heap.size #[.int .u32 draw] 22)) (CellW w4.heap.size (yA 0 0 0 0 false ⟨#[]⟩) 32)) (w4.alloc (.cells (yA 0 0 0 0 false ⟨#[]⟩) 32))):=HS4.out.add ((ReplyW.stab _ _).star cS) (CellW.new w4 #[.int .u32 0,.int .u32 0,.int .i64 0,.int .i64 0,.bool false,.string ⟨#[]⟩] 32))))
            go_ret
            exact ⟨by simp,HS5.out.bel⟩
     · have z0:((2:Nat):Int)=2:=rfl
       rw [z0] at h_q e3_q e4_q
       obtain ⟨D,hD⟩:∃ D:Nat,draw % 8=(D:Int):=⟨(draw % 8).toNat,by omega⟩
       have hDS:D < 8:=by omega
       have HDD:Hid ((D:Int)=draw % 8):=hD.symm
       have m1:draw.tmod 8=(D:Int):=by rw [Int.tmod_eq_emod_of_nonneg HDR.out.1];exact hD
       clear hD
       go_enter Tryz.func5,Tryz.ntmps5
       go_wp2_with (first
        | (go_at_call 18;((with_reducible refine (dcalls_keep Emp.stab (Done.emp w) (begun16_any _ HC.out)).mono ?_);rintro e w1 ⟨rfl,hs⟩;have HT1:Hid (Done w [] (Star Emp (CellW w1.heap.size (yK 1 6 8) 3)) (w1.alloc (.cells (yK 1 6 8) 3))):=hs.add Emp.stab (CellW.new w1 #[.int .i64 1,.int .i64 6,.int .i64 8] 3);clear hs))
        | (go_at_call 36;((with_reducible refine (dR_new HME.out (by decide) HMN.out (Emp.stab.star cS) HT1.out).mono ?_);rintro e w3 ⟨a1,rfl,hs⟩;have HS3:Hid (Done w [] (ReplyW (.pointer (some a1)) (ReplyM.new me ⟨#[110]⟩)) w3):=(by show Done _ _ _ _;exact hs.drop_mid.unemp);clear hs)))
       go_loopw [11,12,13] (fun nv av kv wr=>∃ (k:Nat) (rr:ReplyM),k≤8∧kv=.int .i64 (k:Int)∧((k=0∧nv=.int .i64 0∧av=.int .i64 (-1)∧rr=ReplyM.new me ⟨#[110]⟩) ∨ (0 < k∧k≤D∧nv=.int .i64 0∧av=.int .i64 (-1)∧rr=repR me asker 8 (D:Int)) ∨ (0 < k∧D < k∧nv=.int .i64 1∧av=.int .i64 (D:Int)∧rr=repR me asker 8 (D:Int)))∧Done w [] (ReplyW (.pointer (some a1)) rr) wr) (fun _ _ kv _=>(9 - intOf kv).toNat)
       case atStart=>exact ⟨0,_,by omega,rfl,.inl ⟨rfl,rfl,rfl,rfl⟩,HS3.out⟩
       case round =>
        clear HS3 HT1
        obtain ⟨k,rr,hkS,rfl,hst,hs⟩:=hrel
        have HS2:=jzD hs
        clear hs
        rcases hst with ⟨hk0,rfl,rfl,rfl⟩ | ⟨hk0,hkD,rfl,rfl,rfl⟩ | ⟨hk0,hkD,rfl,rfl,rfl⟩
        · subst hk0
          by_cases hD0:D=0
          · skip
            have hm:=askX_may (asker:=asker) (S:=8) (k:=0) HOA.out (by decide) (by omega)
            obtain ⟨hu,hs,hh⟩:=rep_first (me:=me) (d:=draw) (D:=(D:Int)) hm HDD.out (by omega)
            rw [show ((D:Int) == 0)=true by simp;omega] at hs
            have hy:=rep_xid (me:=me) (r:=(ReplyM.new me ⟨#[110]⟩)) rfl rfl hs
            have HU:=jzD hu
            have HSY:=jzD hs
            have HH:=jzD hh
            have HY:Hid ((⟨me,asker,0,8,false,⟨#[110]⟩⟩:XIn)=(ReplyM.new me ⟨#[110]⟩).xid (askX asker 8 0) [draw]):=hy
            have HXO:=jzD (askX_ok (asker:=asker) (S:=8) (k:=0) HAS.out (by decide) (w64 (by omega)))
            have HS3:Hid (Done w [] (Star (ReplyW (.pointer (some a1)) (ReplyM.new me ⟨#[110]⟩)) (CellW wr.heap.size #[.int .u32 draw] 22)) (wr.alloc (.cells #[.int .u32 draw] 22))):=HS2.out.add (ReplyW.stab _ _) (CellW.new wr #[.int .u32 draw] 22)
            have HNE:Hid (∀ W,(binOp .neq 32 (XIn.val (⟨me,asker,0,8,false,⟨#[110]⟩⟩:XIn)) (XIn.val (⟨me,asker,0,8,false,⟨#[110]⟩⟩:XIn))).run Tryz.prog W=.ok (.bool false) W):=by show ∀ _,_;intro W;have h:=eql_xin (⟨me,asker,0,8,false,⟨#[110]⟩⟩:XIn) (⟨me,asker,0,8,false,⟨#[110]⟩⟩:XIn) W;rw [decide_eq_true rfl] at h;exact neq_agg h
            clear hm hu hs hh hy
            go_wp2_with (first
             | ((with_reducible refine wpList_storeBD (C:=fun X=>Star (Star (ReplyW (.pointer (some a1)) (repR me asker 8 (D:Int))) (CellW wr.heap.size #[.int .u32 draw] 22)) X) (Fr.r ((ReplyW.stab _ _).star cS) Fr.id_) HT4.out rfl 32 (.tmp 14) (.tmp 66) rfl #[.int .u32 me,.int .u32 asker,.int .i64 0,.int .i64 8,.bool false,.string ⟨#[110]⟩] rfl rfl (by kernel_rfl) rfl (by kernel_rfl) ?_);intro w5 hs;have HS5:Hid (Done w [] (Star (Star (ReplyW (.pointer (some a1)) (repR me asker 8 (D:Int))) (CellW wr.heap.size #[.int .u32 draw] 22)) (CellW w4.heap.size (yA me asker 0 8 false ⟨#[110]⟩) 32)) w5):=(by show Done _ _ _ _;exact hs);clear hs)
             | (with_reducible refine wpList_loadD (C:=fun X=>Star (Star (ReplyW (.pointer (some a1)) (repR me asker 8 (D:Int))) (CellW wr.heap.size #[.int .u32 draw] 22)) X) (Fr.r ((ReplyW.stab _ _).star cS) Fr.id_) HS5.out rfl 32 (.tmp 14) rfl rfl _ Tryz.underlying32 rfl (by kernel_rfl) ?_)
             | (with_reducible refine wpList_ne (by kernel_rfl) 32 (.tmp 78) (.tmp 83) #[.int .u32 me,.int .u32 asker,.int .i64 0,.int .i64 8,.bool false,.string ⟨#[110]⟩] #[.int .u32 me,.int .u32 asker,.int .i64 0,.int .i64 8,.bool false,.string ⟨#[110]⟩] false rfl rfl rfl (fun _ _ _ _=>guard_X _ _ _ _ _ _) (HNE.out) ?_)
             | (go_at_call 39;((with_reducible refine (dR_hear (x:=(askX asker 8 0)) (y:=(⟨me,asker,0,8,false,⟨#[110]⟩⟩:XIn)) (n:=1) (b:=true) (l:=[draw]) (m' := (repR me asker 8 (D:Int))) HXO.out (rdU_one (n:=draw) (Done.at_ (C:=fun X=>Star (ReplyW (.pointer (some a1)) (ReplyM.new me ⟨#[110]⟩)) X) (Fr.r (ReplyW.stab _ _) Fr.id_) HS3.out) HDR.out) (by simp) HY.out HU.out HSY.out HH.out (C:=fun X=>Star (X) (CellW wr.heap.size #[.int .u32 draw] 22)) (Fr.l Fr.id_ cS) HS3.out).mono ?_);rintro e w4 ⟨rfl,hs⟩;have HS4:Hid (Done w [] (Star (ReplyW (.pointer (some a1)) (repR me asker 8 (D:Int))) (CellW wr.heap.size #[.int .u32 draw] 22)) w4):=(by show Done _ _ _ _;exact hs);clear hs;have HT4:Hid (Done w [] (Star (Star (ReplyW (.pointer (some a1)) (repR me asker 8 (D:Int))) (CellW wr.heap.size #[.int .u32 draw] 22)) (CellW w4.heap.size (yA 0 0 0 0 false ⟨#[]⟩) 32)) (w4.alloc (.cells (yA 0 0 0 0 false ⟨#[]⟩) 32))):=HS4.out.add ((ReplyW.stab _ _).star cS) (CellW.new w4 #[.int .u32 0,.int .u32 0,.int .i64 0,.int .i64 0,.bool false,.string ⟨#[]⟩] 32)))
             | (go_at_call 43;((with_reducible refine (one16_any _ _).mono ?_);rintro e w' ⟨rfl,hw'⟩;rw [hw'];clear hw')))
            go_roundw
            case rel=>exact ⟨1,_,by omega,by rfl,.inr (.inr ⟨by omega,by omega,by simp,by first | rfl | (congr 1;omega) | (simp;omega),rfl⟩),HS5.out.drop.drop⟩
            case measure=>simp [intOf] <;> omega
          · skip
            have hm:=askX_may (asker:=asker) (S:=8) (k:=0) HOA.out (by decide) (by omega)
            obtain ⟨hu,hs,hh⟩:=rep_first (me:=me) (d:=draw) (D:=(D:Int)) hm HDD.out (by omega)
            rw [show ((D:Int) == 0)=false by simp;omega] at hs
            have hy:=rep_xid (me:=me) (r:=(ReplyM.new me ⟨#[110]⟩)) rfl rfl hs
            have HU:=jzD hu
            have HSY:=jzD hs
            have HH:=jzD hh
            have HY:Hid (ReplyM.xz=(ReplyM.new me ⟨#[110]⟩).xid (askX asker 8 0) [draw]):=hy
            have HXO:=jzD (askX_ok (asker:=asker) (S:=8) (k:=0) HAS.out (by decide) (w64 (by omega)))
            have HS3:Hid (Done w [] (Star (ReplyW (.pointer (some a1)) (ReplyM.new me ⟨#[110]⟩)) (CellW wr.heap.size #[.int .u32 draw] 22)) (wr.alloc (.cells #[.int .u32 draw] 22))):=HS2.out.add (ReplyW.stab _ _) (CellW.new wr #[.int .u32 draw] 22)
            clear hm hu hs hh hy
            go_wp2_with (first
             | ((with_reducible refine wpList_storeBD (C:=fun X=>Star (Star (ReplyW (.pointer (some a1)) (repR me asker 8 (D:Int))) (CellW wr.heap.size #[.int .u32 draw] 22)) X) (Fr.r ((ReplyW.stab _ _).star cS) Fr.id_) HT4.out rfl 32 (.tmp 14) (.tmp 66) rfl #[.int .u32 0,.int .u32 0,.int .i64 0,.int .i64 0,.bool false,.string ⟨#[]⟩] rfl rfl (by kernel_rfl) rfl (by kernel_rfl) ?_);intro w5 hs;have HS5:Hid (Done w [] (Star (Star (ReplyW (.pointer (some a1)) (repR me asker 8 (D:Int))) (CellW wr.heap.size #[.int .u32 draw] 22)) (CellW w4.heap.size (yA 0 0 0 0 false ⟨#[]⟩) 32)) w5):=(by show Done _ _ _ _;exact hs);clear hs)
             | (go_at_call 39;((with_reducible refine (dR_hear (x:=(askX asker 8 0)) (y:=ReplyM.xz) (n:=1) (b:=false) (l:=[draw]) (m' := (repR me asker 8 (D:Int))) HXO.out (rdU_one (n:=draw) (Done.at_ (C:=fun X=>Star (ReplyW (.pointer (some a1)) (ReplyM.new me ⟨#[110]⟩)) X) (Fr.r (ReplyW.stab _ _) Fr.id_) HS3.out) HDR.out) (by simp) HY.out HU.out HSY.out HH.out (C:=fun X=>Star (X) (CellW wr.heap.size #[.int .u32 draw] 22)) (Fr.l Fr.id_ cS) HS3.out).mono ?_);rintro e w4 ⟨rfl,hs⟩;have HS4:Hid (Done w [] (Star (ReplyW (.pointer (some a1)) (repR me asker 8 (D:Int))) (CellW wr.heap.size #[.int .u32 draw] 22)) w4):=(by show Done _ _ _ _;exact hs);clear hs;have HT4:Hid (Done w [] (Star (Star (ReplyW (.pointer (some a1)) (repR me asker 8 (D:Int))) (CellW wr.heap.size #[.int .u32 draw] 22)) (CellW w4.heap.size (yA 0 0 0 0 false ⟨#[]⟩) 32)) (w4.alloc (.cells (yA 0 0 0 0 false ⟨#[]⟩) 32))):=HS4.out.add ((ReplyW.stab _ _).star cS) (CellW.new w4 #[.int .u32 0,.int .u32 0,.int .i64 0,.int .i64 0,.bool false,.string ⟨#[]⟩] 32)))
             | (go_at_call 43;((with_reducible refine (one16_any _ _).mono ?_);rintro e w' ⟨rfl,hw'⟩;rw [hw'];clear hw')))
            go_roundw
            case rel=>exact ⟨1,_,by omega,by rfl,.inr (.inl ⟨by omega,by omega,rfl,rfl,rfl⟩),HS5.out.drop.drop⟩
            case measure=>simp [intOf] <;> omega
        · have t1:decide ((k:Int) < 8)=true:=decide_eq_true (by omega)
          have t1b:decide (k < 8)=true:=decide_eq_true (by omega)
          have e5:IntKind.i64.wrap ((k:Int) + 1)=(k:Int) + 1:=IntWalk.i64_in _ (by omega)
          by_cases hDk:k=D
          · have hDk1:k≤D:=by omega
            have hDk2:D≤k:=by omega
            clear hDk
            have hm:=askX_may (asker:=asker) (S:=8) (k:=(k:Int)) HOA.out (by decide) (by omega)
            obtain ⟨hu,hs,hh⟩:=rep_next (me:=me) (d:=draw) (D:=(D:Int)) hm (by omega)
            rw [show ((D:Int) == (k:Int))=true by simp;omega] at hs
            have hy:=rep_xid (me:=me) (r:=(repR me asker 8 (D:Int))) rfl rfl hs
            have HU:=jzD hu
            have HSY:=jzD hs
            have HH:=jzD hh
            have HY:Hid ((⟨me,asker,(k:Int),8,false,⟨#[110]⟩⟩:XIn)=(repR me asker 8 (D:Int)).xid (askX asker 8 (k:Int)) [draw]):=hy
            have HXO:=jzD (askX_ok (asker:=asker) (S:=8) (k:=(k:Int)) HAS.out (by decide) (w64 (by omega)))
            have HS3:Hid (Done w [] (Star (ReplyW (.pointer (some a1)) (repR me asker 8 (D:Int))) (CellW wr.heap.size #[.int .u32 draw] 22)) (wr.alloc (.cells #[.int .u32 draw] 22))):=HS2.out.add (ReplyW.stab _ _) (CellW.new wr #[.int .u32 draw] 22)
            have HNE:Hid (∀ W,(binOp .neq 32 (XIn.val (⟨me,asker,(k:Int),8,false,⟨#[110]⟩⟩:XIn)) (XIn.val (⟨me,asker,(k:Int),8,false,⟨#[110]⟩⟩:XIn))).run Tryz.prog W=.ok (.bool false) W):=by show ∀ _,_;intro W;have h:=eql_xin (⟨me,asker,(k:Int),8,false,⟨#[110]⟩⟩:XIn) (⟨me,asker,(k:Int),8,false,⟨#[110]⟩⟩:XIn) W;rw [decide_eq_true rfl] at h;exact neq_agg h
            clear hm hu hs hh hy
            have e0:((k:Int) == 0)=false:=beq_eq_false_iff_ne.2 (by omega)
            go_wp2_with (first
             | ((with_reducible refine wpList_storeBD (C:=fun X=>Star (Star (ReplyW (.pointer (some a1)) (repR me asker 8 (D:Int))) (CellW wr.heap.size #[.int .u32 draw] 22)) X) (Fr.r ((ReplyW.stab _ _).star cS) Fr.id_) HT4.out rfl 32 (.tmp 14) (.tmp 66) rfl #[.int .u32 me,.int .u32 asker,.int .i64 (k:Int),.int .i64 8,.bool false,.string ⟨#[110]⟩] rfl rfl (by kernel_rfl) rfl (by kernel_rfl) ?_);intro w5 hs;have HS5:Hid (Done w [] (Star (Star (ReplyW (.pointer (some a1)) (repR me asker 8 (D:Int))) (CellW wr.heap.size #[.int .u32 draw] 22)) (CellW w4.heap.size (yA me asker (k:Int) 8 false ⟨#[110]⟩) 32)) w5):=(by show Done _ _ _ _;exact hs);clear hs)
             | (with_reducible refine wpList_loadD (C:=fun X=>Star (Star (ReplyW (.pointer (some a1)) (repR me asker 8 (D:Int))) (CellW wr.heap.size #[.int .u32 draw] 22)) X) (Fr.r ((ReplyW.stab _ _).star cS) Fr.id_) HS5.out rfl 32 (.tmp 14) rfl rfl _ Tryz.underlying32 rfl (by kernel_rfl) ?_)
             | (with_reducible refine wpList_ne (by kernel_rfl) 32 (.tmp 78) (.tmp 83) #[.int .u32 me,.int .u32 asker,.int .i64 (k:Int),.int .i64 8,.bool false,.string ⟨#[110]⟩] #[.int .u32 me,.int .u32 asker,.int .i64 (k:Int),.int .i64 8,.bool false,.string ⟨#[110]⟩] false rfl rfl rfl (fun _ _ _ _=>guard_X _ _ _ _ _ _) (HNE.out) ?_)
             | (go_at_call 39;((with_reducible refine (dR_hear (x:=(askX asker 8 (k:Int))) (y:=(⟨me,asker,(k:Int),8,false,⟨#[110]⟩⟩:XIn)) (n:=0) (b:=true) (l:=[draw]) (m' := (repR me asker 8 (D:Int))) HXO.out (rdU_one (n:=draw) (Done.at_ (C:=fun X=>Star (ReplyW (.pointer (some a1)) (repR me asker 8 (D:Int))) X) (Fr.r (ReplyW.stab _ _) Fr.id_) HS3.out) HDR.out) (by simp) HY.out HU.out HSY.out HH.out (C:=fun X=>Star (X) (CellW wr.heap.size #[.int .u32 draw] 22)) (Fr.l Fr.id_ cS) HS3.out).mono ?_);rintro e w4 ⟨rfl,hs⟩;have HS4:Hid (Done w [] (Star (ReplyW (.pointer (some a1)) (repR me asker 8 (D:Int))) (CellW wr.heap.size #[.int .u32 draw] 22)) w4):=(by show Done _ _ _ _;exact hs);clear hs;have HT4:Hid (Done w [] (Star (Star (ReplyW (.pointer (some a1)) (repR me asker 8 (D:Int))) (CellW wr.heap.size #[.int .u32 draw] 22)) (CellW w4.heap.size (yA 0 0 0 0 false ⟨#[]⟩) 32)) (w4.alloc (.cells (yA 0 0 0 0 false ⟨#[]⟩) 32))):=HS4.out.add ((ReplyW.stab _ _).star cS) (CellW.new w4 #[.int .u32 0,.int .u32 0,.int .i64 0,.int .i64 0,.bool false,.string ⟨#[]⟩] 32)))
             | (go_at_call 43;((with_reducible refine (one16_any _ _).mono ?_);rintro e w' ⟨rfl,hw'⟩;rw [hw'];clear hw')))
            go_roundw
            case rel=>exact ⟨k + 1,_,by omega,by go_num,.inr (.inr ⟨by omega,by omega,by simp,by first | rfl | (congr 1;omega) | (simp;omega),rfl⟩),HS5.out.drop.drop⟩
            case measure=>simp [intOf] <;> omega
          · skip
            have hm:=askX_may (asker:=asker) (S:=8) (k:=(k:Int)) HOA.out (by decide) (by omega)
            obtain ⟨hu,hs,hh⟩:=rep_next (me:=me) (d:=draw) (D:=(D:Int)) hm (by omega)
            rw [show ((D:Int) == (k:Int))=false by simp;omega] at hs
            have hy:=rep_xid (me:=me) (r:=(repR me asker 8 (D:Int))) rfl rfl hs
            have HU:=jzD hu
            have HSY:=jzD hs
            have HH:=jzD hh
            have HY:Hid (ReplyM.xz=(repR me asker 8 (D:Int)).xid (askX asker 8 (k:Int)) [draw]):=hy
            have HXO:=jzD (askX_ok (asker:=asker) (S:=8) (k:=(k:Int)) HAS.out (by decide) (w64 (by omega)))
            have HS3:Hid (Done w [] (Star (ReplyW (.pointer (some a1)) (repR me asker 8 (D:Int))) (CellW wr.heap.size #[.int .u32 draw] 22)) (wr.alloc (.cells #[.int .u32 draw] 22))):=HS2.out.add (ReplyW.stab _ _) (CellW.new wr #[.int .u32 draw] 22)
            clear hm hu hs hh hy
            have e0:((k:Int) == 0)=false:=beq_eq_false_iff_ne.2 (by omega)
            go_wp2_with (first
             | ((with_reducible refine wpList_storeBD (C:=fun X=>Star (Star (ReplyW (.pointer (some a1)) (repR me asker 8 (D:Int))) (CellW wr.heap.size #[.int .u32 draw] 22)) X) (Fr.r ((ReplyW.stab _ _).star cS) Fr.id_) HT4.out rfl 32 (.tmp 14) (.tmp 66) rfl #[.int .u32 0,.int .u32 0,.int .i64 0,.int .i64 0,.bool false,.string ⟨#[]⟩] rfl rfl (by kernel_rfl) rfl (by kernel_rfl) ?_);intro w5 hs;have HS5:Hid (Done w [] (Star (Star (ReplyW (.pointer (some a1)) (repR me asker 8 (D:Int))) (CellW wr.heap.size #[.int .u32 draw] 22)) (CellW w4.heap.size (yA 0 0 0 0 false ⟨#[]⟩) 32)) w5):=(by show Done _ _ _ _;exact hs);clear hs)
             | (go_at_call 39;((with_reducible refine (dR_hear (x:=(askX asker 8 (k:Int))) (y:=ReplyM.xz) (n:=0) (b:=false) (l:=[draw]) (m' := (repR me asker 8 (D:Int))) HXO.out (rdU_one (n:=draw) (Done.at_ (C:=fun X=>Star (ReplyW (.pointer (some a1)) (repR me asker 8 (D:Int))) X) (Fr.r (ReplyW.stab _ _) Fr.id_) HS3.out) HDR.out) (by simp) HY.out HU.out HSY.out HH.out (C:=fun X=>Star (X) (CellW wr.heap.size #[.int .u32 draw] 22)) (Fr.l Fr.id_ cS) HS3.out).mono ?_);rintro e w4 ⟨rfl,hs⟩;have HS4:Hid (Done w [] (Star (ReplyW (.pointer (some a1)) (repR me asker 8 (D:Int))) (CellW wr.heap.size #[.int .u32 draw] 22)) w4):=(by show Done _ _ _ _;exact hs);clear hs;have HT4:Hid (Done w [] (Star (Star (ReplyW (.pointer (some a1)) (repR me asker 8 (D:Int))) (CellW wr.heap.size #[.int .u32 draw] 22)) (CellW w4.heap.size (yA 0 0 0 0 false ⟨#[]⟩) 32)) (w4.alloc (.cells (yA 0 0 0 0 false ⟨#[]⟩) 32))):=HS4.out.add ((ReplyW.stab _ _).star cS) (CellW.new w4 #[.int .u32 0,.int .u32 0,.int .i64 0,.int .i64 0,.bool false,.string ⟨#[]⟩] 32)))
             | (go_at_call 43;((with_reducible refine (one16_any _ _).mono ?_);rintro e w' ⟨rfl,hw'⟩;rw [hw'];clear hw')))
            go_roundw
            case rel=>exact ⟨k + 1,_,by omega,by go_num,.inr (.inl ⟨by omega,by omega,rfl,rfl,rfl⟩),HS5.out.drop.drop⟩
            case measure=>simp [intOf] <;> omega
        · by_cases hks:k < 8
          · have t1:decide ((k:Int) < 8)=true:=decide_eq_true (by omega)
            have t1b:decide (k < 8)=true:=decide_eq_true hks
            have e5:IntKind.i64.wrap ((k:Int) + 1)=(k:Int) + 1:=IntWalk.i64_in _ (by omega)
            have hm:=askX_may (asker:=asker) (S:=8) (k:=(k:Int)) HOA.out (by decide) (by omega)
            obtain ⟨hu,hs,hh⟩:=rep_next (me:=me) (d:=draw) (D:=(D:Int)) hm (by omega)
            rw [show ((D:Int) == (k:Int))=false by simp;omega] at hs
            have hy:=rep_xid (me:=me) (r:=(repR me asker 8 (D:Int))) rfl rfl hs
            have HU:=jzD hu
            have HSY:=jzD hs
            have HH:=jzD hh
            have HY:Hid (ReplyM.xz=(repR me asker 8 (D:Int)).xid (askX asker 8 (k:Int)) [draw]):=hy
            have HXO:=jzD (askX_ok (asker:=asker) (S:=8) (k:=(k:Int)) HAS.out (by decide) (w64 (by omega)))
            have HS3:Hid (Done w [] (Star (ReplyW (.pointer (some a1)) (repR me asker 8 (D:Int))) (CellW wr.heap.size #[.int .u32 draw] 22)) (wr.alloc (.cells #[.int .u32 draw] 22))):=HS2.out.add (ReplyW.stab _ _) (CellW.new wr #[.int .u32 draw] 22)
            clear hm hu hs hh hy
            have e0:((k:Int) == 0)=false:=beq_eq_false_iff_ne.2 (by omega)
            go_wp2_with (first
             | ((with_reducible refine wpList_storeBD (C:=fun X=>Star (Star (ReplyW (.pointer (some a1)) (repR me asker 8 (D:Int))) (CellW wr.heap.size #[.int .u32 draw] 22)) X) (Fr.r ((ReplyW.stab _ _).star cS) Fr.id_) HT4.out rfl 32 (.tmp 14) (.tmp 66) rfl #[.int .u32 0,.int .u32 0,.int .i64 0,.int .i64 0,.bool false,.string ⟨#[]⟩] rfl rfl (by kernel_rfl) rfl (by kernel_rfl) ?_);intro w5 hs;have HS5:Hid (Done w [] (Star (Star (ReplyW (.pointer (some a1)) (repR me asker 8 (D:Int))) (CellW wr.heap.size #[.int .u32 draw] 22)) (CellW w4.heap.size (yA 0 0 0 0 false ⟨#[]⟩) 32)) w5):=(by show Done _ _ _ _;exact hs);clear hs)
             | (go_at_call 39;((with_reducible refine (dR_hear (x:=(askX asker 8 (k:Int))) (y:=ReplyM.xz) (n:=0) (b:=false) (l:=[draw]) (m' := (repR me asker 8 (D:Int))) HXO.out (rdU_one (n:=draw) (Done.at_ (C:=fun X=>Star (ReplyW (.pointer (some a1)) (repR me asker 8 (D:Int))) X) (Fr.r (ReplyW.stab _ _) Fr.id_) HS3.out) HDR.out) (by simp) HY.out HU.out HSY.out HH.out (C:=fun X=>Star (X) (CellW wr.heap.size #[.int .u32 draw] 22)) (Fr.l Fr.id_ cS) HS3.out).mono ?_);rintro e w4 ⟨rfl,hs⟩;have HS4:Hid (Done w [] (Star (ReplyW (.pointer (some a1)) (repR me asker 8 (D:Int))) (CellW wr.heap.size #[.int .u32 draw] 22)) w4):=(by show Done _ _ _ _;exact hs);clear hs;have HT4:Hid (Done w [] (Star (Star (ReplyW (.pointer (some a1)) (repR me asker 8 (D:Int))) (CellW wr.heap.size #[.int .u32 draw] 22)) (CellW w4.heap.size (yA 0 0 0 0 false ⟨#[]⟩) 32)) (w4.alloc (.cells (yA 0 0 0 0 false ⟨#[]⟩) 32))):=HS4.out.add ((ReplyW.stab _ _).star cS) (CellW.new w4 #[.int .u32 0,.int .u32 0,.int .i64 0,.int .i64 0,.bool false,.string ⟨#[]⟩] 32)))
             | (go_at_call 43;((with_reducible refine (one16_any _ _).mono ?_);rintro e w' ⟨rfl,hw'⟩;rw [hw'];clear hw')))
            go_roundw
            case rel=>exact ⟨k + 1,_,by omega,by go_num,.inr (.inr ⟨by omega,by omega,rfl,rfl,rfl⟩),HS5.out.drop.drop⟩
            case measure=>simp [intOf] <;> omega
          · have hkk:k=8:=by omega
            have t1:decide ((k:Int) < 8)=false:=decide_eq_false (by omega)
            have t1b:decide (k < 8)=false:=decide_eq_false hks
            have hm:=askX_may (asker:=asker) (S:=8) (k:=-1) HOA.out (by decide) (by omega)
            obtain ⟨hu,hs,hy⟩:=rep_end (r:=repR me asker 8 (D:Int)) (d:=draw) hm
            have HU:=jzD hu
            have HSY:=jzD hs
            have HY:=jzD hy
            have HXO:=jzD (askX_ok (asker:=asker) (S:=8) (k:=-1) HAS.out (by decide) (by decide))
            clear hm hu hs hy hkk
            have HS3:Hid (Done w [] (Star (ReplyW (.pointer (some a1)) (repR me asker 8 (D:Int))) (CellW wr.heap.size #[.int .u32 draw] 22)) (wr.alloc (.cells #[.int .u32 draw] 22))):=HS2.out.add (ReplyW.stab _ _) (CellW.new wr #[.int .u32 draw] 22)
            go_wp2_with (first
             | ((with_reducible refine wpList_storeBD (C:=fun X=>Star (Star (ReplyW (.pointer (some a1)) ((repR me asker 8 (D:Int)).hear (askX asker 8 (-1)) [draw])) (CellW wr.heap.size #[.int .u32 draw] 22)) X) (Fr.r ((ReplyW.stab _ _).star cS) Fr.id_) HT4.out rfl 32 (.tmp 17) (.tmp 93) rfl #[.int .u32 0,.int .u32 0,.int .i64 0,.int .i64 0,.bool false,.string ⟨#[]⟩] rfl rfl (by kernel_rfl) rfl (by kernel_rfl) ?_);intro w5 hs;have HS5:Hid (Done w [] (Star (Star (ReplyW (.pointer (some a1)) ((repR me asker 8 (D:Int)).hear (askX asker 8 (-1)) [draw])) (CellW wr.heap.size #[.int .u32 draw] 22)) (CellW w4.heap.size (yA 0 0 0 0 false ⟨#[]⟩) 32)) w5):=(by show Done _ _ _ _;exact hs);clear hs)
             | (go_at_call 39;((with_reducible refine (dR_hear (x:=askX asker 8 (-1)) (y:=ReplyM.xz) (n:=0) (b:=false) (l:=[draw]) (m' := ((repR me asker 8 (D:Int)).hear (askX asker 8 (-1)) [draw])) HXO.out (rdU_one (n:=draw) (Done.at_ (C:=fun X=>Star (ReplyW (.pointer (some a1)) (repR me asker 8 (D:Int))) X) (Fr.r (ReplyW.stab _ _) Fr.id_) HS3.out) HDR.out) (by simp) HY.out HU.out HSY.out rfl (C:=fun X=>Star (X) (CellW wr.heap.size #[.int .u32 draw] 22)) (Fr.l Fr.id_ cS) HS3.out).mono ?_);rintro e w4 ⟨rfl,hs⟩;have HS4:Hid (Done w [] (Star (ReplyW (.pointer (some a1)) ((repR me asker 8 (D:Int)).hear (askX asker 8 (-1)) [draw])) (CellW wr.heap.size #[.int .u32 draw] 22)) w4):=(by show Done _ _ _ _;exact hs);clear hs;have HT4:Hid (Done w [] (Star (Star (ReplyW (.pointer (some a1)) ((repR me asker 8 (D:Int)).hear (askX asker 8 (-1)) [draw])) (CellW wr.heap.size #[.int .u32 draw] 22)) (CellW w4.heap.size (yA 0 0 0 0 false ⟨#[]⟩) 32)) (w4.alloc (.cells (yA 0 0 0 0 false ⟨#[]⟩) 32))):=HS4.out.add ((ReplyW.stab _ _).star cS) (CellW.new w4 #[.int .u32 0,.int .u32 0,.int .i64 0,.int .i64 0,.bool false,.string ⟨#[]⟩] 32))))
            go_ret
            exact ⟨by simp,HS5.out.bel⟩
   · by_cases ha0:asker=0
     · have u0:(asker == 0)=true:=by rw [ha0];rfl
       clear ha0 hoa
       rcases hq with rfl | rfl | rfl
       · have z0:((0:Nat):Int)=0:=rfl
         rw [z0] at h_q e3_q e4_q
         go_enter Tryz.func5,Tryz.ntmps5
         go_wp2_with (first
          | (go_at_call 18;((with_reducible refine (dcalls_keep Emp.stab (Done.emp w) (begun16_any _ HC.out)).mono ?_);rintro e w1 ⟨rfl,hs⟩;have HT1:Hid (Done w [] (Star Emp (CellW w1.heap.size (yK 1 6 8) 3)) (w1.alloc (.cells (yK 1 6 8) 3))):=hs.add Emp.stab (CellW.new w1 #[.int .i64 1,.int .i64 6,.int .i64 8] 3);clear hs))
          | (go_at_call 36;((with_reducible refine (dR_new HME.out (by decide) HMN.out (Emp.stab.star cS) HT1.out).mono ?_);rintro e w3 ⟨a1,rfl,hs⟩;have HS3:=jzD hs;clear hs)))
         go_ret
         exact ⟨rfl,HS3.out.bel⟩
       · have z0:((1:Nat):Int)=1:=rfl
         rw [z0] at h_q e3_q e4_q
         go_enter Tryz.func5,Tryz.ntmps5
         go_wp2_with (first
          | (go_at_call 18;((with_reducible refine (dcalls_keep Emp.stab (Done.emp w) (begun16_any _ HC.out)).mono ?_);rintro e w1 ⟨rfl,hs⟩;have HT1:Hid (Done w [] (Star Emp (CellW w1.heap.size (yK 1 6 8) 3)) (w1.alloc (.cells (yK 1 6 8) 3))):=hs.add Emp.stab (CellW.new w1 #[.int .i64 1,.int .i64 6,.int .i64 8] 3);clear hs))
          | (go_at_call 36;((with_reducible refine (dR_new HME.out (by decide) HMN.out (Emp.stab.star cS) HT1.out).mono ?_);rintro e w3 ⟨a1,rfl,hs⟩;have HS3:=jzD hs;clear hs)))
         go_ret
         exact ⟨rfl,HS3.out.bel⟩
       · have z0:((2:Nat):Int)=2:=rfl
         rw [z0] at h_q e3_q e4_q
         go_enter Tryz.func5,Tryz.ntmps5
         go_wp2_with (first
          | (go_at_call 18;((with_reducible refine (dcalls_keep Emp.stab (Done.emp w) (begun16_any _ HC.out)).mono ?_);rintro e w1 ⟨rfl,hs⟩;have HT1:Hid (Done w [] (Star Emp (CellW w1.heap.size (yK 1 6 8) 3)) (w1.alloc (.cells (yK 1 6 8) 3))):=hs.add Emp.stab (CellW.new w1 #[.int .i64 1,.int .i64 6,.int .i64 8] 3);clear hs))
          | (go_at_call 36;((with_reducible refine (dR_new HME.out (by decide) HMN.out (Emp.stab.star cS) HT1.out).mono ?_);rintro e w3 ⟨a1,rfl,hs⟩;have HS3:=jzD hs;clear hs)))
         go_ret
         exact ⟨rfl,HS3.out.bel⟩
     · have u0:(asker == 0)=false:=beq_eq_false_iff_ne.2 ha0
       have u1:(asker == 4294967295)=true:=by unfold ownN at hoa;simp at hoa ⊢;exact hoa ha0
       clear ha0 hoa
       rcases hq with rfl | rfl | rfl
       · have z0:((0:Nat):Int)=0:=rfl
         rw [z0] at h_q e3_q e4_q
         go_enter Tryz.func5,Tryz.ntmps5
         go_wp2_with (first
          | (go_at_call 18;((with_reducible refine (dcalls_keep Emp.stab (Done.emp w) (begun16_any _ HC.out)).mono ?_);rintro e w1 ⟨rfl,hs⟩;have HT1:Hid (Done w [] (Star Emp (CellW w1.heap.size (yK 1 6 8) 3)) (w1.alloc (.cells (yK 1 6 8) 3))):=hs.add Emp.stab (CellW.new w1 #[.int .i64 1,.int .i64 6,.int .i64 8] 3);clear hs))
          | (go_at_call 36;((with_reducible refine (dR_new HME.out (by decide) HMN.out (Emp.stab.star cS) HT1.out).mono ?_);rintro e w3 ⟨a1,rfl,hs⟩;have HS3:=jzD hs;clear hs)))
         go_ret
         exact ⟨rfl,HS3.out.bel⟩
       · have z0:((1:Nat):Int)=1:=rfl
         rw [z0] at h_q e3_q e4_q
         go_enter Tryz.func5,Tryz.ntmps5
         go_wp2_with (first
          | (go_at_call 18;((with_reducible refine (dcalls_keep Emp.stab (Done.emp w) (begun16_any _ HC.out)).mono ?_);rintro e w1 ⟨rfl,hs⟩;have HT1:Hid (Done w [] (Star Emp (CellW w1.heap.size (yK 1 6 8) 3)) (w1.alloc (.cells (yK 1 6 8) 3))):=hs.add Emp.stab (CellW.new w1 #[.int .i64 1,.int .i64 6,.int .i64 8] 3);clear hs))
          | (go_at_call 36;((with_reducible refine (dR_new HME.out (by decide) HMN.out (Emp.stab.star cS) HT1.out).mono ?_);rintro e w3 ⟨a1,rfl,hs⟩;have HS3:=jzD hs;clear hs)))
         go_ret
         exact ⟨rfl,HS3.out.bel⟩
       · have z0:((2:Nat):Int)=2:=rfl
         rw [z0] at h_q e3_q e4_q
         go_enter Tryz.func5,Tryz.ntmps5
         go_wp2_with (first
          | (go_at_call 18;((with_reducible refine (dcalls_keep Emp.stab (Done.emp w) (begun16_any _ HC.out)).mono ?_);rintro e w1 ⟨rfl,hs⟩;have HT1:Hid (Done w [] (Star Emp (CellW w1.heap.size (yK 1 6 8) 3)) (w1.alloc (.cells (yK 1 6 8) 3))):=hs.add Emp.stab (CellW.new w1 #[.int .i64 1,.int .i64 6,.int .i64 8] 3);clear hs))
          | (go_at_call 36;((with_reducible refine (dR_new HME.out (by decide) HMN.out (Emp.stab.star cS) HT1.out).mono ?_);rintro e w3 ⟨a1,rfl,hs⟩;have HS3:=jzD hs;clear hs)))
         go_ret
         exact ⟨rfl,HS3.out.bel⟩
 · have hof:ownN me=false:=by cases h:ownN me <;> simp_all
   rw [hof] at hmn
   have HMN:=jzD hmn
   clear hmn ho hof
   rcases hq with rfl | rfl | rfl
   · have z0:((0:Nat):Int)=0:=rfl
     rw [z0] at h_q e3_q e4_q
     go_enter Tryz.func5,Tryz.ntmps5
     go_wp2_with (first
      | (go_at_call 18;((with_reducible refine (dcalls_keep Emp.stab (Done.emp w) (begun16_any _ HC.out)).mono ?_);rintro e w1 ⟨rfl,hs⟩;have HT1:Hid (Done w [] (Star Emp (CellW w1.heap.size (yK 1 6 8) 3)) (w1.alloc (.cells (yK 1 6 8) 3))):=hs.add Emp.stab (CellW.new w1 #[.int .i64 1,.int .i64 6,.int .i64 8] 3);clear hs))
      | (go_at_call 36;((with_reducible refine (dcalls_keep (Emp.stab.star cS) HT1.out (RpNew_none me ⟨#[110]⟩ _ HME.out (by decide) HMN.out)).mono ?_);rintro e w3 ⟨rfl,hs⟩;have HS3:=jzD hs;clear hs)))
     go_ret
     exact ⟨rfl,HS3.out.bel⟩
   · have z0:((1:Nat):Int)=1:=rfl
     rw [z0] at h_q e3_q e4_q
     go_enter Tryz.func5,Tryz.ntmps5
     go_wp2_with (first
      | (go_at_call 18;((with_reducible refine (dcalls_keep Emp.stab (Done.emp w) (begun16_any _ HC.out)).mono ?_);rintro e w1 ⟨rfl,hs⟩;have HT1:Hid (Done w [] (Star Emp (CellW w1.heap.size (yK 1 6 8) 3)) (w1.alloc (.cells (yK 1 6 8) 3))):=hs.add Emp.stab (CellW.new w1 #[.int .i64 1,.int .i64 6,.int .i64 8] 3);clear hs))
      | (go_at_call 36;((with_reducible refine (dcalls_keep (Emp.stab.star cS) HT1.out (RpNew_none me ⟨#[110]⟩ _ HME.out (by decide) HMN.out)).mono ?_);rintro e w3 ⟨rfl,hs⟩;have HS3:=jzD hs;clear hs)))
     go_ret
     exact ⟨rfl,HS3.out.bel⟩
   · have z0:((2:Nat):Int)=2:=rfl
     rw [z0] at h_q e3_q e4_q
     go_enter Tryz.func5,Tryz.ntmps5
     go_wp2_with (first
      | (go_at_call 18;((with_reducible refine (dcalls_keep Emp.stab (Done.emp w) (begun16_any _ HC.out)).mono ?_);rintro e w1 ⟨rfl,hs⟩;have HT1:Hid (Done w [] (Star Emp (CellW w1.heap.size (yK 1 6 8) 3)) (w1.alloc (.cells (yK 1 6 8) 3))):=hs.add Emp.stab (CellW.new w1 #[.int .i64 1,.int .i64 6,.int .i64 8] 3);clear hs))
      | (go_at_call 36;((with_reducible refine (dcalls_keep (Emp.stab.star cS) HT1.out (RpNew_none me ⟨#[110]⟩ _ HME.out (by decide) HMN.out)).mono ?_);rintro e w3 ⟨rfl,hs⟩;have HS3:=jzD hs;clear hs)))
     go_ret
     exact ⟨rfl,HS3.out.bel⟩
end Go.Proofs.YtjddbjmcjhjpiaaGreatDoor
