/- The law ReplyLate. -/
import Derived.Test.YtjddbjmcjhjpiaaGreatDoorN16J

set_option linter.all false

namespace Go.Proofs.YtjddbjmcjhjpiaaGreatDoor
set_option maxRecDepth 100000
set_option maxHeartbeats 32000000
open Go.RowKit M

theorem rep_begin {me asker S d E k:Int} (hm:mayX (askX asker S k).xd=true) (hk:0≤k) (hE:E=max (d % S) k):(1:Int)=(ReplyM.new me ⟨#[110]⟩).used (askX asker S k) [d]∧(E == k)=(ReplyM.new me ⟨#[110]⟩).says (askX asker S k) [d]∧repR me asker S E=(ReplyM.new me ⟨#[110]⟩).hear (askX asker S k) [d]:=by
 have hb:(ReplyM.new me ⟨#[110]⟩).begins (askX asker S k)=true:=by
  show (k == 0 || true)=true
  simp
 have hr:(ReplyM.new me ⟨#[110]⟩).roundOf (askX asker S k) [d]=some (asker,S,E):=by
  unfold ReplyM.roundOf
  rw [hb,if_pos rfl,hE]
  rfl
 have h1:(k != -1)=true:=by simp;omega
 have ha:ReplyM.asked (askX asker S k)=true:=by
  unfold ReplyM.asked;rw [hm]
  show (true && (!false && ((0:Int) == 0 && k != -1)))=true
  rw [h1];rfl
 have hn:(ReplyM.new me ⟨#[110]⟩).renews (askX asker S k)=false:=by unfold ReplyM.renews;rw [hm];rfl
 refine ⟨?_,?_,?_⟩
 · unfold ReplyM.used ReplyM.usedOf;rw [hn,ha,hb];rfl
 · unfold ReplyM.says;rw [ha,hr];rfl
 · unfold ReplyM.hear;rw [hm,hr]
   show repR me asker S E=(if true=true then (if k=-1 then _ else (⟨me,⟨#[110]⟩,some (asker,S,E)⟩:ReplyM)) else _)
   rw [if_pos rfl,if_neg (by omega)]
   rfl
theorem ReplyLate_law (me slots from_ draw:Int) (w:World) (hme:(Lit.int .u32 me).wf=true) (hdr:(Lit.int .u32 draw).wf=true) (hC:Codes w):Calls Tryz.prog 12 #[.int .u32 me,.int .i64 slots,.int .i64 from_,.int .u32 draw] w fun e w' => e=.returned (.bool true)∧Below w.heap.size w w' := by
 have HC:=jzD hC
 have HME:=jzD hme
 have HDR:Hid (u32 draw):=by
  show u32 draw;have h1:IntKind.u32.min=0:=by decide
  have h2:IntKind.u32.max=4294967295:=by decide
  have h3:(decide (IntKind.u32.min≤draw) && decide (draw≤IntKind.u32.max))=true:=hdr
  rw [h1,h2] at h3;simp at h3;unfold u32;omega
 clear hC hme hdr
 have a1_q:=Int.lt_tmod_of_pos slots (show (0:Int) < 2 by decide)
 have a2_q:=Int.tmod_lt_of_pos slots (show (0:Int) < 2 by decide)
 obtain ⟨t_q,ht_q⟩:∃ t,slots.tmod 2=t:=⟨_,rfl⟩
 rw [ht_q] at a1_q a2_q
 have e1_q:IntKind.i64.wrap t_q=t_q:=IntWalk.i64_in _ (by omega)
 have e2_q:IntKind.i64.wrap (t_q + 2)=t_q + 2:=IntWalk.i64_in _ (by omega)
 obtain ⟨q,h_q⟩:∃ q:Nat,t_q % 2=(q:Int):=⟨(t_q % 2).toNat,by omega⟩
 have e3_q:(t_q + 2).tmod 2=(q:Int):=by rw [Int.tmod_eq_emod_of_nonneg (by omega)];omega
 have e4_q:IntKind.i64.wrap (q:Int)=(q:Int):=IntWalk.i64_in _ (by omega)
 have b_q:q < 2:=by omega
 clear a1_q a2_q
 have hq:q=0 ∨ q=1:=by omega
 clear b_q
 have hmn:ReplyM.mayNew me ⟨#[110]⟩=ownN me:=by unfold ReplyM.mayNew;rw [show M.mayL ((⟨#[110]⟩:ByteArray).data.toList)=true by kernel_rfl,Bool.and_true]
 by_cases ho:ownN me=true
 · rw [ho] at hmn
   have HMN:=jzD hmn
   clear hmn ho
   rcases hq with rfl | rfl
   · have z0:((0:Nat):Int)=0:=rfl
     rw [z0] at h_q e3_q e4_q
     have a1_f:=Int.lt_tmod_of_pos from_ (show (0:Int) < 5 by decide)
     have a2_f:=Int.tmod_lt_of_pos from_ (show (0:Int) < 5 by decide)
     obtain ⟨t_f,ht_f⟩:∃ t,from_.tmod 5=t:=⟨_,rfl⟩
     rw [ht_f] at a1_f a2_f
     have e1_f:IntKind.i64.wrap t_f=t_f:=IntWalk.i64_in _ (by omega)
     have e2_f:IntKind.i64.wrap (t_f + 6)=t_f + 6:=IntWalk.i64_in _ (by omega)
     have e2b_f:IntKind.i64.wrap (t_f + 6 - 1)=t_f + 5:=by rw [show t_f + 6 - 1=t_f + 5 by omega];exact IntWalk.i64_in _ (by omega)
     have e2c_f:IntKind.i64.wrap (t_f + 5)=t_f + 5:=IntWalk.i64_in _ (by omega)
     obtain ⟨f,h_f⟩:∃ q:Nat,t_f % 5=(q:Int):=⟨(t_f % 5).toNat,by omega⟩
     have e3_f:(t_f + 5).tmod 5=(f:Int):=by rw [Int.tmod_eq_emod_of_nonneg (by omega)];omega
     have e4_f:IntKind.i64.wrap (f:Int)=(f:Int):=IntWalk.i64_in _ (by omega)
     have b_f:f < 5:=by omega
     have e5_f:IntKind.i64.wrap (1 + (f:Int))=((f + 1:Nat):Int):=by rw [show (1 + (f:Int))=((f + 1:Nat):Int) by omega];exact IntWalk.i64_in _ (by omega)
     clear a1_f a2_f h_f
     obtain ⟨D,hD⟩:∃ D:Nat,draw % 6=(D:Int):=⟨(draw % 6).toNat,by omega⟩
     have hDS:D < 6:=by omega
     have HDD:Hid ((D:Int)=draw % 6):=hD.symm
     have m1:draw.tmod 6=(D:Int):=by rw [Int.tmod_eq_emod_of_nonneg HDR.out.1];exact hD
     clear hD
     by_cases hfD:f + 1 < D
     · have g1:decide (((f + 1:Nat):Int) < (D:Int))=true:=decide_eq_true (by omega)
       have g2:decide (f + 1 < D)=true:=decide_eq_true (by omega)
       have g3:((f + 1:Nat):Int) < (D:Int):=by omega
       go_enter Tryz.func12,Tryz.ntmps12
       go_wp2_with (first
        | (go_at_call 18;((with_reducible refine (dcalls_keep Emp.stab (Done.emp w) (begun16_any _ HC.out)).mono ?_);rintro e w1 ⟨rfl,hs⟩;have HT1:Hid (Done w [] (Star Emp (CellW w1.heap.size #[.int .i64 6,.int .i64 8] 3)) (w1.alloc (.cells #[.int .i64 6,.int .i64 8] 3))):=hs.add Emp.stab (CellW.new w1 #[.int .i64 6,.int .i64 8] 3);clear hs))
        | (go_at_call 36;((with_reducible refine (dR_new HME.out (by decide) HMN.out (Emp.stab.star cS) HT1.out).mono ?_);rintro e w3 ⟨a1,rfl,hs⟩;have HS3:Hid (Done w [] (ReplyW (.pointer (some a1)) (ReplyM.new me ⟨#[110]⟩)) w3):=(by show Done _ _ _ _;exact hs.drop_mid.unemp);clear hs)))
       go_loopw [11,12,13] (fun nv av kv wr=>∃ (k:Nat) (rr:ReplyM),f + 1≤k∧k≤6∧kv=.int .i64 (k:Int)∧((k=f + 1∧nv=.int .i64 0∧av=.int .i64 (-1)∧rr=ReplyM.new me ⟨#[110]⟩) ∨ (f + 1 < k∧k≤D∧nv=.int .i64 0∧av=.int .i64 (-1)∧rr=repR me 9 6 (D:Int)) ∨ (f + 1 < k∧D < k∧nv=.int .i64 1∧av=.int .i64 (D:Int)∧rr=repR me 9 6 (D:Int)))∧Done w [] (ReplyW (.pointer (some a1)) rr) wr) (fun _ _ kv _=>(9 - intOf kv).toNat)
       case atStart=>exact ⟨f + 1,_,by omega,by omega,by first | rfl | (congr 1),.inl ⟨rfl,rfl,rfl,rfl⟩,HS3.out⟩
       case round =>
        clear HS3 HT1
        obtain ⟨k,rr,hfk,hkS,rfl,hst,hs⟩:=hrel
        have HS2:=jzD hs
        clear hs
        rcases hst with ⟨hk0,rfl,rfl,rfl⟩ | ⟨hk0,hkD,rfl,rfl,rfl⟩ | ⟨hk0,hkD,rfl,rfl,rfl⟩
        · have hk1:k≤f + 1:=by omega
          clear hk0
          have t1:decide ((k:Int) < 6)=true:=decide_eq_true (by omega)
          have t1b:decide (k < 6)=true:=decide_eq_true (by omega)
          have e5:IntKind.i64.wrap ((k:Int) + 1)=(k:Int) + 1:=IntWalk.i64_in _ (by omega)
          by_cases hD0:D=k
          · have hDk1:k≤D:=by omega
            have hDk2:D≤k:=by omega
            clear hD0
            exfalso
            omega
          · skip
            have hm:=askX_may (asker:=9) (S:=6) (k:=(k:Int)) (by decide) (by decide) (by omega)
            obtain ⟨hu,hs,hh⟩:=rep_begin (me:=me) (d:=draw) (E:=(D:Int)) hm (by omega) (by rw [← HDD.out];omega)
            rw [show ((D:Int) == (k:Int))=false by simp;omega] at hs
            have hy:=rep_xid (me:=me) (r:=(ReplyM.new me ⟨#[110]⟩)) rfl rfl hs
            have HU:=jzD hu
            have HSY:=jzD hs
            have HH:=jzD hh
            have HY:Hid (ReplyM.xz=(ReplyM.new me ⟨#[110]⟩).xid (askX 9 6 (k:Int)) [draw]):=hy
            have HXO:=jzD (askX_ok (asker:=9) (S:=6) (k:=(k:Int)) (by decide) (by decide) (w64 (by omega)))
            have HS3:Hid (Done w [] (Star (ReplyW (.pointer (some a1)) (ReplyM.new me ⟨#[110]⟩)) (CellW wr.heap.size #[.int .u32 draw] 22)) (wr.alloc (.cells #[.int .u32 draw] 22))):=HS2.out.add (ReplyW.stab _ _) (CellW.new wr #[.int .u32 draw] 22)
            clear hm hu hs hh hy
            go_wp2_with (first
             | ((with_reducible refine wpList_storeBD (C:=fun X=>Star (Star (ReplyW (.pointer (some a1)) (repR me 9 6 (D:Int))) (CellW wr.heap.size #[.int .u32 draw] 22)) X) (Fr.r ((ReplyW.stab _ _).star cS) Fr.id_) HT4.out rfl 32 (.tmp 14) (.tmp 59) rfl #[.int .u32 0,.int .u32 0,.int .i64 0,.int .i64 0,.bool false,.string ⟨#[]⟩] rfl rfl (by kernel_rfl) rfl (by kernel_rfl) ?_);intro w5 hs;have HS5:Hid (Done w [] (Star (Star (ReplyW (.pointer (some a1)) (repR me 9 6 (D:Int))) (CellW wr.heap.size #[.int .u32 draw] 22)) (CellW w4.heap.size (yA 0 0 0 0 false ⟨#[]⟩) 32)) w5):=(by show Done _ _ _ _;exact hs);clear hs)
             | (go_at_call 39;((with_reducible refine (dR_hear (x:=(askX 9 6 (k:Int))) (y:=ReplyM.xz) (n:=1) (b:=false) (l:=[draw]) (m' := (repR me 9 6 (D:Int))) HXO.out (rdU_one (n:=draw) (Done.at_ (C:=fun X=>Star (ReplyW (.pointer (some a1)) (ReplyM.new me ⟨#[110]⟩)) X) (Fr.r (ReplyW.stab _ _) Fr.id_) HS3.out) HDR.out) (by simp) HY.out HU.out HSY.out HH.out (C:=fun X=>Star (X) (CellW wr.heap.size #[.int .u32 draw] 22)) (Fr.l Fr.id_ cS) HS3.out).mono ?_);rintro e w4 ⟨rfl,hs⟩;have HS4:Hid (Done w [] (Star (ReplyW (.pointer (some a1)) (repR me 9 6 (D:Int))) (CellW wr.heap.size #[.int .u32 draw] 22)) w4):=(by show Done _ _ _ _;exact hs);clear hs;have HT4:Hid (Done w [] (Star (Star (ReplyW (.pointer (some a1)) (repR me 9 6 (D:Int))) (CellW wr.heap.size #[.int .u32 draw] 22)) (CellW w4.heap.size (yA 0 0 0 0 false ⟨#[]⟩) 32)) (w4.alloc (.cells (yA 0 0 0 0 false ⟨#[]⟩) 32))):=HS4.out.add ((ReplyW.stab _ _).star cS) (CellW.new w4 #[.int .u32 0,.int .u32 0,.int .i64 0,.int .i64 0,.bool false,.string ⟨#[]⟩] 32))))
            go_roundw
            case rel=>exact ⟨k + 1,_,by omega,by omega,by go_num,.inr (.inl ⟨by omega,by omega,rfl,rfl,rfl⟩),HS5.out.drop.drop⟩
            case measure=>simp [intOf] <;> omega
        · have t1:decide ((k:Int) < 6)=true:=decide_eq_true (by omega)
          have t1b:decide (k < 6)=true:=decide_eq_true (by omega)
          have e5:IntKind.i64.wrap ((k:Int) + 1)=(k:Int) + 1:=IntWalk.i64_in _ (by omega)
          by_cases hDk:k=D
          · have hDk1:k≤D:=by omega
            have hDk2:D≤k:=by omega
            clear hDk
            have hm:=askX_may (asker:=9) (S:=6) (k:=(k:Int)) (by decide) (by decide) (by omega)
            obtain ⟨hu,hs,hh⟩:=rep_next (me:=me) (d:=draw) (D:=(D:Int)) hm (by omega)
            rw [show ((D:Int) == (k:Int))=true by simp;omega] at hs
            have hy:=rep_xid (me:=me) (r:=(repR me 9 6 (D:Int))) rfl rfl hs
            have HU:=jzD hu
            have HSY:=jzD hs
            have HH:=jzD hh
            have HY:Hid ((⟨me,9,(k:Int),6,false,⟨#[110]⟩⟩:XIn)=(repR me 9 6 (D:Int)).xid (askX 9 6 (k:Int)) [draw]):=hy
            have HXO:=jzD (askX_ok (asker:=9) (S:=6) (k:=(k:Int)) (by decide) (by decide) (w64 (by omega)))
            have HS3:Hid (Done w [] (Star (ReplyW (.pointer (some a1)) (repR me 9 6 (D:Int))) (CellW wr.heap.size #[.int .u32 draw] 22)) (wr.alloc (.cells #[.int .u32 draw] 22))):=HS2.out.add (ReplyW.stab _ _) (CellW.new wr #[.int .u32 draw] 22)
            clear hm hu hs hh hy
            go_wp2_with (first
             | ((with_reducible refine wpList_storeBD (C:=fun X=>Star (Star (ReplyW (.pointer (some a1)) (repR me 9 6 (D:Int))) (CellW wr.heap.size #[.int .u32 draw] 22)) X) (Fr.r ((ReplyW.stab _ _).star cS) Fr.id_) HT4.out rfl 32 (.tmp 14) (.tmp 59) rfl #[.int .u32 me,.int .u32 9,.int .i64 (k:Int),.int .i64 6,.bool false,.string ⟨#[110]⟩] rfl rfl (by kernel_rfl) rfl (by kernel_rfl) ?_);intro w5 hs;have HS5:Hid (Done w [] (Star (Star (ReplyW (.pointer (some a1)) (repR me 9 6 (D:Int))) (CellW wr.heap.size #[.int .u32 draw] 22)) (CellW w4.heap.size (yA me 9 (k:Int) 6 false ⟨#[110]⟩) 32)) w5):=(by show Done _ _ _ _;exact hs);clear hs)
             | (go_at_call 39;((with_reducible refine (dR_hear (x:=(askX 9 6 (k:Int))) (y:=(⟨me,9,(k:Int),6,false,⟨#[110]⟩⟩:XIn)) (n:=0) (b:=true) (l:=[draw]) (m' := (repR me 9 6 (D:Int))) HXO.out (rdU_one (n:=draw) (Done.at_ (C:=fun X=>Star (ReplyW (.pointer (some a1)) (repR me 9 6 (D:Int))) X) (Fr.r (ReplyW.stab _ _) Fr.id_) HS3.out) HDR.out) (by simp) HY.out HU.out HSY.out HH.out (C:=fun X=>Star (X) (CellW wr.heap.size #[.int .u32 draw] 22)) (Fr.l Fr.id_ cS) HS3.out).mono ?_);rintro e w4 ⟨rfl,hs⟩;have HS4:Hid (Done w [] (Star (ReplyW (.pointer (some a1)) (repR me 9 6 (D:Int))) (CellW wr.heap.size #[.int .u32 draw] 22)) w4):=(by show Done _ _ _ _;exact hs);clear hs;have HT4:Hid (Done w [] (Star (Star (ReplyW (.pointer (some a1)) (repR me 9 6 (D:Int))) (CellW wr.heap.size #[.int .u32 draw] 22)) (CellW w4.heap.size (yA 0 0 0 0 false ⟨#[]⟩) 32)) (w4.alloc (.cells (yA 0 0 0 0 false ⟨#[]⟩) 32))):=HS4.out.add ((ReplyW.stab _ _).star cS) (CellW.new w4 #[.int .u32 0,.int .u32 0,.int .i64 0,.int .i64 0,.bool false,.string ⟨#[]⟩] 32))))
            go_roundw
            case rel=>exact ⟨k + 1,_,by omega,by omega,by go_num,.inr (.inr ⟨by omega,by omega,by simp,by first | rfl | (congr 1;omega) | (simp;omega),rfl⟩),HS5.out.drop.drop⟩
            case measure=>simp [intOf] <;> omega
          · skip
            have hm:=askX_may (asker:=9) (S:=6) (k:=(k:Int)) (by decide) (by decide) (by omega)
            obtain ⟨hu,hs,hh⟩:=rep_next (me:=me) (d:=draw) (D:=(D:Int)) hm (by omega)
            rw [show ((D:Int) == (k:Int))=false by simp;omega] at hs
            have hy:=rep_xid (me:=me) (r:=(repR me 9 6 (D:Int))) rfl rfl hs
            have HU:=jzD hu
            have HSY:=jzD hs
            have HH:=jzD hh
            have HY:Hid (ReplyM.xz=(repR me 9 6 (D:Int)).xid (askX 9 6 (k:Int)) [draw]):=hy
            have HXO:=jzD (askX_ok (asker:=9) (S:=6) (k:=(k:Int)) (by decide) (by decide) (w64 (by omega)))
            have HS3:Hid (Done w [] (Star (ReplyW (.pointer (some a1)) (repR me 9 6 (D:Int))) (CellW wr.heap.size #[.int .u32 draw] 22)) (wr.alloc (.cells #[.int .u32 draw] 22))):=HS2.out.add (ReplyW.stab _ _) (CellW.new wr #[.int .u32 draw] 22)
            clear hm hu hs hh hy
            go_wp2_with (first
             | ((with_reducible refine wpList_storeBD (C:=fun X=>Star (Star (ReplyW (.pointer (some a1)) (repR me 9 6 (D:Int))) (CellW wr.heap.size #[.int .u32 draw] 22)) X) (Fr.r ((ReplyW.stab _ _).star cS) Fr.id_) HT4.out rfl 32 (.tmp 14) (.tmp 59) rfl #[.int .u32 0,.int .u32 0,.int .i64 0,.int .i64 0,.bool false,.string ⟨#[]⟩] rfl rfl (by kernel_rfl) rfl (by kernel_rfl) ?_);intro w5 hs;have HS5:Hid (Done w [] (Star (Star (ReplyW (.pointer (some a1)) (repR me 9 6 (D:Int))) (CellW wr.heap.size #[.int .u32 draw] 22)) (CellW w4.heap.size (yA 0 0 0 0 false ⟨#[]⟩) 32)) w5):=(by show Done _ _ _ _;exact hs);clear hs)
             | (go_at_call 39;((with_reducible refine (dR_hear (x:=(askX 9 6 (k:Int))) (y:=ReplyM.xz) (n:=0) (b:=false) (l:=[draw]) (m' := (repR me 9 6 (D:Int))) HXO.out (rdU_one (n:=draw) (Done.at_ (C:=fun X=>Star (ReplyW (.pointer (some a1)) (repR me 9 6 (D:Int))) X) (Fr.r (ReplyW.stab _ _) Fr.id_) HS3.out) HDR.out) (by simp) HY.out HU.out HSY.out HH.out (C:=fun X=>Star (X) (CellW wr.heap.size #[.int .u32 draw] 22)) (Fr.l Fr.id_ cS) HS3.out).mono ?_);rintro e w4 ⟨rfl,hs⟩;have HS4:Hid (Done w [] (Star (ReplyW (.pointer (some a1)) (repR me 9 6 (D:Int))) (CellW wr.heap.size #[.int .u32 draw] 22)) w4):=(by show Done _ _ _ _;exact hs);clear hs;have HT4:Hid (Done w [] (Star (Star (ReplyW (.pointer (some a1)) (repR me 9 6 (D:Int))) (CellW wr.heap.size #[.int .u32 draw] 22)) (CellW w4.heap.size (yA 0 0 0 0 false ⟨#[]⟩) 32)) (w4.alloc (.cells (yA 0 0 0 0 false ⟨#[]⟩) 32))):=HS4.out.add ((ReplyW.stab _ _).star cS) (CellW.new w4 #[.int .u32 0,.int .u32 0,.int .i64 0,.int .i64 0,.bool false,.string ⟨#[]⟩] 32))))
            go_roundw
            case rel=>exact ⟨k + 1,_,by omega,by omega,by go_num,.inr (.inl ⟨by omega,by omega,rfl,rfl,rfl⟩),HS5.out.drop.drop⟩
            case measure=>simp [intOf] <;> omega
        · by_cases hks:k < 6
          · have t1:decide ((k:Int) < 6)=true:=decide_eq_true (by omega)
            have t1b:decide (k < 6)=true:=decide_eq_true hks
            have e5:IntKind.i64.wrap ((k:Int) + 1)=(k:Int) + 1:=IntWalk.i64_in _ (by omega)
            have hm:=askX_may (asker:=9) (S:=6) (k:=(k:Int)) (by decide) (by decide) (by omega)
            obtain ⟨hu,hs,hh⟩:=rep_next (me:=me) (d:=draw) (D:=(D:Int)) hm (by omega)
            rw [show ((D:Int) == (k:Int))=false by simp;omega] at hs
            have hy:=rep_xid (me:=me) (r:=(repR me 9 6 (D:Int))) rfl rfl hs
            have HU:=jzD hu
            have HSY:=jzD hs
            have HH:=jzD hh
            have HY:Hid (ReplyM.xz=(repR me 9 6 (D:Int)).xid (askX 9 6 (k:Int)) [draw]):=hy
            have HXO:=jzD (askX_ok (asker:=9) (S:=6) (k:=(k:Int)) (by decide) (by decide) (w64 (by omega)))
            have HS3:Hid (Done w [] (Star (ReplyW (.pointer (some a1)) (repR me 9 6 (D:Int))) (CellW wr.heap.size #[.int .u32 draw] 22)) (wr.alloc (.cells #[.int .u32 draw] 22))):=HS2.out.add (ReplyW.stab _ _) (CellW.new wr #[.int .u32 draw] 22)
            clear hm hu hs hh hy
            go_wp2_with (first
             | ((with_reducible refine wpList_storeBD (C:=fun X=>Star (Star (ReplyW (.pointer (some a1)) (repR me 9 6 (D:Int))) (CellW wr.heap.size #[.int .u32 draw] 22)) X) (Fr.r ((ReplyW.stab _ _).star cS) Fr.id_) HT4.out rfl 32 (.tmp 14) (.tmp 59) rfl #[.int .u32 0,.int .u32 0,.int .i64 0,.int .i64 0,.bool false,.string ⟨#[]⟩] rfl rfl (by kernel_rfl) rfl (by kernel_rfl) ?_);intro w5 hs;have HS5:Hid (Done w [] (Star (Star (ReplyW (.pointer (some a1)) (repR me 9 6 (D:Int))) (CellW wr.heap.size #[.int .u32 draw] 22)) (CellW w4.heap.size (yA 0 0 0 0 false ⟨#[]⟩) 32)) w5):=(by show Done _ _ _ _;exact hs);clear hs)
             | (go_at_call 39;((with_reducible refine (dR_hear (x:=(askX 9 6 (k:Int))) (y:=ReplyM.xz) (n:=0) (b:=false) (l:=[draw]) (m' := (repR me 9 6 (D:Int))) HXO.out (rdU_one (n:=draw) (Done.at_ (C:=fun X=>Star (ReplyW (.pointer (some a1)) (repR me 9 6 (D:Int))) X) (Fr.r (ReplyW.stab _ _) Fr.id_) HS3.out) HDR.out) (by simp) HY.out HU.out HSY.out HH.out (C:=fun X=>Star (X) (CellW wr.heap.size #[.int .u32 draw] 22)) (Fr.l Fr.id_ cS) HS3.out).mono ?_);rintro e w4 ⟨rfl,hs⟩;have HS4:Hid (Done w [] (Star (ReplyW (.pointer (some a1)) (repR me 9 6 (D:Int))) (CellW wr.heap.size #[.int .u32 draw] 22)) w4):=(by show Done _ _ _ _;exact hs);clear hs;have HT4:Hid (Done w [] (Star (Star (ReplyW (.pointer (some a1)) (repR me 9 6 (D:Int))) (CellW wr.heap.size #[.int .u32 draw] 22)) (CellW w4.heap.size (yA 0 0 0 0 false ⟨#[]⟩) 32)) (w4.alloc (.cells (yA 0 0 0 0 false ⟨#[]⟩) 32))):=HS4.out.add ((ReplyW.stab _ _).star cS) (CellW.new w4 #[.int .u32 0,.int .u32 0,.int .i64 0,.int .i64 0,.bool false,.string ⟨#[]⟩] 32))))
            go_roundw
            case rel=>exact ⟨k + 1,_,by omega,by omega,by go_num,.inr (.inr ⟨by omega,by omega,rfl,rfl,rfl⟩),HS5.out.drop.drop⟩
            case measure=>simp [intOf] <;> omega
          · have t1:decide ((k:Int) < 6)=false:=decide_eq_false (by omega)
            have t1b:decide (k < 6)=false:=decide_eq_false hks
            go_wp2
            go_ret
            exact ⟨by first | rfl | (simp;try omega),HS2.out.bel⟩
     · have g1:decide (((f + 1:Nat):Int) < (D:Int))=false:=decide_eq_false (by omega)
       have g2:decide (f + 1 < D)=false:=decide_eq_false (by omega)
       have g3:¬ ((f + 1:Nat):Int) < (D:Int):=by omega
       go_enter Tryz.func12,Tryz.ntmps12
       go_wp2_with (first
        | (go_at_call 18;((with_reducible refine (dcalls_keep Emp.stab (Done.emp w) (begun16_any _ HC.out)).mono ?_);rintro e w1 ⟨rfl,hs⟩;have HT1:Hid (Done w [] (Star Emp (CellW w1.heap.size #[.int .i64 6,.int .i64 8] 3)) (w1.alloc (.cells #[.int .i64 6,.int .i64 8] 3))):=hs.add Emp.stab (CellW.new w1 #[.int .i64 6,.int .i64 8] 3);clear hs))
        | (go_at_call 36;((with_reducible refine (dR_new HME.out (by decide) HMN.out (Emp.stab.star cS) HT1.out).mono ?_);rintro e w3 ⟨a1,rfl,hs⟩;have HS3:Hid (Done w [] (ReplyW (.pointer (some a1)) (ReplyM.new me ⟨#[110]⟩)) w3):=(by show Done _ _ _ _;exact hs.drop_mid.unemp);clear hs)))
       go_loopw [11,12,13] (fun nv av kv wr=>∃ (k:Nat) (rr:ReplyM),f + 1≤k∧k≤6∧kv=.int .i64 (k:Int)∧((k=f + 1∧nv=.int .i64 0∧av=.int .i64 (-1)∧rr=ReplyM.new me ⟨#[110]⟩) ∨ (f + 1 < k∧k≤(f + 1:Nat)∧nv=.int .i64 0∧av=.int .i64 (-1)∧rr=repR me 9 6 ((f + 1:Nat):Int)) ∨ (f + 1 < k∧(f + 1:Nat) < k∧nv=.int .i64 1∧av=.int .i64 ((f + 1:Nat):Int)∧rr=repR me 9 6 ((f + 1:Nat):Int)))∧Done w [] (ReplyW (.pointer (some a1)) rr) wr) (fun _ _ kv _=>(9 - intOf kv).toNat)
       case atStart=>exact ⟨f + 1,_,by omega,by omega,by first | rfl | (congr 1),.inl ⟨rfl,rfl,rfl,rfl⟩,HS3.out⟩
       case round =>
        clear HS3 HT1
        obtain ⟨k,rr,hfk,hkS,rfl,hst,hs⟩:=hrel
        have HS2:=jzD hs
        clear hs
        rcases hst with ⟨hk0,rfl,rfl,rfl⟩ | ⟨hk0,hkD,rfl,rfl,rfl⟩ | ⟨hk0,hkD,rfl,rfl,rfl⟩
        · have hk1:k≤f + 1:=by omega
          clear hk0
          have t1:decide ((k:Int) < 6)=true:=decide_eq_true (by omega)
          have t1b:decide (k < 6)=true:=decide_eq_true (by omega)
          have e5:IntKind.i64.wrap ((k:Int) + 1)=(k:Int) + 1:=IntWalk.i64_in _ (by omega)
          by_cases hD0:(f + 1:Nat)=k
          · have hDk1:k≤(f + 1:Nat):=by omega
            have hDk2:(f + 1:Nat)≤k:=by omega
            clear hD0
            have hm:=askX_may (asker:=9) (S:=6) (k:=(k:Int)) (by decide) (by decide) (by omega)
            obtain ⟨hu,hs,hh⟩:=rep_begin (me:=me) (d:=draw) (E:=((f + 1:Nat):Int)) hm (by omega) (by rw [← HDD.out];omega)
            rw [show (((f + 1:Nat):Int) == (k:Int))=true by simp;omega] at hs
            have hy:=rep_xid (me:=me) (r:=(ReplyM.new me ⟨#[110]⟩)) rfl rfl hs
            have HU:=jzD hu
            have HSY:=jzD hs
            have HH:=jzD hh
            have HY:Hid ((⟨me,9,(k:Int),6,false,⟨#[110]⟩⟩:XIn)=(ReplyM.new me ⟨#[110]⟩).xid (askX 9 6 (k:Int)) [draw]):=hy
            have HXO:=jzD (askX_ok (asker:=9) (S:=6) (k:=(k:Int)) (by decide) (by decide) (w64 (by omega)))
            have HS3:Hid (Done w [] (Star (ReplyW (.pointer (some a1)) (ReplyM.new me ⟨#[110]⟩)) (CellW wr.heap.size #[.int .u32 draw] 22)) (wr.alloc (.cells #[.int .u32 draw] 22))):=HS2.out.add (ReplyW.stab _ _) (CellW.new wr #[.int .u32 draw] 22)
            clear hm hu hs hh hy
            go_wp2_with (first
             | ((with_reducible refine wpList_storeBD (C:=fun X=>Star (Star (ReplyW (.pointer (some a1)) (repR me 9 6 ((f + 1:Nat):Int))) (CellW wr.heap.size #[.int .u32 draw] 22)) X) (Fr.r ((ReplyW.stab _ _).star cS) Fr.id_) HT4.out rfl 32 (.tmp 14) (.tmp 59) rfl #[.int .u32 me,.int .u32 9,.int .i64 (k:Int),.int .i64 6,.bool false,.string ⟨#[110]⟩] rfl rfl (by kernel_rfl) rfl (by kernel_rfl) ?_);intro w5 hs;have HS5:Hid (Done w [] (Star (Star (ReplyW (.pointer (some a1)) (repR me 9 6 ((f + 1:Nat):Int))) (CellW wr.heap.size #[.int .u32 draw] 22)) (CellW w4.heap.size (yA me 9 (k:Int) 6 false ⟨#[110]⟩) 32)) w5):=(by show Done _ _ _ _;exact hs);clear hs)
             | (go_at_call 39;((with_reducible refine (dR_hear (x:=(askX 9 6 (k:Int))) (y:=(⟨me,9,(k:Int),6,false,⟨#[110]⟩⟩:XIn)) (n:=1) (b:=true) (l:=[draw]) (m' := (repR me 9 6 ((f + 1:Nat):Int))) HXO.out (rdU_one (n:=draw) (Done.at_ (C:=fun X=>Star (ReplyW (.pointer (some a1)) (ReplyM.new me ⟨#[110]⟩)) X) (Fr.r (ReplyW.stab _ _) Fr.id_) HS3.out) HDR.out) (by simp) HY.out HU.out HSY.out HH.out (C:=fun X=>Star (X) (CellW wr.heap.size #[.int .u32 draw] 22)) (Fr.l Fr.id_ cS) HS3.out).mono ?_);rintro e w4 ⟨rfl,hs⟩;have HS4:Hid (Done w [] (Star (ReplyW (.pointer (some a1)) (repR me 9 6 ((f + 1:Nat):Int))) (CellW wr.heap.size #[.int .u32 draw] 22)) w4):=(by show Done _ _ _ _;exact hs);clear hs;have HT4:Hid (Done w [] (Star (Star (ReplyW (.pointer (some a1)) (repR me 9 6 ((f + 1:Nat):Int))) (CellW wr.heap.size #[.int .u32 draw] 22)) (CellW w4.heap.size (yA 0 0 0 0 false ⟨#[]⟩) 32)) (w4.alloc (.cells (yA 0 0 0 0 false ⟨#[]⟩) 32))):=HS4.out.add ((ReplyW.stab _ _).star cS) (CellW.new w4 #[.int .u32 0,.int .u32 0,.int .i64 0,.int .i64 0,.bool false,.string ⟨#[]⟩] 32))))
            go_roundw
            case rel=>exact ⟨k + 1,_,by omega,by omega,by go_num,.inr (.inr ⟨by omega,by omega,by simp,by first | rfl | (congr 1;omega) | (simp;omega),rfl⟩),HS5.out.drop.drop⟩
            case measure=>simp [intOf] <;> omega
          · skip
            exfalso
            omega
        · have t1:decide ((k:Int) < 6)=true:=decide_eq_true (by omega)
          have t1b:decide (k < 6)=true:=decide_eq_true (by omega)
          have e5:IntKind.i64.wrap ((k:Int) + 1)=(k:Int) + 1:=IntWalk.i64_in _ (by omega)
          by_cases hDk:k=(f + 1:Nat)
          · have hDk1:k≤(f + 1:Nat):=by omega
            have hDk2:(f + 1:Nat)≤k:=by omega
            clear hDk
            exfalso
            omega
          · skip
            exfalso
            omega
        · by_cases hks:k < 6
          · have t1:decide ((k:Int) < 6)=true:=decide_eq_true (by omega)
            have t1b:decide (k < 6)=true:=decide_eq_true hks
            have e5:IntKind.i64.wrap ((k:Int) + 1)=(k:Int) + 1:=IntWalk.i64_in _ (by omega)
            have hm:=askX_may (asker:=9) (S:=6) (k:=(k:Int)) (by decide) (by decide) (by omega)
            obtain ⟨hu,hs,hh⟩:=rep_next (me:=me) (d:=draw) (D:=((f + 1:Nat):Int)) hm (by omega)
            rw [show (((f + 1:Nat):Int) == (k:Int))=false by simp;omega] at hs
            have hy:=rep_xid (me:=me) (r:=(repR me 9 6 ((f + 1:Nat):Int))) rfl rfl hs
            have HU:=jzD hu
            have HSY:=jzD hs
            have HH:=jzD hh
            have HY:Hid (ReplyM.xz=(repR me 9 6 ((f + 1:Nat):Int)).xid (askX 9 6 (k:Int)) [draw]):=hy
            have HXO:=jzD (askX_ok (asker:=9) (S:=6) (k:=(k:Int)) (by decide) (by decide) (w64 (by omega)))
            have HS3:Hid (Done w [] (Star (ReplyW (.pointer (some a1)) (repR me 9 6 ((f + 1:Nat):Int))) (CellW wr.heap.size #[.int .u32 draw] 22)) (wr.alloc (.cells #[.int .u32 draw] 22))):=HS2.out.add (ReplyW.stab _ _) (CellW.new wr #[.int .u32 draw] 22)
            clear hm hu hs hh hy
            go_wp2_with (first
             | ((with_reducible refine wpList_storeBD (C:=fun X=>Star (Star (ReplyW (.pointer (some a1)) (repR me 9 6 ((f + 1:Nat):Int))) (CellW wr.heap.size #[.int .u32 draw] 22)) X) (Fr.r ((ReplyW.stab _ _).star cS) Fr.id_) HT4.out rfl 32 (.tmp 14) (.tmp 59) rfl #[.int .u32 0,.int .u32 0,.int .i64 0,.int .i64 0,.bool false,.string ⟨#[]⟩] rfl rfl (by kernel_rfl) rfl (by kernel_rfl) ?_);intro w5 hs;have HS5:Hid (Done w [] (Star (Star (ReplyW (.pointer (some a1)) (repR me 9 6 ((f + 1:Nat):Int))) (CellW wr.heap.size #[.int .u32 draw] 22)) (CellW w4.heap.size (yA 0 0 0 0 false ⟨#[]⟩) 32)) w5):=(by show Done _ _ _ _;exact hs);clear hs)
             | (go_at_call 39;((with_reducible refine (dR_hear (x:=(askX 9 6 (k:Int))) (y:=ReplyM.xz) (n:=0) (b:=false) (l:=[draw]) (m' := (repR me 9 6 ((f + 1:Nat):Int))) HXO.out (rdU_one (n:=draw) (Done.at_ (C:=fun X=>Star (ReplyW (.pointer (some a1)) (repR me 9 6 ((f + 1:Nat):Int))) X) (Fr.r (ReplyW.stab _ _) Fr.id_) HS3.out) HDR.out) (by simp) HY.out HU.out HSY.out HH.out (C:=fun X=>Star (X) (CellW wr.heap.size #[.int .u32 draw] 22)) (Fr.l Fr.id_ cS) HS3.out).mono ?_);rintro e w4 ⟨rfl,hs⟩;have HS4:Hid (Done w [] (Star (ReplyW (.pointer (some a1)) (repR me 9 6 ((f + 1:Nat):Int))) (CellW wr.heap.size #[.int .u32 draw] 22)) w4):=(by show Done _ _ _ _;exact hs);clear hs;have HT4:Hid (Done w [] (Star (Star (ReplyW (.pointer (some a1)) (repR me 9 6 ((f + 1:Nat):Int))) (CellW wr.heap.size #[.int .u32 draw] 22)) (CellW w4.heap.size (yA 0 0 0 0 false ⟨#[]⟩) 32)) (w4.alloc (.cells (yA 0 0 0 0 false ⟨#[]⟩) 32))):=HS4.out.add ((ReplyW.stab _ _).star cS) (CellW.new w4 #[.int .u32 0,.int .u32 0,.int .i64 0,.int .i64 0,.bool false,.string ⟨#[]⟩] 32))))
            go_roundw
            case rel=>exact ⟨k + 1,_,by omega,by omega,by go_num,.inr (.inr ⟨by omega,by omega,rfl,rfl,rfl⟩),HS5.out.drop.drop⟩
            case measure=>simp [intOf] <;> omega
          · have t1:decide ((k:Int) < 6)=false:=decide_eq_false (by omega)
            have t1b:decide (k < 6)=false:=decide_eq_false hks
            go_wp2
            go_ret
            exact ⟨by first | rfl | (simp;try omega),HS2.out.bel⟩
   · have z0:((1:Nat):Int)=1:=rfl
     rw [z0] at h_q e3_q e4_q
     have a1_f:=Int.lt_tmod_of_pos from_ (show (0:Int) < 7 by decide)
     have a2_f:=Int.tmod_lt_of_pos from_ (show (0:Int) < 7 by decide)
     obtain ⟨t_f,ht_f⟩:∃ t,from_.tmod 7=t:=⟨_,rfl⟩
     rw [ht_f] at a1_f a2_f
     have e1_f:IntKind.i64.wrap t_f=t_f:=IntWalk.i64_in _ (by omega)
     have e2_f:IntKind.i64.wrap (t_f + 8)=t_f + 8:=IntWalk.i64_in _ (by omega)
     have e2b_f:IntKind.i64.wrap (t_f + 8 - 1)=t_f + 7:=by rw [show t_f + 8 - 1=t_f + 7 by omega];exact IntWalk.i64_in _ (by omega)
     have e2c_f:IntKind.i64.wrap (t_f + 7)=t_f + 7:=IntWalk.i64_in _ (by omega)
     obtain ⟨f,h_f⟩:∃ q:Nat,t_f % 7=(q:Int):=⟨(t_f % 7).toNat,by omega⟩
     have e3_f:(t_f + 7).tmod 7=(f:Int):=by rw [Int.tmod_eq_emod_of_nonneg (by omega)];omega
     have e4_f:IntKind.i64.wrap (f:Int)=(f:Int):=IntWalk.i64_in _ (by omega)
     have b_f:f < 7:=by omega
     have e5_f:IntKind.i64.wrap (1 + (f:Int))=((f + 1:Nat):Int):=by rw [show (1 + (f:Int))=((f + 1:Nat):Int) by omega];exact IntWalk.i64_in _ (by omega)
     clear a1_f a2_f h_f
     obtain ⟨D,hD⟩:∃ D:Nat,draw % 8=(D:Int):=⟨(draw % 8).toNat,by omega⟩
     have hDS:D < 8:=by omega
     have HDD:Hid ((D:Int)=draw % 8):=hD.symm
     have m1:draw.tmod 8=(D:Int):=by rw [Int.tmod_eq_emod_of_nonneg HDR.out.1];exact hD
     clear hD
     by_cases hfD:f + 1 < D
     · have g1:decide (((f + 1:Nat):Int) < (D:Int))=true:=decide_eq_true (by omega)
       have g2:decide (f + 1 < D)=true:=decide_eq_true (by omega)
       have g3:((f + 1:Nat):Int) < (D:Int):=by omega
       go_enter Tryz.func12,Tryz.ntmps12
       go_wp2_with (first
        | (go_at_call 18;((with_reducible refine (dcalls_keep Emp.stab (Done.emp w) (begun16_any _ HC.out)).mono ?_);rintro e w1 ⟨rfl,hs⟩;have HT1:Hid (Done w [] (Star Emp (CellW w1.heap.size #[.int .i64 6,.int .i64 8] 3)) (w1.alloc (.cells #[.int .i64 6,.int .i64 8] 3))):=hs.add Emp.stab (CellW.new w1 #[.int .i64 6,.int .i64 8] 3);clear hs))
        | (go_at_call 36;((with_reducible refine (dR_new HME.out (by decide) HMN.out (Emp.stab.star cS) HT1.out).mono ?_);rintro e w3 ⟨a1,rfl,hs⟩;have HS3:Hid (Done w [] (ReplyW (.pointer (some a1)) (ReplyM.new me ⟨#[110]⟩)) w3):=(by show Done _ _ _ _;exact hs.drop_mid.unemp);clear hs)))
       go_loopw [11,12,13] (fun nv av kv wr=>∃ (k:Nat) (rr:ReplyM),f + 1≤k∧k≤8∧kv=.int .i64 (k:Int)∧((k=f + 1∧nv=.int .i64 0∧av=.int .i64 (-1)∧rr=ReplyM.new me ⟨#[110]⟩) ∨ (f + 1 < k∧k≤D∧nv=.int .i64 0∧av=.int .i64 (-1)∧rr=repR me 9 8 (D:Int)) ∨ (f + 1 < k∧D < k∧nv=.int .i64 1∧av=.int .i64 (D:Int)∧rr=repR me 9 8 (D:Int)))∧Done w [] (ReplyW (.pointer (some a1)) rr) wr) (fun _ _ kv _=>(9 - intOf kv).toNat)
       case atStart=>exact ⟨f + 1,_,by omega,by omega,by first | rfl | (congr 1),.inl ⟨rfl,rfl,rfl,rfl⟩,HS3.out⟩
       case round =>
        clear HS3 HT1
        obtain ⟨k,rr,hfk,hkS,rfl,hst,hs⟩:=hrel
        have HS2:=jzD hs
        clear hs
        rcases hst with ⟨hk0,rfl,rfl,rfl⟩ | ⟨hk0,hkD,rfl,rfl,rfl⟩ | ⟨hk0,hkD,rfl,rfl,rfl⟩
        · have hk1:k≤f + 1:=by omega
          clear hk0
          have t1:decide ((k:Int) < 8)=true:=decide_eq_true (by omega)
          have t1b:decide (k < 8)=true:=decide_eq_true (by omega)
          have e5:IntKind.i64.wrap ((k:Int) + 1)=(k:Int) + 1:=IntWalk.i64_in _ (by omega)
          by_cases hD0:D=k
          · have hDk1:k≤D:=by omega
            have hDk2:D≤k:=by omega
            clear hD0
            exfalso
            omega
          · skip
            have hm:=askX_may (asker:=9) (S:=8) (k:=(k:Int)) (by decide) (by decide) (by omega)
            obtain ⟨hu,hs,hh⟩:=rep_begin (me:=me) (d:=draw) (E:=(D:Int)) hm (by omega) (by rw [← HDD.out];omega)
            rw [show ((D:Int) == (k:Int))=false by simp;omega] at hs
            have hy:=rep_xid (me:=me) (r:=(ReplyM.new me ⟨#[110]⟩)) rfl rfl hs
            have HU:=jzD hu
            have HSY:=jzD hs
            have HH:=jzD hh
            have HY:Hid (ReplyM.xz=(ReplyM.new me ⟨#[110]⟩).xid (askX 9 8 (k:Int)) [draw]):=hy
            have HXO:=jzD (askX_ok (asker:=9) (S:=8) (k:=(k:Int)) (by decide) (by decide) (w64 (by omega)))
            have HS3:Hid (Done w [] (Star (ReplyW (.pointer (some a1)) (ReplyM.new me ⟨#[110]⟩)) (CellW wr.heap.size #[.int .u32 draw] 22)) (wr.alloc (.cells #[.int .u32 draw] 22))):=HS2.out.add (ReplyW.stab _ _) (CellW.new wr #[.int .u32 draw] 22)
            clear hm hu hs hh hy
            go_wp2_with (first
             | ((with_reducible refine wpList_storeBD (C:=fun X=>Star (Star (ReplyW (.pointer (some a1)) (repR me 9 8 (D:Int))) (CellW wr.heap.size #[.int .u32 draw] 22)) X) (Fr.r ((ReplyW.stab _ _).star cS) Fr.id_) HT4.out rfl 32 (.tmp 14) (.tmp 59) rfl #[.int .u32 0,.int .u32 0,.int .i64 0,.int .i64 0,.bool false,.string ⟨#[]⟩] rfl rfl (by kernel_rfl) rfl (by kernel_rfl) ?_);intro w5 hs;have HS5:Hid (Done w [] (Star (Star (ReplyW (.pointer (some a1)) (repR me 9 8 (D:Int))) (CellW wr.heap.size #[.int .u32 draw] 22)) (CellW w4.heap.size (yA 0 0 0 0 false ⟨#[]⟩) 32)) w5):=(by show Done _ _ _ _;exact hs);clear hs)
             | (go_at_call 39;((with_reducible refine (dR_hear (x:=(askX 9 8 (k:Int))) (y:=ReplyM.xz) (n:=1) (b:=false) (l:=[draw]) (m' := (repR me 9 8 (D:Int))) HXO.out (rdU_one (n:=draw) (Done.at_ (C:=fun X=>Star (ReplyW (.pointer (some a1)) (ReplyM.new me ⟨#[110]⟩)) X) (Fr.r (ReplyW.stab _ _) Fr.id_) HS3.out) HDR.out) (by simp) HY.out HU.out HSY.out HH.out (C:=fun X=>Star (X) (CellW wr.heap.size #[.int .u32 draw] 22)) (Fr.l Fr.id_ cS) HS3.out).mono ?_);rintro e w4 ⟨rfl,hs⟩;have HS4:Hid (Done w [] (Star (ReplyW (.pointer (some a1)) (repR me 9 8 (D:Int))) (CellW wr.heap.size #[.int .u32 draw] 22)) w4):=(by show Done _ _ _ _;exact hs);clear hs;have HT4:Hid (Done w [] (Star (Star (ReplyW (.pointer (some a1)) (repR me 9 8 (D:Int))) (CellW wr.heap.size #[.int .u32 draw] 22)) (CellW w4.heap.size (yA 0 0 0 0 false ⟨#[]⟩) 32)) (w4.alloc (.cells (yA 0 0 0 0 false ⟨#[]⟩) 32))):=HS4.out.add ((ReplyW.stab _ _).star cS) (CellW.new w4 #[.int .u32 0,.int .u32 0,.int .i64 0,.int .i64 0,.bool false,.string ⟨#[]⟩] 32))))
            go_roundw
            case rel=>exact ⟨k + 1,_,by omega,by omega,by go_num,.inr (.inl ⟨by omega,by omega,rfl,rfl,rfl⟩),HS5.out.drop.drop⟩
            case measure=>simp [intOf] <;> omega
        · have t1:decide ((k:Int) < 8)=true:=decide_eq_true (by omega)
          have t1b:decide (k < 8)=true:=decide_eq_true (by omega)
          have e5:IntKind.i64.wrap ((k:Int) + 1)=(k:Int) + 1:=IntWalk.i64_in _ (by omega)
          by_cases hDk:k=D
          · have hDk1:k≤D:=by omega
            have hDk2:D≤k:=by omega
            clear hDk
            have hm:=askX_may (asker:=9) (S:=8) (k:=(k:Int)) (by decide) (by decide) (by omega)
            obtain ⟨hu,hs,hh⟩:=rep_next (me:=me) (d:=draw) (D:=(D:Int)) hm (by omega)
            rw [show ((D:Int) == (k:Int))=true by simp;omega] at hs
            have hy:=rep_xid (me:=me) (r:=(repR me 9 8 (D:Int))) rfl rfl hs
            have HU:=jzD hu
            have HSY:=jzD hs
            have HH:=jzD hh
            have HY:Hid ((⟨me,9,(k:Int),8,false,⟨#[110]⟩⟩:XIn)=(repR me 9 8 (D:Int)).xid (askX 9 8 (k:Int)) [draw]):=hy
            have HXO:=jzD (askX_ok (asker:=9) (S:=8) (k:=(k:Int)) (by decide) (by decide) (w64 (by omega)))
            have HS3:Hid (Done w [] (Star (ReplyW (.pointer (some a1)) (repR me 9 8 (D:Int))) (CellW wr.heap.size #[.int .u32 draw] 22)) (wr.alloc (.cells #[.int .u32 draw] 22))):=HS2.out.add (ReplyW.stab _ _) (CellW.new wr #[.int .u32 draw] 22)
            clear hm hu hs hh hy
            go_wp2_with (first
             | ((with_reducible refine wpList_storeBD (C:=fun X=>Star (Star (ReplyW (.pointer (some a1)) (repR me 9 8 (D:Int))) (CellW wr.heap.size #[.int .u32 draw] 22)) X) (Fr.r ((ReplyW.stab _ _).star cS) Fr.id_) HT4.out rfl 32 (.tmp 14) (.tmp 59) rfl #[.int .u32 me,.int .u32 9,.int .i64 (k:Int),.int .i64 8,.bool false,.string ⟨#[110]⟩] rfl rfl (by kernel_rfl) rfl (by kernel_rfl) ?_);intro w5 hs;have HS5:Hid (Done w [] (Star (Star (ReplyW (.pointer (some a1)) (repR me 9 8 (D:Int))) (CellW wr.heap.size #[.int .u32 draw] 22)) (CellW w4.heap.size (yA me 9 (k:Int) 8 false ⟨#[110]⟩) 32)) w5):=(by show Done _ _ _ _;exact hs);clear hs)
             | (go_at_call 39;((with_reducible refine (dR_hear (x:=(askX 9 8 (k:Int))) (y:=(⟨me,9,(k:Int),8,false,⟨#[110]⟩⟩:XIn)) (n:=0) (b:=true) (l:=[draw]) (m' := (repR me 9 8 (D:Int))) HXO.out (rdU_one (n:=draw) (Done.at_ (C:=fun X=>Star (ReplyW (.pointer (some a1)) (repR me 9 8 (D:Int))) X) (Fr.r (ReplyW.stab _ _) Fr.id_) HS3.out) HDR.out) (by simp) HY.out HU.out HSY.out HH.out (C:=fun X=>Star (X) (CellW wr.heap.size #[.int .u32 draw] 22)) (Fr.l Fr.id_ cS) HS3.out).mono ?_);rintro e w4 ⟨rfl,hs⟩;have HS4:Hid (Done w [] (Star (ReplyW (.pointer (some a1)) (repR me 9 8 (D:Int))) (CellW wr.heap.size #[.int .u32 draw] 22)) w4):=(by show Done _ _ _ _;exact hs);clear hs;have HT4:Hid (Done w [] (Star (Star (ReplyW (.pointer (some a1)) (repR me 9 8 (D:Int))) (CellW wr.heap.size #[.int .u32 draw] 22)) (CellW w4.heap.size (yA 0 0 0 0 false ⟨#[]⟩) 32)) (w4.alloc (.cells (yA 0 0 0 0 false ⟨#[]⟩) 32))):=HS4.out.add ((ReplyW.stab _ _).star cS) (CellW.new w4 #[.int .u32 0,.int .u32 0,.int .i64 0,.int .i64 0,.bool false,.string ⟨#[]⟩] 32))))
            go_roundw
            case rel=>exact ⟨k + 1,_,by omega,by omega,by go_num,.inr (.inr ⟨by omega,by omega,by simp,by first | rfl | (congr 1;omega) | (simp;omega),rfl⟩),HS5.out.drop.drop⟩
            case measure=>simp [intOf] <;> omega
          · skip
            have hm:=askX_may (asker:=9) (S:=8) (k:=(k:Int)) (by decide) (by decide) (by omega)
            obtain ⟨hu,hs,hh⟩:=rep_next (me:=me) (d:=draw) (D:=(D:Int)) hm (by omega)
            rw [show ((D:Int) == (k:Int))=false by simp;omega] at hs
            have hy:=rep_xid (me:=me) (r:=(repR me 9 8 (D:Int))) rfl rfl hs
            have HU:=jzD hu
            have HSY:=jzD hs
            have HH:=jzD hh
            have HY:Hid (ReplyM.xz=(repR me 9 8 (D:Int)).xid (askX 9 8 (k:Int)) [draw]):=hy
            have HXO:=jzD (askX_ok (asker:=9) (S:=8) (k:=(k:Int)) (by decide) (by decide) (w64 (by omega)))
            have HS3:Hid (Done w [] (Star (ReplyW (.pointer (some a1)) (repR me 9 8 (D:Int))) (CellW wr.heap.size #[.int .u32 draw] 22)) (wr.alloc (.cells #[.int .u32 draw] 22))):=HS2.out.add (ReplyW.stab _ _) (CellW.new wr #[.int .u32 draw] 22)
            clear hm hu hs hh hy
            go_wp2_with (first
             | ((with_reducible refine wpList_storeBD (C:=fun X=>Star (Star (ReplyW (.pointer (some a1)) (repR me 9 8 (D:Int))) (CellW wr.heap.size #[.int .u32 draw] 22)) X) (Fr.r ((ReplyW.stab _ _).star cS) Fr.id_) HT4.out rfl 32 (.tmp 14) (.tmp 59) rfl #[.int .u32 0,.int .u32 0,.int .i64 0,.int .i64 0,.bool false,.string ⟨#[]⟩] rfl rfl (by kernel_rfl) rfl (by kernel_rfl) ?_);intro w5 hs;have HS5:Hid (Done w [] (Star (Star (ReplyW (.pointer (some a1)) (repR me 9 8 (D:Int))) (CellW wr.heap.size #[.int .u32 draw] 22)) (CellW w4.heap.size (yA 0 0 0 0 false ⟨#[]⟩) 32)) w5):=(by show Done _ _ _ _;exact hs);clear hs)
             | (go_at_call 39;((with_reducible refine (dR_hear (x:=(askX 9 8 (k:Int))) (y:=ReplyM.xz) (n:=0) (b:=false) (l:=[draw]) (m' := (repR me 9 8 (D:Int))) HXO.out (rdU_one (n:=draw) (Done.at_ (C:=fun X=>Star (ReplyW (.pointer (some a1)) (repR me 9 8 (D:Int))) X) (Fr.r (ReplyW.stab _ _) Fr.id_) HS3.out) HDR.out) (by simp) HY.out HU.out HSY.out HH.out (C:=fun X=>Star (X) (CellW wr.heap.size #[.int .u32 draw] 22)) (Fr.l Fr.id_ cS) HS3.out).mono ?_);rintro e w4 ⟨rfl,hs⟩;have HS4:Hid (Done w [] (Star (ReplyW (.pointer (some a1)) (repR me 9 8 (D:Int))) (CellW wr.heap.size #[.int .u32 draw] 22)) w4):=(by show Done _ _ _ _;exact hs);clear hs;have HT4:Hid (Done w [] (Star (Star (ReplyW (.pointer (some a1)) (repR me 9 8 (D:Int))) (CellW wr.heap.size #[.int .u32 draw] 22)) (CellW w4.heap.size (yA 0 0 0 0 false ⟨#[]⟩) 32)) (w4.alloc (.cells (yA 0 0 0 0 false ⟨#[]⟩) 32))):=HS4.out.add ((ReplyW.stab _ _).star cS) (CellW.new w4 #[.int .u32 0,.int .u32 0,.int .i64 0,.int .i64 0,.bool false,.string ⟨#[]⟩] 32))))
            go_roundw
            case rel=>exact ⟨k + 1,_,by omega,by omega,by go_num,.inr (.inl ⟨by omega,by omega,rfl,rfl,rfl⟩),HS5.out.drop.drop⟩
            case measure=>simp [intOf] <;> omega
        · by_cases hks:k < 8
          · have t1:decide ((k:Int) < 8)=true:=decide_eq_true (by omega)
            have t1b:decide (k < 8)=true:=decide_eq_true hks
            have e5:IntKind.i64.wrap ((k:Int) + 1)=(k:Int) + 1:=IntWalk.i64_in _ (by omega)
            have hm:=askX_may (asker:=9) (S:=8) (k:=(k:Int)) (by decide) (by decide) (by omega)
            obtain ⟨hu,hs,hh⟩:=rep_next (me:=me) (d:=draw) (D:=(D:Int)) hm (by omega)
            rw [show ((D:Int) == (k:Int))=false by simp;omega] at hs
            have hy:=rep_xid (me:=me) (r:=(repR me 9 8 (D:Int))) rfl rfl hs
            have HU:=jzD hu
            have HSY:=jzD hs
            have HH:=jzD hh
            have HY:Hid (ReplyM.xz=(repR me 9 8 (D:Int)).xid (askX 9 8 (k:Int)) [draw]):=hy
            have HXO:=jzD (askX_ok (asker:=9) (S:=8) (k:=(k:Int)) (by decide) (by decide) (w64 (by omega)))
            have HS3:Hid (Done w [] (Star (ReplyW (.pointer (some a1)) (repR me 9 8 (D:Int))) (CellW wr.heap.size #[.int .u32 draw] 22)) (wr.alloc (.cells #[.int .u32 draw] 22))):=HS2.out.add (ReplyW.stab _ _) (CellW.new wr #[.int .u32 draw] 22)
            clear hm hu hs hh hy
            go_wp2_with (first
             | ((with_reducible refine wpList_storeBD (C:=fun X=>Star (Star (ReplyW (.pointer (some a1)) (repR me 9 8 (D:Int))) (CellW wr.heap.size #[.int .u32 draw] 22)) X) (Fr.r ((ReplyW.stab _ _).star cS) Fr.id_) HT4.out rfl 32 (.tmp 14) (.tmp 59) rfl #[.int .u32 0,.int .u32 0,.int .i64 0,.int .i64 0,.bool false,.string ⟨#[]⟩] rfl rfl (by kernel_rfl) rfl (by kernel_rfl) ?_);intro w5 hs;have HS5:Hid (Done w [] (Star (Star (ReplyW (.pointer (some a1)) (repR me 9 8 (D:Int))) (CellW wr.heap.size #[.int .u32 draw] 22)) (CellW w4.heap.size (yA 0 0 0 0 false ⟨#[]⟩) 32)) w5):=(by show Done _ _ _ _;exact hs);clear hs)
             | (go_at_call 39;((with_reducible refine (dR_hear (x:=(askX 9 8 (k:Int))) (y:=ReplyM.xz) (n:=0) (b:=false) (l:=[draw]) (m' := (repR me 9 8 (D:Int))) HXO.out (rdU_one (n:=draw) (Done.at_ (C:=fun X=>Star (ReplyW (.pointer (some a1)) (repR me 9 8 (D:Int))) X) (Fr.r (ReplyW.stab _ _) Fr.id_) HS3.out) HDR.out) (by simp) HY.out HU.out HSY.out HH.out (C:=fun X=>Star (X) (CellW wr.heap.size #[.int .u32 draw] 22)) (Fr.l Fr.id_ cS) HS3.out).mono ?_);rintro e w4 ⟨rfl,hs⟩;have HS4:Hid (Done w [] (Star (ReplyW (.pointer (some a1)) (repR me 9 8 (D:Int))) (CellW wr.heap.size #[.int .u32 draw] 22)) w4):=(by show Done _ _ _ _;exact hs);clear hs;have HT4:Hid (Done w [] (Star (Star (ReplyW (.pointer (some a1)) (repR me 9 8 (D:Int))) (CellW wr.heap.size #[.int .u32 draw] 22)) (CellW w4.heap.size (yA 0 0 0 0 false ⟨#[]⟩) 32)) (w4.alloc (.cells (yA 0 0 0 0 false ⟨#[]⟩) 32))):=HS4.out.add ((ReplyW.stab _ _).star cS) (CellW.new w4 #[.int .u32 0,.int .u32 0,.int .i64 0,.int .i64 0,.bool false,.string ⟨#[]⟩] 32))))
            go_roundw
            case rel=>exact ⟨k + 1,_,by omega,by omega,by go_num,.inr (.inr ⟨by omega,by omega,rfl,rfl,rfl⟩),HS5.out.drop.drop⟩
            case measure=>simp [intOf] <;> omega
          · have t1:decide ((k:Int) < 8)=false:=decide_eq_false (by omega)
            have t1b:decide (k < 8)=false:=decide_eq_false hks
            go_wp2
            go_ret
            exact ⟨by first | rfl | (simp;try omega),HS2.out.bel⟩
     · have g1:decide (((f + 1:Nat):Int) < (D:Int))=false:=decide_eq_false (by omega)
       have g2:decide (f + 1 < D)=false:=decide_eq_false (by omega)
       have g3:¬ ((f + 1:Nat):Int) < (D:Int):=by omega
       go_enter Tryz.func12,Tryz.ntmps12
       go_wp2_with (first
        | (go_at_call 18;((with_reducible refine (dcalls_keep Emp.stab (Done.emp w) (begun16_any _ HC.out)).mono ?_);rintro e w1 ⟨rfl,hs⟩;have HT1:Hid (Done w [] (Star Emp (CellW w1.heap.size #[.int .i64 6,.int .i64 8] 3)) (w1.alloc (.cells #[.int .i64 6,.int .i64 8] 3))):=hs.add Emp.stab (CellW.new w1 #[.int .i64 6,.int .i64 8] 3);clear hs))
        | (go_at_call 36;((with_reducible refine (dR_new HME.out (by decide) HMN.out (Emp.stab.star cS) HT1.out).mono ?_);rintro e w3 ⟨a1,rfl,hs⟩;have HS3:Hid (Done w [] (ReplyW (.pointer (some a1)) (ReplyM.new me ⟨#[110]⟩)) w3):=(by show Done _ _ _ _;exact hs.drop_mid.unemp);clear hs)))
       go_loopw [11,12,13] (fun nv av kv wr=>∃ (k:Nat) (rr:ReplyM),f + 1≤k∧k≤8∧kv=.int .i64 (k:Int)∧((k=f + 1∧nv=.int .i64 0∧av=.int .i64 (-1)∧rr=ReplyM.new me ⟨#[110]⟩) ∨ (f + 1 < k∧k≤(f + 1:Nat)∧nv=.int .i64 0∧av=.int .i64 (-1)∧rr=repR me 9 8 ((f + 1:Nat):Int)) ∨ (f + 1 < k∧(f + 1:Nat) < k∧nv=.int .i64 1∧av=.int .i64 ((f + 1:Nat):Int)∧rr=repR me 9 8 ((f + 1:Nat):Int)))∧Done w [] (ReplyW (.pointer (some a1)) rr) wr) (fun _ _ kv _=>(9 - intOf kv).toNat)
       case atStart=>exact ⟨f + 1,_,by omega,by omega,by first | rfl | (congr 1),.inl ⟨rfl,rfl,rfl,rfl⟩,HS3.out⟩
       case round =>
        clear HS3 HT1
        obtain ⟨k,rr,hfk,hkS,rfl,hst,hs⟩:=hrel
        have HS2:=jzD hs
        clear hs
        rcases hst with ⟨hk0,rfl,rfl,rfl⟩ | ⟨hk0,hkD,rfl,rfl,rfl⟩ | ⟨hk0,hkD,rfl,rfl,rfl⟩
        · have hk1:k≤f + 1:=by omega
          clear hk0
          have t1:decide ((k:Int) < 8)=true:=decide_eq_true (by omega)
          have t1b:decide (k < 8)=true:=decide_eq_true (by omega)
          have e5:IntKind.i64.wrap ((k:Int) + 1)=(k:Int) + 1:=IntWalk.i64_in _ (by omega)
          by_cases hD0:(f + 1:Nat)=k
          · have hDk1:k≤(f + 1:Nat):=by omega
            have hDk2:(f + 1:Nat)≤k:=by omega
            clear hD0
            have hm:=askX_may (asker:=9) (S:=8) (k:=(k:Int)) (by decide) (by decide) (by omega)
            obtain ⟨hu,hs,hh⟩:=rep_begin (me:=me) (d:=draw) (E:=((f + 1:Nat):Int)) hm (by omega) (by rw [← HDD.out];omega)
            rw [show (((f + 1:Nat):Int) == (k:Int))=true by simp;omega] at hs
            have hy:=rep_xid (me:=me) (r:=(ReplyM.new me ⟨#[110]⟩)) rfl rfl hs
            have HU:=jzD hu
            have HSY:=jzD hs
            have HH:=jzD hh
            have HY:Hid ((⟨me,9,(k:Int),8,false,⟨#[110]⟩⟩:XIn)=(ReplyM.new me ⟨#[110]⟩).xid (askX 9 8 (k:Int)) [draw]):=hy
            have HXO:=jzD (askX_ok (asker:=9) (S:=8) (k:=(k:Int)) (by decide) (by decide) (w64 (by omega)))
            have HS3:Hid (Done w [] (Star (ReplyW (.pointer (some a1)) (ReplyM.new me ⟨#[110]⟩)) (CellW wr.heap.size #[.int .u32 draw] 22)) (wr.alloc (.cells #[.int .u32 draw] 22))):=HS2.out.add (ReplyW.stab _ _) (CellW.new wr #[.int .u32 draw] 22)
            clear hm hu hs hh hy
            go_wp2_with (first
             | ((with_reducible refine wpList_storeBD (C:=fun X=>Star (Star (ReplyW (.pointer (some a1)) (repR me 9 8 ((f + 1:Nat):Int))) (CellW wr.heap.size #[.int .u32 draw] 22)) X) (Fr.r ((ReplyW.stab _ _).star cS) Fr.id_) HT4.out rfl 32 (.tmp 14) (.tmp 59) rfl #[.int .u32 me,.int .u32 9,.int .i64 (k:Int),.int .i64 8,.bool false,.string ⟨#[110]⟩] rfl rfl (by kernel_rfl) rfl (by kernel_rfl) ?_);intro w5 hs;have HS5:Hid (Done w [] (Star (Star (ReplyW (.pointer (some a1)) (repR me 9 8 ((f + 1:Nat):Int))) (CellW wr.heap.size #[.int .u32 draw] 22)) (CellW w4.heap.size (yA me 9 (k:Int) 8 false ⟨#[110]⟩) 32)) w5):=(by show Done _ _ _ _;exact hs);clear hs)
             | (go_at_call 39;((with_reducible refine (dR_hear (x:=(askX 9 8 (k:Int))) (y:=(⟨me,9,(k:Int),8,false,⟨#[110]⟩⟩:XIn)) (n:=1) (b:=true) (l:=[draw]) (m' := (repR me 9 8 ((f + 1:Nat):Int))) HXO.out (rdU_one (n:=draw) (Done.at_ (C:=fun X=>Star (ReplyW (.pointer (some a1)) (ReplyM.new me ⟨#[110]⟩)) X) (Fr.r (ReplyW.stab _ _) Fr.id_) HS3.out) HDR.out) (by simp) HY.out HU.out HSY.out HH.out (C:=fun X=>Star (X) (CellW wr.heap.size #[.int .u32 draw] 22)) (Fr.l Fr.id_ cS) HS3.out).mono ?_);rintro e w4 ⟨rfl,hs⟩;have HS4:Hid (Done w [] (Star (ReplyW (.pointer (some a1)) (repR me 9 8 ((f + 1:Nat):Int))) (CellW wr.heap.size #[.int .u32 draw] 22)) w4):=(by show Done _ _ _ _;exact hs);clear hs;have HT4:Hid (Done w [] (Star (Star (ReplyW (.pointer (some a1)) (repR me 9 8 ((f + 1:Nat):Int))) (CellW wr.heap.size #[.int .u32 draw] 22)) (CellW w4.heap.size (yA 0 0 0 0 false ⟨#[]⟩) 32)) (w4.alloc (.cells (yA 0 0 0 0 false ⟨#[]⟩) 32))):=HS4.out.add ((ReplyW.stab _ _).star cS) (CellW.new w4 #[.int .u32 0,.int .u32 0,.int .i64 0,.int .i64 0,.bool false,.string ⟨#[]⟩] 32))))
            go_roundw
            case rel=>exact ⟨k + 1,_,by omega,by omega,by go_num,.inr (.inr ⟨by omega,by omega,by simp,by first | rfl | (congr 1;omega) | (simp;omega),rfl⟩),HS5.out.drop.drop⟩
            case measure=>simp [intOf] <;> omega
          · skip
            exfalso
            omega
        · have t1:decide ((k:Int) < 8)=true:=decide_eq_true (by omega)
          have t1b:decide (k < 8)=true:=decide_eq_true (by omega)
          have e5:IntKind.i64.wrap ((k:Int) + 1)=(k:Int) + 1:=IntWalk.i64_in _ (by omega)
          by_cases hDk:k=(f + 1:Nat)
          · have hDk1:k≤(f + 1:Nat):=by omega
            have hDk2:(f + 1:Nat)≤k:=by omega
            clear hDk
            exfalso
            omega
          · skip
            exfalso
            omega
        · by_cases hks:k < 8
          · have t1:decide ((k:Int) < 8)=true:=decide_eq_true (by omega)
            have t1b:decide (k < 8)=true:=decide_eq_true hks
            have e5:IntKind.i64.wrap ((k:Int) + 1)=(k:Int) + 1:=IntWalk.i64_in _ (by omega)
            have hm:=askX_may (asker:=9) (S:=8) (k:=(k:Int)) (by decide) (by decide) (by omega)
            obtain ⟨hu,hs,hh⟩:=rep_next (me:=me) (d:=draw) (D:=((f + 1:Nat):Int)) hm (by omega)
            rw [show (((f + 1:Nat):Int) == (k:Int))=false by simp;omega] at hs
            have hy:=rep_xid (me:=me) (r:=(repR me 9 8 ((f + 1:Nat):Int))) rfl rfl hs
            have HU:=jzD hu
            have HSY:=jzD hs
            have HH:=jzD hh
            have HY:Hid (ReplyM.xz=(repR me 9 8 ((f + 1:Nat):Int)).xid (askX 9 8 (k:Int)) [draw]):=hy
            have HXO:=jzD (askX_ok (asker:=9) (S:=8) (k:=(k:Int)) (by decide) (by decide) (w64 (by omega)))
            have HS3:Hid (Done w [] (Star (ReplyW (.pointer (some a1)) (repR me 9 8 ((f + 1:Nat):Int))) (CellW wr.heap.size #[.int .u32 draw] 22)) (wr.alloc (.cells #[.int .u32 draw] 22))):=HS2.out.add (ReplyW.stab _ _) (CellW.new wr #[.int .u32 draw] 22)
            clear hm hu hs hh hy
            go_wp2_with (first
             | ((with_reducible refine wpList_storeBD (C:=fun X=>Star (Star (ReplyW (.pointer (some a1)) (repR me 9 8 ((f + 1:Nat):Int))) (CellW wr.heap.size #[.int .u32 draw] 22)) X) (Fr.r ((ReplyW.stab _ _).star cS) Fr.id_) HT4.out rfl 32 (.tmp 14) (.tmp 59) rfl #[.int .u32 0,.int .u32 0,.int .i64 0,.int .i64 0,.bool false,.string ⟨#[]⟩] rfl rfl (by kernel_rfl) rfl (by kernel_rfl) ?_);intro w5 hs;have HS5:Hid (Done w [] (Star (Star (ReplyW (.pointer (some a1)) (repR me 9 8 ((f + 1:Nat):Int))) (CellW wr.heap.size #[.int .u32 draw] 22)) (CellW w4.heap.size (yA 0 0 0 0 false ⟨#[]⟩) 32)) w5):=(by show Done _ _ _ _;exact hs);clear hs)
             | (go_at_call 39;((with_reducible refine (dR_hear (x:=(askX 9 8 (k:Int))) (y:=ReplyM.xz) (n:=0) (b:=false) (l:=[draw]) (m' := (repR me 9 8 ((f + 1:Nat):Int))) HXO.out (rdU_one (n:=draw) (Done.at_ (C:=fun X=>Star (ReplyW (.pointer (some a1)) (repR me 9 8 ((f + 1:Nat):Int))) X) (Fr.r (ReplyW.stab _ _) Fr.id_) HS3.out) HDR.out) (by simp) HY.out HU.out HSY.out HH.out (C:=fun X=>Star (X) (CellW wr.heap.size #[.int .u32 draw] 22)) (Fr.l Fr.id_ cS) HS3.out).mono ?_);rintro e w4 ⟨rfl,hs⟩;have HS4:Hid (Done w [] (Star (ReplyW (.pointer (some a1)) (repR me 9 8 ((f + 1:Nat):Int))) (CellW wr.heap.size #[.int .u32 draw] 22)) w4):=(by show Done _ _ _ _;exact hs);clear hs;have HT4:Hid (Done w [] (Star (Star (ReplyW (.pointer (some a1)) (repR me 9 8 ((f + 1:Nat):Int))) (CellW wr.heap.size #[.int .u32 draw] 22)) (CellW w4.heap.size (yA 0 0 0 0 false ⟨#[]⟩) 32)) (w4.alloc (.cells (yA 0 0 0 0 false ⟨#[]⟩) 32))):=HS4.out.add ((ReplyW.stab _ _).star cS) (CellW.new w4 #[.int .u32 0,.int .u32 0,.int .i64 0,.int .i64 0,.bool false,.string ⟨#[]⟩] 32))))
            go_roundw
            case rel=>exact ⟨k + 1,_,by omega,by omega,by go_num,.inr (.inr ⟨by omega,by omega,rfl,rfl,rfl⟩),HS5.out.drop.drop⟩
            case measure=>simp [intOf] <;> omega
          · have t1:decide ((k:Int) < 8)=false:=decide_eq_false (by omega)
            have t1b:decide (k < 8)=false:=decide_eq_false hks
            go_wp2
            go_ret
            exact ⟨by first | rfl | (simp;try omega),HS2.out.bel⟩
 · have hof:ownN me=false:=by cases h:ownN me <;> simp_all
   rw [hof] at hmn
   have HMN:=jzD hmn
   have how:=fun w=>ROwn_any me w
   rw [hof] at how
   have HOW:=jzD how
   clear hmn ho hof how
   rcases hq with rfl | rfl
   · have z0:((0:Nat):Int)=0:=rfl
     rw [z0] at h_q e3_q e4_q
     have a1_f:=Int.lt_tmod_of_pos from_ (show (0:Int) < 5 by decide)
     have a2_f:=Int.tmod_lt_of_pos from_ (show (0:Int) < 5 by decide)
     obtain ⟨t_f,ht_f⟩:∃ t,from_.tmod 5=t:=⟨_,rfl⟩
     rw [ht_f] at a1_f a2_f
     have e1_f:IntKind.i64.wrap t_f=t_f:=IntWalk.i64_in _ (by omega)
     have e2_f:IntKind.i64.wrap (t_f + 6)=t_f + 6:=IntWalk.i64_in _ (by omega)
     have e2b_f:IntKind.i64.wrap (t_f + 6 - 1)=t_f + 5:=by rw [show t_f + 6 - 1=t_f + 5 by omega];exact IntWalk.i64_in _ (by omega)
     have e2c_f:IntKind.i64.wrap (t_f + 5)=t_f + 5:=IntWalk.i64_in _ (by omega)
     obtain ⟨f,h_f⟩:∃ q:Nat,t_f % 5=(q:Int):=⟨(t_f % 5).toNat,by omega⟩
     have e3_f:(t_f + 5).tmod 5=(f:Int):=by rw [Int.tmod_eq_emod_of_nonneg (by omega)];omega
     have e4_f:IntKind.i64.wrap (f:Int)=(f:Int):=IntWalk.i64_in _ (by omega)
     have b_f:f < 5:=by omega
     have e5_f:IntKind.i64.wrap (1 + (f:Int))=((f + 1:Nat):Int):=by rw [show (1 + (f:Int))=((f + 1:Nat):Int) by omega];exact IntWalk.i64_in _ (by omega)
     clear a1_f a2_f h_f
     go_enter Tryz.func12,Tryz.ntmps12
     go_wp2_with (first
      | (go_at_call 18;((with_reducible refine (dcalls_keep Emp.stab (Done.emp w) (begun16_any _ HC.out)).mono ?_);rintro e w1 ⟨rfl,hs⟩;have HT1:Hid (Done w [] (Star Emp (CellW w1.heap.size #[.int .i64 6,.int .i64 8] 3)) (w1.alloc (.cells #[.int .i64 6,.int .i64 8] 3))):=hs.add Emp.stab (CellW.new w1 #[.int .i64 6,.int .i64 8] 3);clear hs))
      | (go_at_call 36;((with_reducible refine (dcalls_keep (Emp.stab.star cS) HT1.out (RpNew_none me ⟨#[110]⟩ _ HME.out (by decide) HMN.out)).mono ?_);rintro e w3 ⟨rfl,hs⟩;have HS3:=jzD hs;clear hs))
      | (go_at_call 37;((with_reducible refine (HOW.out _).mono ?_);rintro e w' ⟨rfl,hw'⟩;rw [hw'];clear hw')))
     go_ret
     exact ⟨rfl,HS3.out.bel⟩
   · have z0:((1:Nat):Int)=1:=rfl
     rw [z0] at h_q e3_q e4_q
     have a1_f:=Int.lt_tmod_of_pos from_ (show (0:Int) < 7 by decide)
     have a2_f:=Int.tmod_lt_of_pos from_ (show (0:Int) < 7 by decide)
     obtain ⟨t_f,ht_f⟩:∃ t,from_.tmod 7=t:=⟨_,rfl⟩
     rw [ht_f] at a1_f a2_f
     have e1_f:IntKind.i64.wrap t_f=t_f:=IntWalk.i64_in _ (by omega)
     have e2_f:IntKind.i64.wrap (t_f + 8)=t_f + 8:=IntWalk.i64_in _ (by omega)
     have e2b_f:IntKind.i64.wrap (t_f + 8 - 1)=t_f + 7:=by rw [show t_f + 8 - 1=t_f + 7 by omega];exact IntWalk.i64_in _ (by omega)
     have e2c_f:IntKind.i64.wrap (t_f + 7)=t_f + 7:=IntWalk.i64_in _ (by omega)
     obtain ⟨f,h_f⟩:∃ q:Nat,t_f % 7=(q:Int):=⟨(t_f % 7).toNat,by omega⟩
     have e3_f:(t_f + 7).tmod 7=(f:Int):=by rw [Int.tmod_eq_emod_of_nonneg (by omega)];omega
     have e4_f:IntKind.i64.wrap (f:Int)=(f:Int):=IntWalk.i64_in _ (by omega)
     have b_f:f < 7:=by omega
     have e5_f:IntKind.i64.wrap (1 + (f:Int))=((f + 1:Nat):Int):=by rw [show (1 + (f:Int))=((f + 1:Nat):Int) by omega];exact IntWalk.i64_in _ (by omega)
     clear a1_f a2_f h_f
     go_enter Tryz.func12,Tryz.ntmps12
     go_wp2_with (first
      | (go_at_call 18;((with_reducible refine (dcalls_keep Emp.stab (Done.emp w) (begun16_any _ HC.out)).mono ?_);rintro e w1 ⟨rfl,hs⟩;have HT1:Hid (Done w [] (Star Emp (CellW w1.heap.size #[.int .i64 6,.int .i64 8] 3)) (w1.alloc (.cells #[.int .i64 6,.int .i64 8] 3))):=hs.add Emp.stab (CellW.new w1 #[.int .i64 6,.int .i64 8] 3);clear hs))
      | (go_at_call 36;((with_reducible refine (dcalls_keep (Emp.stab.star cS) HT1.out (RpNew_none me ⟨#[110]⟩ _ HME.out (by decide) HMN.out)).mono ?_);rintro e w3 ⟨rfl,hs⟩;have HS3:=jzD hs;clear hs))
      | (go_at_call 37;((with_reducible refine (HOW.out _).mono ?_);rintro e w' ⟨rfl,hw'⟩;rw [hw'];clear hw')))
     go_ret
     exact ⟨rfl,HS3.out.bel⟩
end Go.Proofs.YtjddbjmcjhjpiaaGreatDoor
