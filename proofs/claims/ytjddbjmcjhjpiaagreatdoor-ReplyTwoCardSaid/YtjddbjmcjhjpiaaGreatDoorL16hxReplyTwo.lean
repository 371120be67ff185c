/- The law ReplyTwo. -/
import Derived.Test.YtjddbjmcjhjpiaaGreatDoorN16J

set_option linter.all false

namespace Go.Proofs.YtjddbjmcjhjpiaaGreatDoor
set_option maxRecDepth 100000
set_option maxHeartbeats 32000000
open Go.RowKit M

abbrev askE (asker S k:Int):XIn:=⟨asker,0,k,S,false,⟨#[]⟩⟩
theorem askE_may {asker S k:Int} (ho:ownN asker=true) (hS:S=1 ∨ S=6 ∨ S=8) (hk:-1≤k∧k < S):mayX (askE asker S k).xd=true:=by
 unfold mayX XIn.xd
 simp only [ho]
 rw [decide_eq_true (show S=1 ∨ S=6 ∨ S=8 from hS),decide_eq_true (show -1≤k∧k < S from hk),show M.mayL ((⟨#[]⟩:ByteArray).data.toList)=true by kernel_rfl]
 rfl
theorem askE_ok {asker S k:Int} (ho:(Lit.int .u32 asker).wf=true) (hS:(Lit.int .i64 S).wf=true) (hk:(Lit.int .i64 k).wf=true):(askE asker S k).ok:=⟨ho,show (Lit.int .u32 0).wf=true by decide,hk,hS,show (0:Nat)≤maxLen by decide⟩
theorem repE_asked {asker S k:Int} (hm:mayX (askE asker S k).xd=true) (hk:0≤k):ReplyM.asked (askE asker S k)=true:=by
 have h1:(k != -1)=true:=by simp;omega
 unfold ReplyM.asked;rw [hm]
 show (true && (!false && ((0:Int) == 0 && k != -1)))=true
 rw [h1];rfl
theorem repE_step {r:ReplyM} {me asker S d D k:Int} (hid:r.id=me) (hnk:r.nick=⟨#[110]⟩) (hst:k=0 ∨ r=repR me asker S D) (hm:mayX (askE asker S k).xd=true) (hk:0≤k) (hD:D=d % S) (h0:0≤D):(D == k)=r.says (askE asker S k) [d]∧repR me asker S D=r.hear (askE asker S k) [d]:=by
 have hr:r.roundOf (askE asker S k) [d]=some (asker,S,D):=by
  rcases hst with rfl | rfl
  · show (if true=true then some (asker,S,max (d % S) 0) else _)=_
    rw [if_pos rfl,hD,Int.max_eq_left (by omega)]
  · by_cases h:k=0
    · subst h
      show (if true=true then some (asker,S,max (d % S) 0) else _)=_
      rw [if_pos rfl,hD,Int.max_eq_left (by omega)]
    · have hb:(repR me asker S D).begins (askE asker S k)=false:=by
       show (k == 0 || (asker != asker || S != S))=false
       simp;exact h
      unfold ReplyM.roundOf;rw [hb];rfl
 refine ⟨?_,?_⟩
 · unfold ReplyM.says;rw [repE_asked hm hk,hr];rfl
 · unfold ReplyM.hear;rw [hm,hr]
   show repR me asker S D=(if true=true then (if k=-1 then _ else (⟨r.id,r.nick,some (asker,S,D)⟩:ReplyM)) else _)
   rw [if_pos rfl,if_neg (by omega),hid,hnk]
   rfl
theorem repE_xid {r:ReplyM} {me asker S d k:Int} {b:Bool} (hid:r.id=me) (hnk:r.nick=⟨#[110]⟩) (hs:b=r.says (askE asker S k) [d]):(if b then (⟨me,asker,k,S,false,⟨#[110]⟩⟩:XIn) else ReplyM.xz)=r.xid (askE asker S k) [d]:=by
 subst hs
 unfold ReplyM.xid
 rw [hid,hnk]
theorem repE_end {r:ReplyM} {asker S:Int} {me:Int} (hid:r.id=me) (hnk:r.nick=⟨#[110]⟩) (hm:mayX (askE asker S (-1)).xd=true):(0:Int)=r.used (askE asker S (-1)) []∧false=r.says (askE asker S (-1)) []∧ReplyM.xz=r.xid (askE asker S (-1)) []∧ReplyM.new me ⟨#[110]⟩=r.hear (askE asker S (-1)) []:=by
 have ha:ReplyM.asked (askE asker S (-1))=false:=by unfold ReplyM.asked;rw [hm];rfl
 have hn:r.renews (askE asker S (-1))=false:=by unfold ReplyM.renews;rw [hm];rfl
 have hs:r.says (askE asker S (-1)) []=false:=by unfold ReplyM.says;rw [ha];rfl
 refine ⟨?_,hs.symm,?_,?_⟩
 · unfold ReplyM.used;rw [hn,ha];rfl
 · unfold ReplyM.xid;rw [hs];rfl
 · unfold ReplyM.hear;rw [hm]
   show _=(⟨r.id,r.nick,none⟩:ReplyM)
   rw [hid,hnk];rfl
theorem ReplyTwo_law (me a b draw:Int) (w:World) (hme:(Lit.int .u32 me).wf=true) (ha:(Lit.int .u32 a).wf=true) (hb:(Lit.int .u32 b).wf=true) (hdr:(Lit.int .u32 draw).wf=true) (hC:Codes w):Calls Tryz.prog 17 #[.int .u32 me,.int .u32 a,.int .u32 b,.int .u32 draw] w fun e w' => e=.returned (.bool true)∧Below w.heap.size w w' := by
 have HC:=jzD hC
 have HME:=jzD hme
 have HDR:Hid (u32 draw):=by
  show u32 draw;have h1:IntKind.u32.min=0:=by decide
  have h2:IntKind.u32.max=4294967295:=by decide
  have h3:(decide (IntKind.u32.min≤draw) && decide (draw≤IntKind.u32.max))=true:=hdr
  rw [h1,h2] at h3;simp at h3;unfold u32;omega
 have HWA:=jzD ha
 have HWB:=jzD hb
 clear hC hme hdr ha hb
 have hmn:ReplyM.mayNew me ⟨#[110]⟩=ownN me:=by unfold ReplyM.mayNew;rw [show M.mayL ((⟨#[110]⟩:ByteArray).data.toList)=true by kernel_rfl,Bool.and_true]
 rcases ho:ownN me with _ | _
 · rw [ho] at hmn
   have HMN:=jzD hmn
   clear hmn ho
   go_enter Tryz.func17,Tryz.ntmps17
   go_wp2_with (first
    | (go_at_call 18;((with_reducible refine (dcalls_keep Emp.stab (Done.emp w) (begun16_any _ HC.out)).mono ?_);rintro e w1 ⟨rfl,hs⟩;have HS1:=jzD hs;clear hs))
    | (go_at_call 36;((with_reducible refine (dcalls_keep Emp.stab HS1.out (RpNew_none me ⟨#[110]⟩ _ HME.out (by decide) HMN.out)).mono ?_);rintro e w3 ⟨rfl,hs⟩;have HS3:=jzD hs;clear hs)))
   go_ret
   exact ⟨rfl,HS3.out.bel⟩
 · rw [ho] at hmn
   have HMN:=jzD hmn
   clear hmn ho
   have hoa:=fun w=>ROwn_any a w
   have hob:=fun w=>ROwn_any b w
   rcases ha:ownN a with _ | _
   · rw [ha] at hoa
     have HOA:=jzD hoa
     clear ha hoa hob
     go_enter Tryz.func17,Tryz.ntmps17
     go_wp2_with (first
      | (go_at_call 18;((with_reducible refine (dcalls_keep Emp.stab (Done.emp w) (begun16_any _ HC.out)).mono ?_);rintro e w1 ⟨rfl,hs⟩;have HS1:=jzD hs;clear hs))
      | (go_at_call 36;((with_reducible refine (dR_new HME.out (by decide) HMN.out Emp.stab HS1.out).mono ?_);rintro e w3 ⟨a1,rfl,hs⟩;have HS3:Hid (Done w [] (ReplyW (.pointer (some a1)) (ReplyM.new me ⟨#[110]⟩)) w3):=(by show Done _ _ _ _;exact hs.unemp);clear hs))
      | (go_at_call 37;((with_reducible refine (HOA.out _).mono ?_);rintro e w' ⟨rfl,hw'⟩;rw [hw'];clear hw')))
     go_ret
     exact ⟨rfl,HS3.out.bel⟩
   · rcases hb:ownN b with _ | _
     · rw [ha] at hoa
       rw [hb] at hob
       have HOA:=jzD hoa
       have HOB:=jzD hob
       clear ha hoa hb hob
       go_enter Tryz.func17,Tryz.ntmps17
       go_wp2_with (first
        | (go_at_call 18;((with_reducible refine (dcalls_keep Emp.stab (Done.emp w) (begun16_any _ HC.out)).mono ?_);rintro e w1 ⟨rfl,hs⟩;have HS1:=jzD hs;clear hs))
        | (go_at_call 36;((with_reducible refine (dR_new HME.out (by decide) HMN.out Emp.stab HS1.out).mono ?_);rintro e w3 ⟨a1,rfl,hs⟩;have HS3:Hid (Done w [] (ReplyW (.pointer (some a1)) (ReplyM.new me ⟨#[110]⟩)) w3):=(by show Done _ _ _ _;exact hs.unemp);clear hs))
        | (go_at_call 37;first | ((with_reducible refine (HOA.out _).mono ?_);rintro e w' ⟨rfl,hw'⟩;rw [hw'];clear hw') | ((with_reducible refine (HOB.out _).mono ?_);rintro e w' ⟨rfl,hw'⟩;rw [hw'];clear hw')))
       go_ret
       exact ⟨rfl,HS3.out.bel⟩
     · have HWN:Hid (∀ (j:Nat) (who:Int),(#[.int .u32 a,.int .u32 b]:Array Value)[j]?=some (Value.int .u32 who)→ownN who=true∧(Lit.int .u32 who).wf=true):=by
        show ∀ (j:Nat) (who:Int),_→_
        intro j who h
        match j,h with
        | 0,h=>injection h with h;injection h with _ h;subst h;exact ⟨ha,HWA.out⟩
        | 1,h=>injection h with h;injection h with _ h;subst h;exact ⟨hb,HWB.out⟩
        | (n + 2),h=>simp at h
       have HWX:Hid (∀ j:Nat,j < 2→∃ who:Int,(#[.int .u32 a,.int .u32 b]:Array Value)[j]?=some (Value.int .u32 who)):=by
        show ∀ j:Nat,_→_
        intro j h
        match j,h with
        | 0,_=>exact ⟨a,rfl⟩
        | 1,_=>exact ⟨b,rfl⟩
       rw [ha] at hoa
       rw [hb] at hob
       have HOA:=jzD hoa
       have HOB:=jzD hob
       clear ha hoa hb hob
       obtain ⟨D,hD⟩:∃ D:Nat,draw % 6=(D:Int):=⟨(draw % 6).toNat,by omega⟩
       have hDS:D < 6:=by omega
       have HDD:Hid ((D:Int)=draw % 6):=hD.symm
       have m1:draw.tmod 6=(D:Int):=by rw [Int.tmod_eq_emod_of_nonneg HDR.out.1];exact hD
       clear hD
       go_enter Tryz.func17,Tryz.ntmps17
       go_wp2_with (first
        | (go_at_call 18;((with_reducible refine (dcalls_keep Emp.stab (Done.emp w) (begun16_any _ HC.out)).mono ?_);rintro e w1 ⟨rfl,hs⟩;have HS1:=jzD hs;clear hs))
        | (go_at_call 36;((with_reducible refine (dR_new HME.out (by decide) HMN.out Emp.stab HS1.out).mono ?_);rintro e w3 ⟨a1,rfl,hs⟩;have HS3:Hid (Done w [] (ReplyW (.pointer (some a1)) (ReplyM.new me ⟨#[110]⟩)) w3):=(by show Done _ _ _ _;exact hs.unemp);have HT3:Hid (Done w [] (Star (ReplyW (.pointer (some a1)) (ReplyM.new me ⟨#[110]⟩)) (CellW w3.heap.size #[.int .u32 a,.int .u32 b] 22)) (w3.alloc (.cells #[.int .u32 a,.int .u32 b] 22))):=HS3.out.add (ReplyW.stab _ _) (CellW.new w3 #[.int .u32 a,.int .u32 b] 22);clear hs))
        | (go_at_call 37;first | ((with_reducible refine (HOA.out _).mono ?_);rintro e w' ⟨rfl,hw'⟩;rw [hw'];clear hw') | ((with_reducible refine (HOB.out _).mono ?_);rintro e w' ⟨rfl,hw'⟩;rw [hw'];clear hw')))
       obtain ⟨g,hg⟩:∃ g,g=w3.heap.size:=⟨_,rfl⟩
       rw [← hg] at HT3
       rw [← hg]
       clear hg HS3
       go_loopw [11,39] (fun nv jv wr=>∃ (j c:Nat) (rr:ReplyM),j≤2∧jv=.int .i64 (j:Int)∧nv=.int .i64 (c:Int)∧c=j∧rr.id=me∧rr.nick=⟨#[110]⟩∧Done w [] (Star (ReplyW (.pointer (some a1)) rr) (CellW g #[.int .u32 a,.int .u32 b] 22)) wr) (fun _ jv _=>(9 - intOf jv).toNat)
       case atStart=>exact ⟨0,0,_,by omega,rfl,rfl,rfl,rfl,rfl,HT3.out⟩
       case round =>
        clear HT3
        obtain ⟨j,c,rr,hj,rfl,rfl,hcj,hid,hnk,hs⟩:=hrel
        have HS2:=jzD hs
        clear hs
        by_cases hj2:j < 2
        · obtain ⟨who,hwho⟩:=HWX.out j hj2
          obtain ⟨hown,hwf⟩:=HWN.out j who hwho
          have HOWN:=jzD hown
          have HWHO:=jzD hwf
          have t1:decide ((j:Int) < 2)=true:=decide_eq_true (by omega)
          have e1:IntKind.i64.wrap ((j:Int) + 1)=(j:Int) + 1:=IntWalk.i64_in _ (by omega)
          have q1:wr.cell? ⟨g,j,none⟩=some (.int .u32 who):=cell_at (Done.at_ (C:=fun X=>Star (ReplyW (.pointer (some a1)) rr) X) (Fr.r (ReplyW.stab _ _) Fr.id_) HS2.out) j _ hwho
          have b1:(j:Int) < 2:=by omega
          have hm1:=askE_may (asker:=who) (S:=6) (k:=-1) hown (by decide) (by decide)
          have HM1:=jzD hm1
          have HXE:=jzD (askE_ok (asker:=who) (S:=6) (k:=-1) hwf (by decide) (by decide))
          have HIN:Hid (rr.id=me∧rr.nick=⟨#[110]⟩):=⟨hid,hnk⟩
          clear hwho hown hwf hm1 hid hnk
          obtain ⟨c0,hc0⟩:∃ c0,c0=c:=⟨_,rfl⟩
          obtain ⟨j0,hj0⟩:∃ j0,j0=j:=⟨_,rfl⟩
          rw [← hc0]
          rw [← hc0,← hj0] at hcj
          rw [← hj0] at t1 e1 q1 b1 hj hj2 ⊢
          clear hc0 hj0
          go_wp2
          go_loopw [11,14] (fun nv kv wr=>∃ (k c:Nat) (rr:ReplyM),k≤6∧kv=.int .i64 (k:Int)∧nv=.int .i64 (c:Int)∧((k≤D∧c=c0) ∨ (D < k∧c=c0 + 1))∧rr.id=me∧rr.nick=⟨#[110]⟩∧((k:Int)=0 ∨ rr=repR me who 6 (D:Int))∧Done w [] (Star (ReplyW (.pointer (some a1)) rr) (CellW g #[.int .u32 a,.int .u32 b] 22)) wr) (fun _ kv _=>(9 - intOf kv).toNat)
          case atStart=>exact ⟨0,c0,_,by omega,rfl,rfl,.inl ⟨by omega,rfl⟩,HIN.out.1,HIN.out.2,.inl rfl,HS2.out⟩
          case round =>
           clear HS2 HIN q1
           obtain ⟨k,c,rr,hk,rfl,rfl,hc,hid,hnk,hst,hs⟩:=hrel
           have HS2:=jzD hs
           clear hs
           by_cases hk6:k < 6
           · have t2:decide ((k:Int) < 6)=true:=decide_eq_true (by omega)
             have e5:IntKind.i64.wrap ((k:Int) + 1)=(k:Int) + 1:=IntWalk.i64_in _ (by omega)
             have e6:IntKind.i64.wrap ((c:Int) + 1)=(c:Int) + 1:=IntWalk.i64_in _ (by omega)
             by_cases hD0:D=k
             · subst hD0
               have hm:=askE_may (asker:=who) (S:=6) (k:=(D:Int)) HOWN.out (by decide) (by omega)
               obtain ⟨hs,hh⟩:=repE_step (me:=me) (d:=draw) (D:=(D:Int)) hid hnk hst hm (by omega) HDD.out (by omega)
               rw [show ((D:Int) == (D:Int))=true by first | (simp;done) | (simp;omega)] at hs
               have hy:=repE_xid (me:=me) hid hnk hs
               obtain ⟨un,hun⟩:∃ u,u=rr.used (askE who 6 (D:Int)) [draw]:=⟨_,rfl⟩
               have HU:=jzD hun
               have HSY:=jzD hs
               have HH:=jzD hh
               have HY:Hid ((⟨me,who,(D:Int),6,false,⟨#[110]⟩⟩:XIn)=rr.xid (askE who 6 (D:Int)) [draw]):=hy
               have HXO:=jzD (askE_ok (asker:=who) (S:=6) (k:=(D:Int)) HWHO.out (by decide) (w64 (by omega)))
               have HS3:Hid (Done w [] (Star (Star (ReplyW (.pointer (some a1)) rr) (CellW g #[.int .u32 a,.int .u32 b] 22)) (CellW wr.heap.size #[.int .u32 draw] 22)) (wr.alloc (.cells #[.int .u32 draw] 22))):=HS2.out.add ((ReplyW.stab _ _).star cS) (CellW.new wr #[.int .u32 draw] 22)
               clear hm hs hh hy hid hnk hst hun
               go_wp2_with (first
                | ((with_reducible refine wpList_storeBD (C:=fun X=>Star (Star (Star (ReplyW (.pointer (some a1)) (repR me who 6 (D:Int))) (CellW g #[.int .u32 a,.int .u32 b] 22)) (CellW wr.heap.size #[.int .u32 draw] 22)) X) (Fr.r (((ReplyW.stab _ _).star cS).star cS) Fr.id_) HT4.out rfl 32 (.tmp 15) (.tmp 55) rfl #[.int .u32 me,.int .u32 who,.int .i64 (D:Int),.int .i64 6,.bool false,.string ⟨#[110]⟩] rfl rfl (by kernel_rfl) rfl (by kernel_rfl) ?_);intro w5 hs;have HS5:Hid (Done w [] (Star (Star (Star (ReplyW (.pointer (some a1)) (repR me who 6 (D:Int))) (CellW g #[.int .u32 a,.int .u32 b] 22)) (CellW wr.heap.size #[.int .u32 draw] 22)) (CellW w4.heap.size (yA me who (D:Int) 6 false ⟨#[110]⟩) 32)) w5):=(by show Done _ _ _ _;exact hs);have y0:w5.cell? ⟨w4.heap.size,0,none⟩=some (.int .u32 me):=cell_at (Done.at_ (C:=fun X=>Star (Star (Star (ReplyW (.pointer (some a1)) (repR me who 6 (D:Int))) (CellW g #[.int .u32 a,.int .u32 b] 22)) (CellW wr.heap.size #[.int .u32 draw] 22)) X) (Fr.r (((ReplyW.stab _ _).star cS).star cS) Fr.id_) hs) 0 _ rfl;have y1:w5.cell? ⟨w4.heap.size,1,none⟩=some (.int .u32 who):=cell_at (Done.at_ (C:=fun X=>Star (Star (Star (ReplyW (.pointer (some a1)) (repR me who 6 (D:Int))) (CellW g #[.int .u32 a,.int .u32 b] 22)) (CellW wr.heap.size #[.int .u32 draw] 22)) X) (Fr.r (((ReplyW.stab _ _).star cS).star cS) Fr.id_) hs) 1 _ rfl;have y2:w5.cell? ⟨w4.heap.size,2,none⟩=some (.int .i64 (D:Int)):=cell_at (Done.at_ (C:=fun X=>Star (Star (Star (ReplyW (.pointer (some a1)) (repR me who 6 (D:Int))) (CellW g #[.int .u32 a,.int .u32 b] 22)) (CellW wr.heap.size #[.int .u32 draw] 22)) X) (Fr.r (((ReplyW.stab _ _).star cS).star cS) Fr.id_) hs) 2 _ rfl;clear hs)
                | (go_at_call 39;((with_reducible refine (dR_hear (x:=(askE who 6 (D:Int))) (y:=(⟨me,who,(D:Int),6,false,⟨#[110]⟩⟩:XIn)) (n:=un) (b:=true) (l:=[draw]) (m' := (repR me who 6 (D:Int))) HXO.out (rdU_one (n:=draw) (Done.at_ (C:=fun X=>Star (Star (ReplyW (.pointer (some a1)) rr) (CellW g #[.int .u32 a,.int .u32 b] 22)) X) (Fr.r ((ReplyW.stab _ _).star cS) Fr.id_) HS3.out) HDR.out) (by simp) HY.out HU.out HSY.out HH.out (C:=fun X=>Star (Star (X) (CellW g #[.int .u32 a,.int .u32 b] 22)) (CellW wr.heap.size #[.int .u32 draw] 22)) (Fr.l (Fr.l Fr.id_ cS) cS) HS3.out).mono ?_);rintro e w4 ⟨rfl,hs⟩;have HS4:Hid (Done w [] (Star (Star (ReplyW (.pointer (some a1)) (repR me who 6 (D:Int))) (CellW g #[.int .u32 a,.int .u32 b] 22)) (CellW wr.heap.size #[.int .u32 draw] 22)) w4):=(by show Done _ _ _ _;exact hs);clear hs;have HT4:Hid (Done w [] (Star (Star (Star (ReplyW (.pointer (some a1)) (repR me who 6 (D:Int))) (CellW g #[.int .u32 a,.int .u32 b] 22)) (CellW wr.heap.size #[.int .u32 draw] 22)) (CellW w4.heap.size (yA 0 0 0 0 false ⟨#[]⟩) 32)) (w4.alloc (.cells (yA 0 0 0 0 false ⟨#[]⟩) 32))):=HS4.out.add (((ReplyW.stab _ _).star cS).star cS) (CellW.new w4 #[.int .u32 0,.int .u32 0,.int .i64 0,.int .i64 0,.bool false,.string ⟨#[]⟩] 32))))
               go_roundw
               case rel=>exact ⟨D + 1,(c + 1),repR me who 6 (D:Int),by omega,by go_num,by go_num,.inr ⟨by omega,by omega⟩,rfl,rfl,.inr rfl,HS5.out.drop.drop⟩
               case measure=>simp [intOf] <;> omega
             · skip
               have hm:=askE_may (asker:=who) (S:=6) (k:=(k:Int)) HOWN.out (by decide) (by omega)
               obtain ⟨hs,hh⟩:=repE_step (me:=me) (d:=draw) (D:=(D:Int)) hid hnk hst hm (by omega) HDD.out (by omega)
               rw [show ((D:Int) == (k:Int))=false by first | (simp;done) | (simp;omega)] at hs
               have hy:=repE_xid (me:=me) hid hnk hs
               obtain ⟨un,hun⟩:∃ u,u=rr.used (askE who 6 (k:Int)) [draw]:=⟨_,rfl⟩
               have HU:=jzD hun
               have HSY:=jzD hs
               have HH:=jzD hh
               have HY:Hid (ReplyM.xz=rr.xid (askE who 6 (k:Int)) [draw]):=hy
               have HXO:=jzD (askE_ok (asker:=who) (S:=6) (k:=(k:Int)) HWHO.out (by decide) (w64 (by omega)))
               have HS3:Hid (Done w [] (Star (Star (ReplyW (.pointer (some a1)) rr) (CellW g #[.int .u32 a,.int .u32 b] 22)) (CellW wr.heap.size #[.int .u32 draw] 22)) (wr.alloc (.cells #[.int .u32 draw] 22))):=HS2.out.add ((ReplyW.stab _ _).star cS) (CellW.new wr #[.int .u32 draw] 22)
               clear hm hs hh hy hid hnk hst hun
               go_wp2_with (first
                | ((with_reducible refine wpList_storeBD (C:=fun X=>Star (Star (Star (ReplyW (.pointer (some a1)) (repR me who 6 (D:Int))) (CellW g #[.int .u32 a,.int .u32 b] 22)) (CellW wr.heap.size #[.int .u32 draw] 22)) X) (Fr.r (((ReplyW.stab _ _).star cS).star cS) Fr.id_) HT4.out rfl 32 (.tmp 15) (.tmp 55) rfl #[.int .u32 0,.int .u32 0,.int .i64 0,.int .i64 0,.bool false,.string ⟨#[]⟩] rfl rfl (by kernel_rfl) rfl (by kernel_rfl) ?_);intro w5 hs;have HS5:Hid (Done w [] (Star (Star (Star (ReplyW (.pointer (some a1)) (repR me who 6 (D:Int))) (CellW g #[.int .u32 a,.int .u32 b] 22)) (CellW wr.heap.size #[.int .u32 draw] 22)) (CellW w4.heap.size (yA 0 0 0 0 false ⟨#[]⟩) 32)) w5):=(by show Done _ _ _ _;exact hs);clear hs)
                | (go_at_call 39;((with_reducible refine (dR_hear (x:=(askE who 6 (k:Int))) (y:=ReplyM.xz) (n:=un) (b:=false) (l:=[draw]) (m' := (repR me who 6 (D:Int))) HXO.out (rdU_one (n:=draw) (Done.at_ (C:=fun X=>Star (Star (ReplyW (.pointer (some a1)) rr) (CellW g #[.int .u32 a,.int .u32 b] 22)) X) (Fr.r ((ReplyW.stab _ _).star cS) Fr.id_) HS3.out) HDR.out) (by simp) HY.out HU.out HSY.out HH.out (C:=fun X=>Star (Star (X) (CellW g #[.int .u32 a,.int .u32 b] 22)) (CellW wr.heap.size #[.int .u32 draw] 22)) (Fr.l (Fr.l Fr.id_ cS) cS) HS3.out).mono ?_);rintro e w4 ⟨rfl,hs⟩;have HS4:Hid (Done w [] (Star (Star (ReplyW (.pointer (some a1)) (repR me who 6 (D:Int))) (CellW g #[.int .u32 a,.int .u32 b] 22)) (CellW wr.heap.size #[.int .u32 draw] 22)) w4):=(by show Done _ _ _ _;exact hs);clear hs;have HT4:Hid (Done w [] (Star (Star (Star (ReplyW (.pointer (some a1)) (repR me who 6 (D:Int))) (CellW g #[.int .u32 a,.int .u32 b] 22)) (CellW wr.heap.size #[.int .u32 draw] 22)) (CellW w4.heap.size (yA 0 0 0 0 false ⟨#[]⟩) 32)) (w4.alloc (.cells (yA 0 0 0 0 false ⟨#[]⟩) 32))):=HS4.out.add (((ReplyW.stab _ _).star cS).star cS) (CellW.new w4 #[.int .u32 0,.int .u32 0,.int .i64 0,.int .i64 0,.bool false,.string ⟨#[]⟩] 32))))
               go_roundw
               case rel=>exact ⟨k + 1,c,repR me who 6 (D:Int),by omega,by go_num,by go_num,hc.elim (fun h=>.inl ⟨by omega,h.2⟩) (fun h=>.inr ⟨by omega,h.2⟩),rfl,rfl,.inr rfl,HS5.out.drop.drop⟩
               case measure=>simp [intOf] <;> omega
           · have t2:decide ((k:Int) < 6)=false:=decide_eq_false (by omega)
             obtain ⟨hu,hsy,hy,hh⟩:=repE_end (asker:=who) (S:=6) hid hnk HM1.out
             have HU:=jzD hu
             have HSY:=jzD hsy
             have HY:=jzD hy
             have HH:=jzD hh
             clear hu hsy hy hh hid hnk hst
             go_wp2_with (go_at_call 39;((with_reducible refine (dR_hear (x:=(askE who 6 (-1))) (y:=ReplyM.xz) (n:=0) (b:=false) (l:=[]) (m' := (ReplyM.new me ⟨#[110]⟩)) HXE.out (RdU.nil_ _) (by simp) HY.out HU.out HSY.out HH.out (C:=fun X=>Star (X) (CellW g #[.int .u32 a,.int .u32 b] 22)) (Fr.l Fr.id_ cS) HS2.out).mono ?_);rintro e w4 ⟨rfl,hs⟩;have HS4:Hid (Done w [] (Star (ReplyW (.pointer (some a1)) (ReplyM.new me ⟨#[110]⟩)) (CellW g #[.int .u32 a,.int .u32 b] 22)) w4):=(by show Done _ _ _ _;exact hs);clear hs))
             go_roundw
             case rel=>exact ⟨j0 + 1,c,_,by omega,by go_num,by go_num,by omega,rfl,rfl,HS4.out⟩
             case measure=>simp [intOf] <;> omega
        · have t1:decide ((j:Int) < 2)=false:=decide_eq_false (by omega)
          obtain rfl:j=2:=by omega
          obtain rfl:c=2:=hcj
          go_wp2
          go_ret
          exact ⟨rfl,HS2.out.bel⟩
end Go.Proofs.YtjddbjmcjhjpiaaGreatDoor
