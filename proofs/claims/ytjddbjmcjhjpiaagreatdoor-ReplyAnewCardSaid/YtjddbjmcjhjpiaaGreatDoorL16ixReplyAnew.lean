/- The law ReplyAnew. -/
import Derived.Test.YtjddbjmcjhjpiaaGreatDoorN16J
import Derived.Test.YtjddbjmcjhjpiaaGreatDoorN16C
import Derived.Test.YtjddbjmcjhjpiaaGreatDoorN16D

set_option linter.all false

namespace Go.Proofs.YtjddbjmcjhjpiaaGreatDoor
set_option maxRecDepth 100000
set_option maxHeartbeats 32000000
open Go.RowKit M

theorem anew_may (to_:Int):mayX (XIn.xd (⟨5,to_,0,1,true,⟨#[]⟩⟩:XIn))=true:=by
 unfold mayX XIn.xd
 rw [show M.mayL ((⟨#[]⟩:ByteArray).data.toList)=true by kernel_rfl]
 rfl
theorem anew_other {me to_:Int} {l:List Int} (h:¬ to_=me):(0:Int)=(ReplyM.new me ⟨#[110]⟩).used (⟨5,to_,0,1,true,⟨#[]⟩⟩:XIn) l∧false=(ReplyM.new me ⟨#[110]⟩).says (⟨5,to_,0,1,true,⟨#[]⟩⟩:XIn) l∧ReplyM.xz=(ReplyM.new me ⟨#[110]⟩).xid (⟨5,to_,0,1,true,⟨#[]⟩⟩:XIn) l∧(ReplyM.new me ⟨#[110]⟩)=(ReplyM.new me ⟨#[110]⟩).hear (⟨5,to_,0,1,true,⟨#[]⟩⟩:XIn) l:=by
 have hm:=anew_may to_
 have ha:ReplyM.asked (⟨5,to_,0,1,true,⟨#[]⟩⟩:XIn)=false:=by unfold ReplyM.asked;rw [hm];rfl
 have hn:(ReplyM.new me ⟨#[110]⟩).renews (⟨5,to_,0,1,true,⟨#[]⟩⟩:XIn)=false:=by
  unfold ReplyM.renews;rw [hm]
  show (true && (true && to_ == me))=false
  simp [h]
 have hs:(ReplyM.new me ⟨#[110]⟩).says (⟨5,to_,0,1,true,⟨#[]⟩⟩:XIn) l=false:=by unfold ReplyM.says;rw [ha];rfl
 refine ⟨?_,hs.symm,?_,?_⟩
 · unfold ReplyM.used;rw [hn,ha];rfl
 · unfold ReplyM.xid;rw [hs];rfl
 · unfold ReplyM.hear;rw [hm,if_pos rfl]
   show (ReplyM.new me ⟨#[110]⟩)=(if true=true then (if to_=me then _ else (ReplyM.new me ⟨#[110]⟩)) else _)
   rw [if_pos rfl,if_neg h]
theorem anew_own {me:Int} {l:List Int}:((freshM l [me]).2:Int)=(ReplyM.new me ⟨#[110]⟩).used (⟨5,me,0,1,true,⟨#[]⟩⟩:XIn) l∧false=(ReplyM.new me ⟨#[110]⟩).says (⟨5,me,0,1,true,⟨#[]⟩⟩:XIn) l∧ReplyM.xz=(ReplyM.new me ⟨#[110]⟩).xid (⟨5,me,0,1,true,⟨#[]⟩⟩:XIn) l∧ReplyM.new (freshM l [me]).1 ⟨#[110]⟩=(ReplyM.new me ⟨#[110]⟩).hear (⟨5,me,0,1,true,⟨#[]⟩⟩:XIn) l:=by
 have hm:=anew_may me
 have ha:ReplyM.asked (⟨5,me,0,1,true,⟨#[]⟩⟩:XIn)=false:=by unfold ReplyM.asked;rw [hm];rfl
 have hn:(ReplyM.new me ⟨#[110]⟩).renews (⟨5,me,0,1,true,⟨#[]⟩⟩:XIn)=true:=by
  unfold ReplyM.renews;rw [hm]
  show (true && (true && me == me))=true
  simp
 have hs:(ReplyM.new me ⟨#[110]⟩).says (⟨5,me,0,1,true,⟨#[]⟩⟩:XIn) l=false:=by unfold ReplyM.says;rw [ha];rfl
 refine ⟨?_,hs.symm,?_,?_⟩
 · unfold ReplyM.used;rw [hn];rfl
 · unfold ReplyM.xid;rw [hs];rfl
 · unfold ReplyM.hear;rw [hm,if_pos rfl]
   show _=(if true=true then (if me=me then _ else _) else _)
   rw [if_pos rfl,if_pos rfl]
   rfl
theorem anew_then {nf:Int}:(0:Int)=(ReplyM.new nf ⟨#[110]⟩).used (⟨5,0,0,1,false,⟨#[]⟩⟩:XIn) []∧true=(ReplyM.new nf ⟨#[110]⟩).says (⟨5,0,0,1,false,⟨#[]⟩⟩:XIn) []∧(⟨nf,5,0,1,false,⟨#[110]⟩⟩:XIn)=(ReplyM.new nf ⟨#[110]⟩).xid (⟨5,0,0,1,false,⟨#[]⟩⟩:XIn) []∧(⟨nf,⟨#[110]⟩,some (5,1,0)⟩:ReplyM)=(ReplyM.new nf ⟨#[110]⟩).hear (⟨5,0,0,1,false,⟨#[]⟩⟩:XIn) []:=by
 have hm:mayX (XIn.xd (⟨5,0,0,1,false,⟨#[]⟩⟩:XIn))=true:=by
  unfold mayX XIn.xd
  rw [show M.mayL ((⟨#[]⟩:ByteArray).data.toList)=true by kernel_rfl]
  rfl
 have ha:ReplyM.asked (⟨5,0,0,1,false,⟨#[]⟩⟩:XIn)=true:=by unfold ReplyM.asked;rw [hm];rfl
 have hn:(ReplyM.new nf ⟨#[110]⟩).renews (⟨5,0,0,1,false,⟨#[]⟩⟩:XIn)=false:=by unfold ReplyM.renews;rw [hm];rfl
 have hs:(ReplyM.new nf ⟨#[110]⟩).says (⟨5,0,0,1,false,⟨#[]⟩⟩:XIn) []=true:=by unfold ReplyM.says;rw [ha];rfl
 refine ⟨?_,hs.symm,?_,?_⟩
 · unfold ReplyM.used;rw [hn,ha];rfl
 · unfold ReplyM.xid;rw [hs];rfl
 · unfold ReplyM.hear;rw [hm];rfl
theorem ReplyAnew_law (me to_:Int) (v:Value) (l:List Int) (w:World) (hme:(Lit.int .u32 me).wf=true) (hto:(Lit.int .u32 to_).wf=true) (hv:RdU w v l) (hC:Codes w):Calls Tryz.prog 11 #[.int .u32 me,.int .u32 to_,v] w fun e w' => e=.returned (.bool true)∧Below w.heap.size w w' := by
 have HC:=jzD hC
 have HS0:Hid (Done w [] Emp w):=Done.emp w
 have HME:=jzD hme
 have HMU:Hid (u32 me):=by
  show u32 me;have h1:IntKind.u32.min=0:=by decide
  have h2:IntKind.u32.max=4294967295:=by decide
  have h3:(decide (IntKind.u32.min≤me) && decide (me≤IntKind.u32.max))=true:=hme
  rw [h1,h2] at h3;simp at h3;unfold u32;omega
 have hv0:=hv
 obtain ⟨A,cap,rfl,hcap,hmax,-,-⟩:=hv0
 obtain ⟨L,hL⟩:∃ L,L=l.length:=⟨_,rfl⟩
 obtain ⟨k,hk⟩:∃ k,k=min L 6:=⟨_,rfl⟩
 have hd:=hv.cut (k:=k) (by omega)
 have HL6:Hid ((l.take k).length≤1000):=by show _≤_;rw [List.length_take];omega
 obtain ⟨l6,hl6⟩:∃ x,x=l.take k:=⟨_,rfl⟩
 rw [← hl6] at hd HL6
 rw [← hL] at hcap ⊢
 have HD:=jzD hd
 have hmin:min (L:Int) 6=(k:Int):=by omega
 have bk1:(k:Int)≤(L:Int):=by omega
 have bk2:(k:Int)≤(cap:Int):=by omega
 have bk3:k≤cap:=by omega
 have HXO:Hid (XIn.ok (⟨5,to_,0,1,true,⟨#[]⟩⟩:XIn)):=by show XIn.ok _;exact ⟨show (Lit.int .u32 5).wf=true by decide,hto,show (Lit.int .i64 0).wf=true by decide,show (Lit.int .i64 1).wf=true by decide,show (0:Nat)≤maxLen by decide⟩
 have HXO2:Hid (XIn.ok (⟨5,0,0,1,false,⟨#[]⟩⟩:XIn)):=by show XIn.ok _;exact ⟨show (Lit.int .u32 5).wf=true by decide,show (Lit.int .u32 0).wf=true by decide,show (Lit.int .i64 0).wf=true by decide,show (Lit.int .i64 1).wf=true by decide,show (0:Nat)≤maxLen by decide⟩
 have hmn:ReplyM.mayNew me ⟨#[110]⟩=ownN me:=by unfold ReplyM.mayNew;rw [show M.mayL ((⟨#[110]⟩:ByteArray).data.toList)=true by kernel_rfl,Bool.and_true]
 have hsp:=fresh_spec (l:=l6) (m:=[me]) (by simp)
 obtain ⟨nf,hnf⟩:∃ n,n=(freshM l6 [me]).1:=⟨_,rfl⟩
 obtain ⟨kf,hkf⟩:∃ n,n=((freshM l6 [me]).2:Int):=⟨_,rfl⟩
 rw [← hnf] at hsp
 have hne:(nf == me)=false:=by
  have := hsp.2.1
  simp at this
  simp [this]
 have hne2:(nf != nf)=false:=by simp
 have HNF:=jzD hnf
 have HKF:=jzD hkf
 have HEQ:Hid (∀ W,(binOp .eql 32 (XIn.val ReplyM.xz) (XIn.val ReplyM.xz)).run Tryz.prog W=.ok (.bool true) W):=by show ∀ _,_;intro W;have h:=eql_xin ReplyM.xz ReplyM.xz W;rw [decide_eq_true rfl] at h;exact h
 clear hC hme hv hd hl6 hk hL hmax hsp
 rcases ho:ownN me with _ | _
 · rw [ho] at hmn
   have how:=fun w=>ROwn_any me w
   rw [ho] at how
   have HOW:=jzD how
   have HMN:=jzD hmn
   clear hmn ho how hnf hkf hto
   go_enter Tryz.func11,Tryz.ntmps11
   go_wp2_with (first
    | (go_at_call 18;((with_reducible refine (dcalls_keep Emp.stab HS0.out (begun16_any _ HC.out)).mono ?_);rintro e w1 ⟨rfl,hs⟩;have HS1:Hid (Done w [] (Emp) w1):=(by show Done _ _ _ _;exact hs);clear hs))
    | (go_at_call 36;((with_reducible refine (dcalls_keep Emp.stab HS1.out (RpNew_none me ⟨#[110]⟩ _ HME.out (by decide) HMN.out)).mono ?_);rintro e w2 ⟨rfl,hs⟩;have HS2:Hid (Done w [] (Emp) w2):=(by show Done _ _ _ _;exact hs);clear hs))
    | (go_at_call 37;((with_reducible refine (HOW.out _).mono ?_);rintro e w' ⟨rfl,hw'⟩;rw [hw'];clear hw')))
   go_ret
   exact ⟨by first | rfl | (simp;done),HS2.out.bel⟩
 · rw [ho] at hmn
   have HMN:=jzD hmn
   clear hmn ho
   by_cases hmt:to_=me
   · subst hmt
     obtain ⟨hu,hsy,hy,hh⟩:=anew_own (me:=to_) (l:=l6)
     rw [← hnf] at hh
     rw [← hkf] at hu
     obtain ⟨hu2,hsy2,hy2,hh2⟩:=anew_then (nf:=nf)
     have HU:=jzD hu
     have HSY:=jzD hsy
     have HY:=jzD hy
     have HH:=jzD hh
     have HU2:=jzD hu2
     have HSY2:=jzD hsy2
     have HY2:=jzD hy2
     have HH2:=jzD hh2
     clear hu hsy hy hh hu2 hsy2 hy2 hh2 hnf hkf hto
     go_enter Tryz.func11,Tryz.ntmps11
     go_wp2_with (first
      | ((with_reducible refine wpList_storeBD (C:=fun X=>Star (Star (Emp) (ReplyW (.pointer (some a1)) (ReplyM.new nf ⟨#[110]⟩))) X) (Fr.r (Emp.stab.star (ReplyW.stab _ _)) Fr.id_) HT3.out rfl 32 (.tmp 9) (.tmp 38) rfl #[.int .u32 0,.int .u32 0,.int .i64 0,.int .i64 0,.bool false,.string ⟨#[]⟩] rfl rfl (by kernel_rfl) rfl (by kernel_rfl) ?_);intro w4 hs;have HS4:Hid (Done w [] (Star (Star (Emp) (ReplyW (.pointer (some a1)) (ReplyM.new nf ⟨#[110]⟩))) (CellW w3.heap.size (yA 0 0 0 0 false ⟨#[]⟩) 32)) w4):=(by show Done _ _ _ _;exact hs);clear hs;have HT4:Hid (Done w [] (Star (Star (Star (Emp) (ReplyW (.pointer (some a1)) (ReplyM.new nf ⟨#[110]⟩))) (CellW w3.heap.size (yA 0 0 0 0 false ⟨#[]⟩) 32)) (CellW w4.heap.size #[.int .u32 to_] 22)) (w4.alloc (.cells #[.int .u32 to_] 22))):=HS4.out.add ((Emp.stab.star (ReplyW.stab _ _)).star cS) (CellW.new w4 #[.int .u32 to_] 22))
      | ((with_reducible refine wpList_storeBD (C:=fun X=>Star (Star (Star (Star (Emp) (ReplyW (.pointer (some a1)) (⟨nf,⟨#[110]⟩,some (5,1,0)⟩:ReplyM))) (CellW w3.heap.size (yA 0 0 0 0 false ⟨#[]⟩) 32)) (CellW w4.heap.size #[.int .u32 to_] 22)) X) (Fr.r (((Emp.stab.star (ReplyW.stab _ _)).star cS).star cS) Fr.id_) HT8.out rfl 32 (.tmp 14) (.tmp 90) rfl #[.int .u32 nf,.int .u32 5,.int .i64 0,.int .i64 1,.bool false,.string ⟨#[110]⟩] rfl rfl (by kernel_rfl) rfl (by kernel_rfl) ?_);intro w9 hs;have HS9:Hid (Done w [] (Star (Star (Star (Star (Emp) (ReplyW (.pointer (some a1)) (⟨nf,⟨#[110]⟩,some (5,1,0)⟩:ReplyM))) (CellW w3.heap.size (yA 0 0 0 0 false ⟨#[]⟩) 32)) (CellW w4.heap.size #[.int .u32 to_] 22)) (CellW w8.heap.size (yA nf 5 0 1 false ⟨#[110]⟩) 32)) w9):=(by show Done _ _ _ _;exact hs);have z0:w9.cell? ⟨w8.heap.size,0,none⟩=some (.int .u32 nf):=cell_at (Done.at_ (C:=fun X=>Star (Star (Star (Star (Emp) (ReplyW (.pointer (some a1)) (⟨nf,⟨#[110]⟩,some (5,1,0)⟩:ReplyM))) (CellW w3.heap.size (yA 0 0 0 0 false ⟨#[]⟩) 32)) (CellW w4.heap.size #[.int .u32 to_] 22)) X) (Fr.r (((Emp.stab.star (ReplyW.stab _ _)).star cS).star cS) Fr.id_) HS9.out) 0 _ rfl;have z1:w9.cell? ⟨w8.heap.size,1,none⟩=some (.int .u32 5):=cell_at (Done.at_ (C:=fun X=>Star (Star (Star (Star (Emp) (ReplyW (.pointer (some a1)) (⟨nf,⟨#[110]⟩,some (5,1,0)⟩:ReplyM))) (CellW w3.heap.size (yA 0 0 0 0 false ⟨#[]⟩) 32)) (CellW w4.heap.size #[.int .u32 to_] 22)) X) (Fr.r (((Emp.stab.star (ReplyW.stab _ _)).star cS).star cS) Fr.id_) HS9.out) 1 _ rfl;clear hs)
      | (go_at_call 18;((with_reducible refine (dcalls_keep Emp.stab HS0.out (begun16_any _ HC.out)).mono ?_);rintro e w1 ⟨rfl,hs⟩;have HS1:Hid (Done w [] (Emp) w1):=(by show Done _ _ _ _;exact hs);clear hs))
      | (go_at_call 36;((with_reducible refine (dR_new HME.out (by decide) HMN.out Emp.stab HS1.out).mono ?_);rintro e w2 ⟨a1,rfl,hs⟩;have HS2:Hid (Done w [] (Star (Emp) (ReplyW (.pointer (some a1)) (ReplyM.new to_ ⟨#[110]⟩))) w2):=(by show Done _ _ _ _;exact hs);clear hs))
      | (go_at_call 39;first
       | ((with_reducible refine (dR_hear (x:=(⟨5,to_,0,1,true,⟨#[]⟩⟩:XIn)) (y:=ReplyM.xz) (n:=kf) (b:=false) (l:=l6) (m' := (ReplyM.new nf ⟨#[110]⟩)) HXO.out (HD.out.below HS2.out.bel) HL6.out HY.out HU.out HSY.out HH.out (C:=fun X=>Star (Emp) X) (Fr.r Emp.stab Fr.id_) HS2.out).mono ?_);rintro e w3 ⟨rfl,hs⟩;have HS3:Hid (Done w [] (Star (Emp) (ReplyW (.pointer (some a1)) (ReplyM.new nf ⟨#[110]⟩))) w3):=(by show Done _ _ _ _;exact hs);clear hs;have HT3:Hid (Done w [] (Star (Star (Emp) (ReplyW (.pointer (some a1)) (ReplyM.new nf ⟨#[110]⟩))) (CellW w3.heap.size (yA 0 0 0 0 false ⟨#[]⟩) 32)) (w3.alloc (.cells (yA 0 0 0 0 false ⟨#[]⟩) 32))):=HS3.out.add (Emp.stab.star (ReplyW.stab _ _)) (CellW.new w3 #[.int .u32 0,.int .u32 0,.int .i64 0,.int .i64 0,.bool false,.string ⟨#[]⟩] 32))
       | ((with_reducible refine (dR_hear (x:=(⟨5,0,0,1,false,⟨#[]⟩⟩:XIn)) (y:=(⟨nf,5,0,1,false,⟨#[110]⟩⟩:XIn)) (n:=0) (b:=true) (l:=[]) (m' := (⟨nf,⟨#[110]⟩,some (5,1,0)⟩:ReplyM)) HXO2.out (RdU.nil_ _) (by simp) HY2.out HU2.out HSY2.out HH2.out (C:=fun X=>Star (Star (Star (Emp) X) (CellW w3.heap.size (yA 0 0 0 0 false ⟨#[]⟩) 32)) (CellW w4.heap.size #[.int .u32 to_] 22)) (Fr.l (Fr.l (Fr.r Emp.stab Fr.id_) cS) cS) HS7.out).mono ?_);rintro e w8 ⟨rfl,hs⟩;have HS8:Hid (Done w [] (Star (Star (Star (Emp) (ReplyW (.pointer (some a1)) (⟨nf,⟨#[110]⟩,some (5,1,0)⟩:ReplyM))) (CellW w3.heap.size (yA 0 0 0 0 false ⟨#[]⟩) 32)) (CellW w4.heap.size #[.int .u32 to_] 22)) w8):=(by show Done _ _ _ _;exact hs);clear hs;have HT8:Hid (Done w [] (Star (Star (Star (Star (Emp) (ReplyW (.pointer (some a1)) (⟨nf,⟨#[110]⟩,some (5,1,0)⟩:ReplyM))) (CellW w3.heap.size (yA 0 0 0 0 false ⟨#[]⟩) 32)) (CellW w4.heap.size #[.int .u32 to_] 22)) (CellW w8.heap.size (yA 0 0 0 0 false ⟨#[]⟩) 32)) (w8.alloc (.cells (yA 0 0 0 0 false ⟨#[]⟩) 32))):=HS8.out.add (((Emp.stab.star (ReplyW.stab _ _)).star cS).star cS) (CellW.new w8 #[.int .u32 0,.int .u32 0,.int .i64 0,.int .i64 0,.bool false,.string ⟨#[]⟩] 32)))
      | (go_at_call 55;((with_reducible refine (dcalls_keep (((Emp.stab.star (ReplyW.stab _ _)).star cS).star cS) HT4.out (RFresh_k (n:=nf) (k:=kf) (HD.out.below HT4.out.bel) (rdU_one (n:=to_) (Done.at_ (C:=fun X=>Star (Star (Star (Emp) (ReplyW (.pointer (some a1)) (ReplyM.new nf ⟨#[110]⟩))) (CellW w3.heap.size (yA 0 0 0 0 false ⟨#[]⟩) 32)) X) (Fr.r ((Emp.stab.star (ReplyW.stab _ _)).star cS) Fr.id_) HT4.out) HMU.out) HL6.out (by simp) HNF.out HKF.out)).mono ?_);rintro e w5 ⟨rfl,hs⟩;have HS5:Hid (Done w [] (Star (Star (Star (Emp) (ReplyW (.pointer (some a1)) (ReplyM.new nf ⟨#[110]⟩))) (CellW w3.heap.size (yA 0 0 0 0 false ⟨#[]⟩) 32)) (CellW w4.heap.size #[.int .u32 to_] 22)) w5):=(by show Done _ _ _ _;exact hs);clear hs))
      | (go_at_call 41;first
       | ((with_reducible refine (dR_id (m:=(ReplyM.new nf ⟨#[110]⟩)) (n:=nf) rfl (C:=fun X=>Star (Star (Star (Emp) X) (CellW w3.heap.size (yA 0 0 0 0 false ⟨#[]⟩) 32)) (CellW w4.heap.size #[.int .u32 to_] 22)) (Fr.l (Fr.l (Fr.r Emp.stab Fr.id_) cS) cS) (((Emp.stab.star (ReplyW.stab _ _)).star cS).star cS) HS5.out).mono ?_);rintro e w6 ⟨rfl,hs⟩;have HS6:Hid (Done w [] (Star (Star (Star (Emp) (ReplyW (.pointer (some a1)) (ReplyM.new nf ⟨#[110]⟩))) (CellW w3.heap.size (yA 0 0 0 0 false ⟨#[]⟩) 32)) (CellW w4.heap.size #[.int .u32 to_] 22)) w6):=(by show Done _ _ _ _;exact hs);clear hs)
       | ((with_reducible refine (dR_id (m:=(ReplyM.new nf ⟨#[110]⟩)) (n:=nf) rfl (C:=fun X=>Star (Star (Star (Emp) X) (CellW w3.heap.size (yA 0 0 0 0 false ⟨#[]⟩) 32)) (CellW w4.heap.size #[.int .u32 to_] 22)) (Fr.l (Fr.l (Fr.r Emp.stab Fr.id_) cS) cS) (((Emp.stab.star (ReplyW.stab _ _)).star cS).star cS) HS6.out).mono ?_);rintro e w7 ⟨rfl,hs⟩;have HS7:Hid (Done w [] (Star (Star (Star (Emp) (ReplyW (.pointer (some a1)) (ReplyM.new nf ⟨#[110]⟩))) (CellW w3.heap.size (yA 0 0 0 0 false ⟨#[]⟩) 32)) (CellW w4.heap.size #[.int .u32 to_] 22)) w7):=(by show Done _ _ _ _;exact hs);clear hs)))
     go_ret
     exact ⟨by first | rfl | (simp;done),HS9.out.bel⟩
   · have hne3:(to_ == me)=false:=by simp [hmt]
     obtain ⟨hu,hsy,hy,hh⟩:=anew_other (me:=me) (to_:=to_) (l:=l6) hmt
     have HU:=jzD hu
     have HSY:=jzD hsy
     have HY:=jzD hy
     have HH:=jzD hh
     clear hu hsy hy hh hnf hkf hto hmt
     go_enter Tryz.func11,Tryz.ntmps11
     go_wp2_with (first
      | ((with_reducible refine wpList_storeBD (C:=fun X=>Star (Star (Emp) (ReplyW (.pointer (some a1)) (ReplyM.new me ⟨#[110]⟩))) X) (Fr.r (Emp.stab.star (ReplyW.stab _ _)) Fr.id_) HT3.out rfl 32 (.tmp 9) (.tmp 38) rfl #[.int .u32 0,.int .u32 0,.int .i64 0,.int .i64 0,.bool false,.string ⟨#[]⟩] rfl rfl (by kernel_rfl) rfl (by kernel_rfl) ?_);intro w4 hs;have HS4:Hid (Done w [] (Star (Star (Emp) (ReplyW (.pointer (some a1)) (ReplyM.new me ⟨#[110]⟩))) (CellW w3.heap.size (yA 0 0 0 0 false ⟨#[]⟩) 32)) w4):=(by show Done _ _ _ _;exact hs);clear hs;have HT4:Hid (Done w [] (Star (Star (Star (Emp) (ReplyW (.pointer (some a1)) (ReplyM.new me ⟨#[110]⟩))) (CellW w3.heap.size (yA 0 0 0 0 false ⟨#[]⟩) 32)) (CellW w4.heap.size #[.int .u32 me] 22)) (w4.alloc (.cells #[.int .u32 me] 22))):=HS4.out.add ((Emp.stab.star (ReplyW.stab _ _)).star cS) (CellW.new w4 #[.int .u32 me] 22))
      | (with_reducible refine wpList_eq (by kernel_rfl) 32 (.tmp 64) (.tmp 65) #[.int .u32 0,.int .u32 0,.int .i64 0,.int .i64 0,.bool false,.string ⟨#[]⟩] #[.int .u32 0,.int .u32 0,.int .i64 0,.int .i64 0,.bool false,.string ⟨#[]⟩] true rfl rfl rfl (fun _ _ _ _=>guard_X _ _ _ _ _ _) (HEQ.out) ?_)
      | (go_at_call 18;((with_reducible refine (dcalls_keep Emp.stab HS0.out (begun16_any _ HC.out)).mono ?_);rintro e w1 ⟨rfl,hs⟩;have HS1:Hid (Done w [] (Emp) w1):=(by show Done _ _ _ _;exact hs);clear hs))
      | (go_at_call 36;((with_reducible refine (dR_new HME.out (by decide) HMN.out Emp.stab HS1.out).mono ?_);rintro e w2 ⟨a1,rfl,hs⟩;have HS2:Hid (Done w [] (Star (Emp) (ReplyW (.pointer (some a1)) (ReplyM.new me ⟨#[110]⟩))) w2):=(by show Done _ _ _ _;exact hs);clear hs))
      | (go_at_call 39;((with_reducible refine (dR_hear (x:=(⟨5,to_,0,1,true,⟨#[]⟩⟩:XIn)) (y:=ReplyM.xz) (n:=0) (b:=false) (l:=l6) (m' := (ReplyM.new me ⟨#[110]⟩)) HXO.out (HD.out.below HS2.out.bel) HL6.out HY.out HU.out HSY.out HH.out (C:=fun X=>Star (Emp) X) (Fr.r Emp.stab Fr.id_) HS2.out).mono ?_);rintro e w3 ⟨rfl,hs⟩;have HS3:Hid (Done w [] (Star (Emp) (ReplyW (.pointer (some a1)) (ReplyM.new me ⟨#[110]⟩))) w3):=(by show Done _ _ _ _;exact hs);clear hs;have HT3:Hid (Done w [] (Star (Star (Emp) (ReplyW (.pointer (some a1)) (ReplyM.new me ⟨#[110]⟩))) (CellW w3.heap.size (yA 0 0 0 0 false ⟨#[]⟩) 32)) (w3.alloc (.cells (yA 0 0 0 0 false ⟨#[]⟩) 32))):=HS3.out.add (Emp.stab.star (ReplyW.stab _ _)) (CellW.new w3 #[.int .u32 0,.int .u32 0,.int .i64 0,.int .i64 0,.bool false,.string ⟨#[]⟩] 32)))
      | (go_at_call 55;((with_reducible refine (dcalls_keep (((Emp.stab.star (ReplyW.stab _ _)).star cS).star cS) HT4.out (RFresh_k (n:=nf) (k:=kf) (HD.out.below HT4.out.bel) (rdU_one (n:=me) (Done.at_ (C:=fun X=>Star (Star (Star (Emp) (ReplyW (.pointer (some a1)) (ReplyM.new me ⟨#[110]⟩))) (CellW w3.heap.size (yA 0 0 0 0 false ⟨#[]⟩) 32)) X) (Fr.r ((Emp.stab.star (ReplyW.stab _ _)).star cS) Fr.id_) HT4.out) HMU.out) HL6.out (by simp) HNF.out HKF.out)).mono ?_);rintro e w5 ⟨rfl,hs⟩;have HS5:Hid (Done w [] (Star (Star (Star (Emp) (ReplyW (.pointer (some a1)) (ReplyM.new me ⟨#[110]⟩))) (CellW w3.heap.size (yA 0 0 0 0 false ⟨#[]⟩) 32)) (CellW w4.heap.size #[.int .u32 me] 22)) w5):=(by show Done _ _ _ _;exact hs);have y0:w5.cell? ⟨w3.heap.size,0,none⟩=some (.int .u32 0):=cell_at (Done.at_ (C:=fun X=>Star (Star (Star (Emp) (ReplyW (.pointer (some a1)) (ReplyM.new me ⟨#[110]⟩))) X) (CellW w4.heap.size #[.int .u32 me] 22)) (Fr.l (Fr.r (Emp.stab.star (ReplyW.stab _ _)) Fr.id_) cS) HS5.out) 0 _ rfl;have y1:w5.cell? ⟨w3.heap.size,1,none⟩=some (.int .u32 0):=cell_at (Done.at_ (C:=fun X=>Star (Star (Star (Emp) (ReplyW (.pointer (some a1)) (ReplyM.new me ⟨#[110]⟩))) X) (CellW w4.heap.size #[.int .u32 me] 22)) (Fr.l (Fr.r (Emp.stab.star (ReplyW.stab _ _)) Fr.id_) cS) HS5.out) 1 _ rfl;have y2:w5.cell? ⟨w3.heap.size,2,none⟩=some (.int .i64 0):=cell_at (Done.at_ (C:=fun X=>Star (Star (Star (Emp) (ReplyW (.pointer (some a1)) (ReplyM.new me ⟨#[110]⟩))) X) (CellW w4.heap.size #[.int .u32 me] 22)) (Fr.l (Fr.r (Emp.stab.star (ReplyW.stab _ _)) Fr.id_) cS) HS5.out) 2 _ rfl;have y3:w5.cell? ⟨w3.heap.size,3,none⟩=some (.int .i64 0):=cell_at (Done.at_ (C:=fun X=>Star (Star (Star (Emp) (ReplyW (.pointer (some a1)) (ReplyM.new me ⟨#[110]⟩))) X) (CellW w4.heap.size #[.int .u32 me] 22)) (Fr.l (Fr.r (Emp.stab.star (ReplyW.stab _ _)) Fr.id_) cS) HS5.out) 3 _ rfl;have y4:w5.cell? ⟨w3.heap.size,4,none⟩=some (.bool false):=cell_at (Done.at_ (C:=fun X=>Star (Star (Star (Emp) (ReplyW (.pointer (some a1)) (ReplyM.new me ⟨#[110]⟩))) X) (CellW w4.heap.size #[.int .u32 me] 22)) (Fr.l (Fr.r (Emp.stab.star (ReplyW.stab _ _)) Fr.id_) cS) HS5.out) 4 _ rfl;have y5:w5.cell? ⟨w3.heap.size,5,none⟩=some (.string ⟨#[]⟩):=cell_at (Done.at_ (C:=fun X=>Star (Star (Star (Emp) (ReplyW (.pointer (some a1)) (ReplyM.new me ⟨#[110]⟩))) X) (CellW w4.heap.size #[.int .u32 me] 22)) (Fr.l (Fr.r (Emp.stab.star (ReplyW.stab _ _)) Fr.id_) cS) HS5.out) 5 _ rfl;clear hs))
      | (go_at_call 41;((with_reducible refine (dR_id (m:=(ReplyM.new me ⟨#[110]⟩)) (n:=me) rfl (C:=fun X=>Star (Star (Star (Emp) X) (CellW w3.heap.size (yA 0 0 0 0 false ⟨#[]⟩) 32)) (CellW w4.heap.size #[.int .u32 me] 22)) (Fr.l (Fr.l (Fr.r Emp.stab Fr.id_) cS) cS) (((Emp.stab.star (ReplyW.stab _ _)).star cS).star cS) HS5.out).mono ?_);rintro e w6 ⟨rfl,hs⟩;have HS6:Hid (Done w [] (Star (Star (Star (Emp) (ReplyW (.pointer (some a1)) (ReplyM.new me ⟨#[110]⟩))) (CellW w3.heap.size (yA 0 0 0 0 false ⟨#[]⟩) 32)) (CellW w4.heap.size #[.int .u32 me] 22)) w6):=(by show Done _ _ _ _;exact hs);have y0:w6.cell? ⟨w3.heap.size,0,none⟩=some (.int .u32 0):=cell_at (Done.at_ (C:=fun X=>Star (Star (Star (Emp) (ReplyW (.pointer (some a1)) (ReplyM.new me ⟨#[110]⟩))) X) (CellW w4.heap.size #[.int .u32 me] 22)) (Fr.l (Fr.r (Emp.stab.star (ReplyW.stab _ _)) Fr.id_) cS) HS6.out) 0 _ rfl;have y1:w6.cell? ⟨w3.heap.size,1,none⟩=some (.int .u32 0):=cell_at (Done.at_ (C:=fun X=>Star (Star (Star (Emp) (ReplyW (.pointer (some a1)) (ReplyM.new me ⟨#[110]⟩))) X) (CellW w4.heap.size #[.int .u32 me] 22)) (Fr.l (Fr.r (Emp.stab.star (ReplyW.stab _ _)) Fr.id_) cS) HS6.out) 1 _ rfl;have y2:w6.cell? ⟨w3.heap.size,2,none⟩=some (.int .i64 0):=cell_at (Done.at_ (C:=fun X=>Star (Star (Star (Emp) (ReplyW (.pointer (some a1)) (ReplyM.new me ⟨#[110]⟩))) X) (CellW w4.heap.size #[.int .u32 me] 22)) (Fr.l (Fr.r (Emp.stab.star (ReplyW.stab _ _)) Fr.id_) cS) HS6.out) 2 _ rfl;have y3:w6.cell? ⟨w3.heap.size,3,none⟩=some (.int .i64 0):=cell_at (Done.at_ (C:=fun X=>Star (Star (Star (Emp) (ReplyW (.pointer (some a1)) (ReplyM.new me ⟨#[110]⟩))) X) (CellW w4.heap.size #[.int .u32 me] 22)) (Fr.l (Fr.r (Emp.stab.star (ReplyW.stab _ _)) Fr.id_) cS) HS6.out) 3 _ rfl;have y4:w6.cell? ⟨w3.heap.size,4,none⟩=some (.bool false):=cell_at (Done.at_ (C:=fun X=>Star (Star (Star (Emp) (ReplyW (.pointer (some a1)) (ReplyM.new me ⟨#[110]⟩))) X) (CellW w4.heap.size #[.int .u32 me] 22)) (Fr.l (Fr.r (Emp.stab.star (ReplyW.stab _ _)) Fr.id_) cS) HS6.out) 4 _ rfl;have y5:w6.cell? ⟨w3.heap.size,5,none⟩=some (.string ⟨#[]⟩):=cell_at (Done.at_ (C:=fun X=>Star (Star (Star (Emp) (ReplyW (.pointer (some a1)) (ReplyM.new me ⟨#[110]⟩))) X) (CellW w4.heap.size #[.int .u32 me] 22)) (Fr.l (Fr.r (Emp.stab.star (ReplyW.stab _ _)) Fr.id_) cS) HS6.out) 5 _ rfl;clear hs)))
     go_ret
     exact ⟨by first | rfl | (simp;done),HS6.out.bel⟩
end Go.Proofs.YtjddbjmcjhjpiaaGreatDoor
