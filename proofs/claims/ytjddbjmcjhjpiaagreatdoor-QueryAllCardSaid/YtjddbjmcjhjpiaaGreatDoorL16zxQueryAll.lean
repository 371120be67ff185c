/- The law QueryAll. -/
import Derived.Test.YtjddbjmcjhjpiaaGreatDoorN16J
import Derived.Test.YtjddbjmcjhjpiaaGreatDoorN16G
import Derived.Test.YtjddbjmcjhjpiaaGreatDoorL16yxQueryAll
import Derived.Test.YtjddbjmcjhjpiaaGreatDoorL16sxQueryAll
import Derived.Test.YtjddbjmcjhjpiaaGreatDoorL16txQueryAll
import Derived.Test.YtjddbjmcjhjpiaaGreatDoorL16uxQueryAll
import Derived.Test.YtjddbjmcjhjpiaaGreatDoorL16vxQueryAll
import Derived.Test.YtjddbjmcjhjpiaaGreatDoorL16wxQueryAll
import Derived.Test.YtjddbjmcjhjpiaaGreatDoorL16xxQueryAll

set_option linter.all false

namespace Go.Proofs.YtjddbjmcjhjpiaaGreatDoor
set_option maxRecDepth 100000
set_option maxHeartbeats 32000000
open Go.RowKit M

section
variable {w0 w:World} {F0:List Nat} {C:Obj→Obj} {v u:Value} {q q' : QueryM} {g gl k n:Nat} {xs:List Value} {b:Bool} {x:XIn}
theorem dQ_all (hn:n=q.log.l.length) (hx:xs=dvcs q.log.l) (hL:Lin C) (hC:Fr C) (h:Done w0 F0 (C (QueryW v u q)) w):Calls Tryz.prog 29 #[u] w fun e w' => ∃ A c,e=.returned (.slice A n c)∧(n≤c∧c≤maxLen)∧Done w0 F0 (Star (C (QueryW v u q)) (SlW 2 (.slice A n c) n xs)) w' := by
 refine (dL_all hn hx (Fr.cmp_ hC (Fr.r (QueryO.stab v u q) Fr.id_)) h).mono ?_
 rintro e w' ⟨A,c,rfl,hb,hs⟩
 exact ⟨A,c,rfl,hb,Done.float (C:=fun X=>C (Star (QueryO v u q) X)) (Lin.cmp_ hL (Lin.r Lin.id_)) hs⟩
theorem dQ_clash (hn:n=q.log.clash.length) (hx:xs=u32s q.log.clash) (hL:Lin C) (hC:Fr C) (h:Done w0 F0 (C (QueryW v u q)) w):Calls Tryz.prog 32 #[u] w fun e w' => ∃ A c,e=.returned (.slice A n c)∧(n≤c∧c≤maxLen)∧Done w0 F0 (Star (C (QueryW v u q)) (SlW 1 (.slice A n c) n xs)) w' := by
 refine (dL_clash hn hx (Fr.cmp_ hC (Fr.r (QueryO.stab v u q) Fr.id_)) h).mono ?_
 rintro e w' ⟨A,c,rfl,hb,hs⟩
 exact ⟨A,c,rfl,hb,Done.float (C:=fun X=>C (Star (QueryO v u q) X)) (Lin.cmp_ hL (Lin.r Lin.id_)) hs⟩
theorem RQy.at_ (hC:Fr C) (h:Done w0 F0 (C (RQy g gl q k)) w):w.heap[g]?=some (.cells (yH q.me q.nick q.slots q.calls (some ⟨gl,0,none⟩)) 42 (0,0)):=Done.at_ (C:=fun X=>C (Star (RLg gl q.log k) X)) (Fr.cmp_ hC (Fr.r (RLg.stab _ _ _) Fr.id_)) h
theorem dRQ_over (hb:b=q.over) (hsl:0≤q.slots∧q.slots≤8) (hca:0≤q.calls∧q.calls≤1000) (hC:Fr C) (hS:Stab (C (RQy g gl q k))) (h:Done w0 F0 (C (RQy g gl q k)) w):Calls Tryz.prog 26 #[.pointer (some ⟨g,0,none⟩)] w fun e w' => e=.returned (.bool b)∧Done w0 F0 (C (RQy g gl q k)) w' := by
 subst hb
 exact dcalls_lookA (C:=fun X=>C (Star (RLg gl q.log k) X)) (R:=RQc g gl q) (Fr.cmp_ hC (Fr.r (RLg.stab _ _ _) Fr.id_)) hS h (fun F hF=>ROver_any g gl q w F hF hsl hca)
theorem dRQ_tick (hx:x=q.xid) (hb:b=q.asks) (hq:q' = q.tick) (hsl:0≤q.slots∧q.slots≤8) (hca:0≤q.calls∧q.calls≤1000) (hC:Fr C) (h:Done w0 F0 (C (RQy g gl q k)) w):Calls Tryz.prog 35 #[.pointer (some ⟨g,0,none⟩)] w fun e w' => e=.returned (.tuple #[x.val,.bool b])∧Done w0 F0 (C (RQy g gl q' k)) w' := by
 subst hx;subst hb;subst hq
 exact dcalls_at (C:=fun X=>C (Star (RLg gl q.log k) X)) (R:=RQc g gl q) (R' := RQc g gl q.tick) (Fr.cmp_ hC (Fr.r (RLg.stab _ _ _) Fr.id_)) h (fun F hF=>RTick_any g gl q F w hF hsl hca)
theorem dRQ_hear (hxk:x.nick.size≤1000000) (hb:b=q.hearB x) (hq:q' = q.hear x) (hsl:0≤q.slots∧q.slots≤8) (hca:0≤q.calls∧q.calls≤1000) (hl:q.log.l.length≤16) (hk:k≤900) (hC:Fr C) (h:Done w0 F0 (C (RQy g gl q k)) w):Calls Tryz.prog 24 #[.pointer (some ⟨g,0,none⟩),x.val] w fun e w' => e=.returned (.bool b)∧Done w0 F0 (C (RQy g gl q' (k + 1))) w' := by
 subst hb;subst hq
 obtain ⟨xf,xt,xs,xn,xa,xk⟩:=x
 exact dcalls_at (R' := RQy g gl (q.hear (⟨xf,xt,xs,xn,xa,xk⟩:XIn)) (k + 1)) hC h (fun F hF=>RQHear_any g gl k q F xf xt xs xn xa xk w hF hsl hca hl hk hxk)
theorem dRQ_all (hn:n=q.log.l.length) (hx:xs=dvcs q.log.l) (hl:q.log.l.length≤16) (hL:Lin C) (hC:Fr C) (h:Done w0 F0 (C (RQy g gl q k)) w):Calls Tryz.prog 30 #[.pointer (some ⟨gl,0,none⟩)] w fun e w' => ∃ A c,e=.returned (.slice A n c)∧(n≤c∧c≤maxLen)∧Done w0 F0 (Star (C (RQy g gl q k)) (OwnK 89 2 (.slice A n c) n xs)) w' := by
 subst hn;subst hx
 obtain ⟨F,hF,hu⟩:=Done.upd (C:=fun X=>C (Star X (RQc g gl q))) (R:=RLg gl q.log k) (Fr.cmp_ hC (Fr.l Fr.id_ cS)) h
 refine (RLAll_any gl k q.log F w hF hl).mono ?_
 rintro e w' ⟨A,c,rfl,hb,hs⟩
 exact ⟨A,c,rfl,hb,Done.float (C:=fun X=>C (Star X (RQc g gl q))) (Lin.cmp_ hL (Lin.l Lin.id_)) (hu hs)⟩
theorem dRQ_clash (hn:n=q.log.clash.length) (hx:xs=u32s q.log.clash) (hk:k≤900) (hL:Lin C) (hC:Fr C) (h:Done w0 F0 (C (RQy g gl q k)) w):Calls Tryz.prog 33 #[.pointer (some ⟨gl,0,none⟩)] w fun e w' => ∃ A c,e=.returned (.slice A n c)∧(n≤c∧c≤maxLen)∧Done w0 F0 (Star (C (RQy g gl q k)) (OwnK 22 1 (.slice A n c) n xs)) w' := by
 subst hn;subst hx
 obtain ⟨F,hF,hu⟩:=Done.upd (C:=fun X=>C (Star X (RQc g gl q))) (R:=RLg gl q.log k) (Fr.cmp_ hC (Fr.l Fr.id_ cS)) h
 refine (RLClash_any gl k q.log F w hF hk).mono ?_
 rintro e w' ⟨A,c,rfl,hb,hs⟩
 exact ⟨A,c,rfl,hb,Done.float (C:=fun X=>C (Star X (RQc g gl q))) (Lin.cmp_ hL (Lin.l Lin.id_)) (hu hs)⟩
theorem dDevs {H:Obj} {a d:Value} {l:List SeenM} {t:TypeId} (hn:n=l.length) (hl:n≤1000) (hH:Stab H) (h:Done w0 F0 (Star (Star H (SlW 2 a n (dvcs l))) (OwnK t 2 d n (dvcs l))) w):Calls Tryz.prog 27 #[a,d] w fun e w' => e=.returned (.bool true)∧Done w0 F0 H w' := by
 obtain ⟨_,ha⟩:=h.get (C:=fun X=>Star (Star H X) (OwnK t 2 d n (dvcs l))) (Fr.l (Fr.r hH Fr.id_) kS)
 obtain ⟨_,hd⟩:=h.get (C:=fun X=>Star (Star H (SlW 2 a n (dvcs l))) X) (Fr.r (hH.star (SlW.stab _ _ _ _)) Fr.id_)
 exact (LDevs_any a d l n w hn ha.2.2 hd.rd hl).mono fun e w' ⟨he,hk⟩=>⟨he,h.drop.drop.keep hH hk⟩
theorem dIds {H:Obj} {a d:Value} {l:List Int} {t:TypeId} (hn:n=l.length) (hl:n≤1000) (hH:Stab H) (h:Done w0 F0 (Star (Star H (SlW 1 a n (u32s l))) (OwnK t 1 d n (u32s l))) w):Calls Tryz.prog 31 #[a,d] w fun e w' => e=.returned (.bool true)∧Done w0 F0 H w' := by
 obtain ⟨_,ha⟩:=h.get (C:=fun X=>Star (Star H X) (OwnK t 1 d n (u32s l))) (Fr.l (Fr.r hH Fr.id_) kS)
 obtain ⟨_,hd⟩:=h.get (C:=fun X=>Star (Star H (SlW 1 a n (u32s l))) X) (Fr.r (hH.star (SlW.stab _ _ _ _)) Fr.id_)
 exact (LIds_any a d l n w hn ha.2.2 hd.rd hl).mono fun e w' ⟨he,hk⟩=>⟨he,h.drop.drop.keep hH hk⟩
end
theorem hear_same (q:QueryM) (x:XIn):(q.hear x).slots=q.slots∧(q.hear x).calls=q.calls:=by
 unfold QueryM.hear
 split <;> exact ⟨rfl,rfl⟩
theorem clash_le {w:World} {F:List Nat} {g gl k:Nat} {q:QueryM} (h:RQy g gl q k w F):q.log.clash.length≤k:=by
 obtain ⟨F1,F2,-,⟨_,_,cl,h1,h2,-⟩,-,-⟩:=h
 rw [h1]
 exact Nat.le_trans (clF_len cl) h2
theorem run_storeUq (n:Int) (g k:Nat):∀ w:World,(∃ u,w.cell? ⟨g,k,none⟩=some u)→w.frozen? ⟨g,k,none⟩=false→(Instr.storeAt 22 (.pointer (some ⟨g,k,none⟩)) (.int .u32 n)).run Tryz.prog w=.ok () (w.setCell ⟨g,k,none⟩ (.int .u32 n)):=by
 rintro w ⟨u,hu⟩ hf
 go_simp
theorem QueryAll_law (me:Int) (s:ByteArray) (sl:Int) (x0 y0:Value) (xl:List XIn) (wl:List Int) (w:World) (hme:(Lit.int .u32 me).wf=true) (hs:s.size≤maxLen) (hsl:(Lit.int .i64 sl).wf=true) (hx:RdG 6 w x0 xl.length (xcs xl)) (hxo:∀ x ∈ xl,x.ok) (hy:RdG 1 w y0 wl.length (ints wl)) (hC:Codes w) :
 Calls Tryz.prog 3 #[.int .u32 me,.string s,.int .i64 sl,x0,y0] w fun e w' => e=.returned (.bool true)∧Below w.heap.size w w' := by
 have HC:=jzD hC
 have HME:=jzD hme
 have HSLW:=jzD hsl
 obtain ⟨FA,cap,rfl,hcap,-⟩:=hx.shape
 obtain ⟨TA,tcap,rfl,htcap,-⟩:=hy.shape
 obtain ⟨L,hL⟩:∃ L,L=xl.length:=⟨_,rfl⟩
 obtain ⟨T,hT⟩:∃ T,T=wl.length:=⟨_,rfl⟩
 rw [← hL] at hcap hx ⊢
 rw [← hT] at htcap hy ⊢
 have HL:=jzD hL
 have HT:=jzD hT
 have HX:=jzD hx
 have HW:=jzD hy
 have HXS:=jzD hxo
 have htx:=fun w=>Text_any s 25 w hs (by omega)
 have hns:(s.extract 0 (min s.size 25)).size≤25:=by rw [ByteArray.size_extract];omega
 generalize s.extract 0 (min s.size 25)=nm at htx hns
 have HTX:=jzD htx
 have HNM:Hid (nm.size≤maxLen):=by show _≤_;have : (25:Nat)≤maxLen:=(by unfold maxLen;decide);omega
 have HNM2:Hid (nm.size≤1000000):=by show _≤_;omega
 clear hC hme hs hsl hx hy hxo htx hns hL hT
 rcases hmn:QueryM.mayNew me nm sl with _ | _
 · have HMN:=jzD hmn
   clear hmn
   go_enter Tryz.func3,Tryz.ntmps3
   go_wp2_with (first
    | (go_at_call 18;((with_reducible refine (dcalls_keep Emp.stab (Done.emp w) (begun16_any _ HC.out)).mono ?_);rintro e w1 ⟨rfl,hs⟩;have HS1:=jzD hs;clear hs))
    | (go_at_call 19;refine (HTX.out _).mono ?_;rintro e w' ⟨rfl,rfl⟩)
    | (go_at_call 20;((with_reducible refine (dcalls_keep Emp.stab HS1.out (QNew_none me nm sl _ HME.out HNM.out HSLW.out HMN.out)).mono ?_);rintro e w3 ⟨rfl,hs⟩;have HS3:=jzD hs;clear hs))
    | (go_at_call 21;((with_reducible refine (dcalls_keep Emp.stab HS3.out (RNewQuery_none me sl nm _ HNM2.out HMN.out)).mono ?_);rintro e w4 ⟨rfl,hs⟩;have HS4:=jzD hs;clear hs)))
   go_ret
   exact ⟨rfl,HS4.out.bel⟩
 · have HMN:=jzD hmn
   clear hmn
   go_enter Tryz.func3,Tryz.ntmps3
   go_wp2_with (first
    | (go_at_call 18;((with_reducible refine (dcalls_keep Emp.stab (Done.emp w) (begun16_any _ HC.out)).mono ?_);rintro e w1 ⟨rfl,hs⟩;have HS1:=jzD hs;clear hs))
    | (go_at_call 19;refine (HTX.out _).mono ?_;rintro e w' ⟨rfl,rfl⟩)
    | (go_at_call 20;((with_reducible refine (dQ_new HME.out HNM.out HSLW.out HMN.out Emp.stab HS1.out).mono ?_);rintro e w3 ⟨a1,b1,rfl,hs⟩;have HS3:Hid (Done w [] (QueryW (.pointer (some a1)) (.pointer (some b1)) (QueryM.new me nm sl)) w3):=(by show Done _ _ _ _;exact hs.unemp);clear hs))
    | (go_at_call 21;((with_reducible refine (RNewQuery_any me sl nm _ HNM2.out HMN.out).mono ?_);rintro e w4 ⟨g,gl,rfl,hd⟩;have HS4:=jzD (HS3.out.add (QueryW.stab _ _ _) hd);clear hd)))
   go_loopw [14] (fun iv wr=>∃ (i k:Nat) (q:QueryM),i≤90∧k≤i∧iv=.int .i64 (i:Int)∧q.calls=min (i:Int) (q.slots * 8 + 2)∧Done w [] (Star (QueryW (.pointer (some a1)) (.pointer (some b1)) q) (RQy g gl q k)) wr) (fun iv _=>(100 - intOf iv).toNat)
   case atStart =>
    have hq0:=(Done.get (C:=fun X=>Star (X) (RQy g gl (QueryM.new me nm sl) 0)) (Fr.l Fr.id_ (RQy.stab _ _ _ _)) HS4.out)
    obtain ⟨_,_,_,_,hqo,_,_⟩:=hq0
    have h0:=hqo.ok.slots
    exact ⟨0,0,QueryM.new me nm sl,by omega,by omega,rfl,by show (0:Int)=min 0 ((QueryM.new me nm sl).slots * 8 + 2);omega,HS4.out⟩
   case round =>
    clear HS4 HS3 HS1
    obtain ⟨i,k,q,hi90,hki,rfl,hcl,hs⟩:=hrel
    have HS5:=jzD hs
    have hok:q.ok∧q.log.ok:=by
     obtain ⟨_,_,_,_,h1,h2,_⟩:=Done.get (C:=fun X=>Star (X) (RQy g gl q k)) (Fr.l Fr.id_ (RQy.stab _ _ _ _)) hs
     exact ⟨h1.ok,h2.ok⟩
    have hs8:0≤q.slots∧q.slots≤8:=by have := hok.1.slots;omega
    have hc8:0≤q.calls∧q.calls≤1000:=by omega
    have HCL:=jzD hcl
    have HSL:=jzD hs8
    have HCA:=jzD hc8
    have HLE:=jzD hok.2.len
    have HKI0:=jzD hki
    have HKI:Hid (k≤100):=by show k≤100;omega
    have hov:i=90→q.over=true:=fun h=>by
     unfold QueryM.over
     exact decide_eq_true (by omega)
    have HOV:=jzD hov
    clear hs hok hs8 hc8 hcl hki hov
    by_cases h90:i < 90
    · have t1:decide ((i:Int) < 90)=true:=decide_eq_true (by omega)
      have e5:IntKind.i64.wrap ((i:Int) + 1)=(i:Int) + 1:=IntWalk.i64_in _ (by omega)
      go_upto_region 11 with fail
      go_cut [65] (fun bv wx=>∃ hb0,bv=.bool hb0∧(hb0=true→i < T∧0 < L)∧Done w [] (Star (QueryW (.pointer (some a1)) (.pointer (some b1)) q) (RQy g gl q k)) wx)
      case first =>
       by_cases hT:i < T
       · have t2:decide ((i:Int) < (T:Int))=true:=decide_eq_true (by omega)
         have t2b:decide (i < T)=true:=decide_eq_true hT
         by_cases hL0:0 < L
         · have t3:decide ((0:Int) < (L:Int))=true:=decide_eq_true (by omega)
           have t3b:decide (0 < L)=true:=decide_eq_true hL0
           have hiw:i < wl.length:=by rw [← HT.out];exact hT
           obtain ⟨z,hz⟩:∃ z,wl[i]?=some z:=⟨wl[i],List.getElem?_eq_getElem hiw⟩
           obtain ⟨yb,yo,hya,hyc⟩:=HW.out.one (i:=i) (u:=.int .i64 z) (by unfold ints;rw [List.getElem?_map,hz];rfl) hT
           subst hya
           have c5:wr.cell? ⟨yb,yo + i,none⟩=some (.int .i64 z):=(HS5.out.bel.cell (p:=⟨yb,yo + i,none⟩) (World.block_lt_of_cell? _ _ hyc)).trans hyc
           have HWZ:=jzD hyc
           have bq1:(i:Int) < (T:Int):=by omega
           have m1:bits .and .i64 z 1=z % 2:=i64_and1 z
           obtain ⟨zb,hzb⟩:∃ b,z % 2=b:=⟨_,rfl⟩
           rw [hzb] at m1
           clear hzb hz hyc hiw
           by_cases hz1:zb=1
           · have hz1b:(zb == 1)=true:=by rw [hz1];rfl
             clear hz1
             go_wp2_with fail
             go_meet
             exact ⟨true,rfl,(fun _=>⟨hT,hL0⟩),HS5.out⟩
           · have hz1b:(zb == 1)=false:=beq_eq_false_iff_ne.2 hz1
             go_wp2_with fail
             go_meet
             exact ⟨false,rfl,(fun h=>by cases h),HS5.out⟩
         · have t3:decide ((0:Int) < (L:Int))=false:=decide_eq_false (by omega)
           have t3b:decide (0 < L)=false:=decide_eq_false hL0
           go_wp2_with fail
           go_meet
           exact ⟨false,rfl,(fun h=>by cases h),HS5.out⟩
       · have t2:decide ((i:Int) < (T:Int))=false:=decide_eq_false (by omega)
         have t2b:decide (i < T)=false:=decide_eq_false hT
         go_wp2_with fail
         go_meet
         exact ⟨false,rfl,(fun h=>by cases h),HS5.out⟩
      case rest =>
      clear HS5
      obtain ⟨hb0,rfl,hcond,hs⟩:=hcut
      have HS5:=jzD hs
      have HCO:=jzD hcond
      clear hs hcond
      go_upto_if 65 with fail
      go_cut [] (fun wx=>∃ (q' : QueryM) (k' : Nat),k' ≤ i + 1∧q'.slots=q.slots∧q'.calls=q.calls∧Done w [] (Star (QueryW (.pointer (some a1)) (.pointer (some b1)) q') (RQy g gl q' k')) wx)
      case first =>
       cases hb0
       · go_wp2_with fail
         go_meet
         exact ⟨q,k,by have := HKI0.out;omega,rfl,rfl,HS5.out⟩
       · obtain ⟨hT,hL0⟩:=HCO.out rfl
         have hiw:i < wl.length:=by rw [← HT.out];exact hT
         obtain ⟨z,hz⟩:∃ z,wl[i]?=some z:=⟨wl[i],List.getElem?_eq_getElem hiw⟩
         obtain ⟨yb,yo,hya,hyc⟩:=HW.out.one (i:=i) (u:=.int .i64 z) (by unfold ints;rw [List.getElem?_map,hz];rfl) hT
         subst hya
         have c5:wc.cell? ⟨yb,yo + i,none⟩=some (.int .i64 z):=(HS5.out.bel.cell (p:=⟨yb,yo + i,none⟩) (World.block_lt_of_cell? _ _ hyc)).trans hyc
         have HWZ:=jzD hyc
         have bq1:(i:Int) < (T:Int):=by omega
         clear hz hyc hiw
         have hlt:i % L < L:=Nat.mod_lt _ hL0
         have hmle:=Nat.mod_le i L
         have em:(i:Int).tmod (L:Int)=((i % L:Nat):Int):=by rw [Int.tmod_eq_emod_of_nonneg (by omega)];omega
         have ew:IntKind.i64.wrap ((i % L:Nat):Int)=((i % L:Nat):Int):=IntWalk.i64_in _ (by omega)
         have eT:¬ (L:Int)=0:=by omega
         have eTb:((L:Int) == 0)=false:=beq_eq_false_iff_ne.2 eT
         obtain ⟨r,hr⟩:∃ r,r=i % L:=⟨_,rfl⟩
         rw [← hr] at hlt hmle em ew
         clear hr
         have hix:r < xl.length:=by rw [← HL.out];exact hlt
         obtain ⟨x,hxi⟩:∃ x,xl[r]?=some x:=⟨xl[r],List.getElem?_eq_getElem hix⟩
         have hxok:=HXS.out _ (List.mem_of_getElem? hxi)
         obtain ⟨fb,fo,hfa,-,-⟩:=HX.out.at_ (i:=r) hlt
         subst hfa
         have HRG:Hid (∀ (j:Nat) (v:Value),[Value.int .u32 x.from_,.int .u32 x.to_,.int .i64 x.slot,.int .i64 x.slots,.bool x.anew,.string x.nick][j]?=some v→w.cell? ⟨fb,fo + r * 6 + j,none⟩=some v):=by
          show ∀ (j:Nat) (v:Value),_→_
          intro j v hv
          obtain ⟨b,o,e,-,hc⟩:=HX.out.at_ (i:=r) hlt
          injection e with e
          injection e with e1 e2
          subst e1;subst e2
          exact hc j v (List.getElem?_eq_some_iff.1 hv).1 (xcs_get hxi hv)
         have HRW:Hid (wc.rangeAt fb (fo + r * 6) [.int .u32 x.from_,.int .u32 x.to_,.int .i64 x.slot,.int .i64 x.slots,.bool x.anew,.string x.nick]):=fun j v hv=>((HS5.out).bel.cell (p:=⟨fb,fo + r * 6 + j,none⟩) (World.block_lt_of_cell? _ _ (HRG.out j v hv))).trans (HRG.out j v hv)
         have hxx:=fun w=>X1_any x hxok w
         have hxl:=XIn.cut_len x
         have hxc:=XIn.cut_ok hxok
         generalize x.cut=x1 at hxx hxl hxc
         obtain ⟨xf,xt,xs,xn,xa,xk⟩:=x1
         have HXX:=jzD hxx
         have HXO0:=jzD hxc
         have HXK:Hid (xk.size≤1000000):=by show xk.size≤_;simp only at hxl;omega
         have bq2:(r:Int) < (L:Int):=by omega
         obtain ⟨m2,hm2⟩:∃ m,bits .and .i64 z 2=m:=⟨_,rfl⟩
         clear hix hxi hxok hxx hxl hxc HRG hmle
         by_cases hb2:m2=2
         · subst hb2
           have HXO:Hid (XIn.ok (⟨xf,me,xs,xn,xa,xk⟩:XIn)):=by show XIn.ok _;exact ⟨HXO0.out.1,HME.out,HXO0.out.2.2⟩
           obtain ⟨q', hq'⟩:∃ r,r=q.hear (⟨xf,me,xs,xn,xa,xk⟩:XIn):=⟨_,rfl⟩
           obtain ⟨hb,hhb⟩:∃ b,b=q.hearB (⟨xf,me,xs,xn,xa,xk⟩:XIn):=⟨_,rfl⟩
           have hsm:=hear_same q (⟨xf,me,xs,xn,xa,xk⟩:XIn)
           rw [← hq'] at hsm
           have HSM:=jzD hsm
           have HQ' := jzD hq'
           have HHB:=jzD hhb
           have n1:(hb != hb)=false:=by cases hb <;> rfl
           clear hsm hq' hhb
           go_wp2_with (first
            | (with_reducible refine wpList_load_mid rfl 32 (.tmp 71) rfl fb (fo + r * 6) rfl [.int .u32 x.from_,.int .u32 x.to_,.int .i64 x.slot,.int .i64 x.slots,.bool x.anew,.string x.nick] _ HRW.out Tryz.underlying32 rfl (by kernel_rfl) ?_)
            | (go_at_call 22;((with_reducible refine (dcalls_keep ((QueryW.stab _ _ _).star (RQy.stab _ _ _ _)) HS5.out (HXX.out _)).mono ?_);rintro e w6 ⟨rfl,hs⟩;have HT6:Hid (Done w [] (Star (Star (QueryW (.pointer (some a1)) (.pointer (some b1)) q) (RQy g gl q k)) (CellW w6.heap.size (yA 0 0 0 0 false ⟨#[]⟩) 32)) (w6.alloc (.cells (yA 0 0 0 0 false ⟨#[]⟩) 32))):=hs.add ((QueryW.stab _ _ _).star (RQy.stab _ _ _ _)) (CellW.new w6 #[.int .u32 0,.int .u32 0,.int .i64 0,.int .i64 0,.bool false,.string ⟨#[]⟩] 32);clear hs))
            | ((with_reducible refine wpList_storeBD (C:=fun X=>Star (Star (QueryW (.pointer (some a1)) (.pointer (some b1)) q) (RQy g gl q k)) X) (Fr.r ((QueryW.stab _ _ _).star (RQy.stab _ _ _ _)) Fr.id_) HT6.out rfl 32 (.tmp 15) (.tmp 73) rfl #[.int .u32 xf,.int .u32 xt,.int .i64 xs,.int .i64 xn,.bool xa,.string xk] rfl rfl (by kernel_rfl) rfl (by simp [Value.oneCell']) ?_);intro w7 hs;have c7:w7.cell? ⟨yb,yo + i,none⟩=some (.int .i64 z):=(hs.bel.cell (p:=⟨yb,yo + i,none⟩) (World.block_lt_of_cell? _ _ HWZ.out)).trans HWZ.out;have HS7:Hid (Done w [] (Star (Star (QueryW (.pointer (some a1)) (.pointer (some b1)) q) (RQy g gl q k)) (CellW w6.heap.size (yA xf xt xs xn xa xk) 32)) w7):=(by show Done _ _ _ _;exact hs);clear hs)
            | ((with_reducible refine wpList_storeD (C:=fun X=>Star (Star (QueryW (.pointer (some a1)) (.pointer (some b1)) q) (RQy g gl q k)) X) (Fr.r ((QueryW.stab _ _ _).star (RQy.stab _ _ _ _)) Fr.id_) HS7.out rfl 22 (.tmp 81) (.tmp 80) rfl 1 (.int .u32 me) rfl rfl (by simp) (run_storeUq _ _ _) ?_);intro w8 hs;have HS8:Hid (Done w [] (Star (Star (QueryW (.pointer (some a1)) (.pointer (some b1)) q) (RQy g gl q k)) (CellW w6.heap.size (yA xf me xs xn xa xk) 32)) w8):=(by show Done _ _ _ _;exact hs);clear hs))
           obtain ⟨gx,hgx⟩:∃ q,q=w6.heap.size:=⟨_,rfl⟩
           rw [← hgx] at HS8
           rw [← hgx]
           clear hgx HT6 HRW HS5
           have HSd:=jzD (HS8.out.drewD (((QueryW.stab _ _ _).star (RQy.stab _ _ _ _)).star cS))
           have HEd:Hid ((fun U=>U.heap[gx]?=some (.cells (yA xf me xs xn xa xk) 32 (0,0))) w8.drew):=(Done.at_ (C:=fun X=>Star (Star (QueryW (.pointer (some a1)) (.pointer (some b1)) q) (RQy g gl q k)) X) (Fr.r ((QueryW.stab _ _ _).star (RQy.stab _ _ _ _)) Fr.id_) HSd.out)
           refine rests_begin (fun U=>U.heap[gx]?=some (.cells (yA xf me xs xn xa xk) 32 (0,0))) (by kernel_rfl) ?_
           refine rtk 0 HEd.out ?_
           refine rests_take 1 (oi:=_) (v:=.agg #[.int .u32 xf,.int .u32 me,.int .i64 xs,.int .i64 xn,.bool xa,.string xk]) (by simp only [jzG,jzH,jzI];rfl) (by kernel_rfl) (by kernel_rfl) (by kernel_rfl) (by exact fun _ _ _ h=>h) (HEd.out) (by rfl) (fun W HW=>exec_loadB rfl rfl HW Tryz.underlying32 rfl (by kernel_rfl)) ?_
           simp only [Act.put,jzU,jzV,jzW]
           refine rtk 3 HEd.out ?_
           refine rests_take 4 (oi:=_) (v:=.agg #[.int .u32 xf,.int .u32 me,.int .i64 xs,.int .i64 xn,.bool xa,.string xk]) (by simp only [jzG,jzH,jzI];rfl) (by kernel_rfl) (by kernel_rfl) (by kernel_rfl) (by exact fun _ _ _ h=>h) (HEd.out) (by rfl) (fun W HW=>exec_loadB rfl rfl HW Tryz.underlying32 rfl (by kernel_rfl)) ?_
           simp only [Act.put,jzU,jzV,jzW]
           refine rests_call 2 (oi:=_) (by simp only [jzG,jzH,jzI];rfl) 23 #[.pointer (some a1),.agg #[.int .u32 xf,.int .u32 me,.int .i64 xs,.int .i64 xn,.bool xa,.string xk]] _ (by kernel_rfl) (by rfl) (by go_simp) (dQ_hear (x:=(⟨xf,me,xs,xn,xa,xk⟩:XIn)) (b:=hb) (m' := q') HXO.out HHB.out HQ'.out (C:=fun X=>Star (Star (X) (RQy g gl q k)) (CellW gx (yA xf me xs xn xa xk) 32)) (Fr.l (Fr.l Fr.id_ (RQy.stab _ _ _ _)) cS) HSd.out) ?_
           rintro e w20 ⟨rfl,hs⟩;have HS20:=jzD hs;have HE20:Hid ((fun U=>U.heap[gx]?=some (.cells (yA xf me xs xn xa xk) 32 (0,0))) w20):=(Done.at_ (C:=fun X=>Star (Star (QueryW (.pointer (some a1)) (.pointer (some b1)) q') (RQy g gl q k)) X) (Fr.r ((QueryW.stab _ _ _).star (RQy.stab _ _ _ _)) Fr.id_) hs);refine ⟨_,rfl,HE20.out,?_⟩;clear hs
           simp only [Act.put,jzU,jzV,jzW]
           refine rests_call 5 (oi:=_) (by simp only [jzG,jzH,jzI];rfl) 24 #[.pointer (some ⟨g,0,none⟩),.agg #[.int .u32 xf,.int .u32 me,.int .i64 xs,.int .i64 xn,.bool xa,.string xk]] _ (by kernel_rfl) (by rfl) (by go_simp) (dRQ_hear (x:=(⟨xf,me,xs,xn,xa,xk⟩:XIn)) (b:=hb) (q' := q') HXK.out HHB.out HQ'.out HSL.out HCA.out HLE.out (Nat.le_trans HKI.out (by decide)) (C:=fun X=>Star (Star (QueryW (.pointer (some a1)) (.pointer (some b1)) q') X) (CellW gx (yA xf me xs xn xa xk) 32)) (Fr.l (Fr.r (QueryW.stab _ _ _) Fr.id_) cS) HS20.out) ?_
           rintro e w21 ⟨rfl,hs⟩;have HS21:=jzD hs;have HE21:Hid ((fun U=>U.heap[gx]?=some (.cells (yA xf me xs xn xa xk) 32 (0,0))) w21):=(Done.at_ (C:=fun X=>Star (Star (QueryW (.pointer (some a1)) (.pointer (some b1)) q') (RQy g gl q' (k + 1))) X) (Fr.r ((QueryW.stab _ _ _).star (RQy.stab _ _ _ _)) Fr.id_) hs);refine ⟨_,rfl,HE21.out,?_⟩;clear hs
           simp only [Act.put,jzU,jzV,jzW]
           refine rtk 6 HE21.out ?_
           refine rests_done (by kernel_rfl) ?_
           go_wp2_with fail
           go_meet
           exact ⟨q', k + 1,by have := HKI0.out;omega,HSM.out.1,HSM.out.2,HS21.out.drop⟩
         · have hb2b:(m2 == 2)=false:=beq_eq_false_iff_ne.2 hb2
           have HXO:Hid (XIn.ok (⟨xf,xt,xs,xn,xa,xk⟩:XIn)):=by show XIn.ok _;exact HXO0.out
           obtain ⟨q', hq'⟩:∃ r,r=q.hear (⟨xf,xt,xs,xn,xa,xk⟩:XIn):=⟨_,rfl⟩
           obtain ⟨hb,hhb⟩:∃ b,b=q.hearB (⟨xf,xt,xs,xn,xa,xk⟩:XIn):=⟨_,rfl⟩
           have hsm:=hear_same q (⟨xf,xt,xs,xn,xa,xk⟩:XIn)
           rw [← hq'] at hsm
           have HSM:=jzD hsm
           have HQ' := jzD hq'
           have HHB:=jzD hhb
           have n1:(hb != hb)=false:=by cases hb <;> rfl
           clear hsm hq' hhb
           go_wp2_with (first
            | (with_reducible refine wpList_load_mid rfl 32 (.tmp 71) rfl fb (fo + r * 6) rfl [.int .u32 x.from_,.int .u32 x.to_,.int .i64 x.slot,.int .i64 x.slots,.bool x.anew,.string x.nick] _ HRW.out Tryz.underlying32 rfl (by kernel_rfl) ?_)
            | (go_at_call 22;((with_reducible refine (dcalls_keep ((QueryW.stab _ _ _).star (RQy.stab _ _ _ _)) HS5.out (HXX.out _)).mono ?_);rintro e w6 ⟨rfl,hs⟩;have HT6:Hid (Done w [] (Star (Star (QueryW (.pointer (some a1)) (.pointer (some b1)) q) (RQy g gl q k)) (CellW w6.heap.size (yA 0 0 0 0 false ⟨#[]⟩) 32)) (w6.alloc (.cells (yA 0 0 0 0 false ⟨#[]⟩) 32))):=hs.add ((QueryW.stab _ _ _).star (RQy.stab _ _ _ _)) (CellW.new w6 #[.int .u32 0,.int .u32 0,.int .i64 0,.int .i64 0,.bool false,.string ⟨#[]⟩] 32);clear hs))
            | ((with_reducible refine wpList_storeBD (C:=fun X=>Star (Star (QueryW (.pointer (some a1)) (.pointer (some b1)) q) (RQy g gl q k)) X) (Fr.r ((QueryW.stab _ _ _).star (RQy.stab _ _ _ _)) Fr.id_) HT6.out rfl 32 (.tmp 15) (.tmp 73) rfl #[.int .u32 xf,.int .u32 xt,.int .i64 xs,.int .i64 xn,.bool xa,.string xk] rfl rfl (by kernel_rfl) rfl (by simp [Value.oneCell']) ?_);intro w7 hs;have c7:w7.cell? ⟨yb,yo + i,none⟩=some (.int .i64 z):=(hs.bel.cell (p:=⟨yb,yo + i,none⟩) (World.block_lt_of_cell? _ _ HWZ.out)).trans HWZ.out;have HS7:Hid (Done w [] (Star (Star (QueryW (.pointer (some a1)) (.pointer (some b1)) q) (RQy g gl q k)) (CellW w6.heap.size (yA xf xt xs xn xa xk) 32)) w7):=(by show Done _ _ _ _;exact hs);clear hs))
           obtain ⟨gx,hgx⟩:∃ q,q=w6.heap.size:=⟨_,rfl⟩
           rw [← hgx] at HS7
           rw [← hgx]
           clear hgx HT6 HRW HS5
           have HSd:=jzD (HS7.out.drewD (((QueryW.stab _ _ _).star (RQy.stab _ _ _ _)).star cS))
           have HEd:Hid ((fun U=>U.heap[gx]?=some (.cells (yA xf xt xs xn xa xk) 32 (0,0))) w7.drew):=(Done.at_ (C:=fun X=>Star (Star (QueryW (.pointer (some a1)) (.pointer (some b1)) q) (RQy g gl q k)) X) (Fr.r ((QueryW.stab _ _ _).star (RQy.stab _ _ _ _)) Fr.id_) HSd.out)
           refine rests_begin (fun U=>U.heap[gx]?=some (.cells (yA xf xt xs xn xa xk) 32 (0,0))) (by kernel_rfl) ?_
           refine rtk 0 HEd.out ?_
           refine rests_take 1 (oi:=_) (v:=.agg #[.int .u32 xf,.int .u32 xt,.int .i64 xs,.int .i64 xn,.bool xa,.string xk]) (by simp only [jzG,jzH,jzI];rfl) (by kernel_rfl) (by kernel_rfl) (by kernel_rfl) (by exact fun _ _ _ h=>h) (HEd.out) (by rfl) (fun W HW=>exec_loadB rfl rfl HW Tryz.underlying32 rfl (by kernel_rfl)) ?_
           simp only [Act.put,jzU,jzV,jzW]
           refine rtk 3 HEd.out ?_
           refine rests_take 4 (oi:=_) (v:=.agg #[.int .u32 xf,.int .u32 xt,.int .i64 xs,.int .i64 xn,.bool xa,.string xk]) (by simp only [jzG,jzH,jzI];rfl) (by kernel_rfl) (by kernel_rfl) (by kernel_rfl) (by exact fun _ _ _ h=>h) (HEd.out) (by rfl) (fun W HW=>exec_loadB rfl rfl HW Tryz.underlying32 rfl (by kernel_rfl)) ?_
           simp only [Act.put,jzU,jzV,jzW]
           refine rests_call 2 (oi:=_) (by simp only [jzG,jzH,jzI];rfl) 23 #[.pointer (some a1),.agg #[.int .u32 xf,.int .u32 xt,.int .i64 xs,.int .i64 xn,.bool xa,.string xk]] _ (by kernel_rfl) (by rfl) (by go_simp) (dQ_hear (x:=(⟨xf,xt,xs,xn,xa,xk⟩:XIn)) (b:=hb) (m' := q') HXO.out HHB.out HQ'.out (C:=fun X=>Star (Star (X) (RQy g gl q k)) (CellW gx (yA xf xt xs xn xa xk) 32)) (Fr.l (Fr.l Fr.id_ (RQy.stab _ _ _ _)) cS) HSd.out) ?_
           rintro e w20 ⟨rfl,hs⟩;have HS20:=jzD hs;have HE20:Hid ((fun U=>U.heap[gx]?=some (.cells (yA xf xt xs xn xa xk) 32 (0,0))) w20):=(Done.at_ (C:=fun X=>Star (Star (QueryW (.pointer (some a1)) (.pointer (some b1)) q') (RQy g gl q k)) X) (Fr.r ((QueryW.stab _ _ _).star (RQy.stab _ _ _ _)) Fr.id_) hs);refine ⟨_,rfl,HE20.out,?_⟩;clear hs
           simp only [Act.put,jzU,jzV,jzW]
           refine rests_call 5 (oi:=_) (by simp only [jzG,jzH,jzI];rfl) 24 #[.pointer (some ⟨g,0,none⟩),.agg #[.int .u32 xf,.int .u32 xt,.int .i64 xs,.int .i64 xn,.bool xa,.string xk]] _ (by kernel_rfl) (by rfl) (by go_simp) (dRQ_hear (x:=(⟨xf,xt,xs,xn,xa,xk⟩:XIn)) (b:=hb) (q' := q') HXK.out HHB.out HQ'.out HSL.out HCA.out HLE.out (Nat.le_trans HKI.out (by decide)) (C:=fun X=>Star (Star (QueryW (.pointer (some a1)) (.pointer (some b1)) q') X) (CellW gx (yA xf xt xs xn xa xk) 32)) (Fr.l (Fr.r (QueryW.stab _ _ _) Fr.id_) cS) HS20.out) ?_
           rintro e w21 ⟨rfl,hs⟩;have HS21:=jzD hs;have HE21:Hid ((fun U=>U.heap[gx]?=some (.cells (yA xf xt xs xn xa xk) 32 (0,0))) w21):=(Done.at_ (C:=fun X=>Star (Star (QueryW (.pointer (some a1)) (.pointer (some b1)) q') (RQy g gl q' (k + 1))) X) (Fr.r ((QueryW.stab _ _ _).star (RQy.stab _ _ _ _)) Fr.id_) hs);refine ⟨_,rfl,HE21.out,?_⟩;clear hs
           simp only [Act.put,jzU,jzV,jzW]
           refine rtk 6 HE21.out ?_
           refine rests_done (by kernel_rfl) ?_
           go_wp2_with fail
           go_meet
           exact ⟨q', k + 1,by have := HKI0.out;omega,HSM.out.1,HSM.out.2,HS21.out.drop⟩
      case rest =>
       clear HS5
       obtain ⟨q1,k1,hk1,hsl1,hca1,hs⟩:=hcut
       have HS10:=jzD hs
       have hcl1:q1.calls=min (i:Int) (q1.slots * 8 + 2):=by rw [hca1,hsl1];exact HCL.out
       have hok:q1.ok∧q1.log.ok∧q1.log.clash.length≤k1:=by
        obtain ⟨_,_,_,_,h1,h2,_⟩:=Done.get (C:=fun X=>Star (X) (RQy g gl q1 k1)) (Fr.l Fr.id_ (RQy.stab _ _ _ _)) hs
        obtain ⟨_,h3⟩:=Done.get (C:=fun X=>Star (QueryW (.pointer (some a1)) (.pointer (some b1)) q1) X) (Fr.r (QueryW.stab _ _ _) Fr.id_) hs
        exact ⟨h1.ok,h2.ok,clash_le h3⟩
       have hs8:0≤q1.slots∧q1.slots≤8:=by have := hok.1.slots;omega
       have hc8:0≤q1.calls∧q1.calls≤1000:=by omega
       clear HSL HCA HLE HKI HKI0 HCL HOV hs hca1 hsl1
       revert hk1 HS10 hcl1 hok hs8 hc8
       clear k q
       generalize k1=k
       generalize q1=q
       intro hk1 HS10 hcl1 hok hs8 hc8
       have HSL:=jzD hs8
       have HCA:=jzD hc8
       have HLE:=jzD hok.2.1.len
       have HKI:Hid (k≤100):=by show k≤100;omega
       have HKI1:=jzD hk1
       obtain ⟨nl,hnl⟩:∃ n,n=q.log.l.length:=⟨_,rfl⟩
       obtain ⟨nc,hnc⟩:∃ n,n=q.log.clash.length:=⟨_,rfl⟩
       have HNL:=jzD hnl
       have HNC:=jzD hnc
       have HNL2:Hid (nl≤1000):=by show nl≤1000;have := hok.2.1.len;omega
       have HNC2:Hid (nc≤1000):=by show nc≤1000;have := hok.2.2;omega
       obtain ⟨ob,hob⟩:∃ b,b=q.over:=⟨_,rfl⟩
       obtain ⟨y,hy⟩:∃ y,y=q.xid:=⟨_,rfl⟩
       obtain ⟨yf,yt,ys,yn,ya,yk⟩:=y
       obtain ⟨ab,hab⟩:∃ b,b=q.asks:=⟨_,rfl⟩
       obtain ⟨q', hq'⟩:∃ r,r=q.tick:=⟨_,rfl⟩
       have HNX:Hid (q'.calls=min ((i + 1:Nat):Int) (q'.slots * 8 + 2)):=by
        show _=_
        rw [hq']
        show min (q.calls + 1) (q.slots * 8 + 2)=min ((i + 1:Nat):Int) (q.slots * 8 + 2)
        omega
       have HOB:=jzD hob
       have HY:=jzD hy
       have HAB:=jzD hab
       have HTQ:=jzD hq'
       have HNE:Hid (∀ W,(binOp .neq 32 (.agg #[.int .u32 yf,.int .u32 yt,.int .i64 ys,.int .i64 yn,.bool ya,.string yk]) (.agg #[.int .u32 yf,.int .u32 yt,.int .i64 ys,.int .i64 yn,.bool ya,.string yk])).run Tryz.prog W=.ok (.bool false) W):=by show ∀ _,_;exact neq_xin (⟨yf,yt,ys,yn,ya,yk⟩:XIn)
       have n1:(ob != ob)=false:=by cases ob <;> rfl
       have n2:(ab != ab)=false:=by cases ab <;> rfl
       clear hnl hnc hok hob hy hab hq' hs8 hc8 hcl1 hk1
       go_wp2
       have HSd:=jzD (HS10.out.drewD ((QueryW.stab _ _ _).star (RQy.stab _ _ _ _)))
       have HEd:Hid ((fun U=>U.heap[g]?=some (.cells (yH q.me q.nick q.slots q.calls (some ⟨gl,0,none⟩)) 42 (0,0))) wc.drew):=(RQy.at_ (C:=fun X=>Star (QueryW (.pointer (some a1)) (.pointer (some b1)) q) X) (Fr.r (QueryW.stab _ _ _) Fr.id_) HSd.out)
       refine rests_begin (fun U=>U.heap[g]?=some (.cells (yH q.me q.nick q.slots q.calls (some ⟨gl,0,none⟩)) 42 (0,0))) (by kernel_rfl) ?_
       refine rtk 0 HEd.out ?_
       refine rtk 2 HEd.out ?_
       refine rests_call 1 (oi:=_) (by simp only [jzG,jzH,jzI];rfl) 25 #[.pointer (some a1)] _ (by kernel_rfl) (by rfl) (by go_simp) (dQ_over (b:=ob) HOB.out (C:=fun X=>Star (X) (RQy g gl q k)) (Fr.l Fr.id_ (RQy.stab _ _ _ _)) ((QueryW.stab _ _ _).star (RQy.stab _ _ _ _)) HSd.out) ?_
       rintro e w30 ⟨rfl,hs⟩;have HS30:=jzD hs;have HE30:Hid ((fun U=>U.heap[g]?=some (.cells (yH q.me q.nick q.slots q.calls (some ⟨gl,0,none⟩)) 42 (0,0))) w30):=(RQy.at_ (C:=fun X=>Star (QueryW (.pointer (some a1)) (.pointer (some b1)) q) X) (Fr.r (QueryW.stab _ _ _) Fr.id_) hs);refine ⟨_,rfl,HE30.out,?_⟩;clear hs
       simp only [Act.put,jzU,jzV,jzW]
       refine rests_call 3 (oi:=_) (by simp only [jzG,jzH,jzI];rfl) 26 #[.pointer (some ⟨g,0,none⟩)] _ (by kernel_rfl) (by rfl) (by go_simp) (dRQ_over (b:=ob) HOB.out HSL.out HCA.out (C:=fun X=>Star (QueryW (.pointer (some a1)) (.pointer (some b1)) q) X) (Fr.r (QueryW.stab _ _ _) Fr.id_) ((QueryW.stab _ _ _).star (RQy.stab _ _ _ _)) HS30.out) ?_
       rintro e w31 ⟨rfl,hs⟩;have HS31:=jzD hs;have HE31:Hid ((fun U=>U.heap[g]?=some (.cells (yH q.me q.nick q.slots q.calls (some ⟨gl,0,none⟩)) 42 (0,0))) w31):=(RQy.at_ (C:=fun X=>Star (QueryW (.pointer (some a1)) (.pointer (some b1)) q) X) (Fr.r (QueryW.stab _ _ _) Fr.id_) hs);refine ⟨_,rfl,HE31.out,?_⟩;clear hs
       simp only [Act.put,jzU,jzV,jzW]
       refine rtk 4 HE31.out ?_
       refine rtk 5 HE31.out ?_
       refine rtk 6 HE31.out ?_
       refine rtk 9 HE31.out ?_
       refine rtk 10 HE31.out ?_
       refine rtk 11 HE31.out ?_
       refine rtk 12 HE31.out ?_ (hy:=by intro W HW;have cw:W.cell? ⟨g,4,none⟩=some (.pointer (some ⟨gl,0,none⟩)):=cell_at HW 4 _ rfl;go_simp;try with_reducible rfl)
       refine rests_call 7 (oi:=_) (by simp only [jzG,jzH,jzI];rfl) 28 #[.pointer (some a1)] _ (by kernel_rfl) (by rfl) (by go_simp) (dQ_log (u:=.pointer (some b1)) (m:=q) (C:=fun X=>Star (X) (RQy g gl q k)) (Fr.l Fr.id_ (RQy.stab _ _ _ _)) ((QueryW.stab _ _ _).star (RQy.stab _ _ _ _)) HS31.out) ?_
       rintro e w32 ⟨rfl,hs⟩;have HS32:=jzD hs;have HE32:Hid ((fun U=>U.heap[g]?=some (.cells (yH q.me q.nick q.slots q.calls (some ⟨gl,0,none⟩)) 42 (0,0))) w32):=(RQy.at_ (C:=fun X=>Star (QueryW (.pointer (some a1)) (.pointer (some b1)) q) X) (Fr.r (QueryW.stab _ _ _) Fr.id_) hs);refine ⟨_,rfl,HE32.out,?_⟩;clear hs
       simp only [Act.put,jzU,jzV,jzW]
       refine rests_call 8 (oi:=_) (by simp only [jzG,jzH,jzI];rfl) 29 #[.pointer (some b1)] _ (by kernel_rfl) (by rfl) (by go_simp) (dQ_all (n:=nl) (q:=q) (v:=.pointer (some a1)) HNL.out rfl (Lin.l Lin.id_) (C:=fun X=>Star (X) (RQy g gl q k)) (Fr.l Fr.id_ (RQy.stab _ _ _ _)) HS32.out) ?_
       rintro e w33 ⟨A1,c1,rfl,hbb1,hs⟩;have HS33:=jzD hs;have HE33:Hid ((fun U=>U.heap[g]?=some (.cells (yH q.me q.nick q.slots q.calls (some ⟨gl,0,none⟩)) 42 (0,0))) w33):=(RQy.at_ (C:=fun X=>Star (Star (QueryW (.pointer (some a1)) (.pointer (some b1)) q) X) (SlW 2 (.slice A1 nl c1) nl (dvcs q.log.l))) (Fr.l (Fr.r (QueryW.stab _ _ _) Fr.id_) (SlW.stab _ _ _ _)) hs);refine ⟨_,rfl,HE33.out,?_⟩;clear hs
       simp only [Act.put,jzU,jzV,jzW]
       refine rests_call 13 (oi:=_) (by simp only [jzG,jzH,jzI];rfl) 30 #[.pointer (some ⟨gl,0,none⟩)] _ (by kernel_rfl) (by rfl) (by go_simp) (dRQ_all (n:=nl) (q:=q) HNL.out rfl HLE.out (Lin.l (Lin.r Lin.id_)) (C:=fun X=>Star (Star (QueryW (.pointer (some a1)) (.pointer (some b1)) q) X) (SlW 2 (.slice A1 nl c1) nl (dvcs q.log.l))) (Fr.l (Fr.r (QueryW.stab _ _ _) Fr.id_) (SlW.stab _ _ _ _)) HS33.out) ?_
       rintro e w34 ⟨A2,c2,rfl,hbb2,hs⟩;have HS34:=jzD hs;have HE34:Hid ((fun U=>U.heap[g]?=some (.cells (yH q.me q.nick q.slots q.calls (some ⟨gl,0,none⟩)) 42 (0,0))) w34):=(RQy.at_ (C:=fun X=>Star (Star (Star (QueryW (.pointer (some a1)) (.pointer (some b1)) q) X) (SlW 2 (.slice A1 nl c1) nl (dvcs q.log.l))) (OwnK 89 2 (.slice A2 nl c2) nl (dvcs q.log.l))) (Fr.l (Fr.l (Fr.r (QueryW.stab _ _ _) Fr.id_) (SlW.stab _ _ _ _)) kS) hs);refine ⟨_,rfl,HE34.out,?_⟩;clear hs
       simp only [Act.put,jzU,jzV,jzW]
       refine rests_call 14 (oi:=_) (by simp only [jzG,jzH,jzI];rfl) 27 #[.slice A1 nl c1,.slice A2 nl c2] _ (by kernel_rfl) (by rfl) (by go_simp) (dDevs HNL.out HNL2.out ((QueryW.stab _ _ _).star (RQy.stab _ _ _ _)) HS34.out) ?_
       rintro e w35 ⟨rfl,hs⟩;have HS35:=jzD hs;have HE35:Hid ((fun U=>U.heap[g]?=some (.cells (yH q.me q.nick q.slots q.calls (some ⟨gl,0,none⟩)) 42 (0,0))) w35):=(RQy.at_ (C:=fun X=>Star (QueryW (.pointer (some a1)) (.pointer (some b1)) q) X) (Fr.r (QueryW.stab _ _ _) Fr.id_) hs);refine ⟨_,rfl,HE35.out,?_⟩;clear hs
       simp only [Act.put,jzU,jzV,jzW]
       refine rtk 15 HE35.out ?_
       refine rtk 16 HE35.out ?_
       refine rtk 17 HE35.out ?_
       refine rtk 18 HE35.out ?_
       refine rtk 21 HE35.out ?_
       refine rtk 22 HE35.out ?_
       refine rtk 23 HE35.out ?_
       refine rtk 24 HE35.out ?_ (hy:=by intro W HW;have cw:W.cell? ⟨g,4,none⟩=some (.pointer (some ⟨gl,0,none⟩)):=cell_at HW 4 _ rfl;go_simp;try with_reducible rfl)
       refine rests_call 19 (oi:=_) (by simp only [jzG,jzH,jzI];rfl) 28 #[.pointer (some a1)] _ (by kernel_rfl) (by rfl) (by go_simp) (dQ_log (u:=.pointer (some b1)) (m:=q) (C:=fun X=>Star (X) (RQy g gl q k)) (Fr.l Fr.id_ (RQy.stab _ _ _ _)) ((QueryW.stab _ _ _).star (RQy.stab _ _ _ _)) HS35.out) ?_
       rintro e w36 ⟨rfl,hs⟩;have HS36:=jzD hs;have HE36:Hid ((fun U=>U.heap[g]?=some (.cells (yH q.me q.nick q.slots q.calls (some ⟨gl,0,none⟩)) 42 (0,0))) w36):=(RQy.at_ (C:=fun X=>Star (QueryW (.pointer (some a1)) (.pointer (some b1)) q) X) (Fr.r (QueryW.stab _ _ _) Fr.id_) hs);refine ⟨_,rfl,HE36.out,?_⟩;clear hs
       simp only [Act.put,jzU,jzV,jzW]
       refine rests_call 20 (oi:=_) (by simp only [jzG,jzH,jzI];rfl) 32 #[.pointer (some b1)] _ (by kernel_rfl) (by rfl) (by go_simp) (dQ_clash (n:=nc) (q:=q) (v:=.pointer (some a1)) HNC.out rfl (Lin.l Lin.id_) (C:=fun X=>Star (X) (RQy g gl q k)) (Fr.l Fr.id_ (RQy.stab _ _ _ _)) HS36.out) ?_
       rintro e w37 ⟨A3,c3,rfl,hbb3,hs⟩;have HS37:=jzD hs;have HE37:Hid ((fun U=>U.heap[g]?=some (.cells (yH q.me q.nick q.slots q.calls (some ⟨gl,0,none⟩)) 42 (0,0))) w37):=(RQy.at_ (C:=fun X=>Star (Star (QueryW (.pointer (some a1)) (.pointer (some b1)) q) X) (SlW 1 (.slice A3 nc c3) nc (u32s q.log.clash))) (Fr.l (Fr.r (QueryW.stab _ _ _) Fr.id_) (SlW.stab _ _ _ _)) hs);refine ⟨_,rfl,HE37.out,?_⟩;clear hs
       simp only [Act.put,jzU,jzV,jzW]
       refine rests_call 25 (oi:=_) (by simp only [jzG,jzH,jzI];rfl) 33 #[.pointer (some ⟨gl,0,none⟩)] _ (by kernel_rfl) (by rfl) (by go_simp) (dRQ_clash (n:=nc) (q:=q) HNC.out rfl (Nat.le_trans HKI.out (by decide)) (Lin.l (Lin.r Lin.id_)) (C:=fun X=>Star (Star (QueryW (.pointer (some a1)) (.pointer (some b1)) q) X) (SlW 1 (.slice A3 nc c3) nc (u32s q.log.clash))) (Fr.l (Fr.r (QueryW.stab _ _ _) Fr.id_) (SlW.stab _ _ _ _)) HS37.out) ?_
       rintro e w38 ⟨A4,c4,rfl,hbb4,hs⟩;have HS38:=jzD hs;have HE38:Hid ((fun U=>U.heap[g]?=some (.cells (yH q.me q.nick q.slots q.calls (some ⟨gl,0,none⟩)) 42 (0,0))) w38):=(RQy.at_ (C:=fun X=>Star (Star (Star (QueryW (.pointer (some a1)) (.pointer (some b1)) q) X) (SlW 1 (.slice A3 nc c3) nc (u32s q.log.clash))) (OwnK 22 1 (.slice A4 nc c4) nc (u32s q.log.clash))) (Fr.l (Fr.l (Fr.r (QueryW.stab _ _ _) Fr.id_) (SlW.stab _ _ _ _)) kS) hs);refine ⟨_,rfl,HE38.out,?_⟩;clear hs
       simp only [Act.put,jzU,jzV,jzW]
       refine rests_call 26 (oi:=_) (by simp only [jzG,jzH,jzI];rfl) 31 #[.slice A3 nc c3,.slice A4 nc c4] _ (by kernel_rfl) (by rfl) (by go_simp) (dIds HNC.out HNC2.out ((QueryW.stab _ _ _).star (RQy.stab _ _ _ _)) HS38.out) ?_
       rintro e w39 ⟨rfl,hs⟩;have HS39:=jzD hs;have HE39:Hid ((fun U=>U.heap[g]?=some (.cells (yH q.me q.nick q.slots q.calls (some ⟨gl,0,none⟩)) 42 (0,0))) w39):=(RQy.at_ (C:=fun X=>Star (QueryW (.pointer (some a1)) (.pointer (some b1)) q) X) (Fr.r (QueryW.stab _ _ _) Fr.id_) hs);refine ⟨_,rfl,HE39.out,?_⟩;clear hs
       simp only [Act.put,jzU,jzV,jzW]
       refine rtk 27 HE39.out ?_
       refine rtk 28 HE39.out ?_
       refine rests_done (by kernel_rfl) ?_
       go_wp2_with (first
        | (go_at_call 34;((with_reducible refine (dQ_tick (x:=(⟨yf,yt,ys,yn,ya,yk⟩:XIn)) (b:=ab) (m' := q') HY.out HAB.out HTQ.out (C:=fun X=>Star (X) (RQy g gl q k)) (Fr.l Fr.id_ (RQy.stab _ _ _ _)) HS39.out).mono ?_);rintro e w50 ⟨rfl,hs⟩;have HT50:Hid (Done w [] (Star (Star (QueryW (.pointer (some a1)) (.pointer (some b1)) q') (RQy g gl q k)) (CellW w50.heap.size (yA 0 0 0 0 false ⟨#[]⟩) 32)) (w50.alloc (.cells (yA 0 0 0 0 false ⟨#[]⟩) 32))):=hs.add ((QueryW.stab _ _ _).star (RQy.stab _ _ _ _)) (CellW.new w50 #[.int .u32 0,.int .u32 0,.int .i64 0,.int .i64 0,.bool false,.string ⟨#[]⟩] 32);clear hs))
        | ((with_reducible refine wpList_storeBD (C:=fun X=>Star (Star (QueryW (.pointer (some a1)) (.pointer (some b1)) q') (RQy g gl q k)) X) (Fr.r ((QueryW.stab _ _ _).star (RQy.stab _ _ _ _)) Fr.id_) HT50.out rfl 32 (.tmp 16) (.tmp 121) rfl #[.int .u32 yf,.int .u32 yt,.int .i64 ys,.int .i64 yn,.bool ya,.string yk] rfl rfl (by kernel_rfl) rfl (by simp [Value.oneCell']) ?_);intro w51 hs;have HS51:Hid (Done w [] (Star (Star (QueryW (.pointer (some a1)) (.pointer (some b1)) q') (RQy g gl q k)) (CellW w50.heap.size (yA yf yt ys yn ya yk) 32)) w51):=(by show Done _ _ _ _;exact hs);clear hs)
        | (go_at_call 35;((with_reducible refine (dRQ_tick (x:=(⟨yf,yt,ys,yn,ya,yk⟩:XIn)) (b:=ab) (q' := q') HY.out HAB.out HTQ.out HSL.out HCA.out (C:=fun X=>Star (Star (QueryW (.pointer (some a1)) (.pointer (some b1)) q') X) (CellW w50.heap.size (yA yf yt ys yn ya yk) 32)) (Fr.l (Fr.r (QueryW.stab _ _ _) Fr.id_) cS) HS51.out).mono ?_);rintro e w52 ⟨rfl,hs⟩;have HT52:Hid (Done w [] (Star (Star (Star (QueryW (.pointer (some a1)) (.pointer (some b1)) q') (RQy g gl q' k)) (CellW w50.heap.size (yA yf yt ys yn ya yk) 32)) (CellW w52.heap.size (yA 0 0 0 0 false ⟨#[]⟩) 32)) (w52.alloc (.cells (yA 0 0 0 0 false ⟨#[]⟩) 32))):=hs.add (((QueryW.stab _ _ _).star (RQy.stab _ _ _ _)).star cS) (CellW.new w52 #[.int .u32 0,.int .u32 0,.int .i64 0,.int .i64 0,.bool false,.string ⟨#[]⟩] 32);clear hs))
        | ((with_reducible refine wpList_storeBD (C:=fun X=>Star (Star (Star (QueryW (.pointer (some a1)) (.pointer (some b1)) q') (RQy g gl q' k)) (CellW w50.heap.size (yA yf yt ys yn ya yk) 32)) X) (Fr.r (((QueryW.stab _ _ _).star (RQy.stab _ _ _ _)).star cS) Fr.id_) HT52.out rfl 32 (.tmp 18) (.tmp 126) rfl #[.int .u32 yf,.int .u32 yt,.int .i64 ys,.int .i64 yn,.bool ya,.string yk] rfl rfl (by kernel_rfl) rfl (by simp [Value.oneCell']) ?_);intro w53 hs;have HS53:Hid (Done w [] (Star (Star (Star (QueryW (.pointer (some a1)) (.pointer (some b1)) q') (RQy g gl q' k)) (CellW w50.heap.size (yA yf yt ys yn ya yk) 32)) (CellW w52.heap.size (yA yf yt ys yn ya yk) 32)) w53):=(by show Done _ _ _ _;exact hs);clear hs)
        | (with_reducible refine wpList_loadD (C:=fun X=>Star (Star (Star (QueryW (.pointer (some a1)) (.pointer (some b1)) q') (RQy g gl q' k)) X) (CellW w52.heap.size (yA yf yt ys yn ya yk) 32)) (Fr.l (Fr.r ((QueryW.stab _ _ _).star (RQy.stab _ _ _ _)) Fr.id_) cS) HS53.out rfl 32 (.tmp 16) rfl rfl _ Tryz.underlying32 rfl (by kernel_rfl) ?_)
        | (with_reducible refine wpList_loadD (C:=fun X=>Star (Star (Star (QueryW (.pointer (some a1)) (.pointer (some b1)) q') (RQy g gl q' k)) (CellW w50.heap.size (yA yf yt ys yn ya yk) 32)) X) (Fr.r (((QueryW.stab _ _ _).star (RQy.stab _ _ _ _)).star cS) Fr.id_) HS53.out rfl 32 (.tmp 18) rfl rfl _ Tryz.underlying32 rfl (by kernel_rfl) ?_)
        | (with_reducible refine wpList_ne (by kernel_rfl) 32 (.tmp 128) (.tmp 129) #[.int .u32 yf,.int .u32 yt,.int .i64 ys,.int .i64 yn,.bool ya,.string yk] #[.int .u32 yf,.int .u32 yt,.int .i64 ys,.int .i64 yn,.bool ya,.string yk] false rfl rfl rfl (fun _ _ _ _=>guard_X _ _ _ _ _ _) (HNE.out) ?_))
       go_roundw
       case rel=>exact ⟨i + 1,k,q', by omega,HKI1.out,by go_num,HNX.out,HS53.out.drop.drop⟩
       case measure=>simp [intOf] <;> omega
    · have t1:decide ((i:Int) < 90)=false:=decide_eq_false (by omega)
      have HOB:Hid (true=q.over):=(HOV.out (by omega)).symm
      go_wp2_with (go_at_call 25;((with_reducible refine (dQ_over (b:=true) HOB.out (C:=fun X=>Star (X) (RQy g gl q k)) (Fr.l Fr.id_ (RQy.stab _ _ _ _)) ((QueryW.stab _ _ _).star (RQy.stab _ _ _ _)) HS5.out).mono ?_);rintro e w6 ⟨rfl,hs⟩;have HS6:=jzD hs;clear hs))
      go_ret
      exact ⟨rfl,HS6.out.bel⟩
end Go.Proofs.YtjddbjmcjhjpiaaGreatDoor
