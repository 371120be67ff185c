/- The law ReplyAll. -/
import Derived.Test.YtjddbjmcjhjpiaaGreatDoorN16J
import Derived.Test.YtjddbjmcjhjpiaaGreatDoorL16qxReplyAll

set_option linter.all false

namespace Go.Proofs.YtjddbjmcjhjpiaaGreatDoor
set_option maxRecDepth 100000
set_option maxHeartbeats 32000000
open Go.RowKit M

theorem hear_nick (r:ReplyM) (x:XIn) (l:List Int):(r.hear x l).nick=r.nick:=by
 unfold ReplyM.hear
 split
 · split
   · split <;> rfl
   · split
     · split <;> rfl
     · rfl
 · rfl
section
variable {w0 w:World} {F0:List Nat} {C:Obj→Obj}
theorem dRR_hear {g:Nat} {m m' : ReplyM} {x y:XIn} {v:Value} {l:List Int} {n:Int} {b:Bool} (hx:x.ok) (hxk:x.nick.size≤1000000) (hid:u32 m.id) (hd:RdU w v l) (hl:l.length≤1000) (hg:0 < l.length→∀ b ∈ blk v,b ≠ g) (hy:y=m.xid x l) (hn:n=m.used x l) (hb:b=m.says x l) (hm:m' = m.hear x l) (hC:Fr C) (h:Done w0 F0 (C (RRp g m)) w) :
 Calls Tryz.prog 40 #[.pointer (some ⟨g,0,none⟩),x.val,v] w fun e w' => e=.returned (.tuple #[y.val,.int .i64 n,.bool b])∧Done w0 F0 (C (RRp g m')) w' := by
 subst hy;subst hn;subst hb;subst hm
 refine dcalls_at (R' := RRp g (m.hear x l)) hC h (fun F hF=>?_)
 obtain ⟨rd,ra,rn,rk,hr,hc⟩:=hF
 obtain ⟨id,nk,rnd⟩:=m
 obtain ⟨xf,xt,xs,xn,xa,xk⟩:=x
 simp only at hr
 subst hr
 have hF:F=[g]:=hc.1
 exact RRHear_any g id ra rn rk nk rd F xf xt xs xn xa xk v l w hc hx hxk hid hd hl (fun h0 b hb hbF=>by
  rw [hF] at hbF
  exact hg h0 b hb (List.mem_singleton.1 hbF))
theorem quiet_id {wB:World} {v:Value} {m:ReplyM} (hC:Fr C) (hS:Stab (C (ReplyW v m))) (h:Done w0 F0 (C (ReplyW v m)) wB):∀ W,Below wB.heap.size wB W→Calls Tryz.prog 41 #[v] W fun e W' => e=.returned (.int .u32 m.id)∧Below wB.heap.size wB W' := fun W hW=>by
 obtain ⟨F1,h1⟩:=(h.keep hS hW).get hC
 exact (RpId_any v m F1 W h1).mono fun e w' ⟨h2,h3⟩=>⟨h2,hW.trans (h3.mono hW.size)⟩
theorem quiet_nick {wB:World} {v:Value} {m:ReplyM} (hC:Fr C) (hS:Stab (C (ReplyW v m))) (h:Done w0 F0 (C (ReplyW v m)) wB):∀ W,Below wB.heap.size wB W→Calls Tryz.prog 42 #[v] W fun e W' => e=.returned (.string m.nick)∧Below wB.heap.size wB W' := fun W hW=>by
 obtain ⟨F1,h1⟩:=(h.keep hS hW).get hC
 exact (RpNick_any v m F1 W h1).mono fun e w' ⟨h2,h3⟩=>⟨h2,hW.trans (h3.mono hW.size)⟩
end
theorem region_sharedG {P:Program} {id:Nat} {ops:Array Oper} {a:Act} {w:World} {Q:Exit→Act→World→Prop} (F:Nat→World→Prop) (A:Nat→Act) (hcont:∀ g w5,F g w5→Q .normal (A g) w5) (h:(∀ g w5,F g w5→Q .normal (A g) w5)→(Code.region id ops true).wp P Q a w):(Code.region id ops true).wp P Q a w:=h hcont
theorem ReplyAll_law (me:Int) (s:ByteArray) (x0 d0:Value) (xl:List XIn) (dvs:List Value) (w:World) (hme:(Lit.int .u32 me).wf=true) (hs:s.size≤maxLen) (hx:RdG 6 w x0 xl.length (xcs xl)) (hxo:∀ x ∈ xl,x.ok) (hd:RdG 1 w d0 dvs.length dvs) (hdv:∀ v ∈ dvs,∃ l,RdU w v l) (hC:Codes w) :
 Calls Tryz.prog 4 #[.int .u32 me,.string s,x0,d0] w fun e w' => e=.returned (.bool true)∧Below w.heap.size w w' := by
 have HC:=jzD hC
 have HME:=jzD hme
 obtain ⟨FA,cap,rfl,hcap,-⟩:=hx.shape
 obtain ⟨TA,tcap,rfl,htcap,-⟩:=hd.shape
 obtain ⟨L,hL⟩:∃ L,L=xl.length:=⟨_,rfl⟩
 obtain ⟨T,hT⟩:∃ T,T=dvs.length:=⟨_,rfl⟩
 rw [← hL] at hcap hx ⊢
 rw [← hT] at htcap hd ⊢
 have HL:=jzD hL
 have HT:=jzD hT
 have HX:=jzD hx
 have HDS:=jzD hd
 have HXS:=jzD hxo
 have HDV:=jzD hdv
 have htx:=fun w=>Text_any s 25 w hs (by omega)
 have hns:(s.extract 0 (min s.size 25)).size≤25:=by rw [ByteArray.size_extract];omega
 generalize s.extract 0 (min s.size 25)=nm at htx hns
 have HTX:=jzD htx
 have HNM:Hid (nm.size≤maxLen):=by show _≤_;have : (25:Nat)≤maxLen:=(by unfold maxLen;decide);omega
 have hmx:=fun w=>RMayX_any (⟨me,0,0,1,false,nm⟩:XIn) w (by show nm.size≤1000000;omega)
 have hmv:mayX (XIn.xd ⟨me,0,0,1,false,nm⟩)=ReplyM.mayNew me nm:=by
  unfold mayX XIn.xd ReplyM.mayNew
  simp
 have how:=fun w=>ROwn_any me w
 clear hC hme hs hx hd hxo hdv htx hns hL hT
 rcases hmn:ReplyM.mayNew me nm with _ | _
 · rw [hmn] at hmv
   rw [hmv] at hmx
   have HMN:=jzD hmn
   have HMX:=jzD hmx
   rcases ho:ownN me with _ | _
   · rw [ho] at how
     have HOW:=jzD how
     clear hmn hmv hmx how ho
     go_enter Tryz.func4,Tryz.ntmps4
     go_wp2_with (first
      | (go_at_call 18;((with_reducible refine (dcalls_keep Emp.stab (Done.emp w) (begun16_any _ HC.out)).mono ?_);rintro e w1 ⟨rfl,hs⟩;have HS1:=jzD hs;clear hs))
      | (go_at_call 19;refine (HTX.out _).mono ?_;rintro e w' ⟨rfl,rfl⟩)
      | (go_at_call 36;((with_reducible refine (dcalls_keep Emp.stab HS1.out (RpNew_none me nm _ HME.out HNM.out HMN.out)).mono ?_);rintro e w3 ⟨rfl,hs⟩;have HS3:=jzD hs;clear hs))
      | (go_at_call 37;((with_reducible refine (HOW.out _).mono ?_);rintro e w' ⟨rfl,hw'⟩;rw [hw'];clear hw')))
     go_ret
     exact ⟨rfl,HS3.out.bel⟩
   · rw [ho] at how
     have HOW:=jzD how
     clear hmn hmv hmx how ho
     go_enter Tryz.func4,Tryz.ntmps4
     go_wp2_with (first
      | (go_at_call 18;((with_reducible refine (dcalls_keep Emp.stab (Done.emp w) (begun16_any _ HC.out)).mono ?_);rintro e w1 ⟨rfl,hs⟩;have HS1:=jzD hs;clear hs))
      | (go_at_call 19;refine (HTX.out _).mono ?_;rintro e w' ⟨rfl,rfl⟩)
      | (go_at_call 36;((with_reducible refine (dcalls_keep Emp.stab HS1.out (RpNew_none me nm _ HME.out HNM.out HMN.out)).mono ?_);rintro e w3 ⟨rfl,hs⟩;have HS3:=jzD hs;clear hs))
      | (go_at_call 37;((with_reducible refine (HOW.out _).mono ?_);rintro e w' ⟨rfl,hw'⟩;rw [hw'];clear hw'))
      | (go_at_call 38;((with_reducible refine (dcalls_keep Emp.stab HS3.out (HMX.out _)).mono ?_);rintro e w4 ⟨rfl,hs⟩;have HS4:=jzD hs;clear hs)))
     go_ret
     exact ⟨rfl,HS4.out.bel⟩
 · rw [hmn] at hmv
   rw [hmv] at hmx
   have HMN:=jzD hmn
   have HMX:=jzD hmx
   have ho:ownN me=true:=by
    have h1:=hmn
    unfold ReplyM.mayNew at h1
    simp at h1
    exact h1.1
   rw [ho] at how
   have HOW:=jzD how
   clear hmn hmv hmx how ho
   go_enter Tryz.func4,Tryz.ntmps4
   go_wp2_with (first
    | (go_at_call 18;((with_reducible refine (dcalls_keep Emp.stab (Done.emp w) (begun16_any _ HC.out)).mono ?_);rintro e w1 ⟨rfl,hs⟩;have HS1:=jzD hs;clear hs))
    | (go_at_call 19;refine (HTX.out _).mono ?_;rintro e w' ⟨rfl,rfl⟩)
    | (go_at_call 36;((with_reducible refine (dR_new HME.out HNM.out HMN.out Emp.stab HS1.out).mono ?_);rintro e w3 ⟨a1,rfl,hs⟩;have HS3:Hid (Done w [] (ReplyW (.pointer (some a1)) (ReplyM.new me nm)) w3):=(by show Done _ _ _ _;exact hs.unemp);clear hs))
    | (go_at_call 37;((with_reducible refine (HOW.out _).mono ?_);rintro e w' ⟨rfl,hw'⟩;rw [hw'];clear hw'))
    | (go_at_call 38;((with_reducible refine (dcalls_keep (ReplyW.stab _ _) HS3.out (HMX.out _)).mono ?_);rintro e w4 ⟨rfl,hs⟩;have HS4:=jzD hs;have HT4:Hid (Done w [] (Star (ReplyW (.pointer (some a1)) (ReplyM.new me nm)) (CellW w4.heap.size (yD me nm false 0 0 0) 55)) (w4.alloc (.cells (yD me nm false 0 0 0) 55))):=hs.add (ReplyW.stab _ _) (CellW.new w4 _ 55);clear hs)))
   have HG4:Hid (w.heap.size≤w4.heap.size):=HS4.out.size
   obtain ⟨g,hg⟩:∃ q,q=w4.heap.size:=⟨_,rfl⟩
   rw [← hg] at HT4 HG4
   rw [← hg]
   clear hg
   go_loopw [12] (fun iv wr=>∃ (i:Nat) (m:ReplyM),i≤50∧i≤L∧iv=.int .i64 (i:Int)∧m.nick=nm∧Done w [] (Star (ReplyW (.pointer (some a1)) m) (RRp g m)) wr) (fun iv _=>(60 - intOf iv).toNat)
   case atStart=>exact ⟨0,ReplyM.new me nm,by omega,by omega,rfl,rfl,Done.mono_at (C:=fun X=>Star (ReplyW (.pointer (some a1)) (ReplyM.new me nm)) X) (Fr.r (ReplyW.stab _ _) Fr.id_) HT4.out (fun F hF=>⟨false,0,0,0,rfl,hF⟩)⟩
   case round =>
    clear HT4 HS4 HS3 HS1
    obtain ⟨i,m,hi50,hiL,rfl,hnk,hs⟩:=hrel
    have HS5:=jzD hs
    have HNK0:=jzD hnk
    clear hs hnk
    by_cases hlt:i < L
    · have t1:decide ((i:Int) < (L:Int))=true:=decide_eq_true (by omega)
      by_cases h50:i < 50
      · have t2:decide ((i:Int) < 50)=true:=decide_eq_true (by omega)
        have e5:IntKind.i64.wrap ((i:Int) + 1)=(i:Int) + 1:=IntWalk.i64_in _ (by omega)
        have hix:i < xl.length:=by rw [← HL.out];exact hlt
        obtain ⟨x,hxi⟩:∃ x,xl[i]?=some x:=⟨xl[i],List.getElem?_eq_getElem hix⟩
        have hxok:=HXS.out _ (List.mem_of_getElem? hxi)
        obtain ⟨fb,fo,hfa,-,-⟩:=HX.out.at_ (i:=i) hlt
        subst hfa
        have HRG:Hid (∀ (j:Nat) (v:Value),[Value.int .u32 x.from_,.int .u32 x.to_,.int .i64 x.slot,.int .i64 x.slots,.bool x.anew,.string x.nick][j]?=some v→w.cell? ⟨fb,fo + i * 6 + j,none⟩=some v):=by
         show ∀ (j:Nat) (v:Value),_→_
         intro j v hv
         obtain ⟨b,o,e,-,hc⟩:=HX.out.at_ (i:=i) hlt
         injection e with e
         injection e with e1 e2
         subst e1;subst e2
         exact hc j v (List.getElem?_eq_some_iff.1 hv).1 (xcs_get hxi hv)
        have HRW:Hid (wr.rangeAt fb (fo + i * 6) [.int .u32 x.from_,.int .u32 x.to_,.int .i64 x.slot,.int .i64 x.slots,.bool x.anew,.string x.nick]):=fun j v hv=>((HS5.out).bel.cell (p:=⟨fb,fo + i * 6 + j,none⟩) (World.block_lt_of_cell? _ _ (HRG.out j v hv))).trans (HRG.out j v hv)
        have hxx:=fun w=>X1_any x hxok w
        have hxl:=XIn.cut_len x
        have hxc:=XIn.cut_ok hxok
        generalize x.cut=x1 at hxx hxl hxc
        obtain ⟨xf,xt,xs,xn,xa,xk⟩:=x1
        have HXX:=jzD hxx
        have HXO:=jzD hxc
        have HXK:Hid ((XIn.nick (⟨xf,xt,xs,xn,xa,xk⟩:XIn)).size≤1000000):=by show xk.size≤_;simp only at hxl;omega
        have b1:(i:Int) < (L:Int):=by omega
        clear hix hxi hxok hxx hxl hxc HRG
        go_upto_if 63 with (first
         | (with_reducible refine wpList_load_mid rfl 32 (.tmp 58) rfl fb (fo + i * 6) rfl [.int .u32 x.from_,.int .u32 x.to_,.int .i64 x.slot,.int .i64 x.slots,.bool x.anew,.string x.nick] _ HRW.out Tryz.underlying32 rfl (by kernel_rfl) ?_)
         | (go_at_call 22;((with_reducible refine (dcalls_keep ((ReplyW.stab _ _).star (RRp.stab _ _)) HS5.out (HXX.out _)).mono ?_);rintro e w6 ⟨rfl,hs⟩;have HT6:Hid (Done w [] (Star (Star (ReplyW (.pointer (some a1)) m) (RRp g m)) (CellW w6.heap.size (yA 0 0 0 0 false ⟨#[]⟩) 32)) (w6.alloc (.cells (yA 0 0 0 0 false ⟨#[]⟩) 32))):=hs.add ((ReplyW.stab _ _).star (RRp.stab _ _)) (CellW.new w6 #[.int .u32 0,.int .u32 0,.int .i64 0,.int .i64 0,.bool false,.string ⟨#[]⟩] 32);clear hs))
         | ((with_reducible refine wpList_storeBD (C:=fun X=>Star (Star (ReplyW (.pointer (some a1)) m) (RRp g m)) X) (Fr.r ((ReplyW.stab _ _).star (RRp.stab _ _)) Fr.id_) HT6.out rfl 32 (.tmp 13) (.tmp 60) rfl #[.int .u32 xf,.int .u32 xt,.int .i64 xs,.int .i64 xn,.bool xa,.string xk] rfl rfl (by kernel_rfl) rfl (by simp [Value.oneCell']) ?_);intro w7 hs;have HS7:Hid (Done w [] (Star (Star (ReplyW (.pointer (some a1)) m) (RRp g m)) (CellW w6.heap.size (yA xf xt xs xn xa xk) 32)) w7):=(by show Done _ _ _ _;exact hs);clear hs))
        obtain ⟨gx,hgx⟩:∃ q,q=w6.heap.size:=⟨_,rfl⟩
        rw [← hgx] at HS7
        rw [← hgx]
        clear hgx HT6 HRW HS5
        go_cut [14] (fun dv wx=>∃ (DA:Option Addr) (dcap:Nat) (dl:List Int),dv=.slice DA dl.length dcap∧RdU w (.slice DA dl.length dcap) dl∧Done w [] (Star (Star (ReplyW (.pointer (some a1)) m) (RRp g m)) (CellW gx (yA xf xt xs xn xa xk) 32)) wx)
        case first =>
         by_cases hT0:0 < T
         · have d1:decide ((0:Int) < (T:Int))=true:=decide_eq_true (by omega)
           have d2:decide (0 < T)=true:=decide_eq_true hT0
           have hlt2:i % T < T:=Nat.mod_lt _ hT0
           have hmle:=Nat.mod_le i T
           have em:(i:Int).tmod (T:Int)=((i % T:Nat):Int):=by rw [Int.tmod_eq_emod_of_nonneg (by omega)];omega
           have ew:IntKind.i64.wrap ((i % T:Nat):Int)=((i % T:Nat):Int):=IntWalk.i64_in _ (by omega)
           have eT:¬ (T:Int)=0:=by omega
           have eTb:((T:Int) == 0)=false:=beq_eq_false_iff_ne.2 eT
           obtain ⟨dv,hdv⟩:∃ v,dvs[i % T]?=some v:=⟨dvs[i % T]'(by rw [← HT.out];exact hlt2),List.getElem?_eq_getElem (by rw [← HT.out];exact hlt2)⟩
           obtain ⟨dl,hdl⟩:=HDV.out dv (List.mem_of_getElem? hdv)
           obtain ⟨db,doo,hda,hdc⟩:=HDS.out.one (i:=i % T) (u:=dv) hdv hlt2
           subst hda
           obtain ⟨DA,dcap,rfl,-⟩:=id hdl
           have c7:w7.cell? ⟨db,doo + i % T,none⟩=some (.slice DA dl.length dcap):=((HS7.out).bel.cell (p:=⟨db,doo + i % T,none⟩) (World.block_lt_of_cell? _ _ hdc)).trans hdc
           have b2:((i % T:Nat):Int) < (T:Int):=by omega
           have HDL:=jzD hdl
           clear hdv hdc hdl
           clear hmle
           generalize i % T=q at em ew c7 b2 hlt2
           go_wp2_with fail
           go_meet
           exact ⟨DA,dcap,dl,rfl,HDL.out,HS7.out⟩
         · have d1:decide ((0:Int) < (T:Int))=false:=decide_eq_false (by omega)
           have d2:decide (0 < T)=false:=decide_eq_false hT0
           go_wp2_with fail
           go_meet
           exact ⟨none,0,[],rfl,RdU.nil_ w,HS7.out⟩
        case rest =>
         clear HS7
         obtain ⟨DA,dcap,dl,rfl,hdl,hs⟩:=hcut
         have HS10:=jzD hs
         obtain ⟨dn,hdn⟩:∃ n,n=dl.length:=⟨_,rfl⟩
         rw [← hdn] at hdl ⊢
         have hdc:dn≤dcap:=by
          obtain ⟨A', c', e,h1,_⟩:=hdl
          injection e with _ _ e3
          subst e3
          omega
         obtain ⟨k,hk⟩:∃ k,k=min dn 6:=⟨_,rfl⟩
         have hd6:=hdl.cut (k:=k) (by omega)
         have hl6:(dl.take k).length≤1000:=by rw [List.length_take];omega
         have hlk:(dl.take k).length=k:=by rw [List.length_take];omega
         obtain ⟨d6,hd6e⟩:∃ x,x=dl.take k:=⟨_,rfl⟩
         rw [← hd6e] at hd6 hl6 hlk
         have HD6:=jzD hd6
         have HL6:=jzD hl6
         have HMIN:Hid (min (dn:Int) 6=(k:Int)):=by show _=_;omega
         have bk1:(k:Int)≤(dn:Int):=by omega
         have bk2:(k:Int)≤(dcap:Int):=by omega
         have bk3:k≤dcap:=by omega
         have HGV:Hid (0 < d6.length→∀ b ∈ blk (.slice DA k dcap),b ≠ g):=by
          show _→_
          intro h0 b hb
          obtain ⟨A', c', e,_,_,_,h4⟩:=HD6.out
          injection e with e1 _ _
          subst e1
          obtain ⟨b', o', e2,h5,_⟩:=h4 h0
          subst e2
          simp only [blk,List.mem_singleton] at hb
          have := HG4.out
          omega
         obtain ⟨_,hwr⟩:=Done.get (C:=fun X=>Star (Star (X) (RRp g m)) (CellW gx (yA xf xt xs xn xa xk) 32)) (Fr.l (Fr.l Fr.id_ (RRp.stab _ _)) cS) HS10.out
         have HID:=jzD hwr.ok.id.2
         clear hwr
         obtain ⟨y,hy⟩:∃ y,y=m.xid (⟨xf,xt,xs,xn,xa,xk⟩:XIn) d6:=⟨_,rfl⟩
         obtain ⟨yf,yt,ys,yn,ya,yk⟩:=y
         obtain ⟨un,hun⟩:∃ u,u=m.used (⟨xf,xt,xs,xn,xa,xk⟩:XIn) d6:=⟨_,rfl⟩
         obtain ⟨sb,hsb⟩:∃ b,b=m.says (⟨xf,xt,xs,xn,xa,xk⟩:XIn) d6:=⟨_,rfl⟩
         obtain ⟨m', hm'⟩:∃ r,r=m.hear (⟨xf,xt,xs,xn,xa,xk⟩:XIn) d6:=⟨_,rfl⟩
         have HNK:Hid (m'.nick=nm):=by show _=_;rw [hm', hear_nick,HNK0.out]
         have HY:=jzD hy
         have HU:=jzD hun
         have HSY:=jzD hsb
         have HH:=jzD hm'
         clear hs hdl hdn hdc hk hd6 hl6 hlk hd6e hy hun hsb hm'
         go_wp2
         have HSd10:=jzD (HS10.out.drewD (((ReplyW.stab _ _).star (RRp.stab _ _)).star cS))
         have HEd10:Hid ((fun U=>U.heap[gx]?=some (.cells (yA xf xt xs xn xa xk) 32 (0,0))) wc.drew):=(Done.at_ (C:=fun X=>Star (Star (ReplyW (.pointer (some a1)) m) (RRp g m)) X) (Fr.r ((ReplyW.stab _ _).star (RRp.stab _ _)) Fr.id_) HSd10.out)
         refine' region_sharedG (fun ga W=>Done w [] (Star (Star (Star (ReplyW (.pointer (some a1)) m') (RRp g m)) (CellW gx (yA xf xt xs xn xa xk) 32)) (CellW ga (yA yf yt ys yn ya yk) 32)) W) _ ?cont ?reg
         case reg =>
          intro hK
          refine rests_begin (fun U=>U.heap[gx]?=some (.cells (yA xf xt xs xn xa xk) 32 (0,0))) (by kernel_rfl) ?_
          refine rtk 0 HEd10.out ?_
          refine rests_take 1 (oi:=_) (v:=.agg #[.int .u32 xf,.int .u32 xt,.int .i64 xs,.int .i64 xn,.bool xa,.string xk]) (by simp only [jzG,jzH,jzI];rfl) (by kernel_rfl) (by kernel_rfl) (by kernel_rfl) (by exact fun _ _ _ h=>h) (HEd10.out) (by rfl) (fun W HW=>exec_loadB rfl rfl HW Tryz.underlying32 rfl (by kernel_rfl)) ?_
          simp only [Act.put,jzU,jzV,jzW]
          refine rtk 2 HEd10.out ?_
          refine rtk 3 HEd10.out ?_
          refine rtk 4 HEd10.out ?_
          refine rests_take 5 (oi:=_) (v:=.int .i64 (k:Int)) (by simp only [jzG,jzH,jzI];rfl) (by kernel_rfl) (by kernel_rfl) (by kernel_rfl) (by exact fun _ _ _ h=>h) (HEd10.out) (by rfl) (fun W HW=>by go_simp;exact HMIN.out) ?_
          simp only [Act.put,jzU,jzV,jzW]
          refine rests_take 6 (oi:=_) (v:=.slice DA k dcap) (by simp only [jzG,jzH,jzI];rfl) (by kernel_rfl) (by kernel_rfl) (by kernel_rfl) (by exact fun _ _ _ h=>h) (HEd10.out) (by rfl) (fun W HW=>by go_simp) ?_
          simp only [Act.put,jzU,jzV,jzW]
          refine rests_two 7 12 (oi:=_) (oj:=_) (by simp only [jzG,jzH,jzI];rfl) (by simp only [jzG,jzH,jzI];rfl) (by kernel_rfl) (by rfl) (by rfl) ?_ ?_
          · refine wp_enter (f:=39) (args:=#[.pointer (some a1),.agg #[.int .u32 xf,.int .u32 xt,.int .i64 xs,.int .i64 xn,.bool xa,.string xk],.slice DA k dcap]) (by go_simp) (dR_hear (x:=(⟨xf,xt,xs,xn,xa,xk⟩:XIn)) (y:=(⟨yf,yt,ys,yn,ya,yk⟩:XIn)) (n:=un) (b:=sb) (l:=d6) (m' := m') HXO.out (HD6.out.below HSd10.out.bel) HL6.out HY.out HU.out HSY.out HH.out (C:=fun X=>Star (Star (X) (RRp g m)) (CellW gx (yA xf xt xs xn xa xk) 32)) (Fr.l (Fr.l Fr.id_ (RRp.stab _ _)) cS) HSd10.out) ?_
            rintro e w11 ⟨rfl,hs⟩;have HS11:=jzD hs;have HE11:Hid ((fun U=>U.heap[gx]?=some (.cells (yA xf xt xs xn xa xk) 32 (0,0))) w11):=(Done.at_ (C:=fun X=>Star (Star (ReplyW (.pointer (some a1)) m') (RRp g m)) X) (Fr.r ((ReplyW.stab _ _).star (RRp.stab _ _)) Fr.id_) hs);refine ⟨_,rfl,HE11.out,?_⟩;clear hs
            simp only [Act.put,jzU,jzV,jzW]
            refine rtk 8 HE11.out ?_
            refine rtk 9 HE11.out ?_
            refine rtk 10 HE11.out ?_
            refine rtk 11 HE11.out ?_
            obtain ⟨g12,hg12⟩:∃ g,g=(w11).heap.size:=⟨_,rfl⟩
            have hal12:=CellW.new (w11) #[.int .u32 0,.int .u32 0,.int .i64 0,.int .i64 0,.bool false,.string ⟨#[]⟩] 32
            rw [← hg12] at hal12
            obtain ⟨w12,hw12⟩:∃ wz,wz=(w11).alloc (.cells (yA 0 0 0 0 false ⟨#[]⟩) 32):=⟨_,rfl⟩
            rw [← hw12] at hal12
            have HS12:=jzD (HS11.out.add (((ReplyW.stab _ _).star (RRp.stab _ _)).star cS) hal12)
            have HE12:Hid ((fun U=>U.heap[gx]?=some (.cells (yA xf xt xs xn xa xk) 32 (0,0))) w12):=(Done.at_ (C:=fun X=>Star (Star (Star (ReplyW (.pointer (some a1)) m') (RRp g m)) X) (CellW g12 (yA 0 0 0 0 false ⟨#[]⟩) 32)) (Fr.l (Fr.r ((ReplyW.stab _ _).star (RRp.stab _ _)) Fr.id_) cS) HS12.out)
            refine rests_run 12 (oi:=_) (by simp only [jzG,jzH,jzI];rfl) (by kernel_rfl) (by rfl) (.pointer (some ⟨g12,0,none⟩)) w12 (by rw [hg12,hw12];go_simp) ⟨HE12.out,?_⟩
            clear hg12 hal12 hw12
            simp only [Act.put,jzU,jzV,jzW]
            refine rests_storeB 13 (oi:=_) (by simp only [jzG,jzH,jzI];rfl) (by kernel_rfl) (by rfl) 32 (.tmp 15) (.tmp 80) rfl g12 #[.int .u32 yf,.int .u32 yt,.int .i64 ys,.int .i64 yn,.bool ya,.string yk] rfl rfl 32 _ (Done.at_ (C:=fun X=>Star (Star (Star (ReplyW (.pointer (some a1)) m') (RRp g m)) (CellW gx (yA xf xt xs xn xa xk) 32)) X) (Fr.r (((ReplyW.stab _ _).star (RRp.stab _ _)).star cS) Fr.id_) HS12.out) (by kernel_rfl) rfl (by simp [Value.oneCell']) ?_
            intro w13 hg _ hh;have HS13:Hid (Done w [] (Star (Star (Star (ReplyW (.pointer (some a1)) m') (RRp g m)) (CellW gx (yA xf xt xs xn xa xk) 32)) (CellW g12 (yA yf yt ys yn ya yk) 32)) w13):=Done.put_ (C:=fun X=>Star (Star (Star (ReplyW (.pointer (some a1)) m') (RRp g m)) (CellW gx (yA xf xt xs xn xa xk) 32)) X) (Fr.r (((ReplyW.stab _ _).star (RRp.stab _ _)).star cS) Fr.id_) HS12.out hg hh;have HE13:Hid ((fun U=>U.heap[gx]?=some (.cells (yA xf xt xs xn xa xk) 32 (0,0))) w13):=(Done.at_ (C:=fun X=>Star (Star (Star (ReplyW (.pointer (some a1)) m') (RRp g m)) X) (CellW g12 (yA yf yt ys yn ya yk) 32)) (Fr.l (Fr.r ((ReplyW.stab _ _).star (RRp.stab _ _)) Fr.id_) cS) HS13.out);refine ⟨HE13.out,?_⟩;clear hg hh
            simp only [Act.put,jzU,jzV,jzW]
            refine rtk 14 HE13.out ?_
            refine rtk 15 HE13.out ?_
            refine rests_done (by kernel_rfl) ?_
            exact hK g12 w13 HS13.out
          · obtain ⟨g11,hg11⟩:∃ g,g=(wc.drew).heap.size:=⟨_,rfl⟩
            have hal11:=CellW.new (wc.drew) #[.int .u32 0,.int .u32 0,.int .i64 0,.int .i64 0,.bool false,.string ⟨#[]⟩] 32
            rw [← hg11] at hal11
            obtain ⟨w11,hw11⟩:∃ wz,wz=(wc.drew).alloc (.cells (yA 0 0 0 0 false ⟨#[]⟩) 32):=⟨_,rfl⟩
            rw [← hw11] at hal11
            have HS11:=jzD (HSd10.out.add (((ReplyW.stab _ _).star (RRp.stab _ _)).star cS) hal11)
            have HE11:Hid ((fun U=>U.heap[gx]?=some (.cells (yA xf xt xs xn xa xk) 32 (0,0))) w11):=(Done.at_ (C:=fun X=>Star (Star (Star (ReplyW (.pointer (some a1)) m) (RRp g m)) X) (CellW g11 (yA 0 0 0 0 false ⟨#[]⟩) 32)) (Fr.l (Fr.r ((ReplyW.stab _ _).star (RRp.stab _ _)) Fr.id_) cS) HS11.out)
            refine wp_val (v:=.pointer (some ⟨g11,0,none⟩)) (w' := w11) (by rw [hg11,hw11];go_simp) ⟨HE11.out,?_⟩
            clear hg11 hal11 hw11
            simp only [Act.put,jzU,jzV,jzW]
            refine rests_call 7 (oi:=_) (by simp only [jzG,jzH,jzI];rfl) 39 #[.pointer (some a1),.agg #[.int .u32 xf,.int .u32 xt,.int .i64 xs,.int .i64 xn,.bool xa,.string xk],.slice DA k dcap] _ (by kernel_rfl) (by rfl) (by go_simp) (dR_hear (x:=(⟨xf,xt,xs,xn,xa,xk⟩:XIn)) (y:=(⟨yf,yt,ys,yn,ya,yk⟩:XIn)) (n:=un) (b:=sb) (l:=d6) (m' := m') HXO.out (HD6.out.below HS11.out.bel) HL6.out HY.out HU.out HSY.out HH.out (C:=fun X=>Star (Star (Star (X) (RRp g m)) (CellW gx (yA xf xt xs xn xa xk) 32)) (CellW g11 (yA 0 0 0 0 false ⟨#[]⟩) 32)) (Fr.l (Fr.l (Fr.l Fr.id_ (RRp.stab _ _)) cS) cS) HS11.out) ?_
            rintro e w12 ⟨rfl,hs⟩;have HS12:=jzD hs;have HE12:Hid ((fun U=>U.heap[gx]?=some (.cells (yA xf xt xs xn xa xk) 32 (0,0))) w12):=(Done.at_ (C:=fun X=>Star (Star (Star (ReplyW (.pointer (some a1)) m') (RRp g m)) X) (CellW g11 (yA 0 0 0 0 false ⟨#[]⟩) 32)) (Fr.l (Fr.r ((ReplyW.stab _ _).star (RRp.stab _ _)) Fr.id_) cS) hs);refine ⟨_,rfl,HE12.out,?_⟩;clear hs
            simp only [Act.put,jzU,jzV,jzW]
            refine rtk 8 HE12.out ?_
            refine rtk 9 HE12.out ?_
            refine rtk 10 HE12.out ?_
            refine rtk 11 HE12.out ?_
            refine rests_storeB 13 (oi:=_) (by simp only [jzG,jzH,jzI];rfl) (by kernel_rfl) (by rfl) 32 (.tmp 15) (.tmp 80) rfl g11 #[.int .u32 yf,.int .u32 yt,.int .i64 ys,.int .i64 yn,.bool ya,.string yk] rfl rfl 32 _ (Done.at_ (C:=fun X=>Star (Star (Star (ReplyW (.pointer (some a1)) m') (RRp g m)) (CellW gx (yA xf xt xs xn xa xk) 32)) X) (Fr.r (((ReplyW.stab _ _).star (RRp.stab _ _)).star cS) Fr.id_) HS12.out) (by kernel_rfl) rfl (by simp [Value.oneCell']) ?_
            intro w13 hg _ hh;have HS13:Hid (Done w [] (Star (Star (Star (ReplyW (.pointer (some a1)) m') (RRp g m)) (CellW gx (yA xf xt xs xn xa xk) 32)) (CellW g11 (yA yf yt ys yn ya yk) 32)) w13):=Done.put_ (C:=fun X=>Star (Star (Star (ReplyW (.pointer (some a1)) m') (RRp g m)) (CellW gx (yA xf xt xs xn xa xk) 32)) X) (Fr.r (((ReplyW.stab _ _).star (RRp.stab _ _)).star cS) Fr.id_) HS12.out hg hh;have HE13:Hid ((fun U=>U.heap[gx]?=some (.cells (yA xf xt xs xn xa xk) 32 (0,0))) w13):=(Done.at_ (C:=fun X=>Star (Star (Star (ReplyW (.pointer (some a1)) m') (RRp g m)) X) (CellW g11 (yA yf yt ys yn ya yk) 32)) (Fr.l (Fr.r ((ReplyW.stab _ _).star (RRp.stab _ _)) Fr.id_) cS) HS13.out);refine ⟨HE13.out,?_⟩;clear hg hh
            simp only [Act.put,jzU,jzV,jzW]
            refine rtk 14 HE13.out ?_
            refine rtk 15 HE13.out ?_
            refine rests_done (by kernel_rfl) ?_
            exact hK g11 w13 HS13.out
         case cont =>
          intro ga w40 hs
          have HS40:=jzD hs
          clear hs HSd10 HEd10
          clear HS10
          go_wp2
          have HSd50:=jzD (HS40.out.drewD ((((ReplyW.stab _ _).star (RRp.stab _ _)).star cS).star cS))
          have HEd50:Hid ((fun U=>U.heap[gx]?=some (.cells (yA xf xt xs xn xa xk) 32 (0,0))) w40.drew):=(Done.at_ (C:=fun X=>Star (Star (Star (ReplyW (.pointer (some a1)) m') (RRp g m)) X) (CellW ga (yA yf yt ys yn ya yk) 32)) (Fr.l (Fr.r ((ReplyW.stab _ _).star (RRp.stab _ _)) Fr.id_) cS) HSd50.out)
          refine' region_sharedG (fun gb W=>Done w [] (Star (Star (Star (Star (ReplyW (.pointer (some a1)) m') (RRp g m')) (CellW gx (yA xf xt xs xn xa xk) 32)) (CellW ga (yA yf yt ys yn ya yk) 32)) (CellW gb (yA yf yt ys yn ya yk) 32)) W) _ ?cont ?reg
          case reg =>
           intro hK
           refine rests_begin (fun U=>U.heap[gx]?=some (.cells (yA xf xt xs xn xa xk) 32 (0,0))) (by kernel_rfl) ?_
           refine rtk 0 HEd50.out ?_
           refine rests_take 1 (oi:=_) (v:=.agg #[.int .u32 xf,.int .u32 xt,.int .i64 xs,.int .i64 xn,.bool xa,.string xk]) (by simp only [jzG,jzH,jzI];rfl) (by kernel_rfl) (by kernel_rfl) (by kernel_rfl) (by exact fun _ _ _ h=>h) (HEd50.out) (by rfl) (fun W HW=>exec_loadB rfl rfl HW Tryz.underlying32 rfl (by kernel_rfl)) ?_
           simp only [Act.put,jzU,jzV,jzW]
           refine rtk 2 HEd50.out ?_
           refine rtk 3 HEd50.out ?_
           refine rtk 4 HEd50.out ?_
           refine rests_take 5 (oi:=_) (v:=.int .i64 (k:Int)) (by simp only [jzG,jzH,jzI];rfl) (by kernel_rfl) (by kernel_rfl) (by kernel_rfl) (by exact fun _ _ _ h=>h) (HEd50.out) (by rfl) (fun W HW=>by go_simp;exact HMIN.out) ?_
           simp only [Act.put,jzU,jzV,jzW]
           refine rests_take 6 (oi:=_) (v:=.slice DA k dcap) (by simp only [jzG,jzH,jzI];rfl) (by kernel_rfl) (by kernel_rfl) (by kernel_rfl) (by exact fun _ _ _ h=>h) (HEd50.out) (by rfl) (fun W HW=>by go_simp) ?_
           simp only [Act.put,jzU,jzV,jzW]
           refine rests_two 7 12 (oi:=_) (oj:=_) (by simp only [jzG,jzH,jzI];rfl) (by simp only [jzG,jzH,jzI];rfl) (by kernel_rfl) (by rfl) (by rfl) ?_ ?_
           · refine wp_enter (f:=40) (args:=#[.pointer (some ⟨g,0,none⟩),.agg #[.int .u32 xf,.int .u32 xt,.int .i64 xs,.int .i64 xn,.bool xa,.string xk],.slice DA k dcap]) (by go_simp) (dRR_hear (x:=(⟨xf,xt,xs,xn,xa,xk⟩:XIn)) (y:=(⟨yf,yt,ys,yn,ya,yk⟩:XIn)) (n:=un) (b:=sb) (l:=d6) (m' := m') HXO.out HXK.out HID.out (HD6.out.below HSd50.out.bel) HL6.out HGV.out HY.out HU.out HSY.out HH.out (C:=fun X=>Star (Star (Star (ReplyW (.pointer (some a1)) m') X) (CellW gx (yA xf xt xs xn xa xk) 32)) (CellW ga (yA yf yt ys yn ya yk) 32)) (Fr.l (Fr.l (Fr.r (ReplyW.stab _ _) Fr.id_) cS) cS) HSd50.out) ?_
             rintro e w51 ⟨rfl,hs⟩;have HS51:=jzD hs;have HE51:Hid ((fun U=>U.heap[gx]?=some (.cells (yA xf xt xs xn xa xk) 32 (0,0))) w51):=(Done.at_ (C:=fun X=>Star (Star (Star (ReplyW (.pointer (some a1)) m') (RRp g m')) X) (CellW ga (yA yf yt ys yn ya yk) 32)) (Fr.l (Fr.r ((ReplyW.stab _ _).star (RRp.stab _ _)) Fr.id_) cS) hs);refine ⟨_,rfl,HE51.out,?_⟩;clear hs
             simp only [Act.put,jzU,jzV,jzW]
             refine rtk 8 HE51.out ?_
             refine rtk 9 HE51.out ?_
             refine rtk 10 HE51.out ?_
             refine rtk 11 HE51.out ?_
             obtain ⟨g52,hg52⟩:∃ g,g=(w51).heap.size:=⟨_,rfl⟩
             have hal52:=CellW.new (w51) #[.int .u32 0,.int .u32 0,.int .i64 0,.int .i64 0,.bool false,.string ⟨#[]⟩] 32
             rw [← hg52] at hal52
             obtain ⟨w52,hw52⟩:∃ wz,wz=(w51).alloc (.cells (yA 0 0 0 0 false ⟨#[]⟩) 32):=⟨_,rfl⟩
             rw [← hw52] at hal52
             have HS52:=jzD (HS51.out.add ((((ReplyW.stab _ _).star (RRp.stab _ _)).star cS).star cS) hal52)
             have HE52:Hid ((fun U=>U.heap[gx]?=some (.cells (yA xf xt xs xn xa xk) 32 (0,0))) w52):=(Done.at_ (C:=fun X=>Star (Star (Star (Star (ReplyW (.pointer (some a1)) m') (RRp g m')) X) (CellW ga (yA yf yt ys yn ya yk) 32)) (CellW g52 (yA 0 0 0 0 false ⟨#[]⟩) 32)) (Fr.l (Fr.l (Fr.r ((ReplyW.stab _ _).star (RRp.stab _ _)) Fr.id_) cS) cS) HS52.out)
             refine rests_run 12 (oi:=_) (by simp only [jzG,jzH,jzI];rfl) (by kernel_rfl) (by rfl) (.pointer (some ⟨g52,0,none⟩)) w52 (by rw [hg52,hw52];go_simp) ⟨HE52.out,?_⟩
             clear hg52 hal52 hw52
             simp only [Act.put,jzU,jzV,jzW]
             refine rests_storeB 13 (oi:=_) (by simp only [jzG,jzH,jzI];rfl) (by kernel_rfl) (by rfl) 32 (.tmp 18) (.tmp 92) rfl g52 #[.int .u32 yf,.int .u32 yt,.int .i64 ys,.int .i64 yn,.bool ya,.string yk] rfl rfl 32 _ (Done.at_ (C:=fun X=>Star (Star (Star (Star (ReplyW (.pointer (some a1)) m') (RRp g m')) (CellW gx (yA xf xt xs xn xa xk) 32)) (CellW ga (yA yf yt ys yn ya yk) 32)) X) (Fr.r ((((ReplyW.stab _ _).star (RRp.stab _ _)).star cS).star cS) Fr.id_) HS52.out) (by kernel_rfl) rfl (by simp [Value.oneCell']) ?_
             intro w53 hg _ hh;have HS53:Hid (Done w [] (Star (Star (Star (Star (ReplyW (.pointer (some a1)) m') (RRp g m')) (CellW gx (yA xf xt xs xn xa xk) 32)) (CellW ga (yA yf yt ys yn ya yk) 32)) (CellW g52 (yA yf yt ys yn ya yk) 32)) w53):=Done.put_ (C:=fun X=>Star (Star (Star (Star (ReplyW (.pointer (some a1)) m') (RRp g m')) (CellW gx (yA xf xt xs xn xa xk) 32)) (CellW ga (yA yf yt ys yn ya yk) 32)) X) (Fr.r ((((ReplyW.stab _ _).star (RRp.stab _ _)).star cS).star cS) Fr.id_) HS52.out hg hh;have HE53:Hid ((fun U=>U.heap[gx]?=some (.cells (yA xf xt xs xn xa xk) 32 (0,0))) w53):=(Done.at_ (C:=fun X=>Star (Star (Star (Star (ReplyW (.pointer (some a1)) m') (RRp g m')) X) (CellW ga (yA yf yt ys yn ya yk) 32)) (CellW g52 (yA yf yt ys yn ya yk) 32)) (Fr.l (Fr.l (Fr.r ((ReplyW.stab _ _).star (RRp.stab _ _)) Fr.id_) cS) cS) HS53.out);refine ⟨HE53.out,?_⟩;clear hg hh
             simp only [Act.put,jzU,jzV,jzW]
             refine rtk 14 HE53.out ?_
             refine rtk 15 HE53.out ?_
             refine rests_done (by kernel_rfl) ?_
             exact hK g52 w53 HS53.out
           · obtain ⟨g51,hg51⟩:∃ g,g=(w40.drew).heap.size:=⟨_,rfl⟩
             have hal51:=CellW.new (w40.drew) #[.int .u32 0,.int .u32 0,.int .i64 0,.int .i64 0,.bool false,.string ⟨#[]⟩] 32
             rw [← hg51] at hal51
             obtain ⟨w51,hw51⟩:∃ wz,wz=(w40.drew).alloc (.cells (yA 0 0 0 0 false ⟨#[]⟩) 32):=⟨_,rfl⟩
             rw [← hw51] at hal51
             have HS51:=jzD (HSd50.out.add ((((ReplyW.stab _ _).star (RRp.stab _ _)).star cS).star cS) hal51)
             have HE51:Hid ((fun U=>U.heap[gx]?=some (.cells (yA xf xt xs xn xa xk) 32 (0,0))) w51):=(Done.at_ (C:=fun X=>Star (Star (Star (Star (ReplyW (.pointer (some a1)) m') (RRp g m)) X) (CellW ga (yA yf yt ys yn ya yk) 32)) (CellW g51 (yA 0 0 0 0 false ⟨#[]⟩) 32)) (Fr.l (Fr.l (Fr.r ((ReplyW.stab _ _).star (RRp.stab _ _)) Fr.id_) cS) cS) HS51.out)
             refine wp_val (v:=.pointer (some ⟨g51,0,none⟩)) (w' := w51) (by rw [hg51,hw51];go_simp) ⟨HE51.out,?_⟩
             clear hg51 hal51 hw51
             simp only [Act.put,jzU,jzV,jzW]
             refine rests_call 7 (oi:=_) (by simp only [jzG,jzH,jzI];rfl) 40 #[.pointer (some ⟨g,0,none⟩),.agg #[.int .u32 xf,.int .u32 xt,.int .i64 xs,.int .i64 xn,.bool xa,.string xk],.slice DA k dcap] _ (by kernel_rfl) (by rfl) (by go_simp) (dRR_hear (x:=(⟨xf,xt,xs,xn,xa,xk⟩:XIn)) (y:=(⟨yf,yt,ys,yn,ya,yk⟩:XIn)) (n:=un) (b:=sb) (l:=d6) (m' := m') HXO.out HXK.out HID.out (HD6.out.below HS51.out.bel) HL6.out HGV.out HY.out HU.out HSY.out HH.out (C:=fun X=>Star (Star (Star (Star (ReplyW (.pointer (some a1)) m') X) (CellW gx (yA xf xt xs xn xa xk) 32)) (CellW ga (yA yf yt ys yn ya yk) 32)) (CellW g51 (yA 0 0 0 0 false ⟨#[]⟩) 32)) (Fr.l (Fr.l (Fr.l (Fr.r (ReplyW.stab _ _) Fr.id_) cS) cS) cS) HS51.out) ?_
             rintro e w52 ⟨rfl,hs⟩;have HS52:=jzD hs;have HE52:Hid ((fun U=>U.heap[gx]?=some (.cells (yA xf xt xs xn xa xk) 32 (0,0))) w52):=(Done.at_ (C:=fun X=>Star (Star (Star (Star (ReplyW (.pointer (some a1)) m') (RRp g m')) X) (CellW ga (yA yf yt ys yn ya yk) 32)) (CellW g51 (yA 0 0 0 0 false ⟨#[]⟩) 32)) (Fr.l (Fr.l (Fr.r ((ReplyW.stab _ _).star (RRp.stab _ _)) Fr.id_) cS) cS) hs);refine ⟨_,rfl,HE52.out,?_⟩;clear hs
             simp only [Act.put,jzU,jzV,jzW]
             refine rtk 8 HE52.out ?_
             refine rtk 9 HE52.out ?_
             refine rtk 10 HE52.out ?_
             refine rtk 11 HE52.out ?_
             refine rests_storeB 13 (oi:=_) (by simp only [jzG,jzH,jzI];rfl) (by kernel_rfl) (by rfl) 32 (.tmp 18) (.tmp 92) rfl g51 #[.int .u32 yf,.int .u32 yt,.int .i64 ys,.int .i64 yn,.bool ya,.string yk] rfl rfl 32 _ (Done.at_ (C:=fun X=>Star (Star (Star (Star (ReplyW (.pointer (some a1)) m') (RRp g m')) (CellW gx (yA xf xt xs xn xa xk) 32)) (CellW ga (yA yf yt ys yn ya yk) 32)) X) (Fr.r ((((ReplyW.stab _ _).star (RRp.stab _ _)).star cS).star cS) Fr.id_) HS52.out) (by kernel_rfl) rfl (by simp [Value.oneCell']) ?_
             intro w53 hg _ hh;have HS53:Hid (Done w [] (Star (Star (Star (Star (ReplyW (.pointer (some a1)) m') (RRp g m')) (CellW gx (yA xf xt xs xn xa xk) 32)) (CellW ga (yA yf yt ys yn ya yk) 32)) (CellW g51 (yA yf yt ys yn ya yk) 32)) w53):=Done.put_ (C:=fun X=>Star (Star (Star (Star (ReplyW (.pointer (some a1)) m') (RRp g m')) (CellW gx (yA xf xt xs xn xa xk) 32)) (CellW ga (yA yf yt ys yn ya yk) 32)) X) (Fr.r ((((ReplyW.stab _ _).star (RRp.stab _ _)).star cS).star cS) Fr.id_) HS52.out hg hh;have HE53:Hid ((fun U=>U.heap[gx]?=some (.cells (yA xf xt xs xn xa xk) 32 (0,0))) w53):=(Done.at_ (C:=fun X=>Star (Star (Star (Star (ReplyW (.pointer (some a1)) m') (RRp g m')) X) (CellW ga (yA yf yt ys yn ya yk) 32)) (CellW g51 (yA yf yt ys yn ya yk) 32)) (Fr.l (Fr.l (Fr.r ((ReplyW.stab _ _).star (RRp.stab _ _)) Fr.id_) cS) cS) HS53.out);refine ⟨HE53.out,?_⟩;clear hg hh
             simp only [Act.put,jzU,jzV,jzW]
             refine rtk 14 HE53.out ?_
             refine rtk 15 HE53.out ?_
             refine rests_done (by kernel_rfl) ?_
             exact hK g51 w53 HS53.out
          case cont =>
           intro gb w60 hs
           have HS60:=jzD hs
           clear hs HSd50 HEd50
           clear HS40
           have HGI:Hid (w60.cell? ⟨g,0,none⟩=some (.int .u32 m'.id)):=by
            show _=_
            obtain ⟨_,rd,ra,rn,rk,_,hc⟩:=Done.get (C:=fun X=>Star (Star (Star (Star (ReplyW (.pointer (some a1)) m') X) (CellW gx (yA xf xt xs xn xa xk) 32)) (CellW ga (yA yf yt ys yn ya yk) 32)) (CellW gb (yA yf yt ys yn ya yk) 32)) (Fr.l (Fr.l (Fr.l (Fr.r (ReplyW.stab _ _) Fr.id_) cS) cS) cS) HS60.out
            exact cell_at hc.2 0 _ rfl
           have n1:(un != un)=false:=by simp
           have n2:(sb != sb)=false:=by cases sb <;> rfl
           have n3:(m'.id != m'.id)=false:=by simp
           have n4:(m'.nick.toList != nm.toList)=false:=by rw [HNK.out];simp
           have n5:(nm.toList != nm.toList)=false:=by simp
           have n6:(!(m'.nick.toList == nm.toList))=false:=by rw [HNK.out];simp
           go_wp2
           refine regq (fun W=>Below w60.heap.size w60 W) (by kernel_rfl) (by kernel_rfl) ((Below.refl _ _).drew) ?_
           refine q_take (v:=.agg #[.int .u32 yf,.int .u32 yt,.int .i64 ys,.int .i64 yn,.bool ya,.string yk]) (by rfl) (fun W HW=>exec_loadB rfl rfl (keep_at (Done.at_ (C:=fun X=>Star (Star (Star (Star (ReplyW (.pointer (some a1)) m') (RRp g m')) (CellW gx (yA xf xt xs xn xa xk) 32)) X) (CellW gb (yA yf yt ys yn ya yk) 32)) (Fr.l (Fr.r (((ReplyW.stab _ _).star (RRp.stab _ _)).star cS) Fr.id_) cS) HS60.out) HW) Tryz.underlying32 rfl (by kernel_rfl)) ?_
           simp only [Act.put,jzU,jzV,jzW]
           refine q_take (v:=.agg #[.int .u32 yf,.int .u32 yt,.int .i64 ys,.int .i64 yn,.bool ya,.string yk]) (by rfl) (fun W HW=>exec_loadB rfl rfl (keep_at (Done.at_ (C:=fun X=>Star (Star (Star (Star (ReplyW (.pointer (some a1)) m') (RRp g m')) (CellW gx (yA xf xt xs xn xa xk) 32)) (CellW ga (yA yf yt ys yn ya yk) 32)) X) (Fr.r ((((ReplyW.stab _ _).star (RRp.stab _ _)).star cS).star cS) Fr.id_) HS60.out) HW) Tryz.underlying32 rfl (by kernel_rfl)) ?_
           simp only [Act.put,jzU,jzV,jzW]
           refine q_take (v:=.bool false) (by rfl) (fun W HW=>exec_cmp rfl rfl rfl (guard_X _ _ _ _ _ _) (neq_xin (⟨yf,yt,ys,yn,ya,yk⟩:XIn) _)) ?_
           simp only [Act.put,jzU,jzV,jzW]
           iterate 12 refine qtk ?_
           refine q_call 41 #[.pointer (some a1)] (by rfl) (by intro W HW;go_simp) (quiet_id (C:=fun X=>Star (Star (Star (Star (X) (RRp g m')) (CellW gx (yA xf xt xs xn xa xk) 32)) (CellW ga (yA yf yt ys yn ya yk) 32)) (CellW gb (yA yf yt ys yn ya yk) 32)) (Fr.l (Fr.l (Fr.l (Fr.l Fr.id_ (RRp.stab _ _)) cS) cS) cS) (((((ReplyW.stab _ _).star (RRp.stab _ _)).star cS).star cS).star cS) HS60.out) ?_
           simp only [Act.put,jzU,jzV,jzW]
           iterate 3 refine qtk ?_
           refine qtk ?_ (hy:=by intro W HW;have cw:W.cell? ⟨g,0,none⟩=some (.int .u32 m'.id):=((HW.cell (p:=⟨g,0,none⟩) (World.block_lt_of_cell? _ _ HGI.out)).trans HGI.out);go_simp;try with_reducible rfl)
           iterate 4 refine qtk ?_
           refine q_call 42 #[.pointer (some a1)] (by rfl) (by intro W HW;go_simp) (quiet_nick (C:=fun X=>Star (Star (Star (Star (X) (RRp g m')) (CellW gx (yA xf xt xs xn xa xk) 32)) (CellW ga (yA yf yt ys yn ya yk) 32)) (CellW gb (yA yf yt ys yn ya yk) 32)) (Fr.l (Fr.l (Fr.l (Fr.l Fr.id_ (RRp.stab _ _)) cS) cS) cS) (((((ReplyW.stab _ _).star (RRp.stab _ _)).star cS).star cS).star cS) HS60.out) ?_
           simp only [Act.put,jzU,jzV,jzW]
           iterate 3 refine qtk ?_
           refine q_done ?_
           intro w70 hb
           have HS70:=jzD (HS60.out.keep (((((ReplyW.stab _ _).star (RRp.stab _ _)).star cS).star cS).star cS) hb)
           clear hb
           go_wp2
           go_roundw
           case rel=>exact ⟨i + 1,m', by omega,by omega,by go_num,HNK.out,HS70.out.drop.drop.drop⟩
           case measure=>simp [intOf] <;> omega
      · have t2:decide ((i:Int) < 50)=false:=decide_eq_false (by omega)
        go_wp2
        go_ret
        exact ⟨rfl,HS5.out.bel⟩
    · have t1:decide ((i:Int) < (L:Int))=false:=decide_eq_false (by omega)
      go_wp2
      go_ret
      exact ⟨rfl,HS5.out.bel⟩
end Go.Proofs.YtjddbjmcjhjpiaaGreatDoor
