/- The reference of layer 16: one is noted. -/
import Derived.Test.YtjddbjmcjhjpiaaGreatDoorN16J
import Derived.Test.YtjddbjmcjhjpiaaGreatDoorL16wxQueryAll
import Derived.Test.YtjddbjmcjhjpiaaGreatDoorL16sxQueryAll
import Derived.Test.YtjddbjmcjhjpiaaGreatDoorL16txQueryAll
import Derived.Test.YtjddbjmcjhjpiaaGreatDoorL16uxQueryAll
import Derived.Test.YtjddbjmcjhjpiaaGreatDoorL16vxQueryAll

set_option linter.all false

namespace Go.Proofs.YtjddbjmcjhjpiaaGreatDoor
set_option maxRecDepth 100000
set_option maxHeartbeats 16000000
open Go.RowKit M

section
variable {ops:Array Oper} {rest:List Oper} {o:Oper} {a:Act} {w0 w:World} {F0:List Nat} {Q:Exit→Act→World→Prop} {C:Obj→Obj} {e:TypeId} {k n:Nat} {v:Value} {xs:List Value}
theorem rests_appO {S:World→Prop} {fuel:Nat} {listed:Array Bool} (i:Nat) {oi:Oper} (hi:ops[i]?=some oi) (hrd:Region.ready .any ops listed=[i]) (hw:Region.wanted oi (yielded ops a.tmps)=true)
 (hC:Fr C) (h:Done w0 F0 (C (OwnO e k v n xs)) w) (s x:Operand) (t:TypeId) (bytes:Nat) (z:Value)
 (ho:oi.op=.call { callee:=.builtin .append,args:=#[s,x],argTypes:=#[t,t] })
 (hu:Tryz.prog.underlying t=some (.slice e)) (hin:(Tryz.prog.info? e).map (fun i=>(i.zero,i.size,i.bytes))=some (some z,k,bytes)) (hzs:z.cells.size=k) (hk:0 < k∧bytes≤1000)
 (u:Value) (m:Nat) (ys:List Value) (hs:a.eval s=v) (hx:a.eval x=u) (hr:RdG k w u m ys) (hm:0 < m) (h1:∀ y ∈ ys,y.oneCell' = true) (n' : Nat) (hn' : n' = n + m) (hlen:n' ≤ 1000000) (xs' : List Value) (hxs:xs' = xs ++ ys)
 (hn:∀ A c w', Done w0 F0 (C (OwnO e k (.slice A n' c) n' xs')) w' → (n' ≤ c∧c≤maxLen)→S w' ∧ RestS S Tryz.prog ops Q fuel (listed.setIfInBounds i true) (a.put oi.dst (.slice A n' c)) w'):RestS S Tryz.prog ops Q (fuel + 1) listed a w :=
 rests_step i hi hrd hw (wp_appO hC h s x t bytes z ho hu hin hzs hk u m ys hs hx hr hm h1 n' hn' hlen xs' hxs hn)
end
theorem run_storeUS (v:Value) (hv:∃ A n c,v=.slice A n c) (g k:Nat):∀ w:World,(∃ u,w.cell? ⟨g,k,none⟩=some u)→w.frozen? ⟨g,k,none⟩=false→(Instr.storeAt 44 (.pointer (some ⟨g,k,none⟩)) v).run Tryz.prog w=.ok () (w.setCell ⟨g,k,none⟩ v):=by
 obtain ⟨A,n,c,rfl⟩:=hv
 rintro w ⟨u,hu⟩ hf
 go_simp
theorem run_storeSS (v:Value) (hv:∃ A n c,v=.slice A n c) (g k:Nat):∀ w:World,(∃ u,w.cell? ⟨g,k,none⟩=some u)→w.frozen? ⟨g,k,none⟩=false→(Instr.storeAt 96 (.pointer (some ⟨g,k,none⟩)) v).run Tryz.prog w=.ok () (w.setCell ⟨g,k,none⟩ v):=by
 obtain ⟨A,n,c,rfl⟩:=hv
 rintro w ⟨u,hu⟩ hf
 go_simp
section
variable {m:LogM} {x:XIn}
theorem add_no (h:mayX x.xd=false):m.addB x=false∧m.add x=m:=by
 unfold LogM.addB LogM.add;rw [h];exact ⟨rfl,rfl⟩
theorem add_me (h:mayX x.xd=true) (hm:x.from_=m.me):m.addB x=false∧m.add x={ m with clash:=insC x.from_ m.clash }:=by
 unfold LogM.addB LogM.add
 rw [h,if_pos rfl,if_pos hm]
 exact ⟨by simp [hm],rfl⟩
theorem add_same {s:SeenM} (h:mayX x.xd=true) (hm:¬ x.from_=m.me) (hw:m.who x.from_=some s) (hs:LogM.same s x=true):m.addB x=true∧m.add x=m:=by
 unfold LogM.addB LogM.add
 rw [h,if_pos rfl,if_neg hm,hw]
 exact ⟨by simp [hm,hs],by simp [hs]⟩
theorem add_diff {s:SeenM} (h:mayX x.xd=true) (hm:¬ x.from_=m.me) (hw:m.who x.from_=some s) (hs:LogM.same s x=false):m.addB x=false∧m.add x={ m with clash:=insC x.from_ m.clash }:=by
 unfold LogM.addB LogM.add
 rw [h,if_pos rfl,if_neg hm,hw]
 exact ⟨by simp [hs],by simp [hs]⟩
theorem add_full (h:mayX x.xd=true) (hm:¬ x.from_=m.me) (hw:m.who x.from_=none) (hl:¬ m.l.length < 16):m.addB x=false∧m.add x=m:=by
 unfold LogM.addB LogM.add
 rw [h,if_pos rfl,if_neg hm,hw]
 exact ⟨by simp [hl],by simp [hl]⟩
theorem add_new (h:mayX x.xd=true) (hm:¬ x.from_=m.me) (hw:m.who x.from_=none) (hl:m.l.length < 16):m.addB x=true∧m.add x={ m with l:=m.l ++ [⟨x.from_,x.nick,x.slot⟩] }:=by
 unfold LogM.addB LogM.add
 rw [h,if_pos rfl,if_neg hm,hw]
 exact ⟨by simp [hm,hl],by simp [hl]⟩
end
theorem ba_tl {a b:ByteArray} (h:a.toList=b.toList):a=b:=by
 rw [ByteArray.toList_eq,ByteArray.toList_eq] at h
 exact ByteArray.ext (Array.ext' h)
theorem same_yes {si xf xt xs xn ss:Int} {xa:Bool} {sk xk:ByteArray} (h:sk.toList=xk.toList) (hs:ss=xs):LogM.same ⟨si,sk,ss⟩ ⟨xf,xt,xs,xn,xa,xk⟩=true:=by
 have e:sk=xk:=ba_tl h
 unfold LogM.same
 rw [ba_beq,decide_eq_true e,beq_iff_eq.2 hs];rfl
theorem same_slot {si xf xt xs xn ss:Int} {xa:Bool} {sk xk:ByteArray} (hs:¬ ss=xs):LogM.same ⟨si,sk,ss⟩ ⟨xf,xt,xs,xn,xa,xk⟩=false:=by
 unfold LogM.same
 simp [hs]
theorem same_nick {si xf xt xs xn ss:Int} {xa:Bool} {sk xk:ByteArray} (h:¬ sk.toList=xk.toList):LogM.same ⟨si,sk,ss⟩ ⟨xf,xt,xs,xn,xa,xk⟩=false:=by
 have e:¬ sk=xk:=fun e=>h (by rw [e])
 unfold LogM.same
 rw [ba_beq,decide_eq_false e];rfl
theorem who_none {me:Int} {l:List SeenM} {cs:List Int} {q:Int} (h:∀ s ∈ l,¬ s.id=q):(⟨me,l,cs⟩:LogM).who q=none:=by
 unfold LogM.who
 rw [List.find?_eq_none]
 intro s hs
 simpa using h s hs
theorem who_some {me:Int} {l:List SeenM} {cs:List Int} {q:Int} {i:Nat} {s:SeenM} (h:∀ s ∈ l.take i,¬ s.id=q) (hs:l[i]?=some s) (hq:s.id=q):(⟨me,l,cs⟩:LogM).who q=some s:=by
 have hi:=List.getElem?_eq_some_iff.1 hs
 unfold LogM.who
 show l.find? _=_
 rw [← List.take_append_drop i l,List.find?_append,List.find?_eq_none.2 (by intro s hs;simpa using h s hs),List.drop_eq_getElem_cons hi.1,hi.2]
 simp [hq]
theorem secs_snoc (l:List SeenM) (s:SeenM):secs (l ++ [s])=secs l ++ [.int .u32 s.id,.string s.nick,.int .i64 s.slot]:=by simp [secs]
theorem u32s_snoc (l:List Int) (q:Int):u32s (l ++ [q])=u32s l ++ [.int .u32 q]:=by simp [u32s]
theorem same_end {g k m n:Nat} {me:Int} {l:List SeenM} {cl:List Int} {sl sc:Value} {w:World} {F:List Nat} (hm:m=cl.length) (hn:n=l.length) (hk:m≤k) (h:(Star (Star (CellW g #[.int .u32 me,sl,sc] 98) (OwnO 105 3 sl n (secs l))) (OwnO 22 1 sc m (u32s cl))) w F):RLg g ⟨me,l,clF cl⟩ (k + 1) w F:=by
 subst hm;subst hn
 exact ⟨sl,sc,cl,rfl,by omega,h⟩
theorem clash_end {g k m n:Nat} {me q:Int} {l:List SeenM} {cl:List Int} {sl sc:Value} {w:World} {F:List Nat} (hm:m=cl.length) (hn:n=l.length) (hk:m≤k) (h:(Star (Star (CellW g #[.int .u32 me,sl,sc] 98) (OwnO 105 3 sl n (secs l))) (OwnO 22 1 sc (m + 1) (u32s (cl ++ [q])))) w F):RLg g ⟨me,l,insC q (clF cl)⟩ (k + 1) w F:=by
 subst hm;subst hn
 refine ⟨sl,sc,cl ++ [q],(clF_snoc _ _).symm,by simp;omega,?_⟩
 rw [List.length_append]
 exact h
theorem note_end {g k m n:Nat} {me:Int} {l:List SeenM} {s:SeenM} {cl:List Int} {sl sc:Value} {w:World} {F:List Nat} (hm:m=cl.length) (hn:n=l.length) (hk:m≤k) (h:(Star (Star (CellW g #[.int .u32 me,sl,sc] 98) (OwnO 105 3 sl (n + 1) (secs (l ++ [s])))) (OwnO 22 1 sc m (u32s cl))) w F):RLg g ⟨me,l ++ [s],clF cl⟩ (k + 1) w F:=by
 subst hm;subst hn
 refine ⟨sl,sc,cl,rfl,by omega,?_⟩
 show (Star (Star _ (OwnO 105 3 sl (l ++ [s]).length _)) _) w F
 rw [List.length_append]
 exact h
abbrev qE (g:Nat) (me:Int) (sb so n cap:Nat) (C0:Option Addr) (m cc:Nat):Obj:=CellW g (yG me (some ⟨sb,so,none⟩) n cap C0 m cc) 98
abbrev qF (sb so n cap:Nat) (l:List SeenM):Obj:=OwnO 105 3 (.slice (some ⟨sb,so,none⟩) n cap) n (secs l)
abbrev qG (w0:World) (xf xt xs xn:Int) (xa:Bool) (xk:ByteArray):Obj:=CellW w0.heap.size (yA xf xt xs xn xa xk) 32
abbrev qTs (w0:World) (xf xt xs xn:Int) (xa:Bool) (xk:ByteArray):World→Prop:=fun U=>U.heap[w0.heap.size]?=some (.cells (yA xf xt xs xn xa xk) 32 (0,0))
abbrev qH (C0:Option Addr) (m cc:Nat) (cl:List Int):Obj:=OwnO 22 1 (.slice C0 m cc) m (u32s cl)
abbrev qI (A62:Option Addr) (m c62:Nat) (cl:List Int) (xf:Int):Obj:=OwnO 22 1 (.slice A62 (m + 1) c62) (m + 1) (u32s (cl ++ [xf]))
theorem RLAdd_any (g k:Nat) (lm:LogM) (F:List Nat) (xf xt xs xn:Int) (xa:Bool) (xk:ByteArray) (w0:World) (h:RLg g lm k w0 F) (hl:lm.l.length≤16) (hk:k≤900) (hxk:xk.size≤1000000):Calls Tryz.prog 59 #[.pointer (some ⟨g,0,none⟩),.agg #[.int .u32 xf,.int .u32 xt,.int .i64 xs,.int .i64 xn,.bool xa,.string xk]] w0 fun e w' => e=.returned (.bool (lm.addB (⟨xf,xt,xs,xn,xa,xk⟩:XIn)))∧Done w0 F (RLg g (lm.add (⟨xf,xt,xs,xn,xa,xk⟩:XIn)) (k + 1)) w' := by
 obtain ⟨me,l,cs⟩:=lm
 obtain ⟨sl,sc,cl,hcl,hck,h⟩:=h
 have hcl:cs=clF cl:=hcl
 subst hcl
 have hl:l.length≤16:=hl
 replace h:Done w0 F (Star (Star (CellW g #[.int .u32 me,sl,sc] 98) (OwnO 105 3 sl l.length (secs l))) (OwnO 22 1 sc cl.length (u32s cl))) w0:=Done.start h
 obtain ⟨n,hn⟩:∃ n,n=l.length:=⟨_,rfl⟩
 obtain ⟨m,hm⟩:∃ m,m=cl.length:=⟨_,rfl⟩
 rw [← hn] at h hl
 rw [← hm] at h hck
 obtain ⟨F1,hF1⟩:=Done.get (C:=fun X=>Star (Star (CellW g #[.int .u32 me,sl,sc] 98) X) (OwnO 22 1 sc m (u32s cl))) (Fr.l (Fr.r cS Fr.id_) oS) h
 obtain ⟨F2,hF2⟩:=Done.get (C:=fun X=>Star (Star (CellW g #[.int .u32 me,sl,sc] 98) (OwnO 105 3 sl n (secs l))) X) (Fr.r (cS.star oS) Fr.id_) h
 obtain ⟨A0,cap,rfl,hcap,-⟩:=hF1.shape
 obtain ⟨C0,cc,rfl,-,-⟩:=hF2.shape
 have HS0:Hid (Done w0 F (Star (Star (Star (CellW g (yG me A0 n cap C0 m cc) 98) (OwnO 105 3 (.slice A0 n cap) n (secs l))) (qH C0 m cc cl)) (qG w0 xf xt xs xn xa xk)) (w0.alloc (.cells (yA xf xt xs xn xa xk) 32))):=h.add ((cS.star oS).star oS) (CellW.new w0 #[.int .u32 xf,.int .u32 xt,.int .i64 xs,.int .i64 xn,.bool xa,.string xk] 32)
 have HN:=jzD hn
 have HMC:=jzD hm
 have HL:=jzD hl
 have HMK:=jzD hck
 have HCP:=jzD hcap
 have HM1:Hid (m + 1≤1000000):=by show _≤_;omega
 have HN1:Hid (n + 1≤1000000):=by show _≤_;omega
 have hmx:=fun w=>RMayX_any (⟨xf,xt,xs,xn,xa,xk⟩:XIn) w hxk
 clear h hn hm hl hck hcap hF1 hF2 hk hxk
 rcases hmy:mayX (XIn.xd (⟨xf,xt,xs,xn,xa,xk⟩:XIn)) with _ | _
 · rw [hmy] at hmx
   have HMX:=jzD hmx
   have HH:=jzD (add_no (m:=(⟨me,l,clF cl⟩:LogM)) (x:=(⟨xf,xt,xs,xn,xa,xk⟩:XIn)) hmy)
   clear hmy hmx
   go_enter Tryz.func59,Tryz.ntmps59
   go_wp2_with (first
    | (with_reducible refine wpList_loadD (C:=fun X=>Star (Star (Star (CellW g (yG me A0 n cap C0 m cc) 98) (OwnO 105 3 (.slice A0 n cap) n (secs l))) (qH C0 m cc cl)) X) (Fr.r ((cS.star oS).star oS) Fr.id_) HS0.out rfl 32 (.tmp 3) rfl rfl _ Tryz.underlying32 rfl (by kernel_rfl) ?_)
    | (go_at_call 38;((with_reducible refine (dcalls_keep (((cS.star oS).star oS).star cS) HS0.out (HMX.out _)).mono ?_);rintro e w1 ⟨rfl,hs⟩;have HS1:=jzD hs;clear hs)))
   go_ret
   exact ⟨by rw [HH.out.1] <;> first | rfl | (simp;done),by rw [HH.out.2];exact HS1.out.drop.mono fun F hF=>same_end HMC.out HN.out HMK.out hF⟩
 · rw [hmy] at hmx
   have HMX:=jzD hmx
   clear hmx
   by_cases hme:xf=me
   · have HH:=jzD (add_me (m:=(⟨me,l,clF cl⟩:LogM)) (x:=(⟨xf,xt,xs,xn,xa,xk⟩:XIn)) hmy hme)
     have t1:(xf == me)=true:=beq_iff_eq.2 hme
     clear hmy hme
     go_enter Tryz.func59,Tryz.ntmps59
     go_wp2_with (first
      | (with_reducible refine wpList_loadD (C:=fun X=>Star (Star (Star (CellW g (yG me A0 n cap C0 m cc) 98) (OwnO 105 3 (.slice A0 n cap) n (secs l))) (qH C0 m cc cl)) X) (Fr.r ((cS.star oS).star oS) Fr.id_) HS0.out rfl 32 (.tmp 3) rfl rfl _ Tryz.underlying32 rfl (by kernel_rfl) ?_)
      | (go_at_call 38;((with_reducible refine (dcalls_keep (((cS.star oS).star oS).star cS) HS0.out (HMX.out _)).mono ?_);rintro e w1 ⟨rfl,hs⟩;have HS1:=jzD hs;clear hs)))
     refine regq (fun W=>Below (w1).heap.size (w1) W) (by kernel_rfl) (by kernel_rfl) ((Below.refl _ _).drew) ?_
     refine qtk ?_
     refine qtk ?_ (hy:=by intro W HW;have cw:W.cell? ⟨w0.heap.size,0,none⟩=some (.int .u32 xf):=cell_at (keep_at (Done.at_ (C:=fun X=>Star (Star (Star (CellW g (yG me A0 n cap C0 m cc) 98) (OwnO 105 3 (.slice A0 n cap) n (secs l))) (qH C0 m cc cl)) X) (Fr.r ((cS.star oS).star oS) Fr.id_) HS1.out) HW) 0 _ rfl;go_simp;try with_reducible rfl)
     iterate 3 refine qtk ?_
     refine qtk ?_ (hy:=by intro W HW;have cw:W.cell? ⟨g,0,none⟩=some (.int .u32 me):=cell_at (keep_at (Done.at_ (C:=fun X=>Star (Star (Star (X) (OwnO 105 3 (.slice A0 n cap) n (secs l))) (qH C0 m cc cl)) (qG w0 xf xt xs xn xa xk)) (Fr.l (Fr.l (Fr.l Fr.id_ oS) oS) cS) HS1.out) HW) 0 _ rfl;go_simp;try with_reducible rfl)
     refine qtk ?_
     refine q_done ?_
     intro w2 hb
     have HS2:=jzD (HS1.out.keep (((cS.star oS).star oS).star cS) hb)
     clear hb
     go_wp2
     have HSd:=jzD (HS2.out.drewD (((cS.star oS).star oS).star cS))
     have HEd:Hid ((qTs w0 xf xt xs xn xa xk) (w2).drew):=(Done.at_ (C:=fun X=>Star (Star (Star (CellW g (yG me A0 n cap C0 m cc) 98) (OwnO 105 3 (.slice A0 n cap) n (secs l))) (qH C0 m cc cl)) X) (Fr.r ((cS.star oS).star oS) Fr.id_) HSd.out)
     refine rests_begin (qTs w0 xf xt xs xn xa xk) (by kernel_rfl) ?_
     refine rtk 0 HEd.out ?_
     refine rtk 1 HEd.out ?_
     refine rtk 2 HEd.out ?_
     refine rtk 3 HEd.out ?_
     refine rtk 5 HEd.out ?_
     refine rtk 6 HEd.out ?_ (hy:=by intro W HW;have cw:W.cell? ⟨w0.heap.size,0,none⟩=some (.int .u32 xf):=cell_at HW 0 _ rfl;go_simp;try with_reducible rfl)
     refine rests_two 4 7 (oi:=_) (oj:=_) (by simp only [jzG,jzH,jzI];rfl) (by simp only [jzG,jzH,jzI];rfl) (by kernel_rfl) (by rfl) (by rfl) ?_ ?_
     · have cq60:((w2).drew).cell? ⟨g,2,none⟩=some (.slice C0 m cc):=cell_at (Done.at_ (C:=fun X=>Star (Star (Star (X) (OwnO 105 3 (.slice A0 n cap) n (secs l))) (qH C0 m cc cl)) (qG w0 xf xt xs xn xa xk)) (Fr.l (Fr.l (Fr.l Fr.id_ oS) oS) cS) HSd.out) 2 _ rfl
       refine wp_val (v:=.slice C0 m cc) (w' := (w2).drew) (by go_simp) ⟨HEd.out,?_⟩
       clear cq60
       simp only [Act.put,jzU,jzV,jzW]
       obtain ⟨g61,hg61⟩:∃ g,g=((w2).drew).heap.size:=⟨_,rfl⟩
       have hal61:=CellW.new ((w2).drew) #[.int .u32 xf] 22
       rw [← hg61] at hal61
       obtain ⟨w61,hw61⟩:∃ wz,wz=((w2).drew).alloc (.cells #[.int .u32 xf] 22):=⟨_,rfl⟩
       rw [← hw61] at hal61
       have HS61:=jzD (HSd.out.add (((cS.star oS).star oS).star cS) hal61)
       have HE61:Hid ((qTs w0 xf xt xs xn xa xk) w61):=(Done.at_ (C:=fun X=>Star (Star (Star (Star (CellW g (yG me A0 n cap C0 m cc) 98) (OwnO 105 3 (.slice A0 n cap) n (secs l))) (qH C0 m cc cl)) X) (CellW g61 #[.int .u32 xf] 22)) (Fr.l (Fr.r ((cS.star oS).star oS) Fr.id_) cS) HS61.out)
       refine rests_run 7 (oi:=_) (by simp only [jzG,jzH,jzI];rfl) (by kernel_rfl) (by rfl) ((.slice (some ⟨g61,0,none⟩) 1 1)) w61 (by rw [hg61,hw61];go_simp) ⟨HE61.out,?_⟩
       clear hg61 hal61 hw61
       simp only [Act.put,jzU,jzV,jzW]
       refine rests_appO 8 (oi:=_) (by simp only [jzG,jzH,jzI];rfl) (by kernel_rfl) (by rfl) (C:=fun X=>Star (Star (Star (Star (CellW g (yG me A0 n cap C0 m cc) 98) (OwnO 105 3 (.slice A0 n cap) n (secs l))) X) (qG w0 xf xt xs xn xa xk)) (CellW g61 #[.int .u32 xf] 22)) (Fr.l (Fr.l (Fr.r (cS.star oS) Fr.id_) cS) cS) HS61.out (.tmp 20) (.tmp 23) 44 4 (.int .u32 0) rfl Tryz.underlying44 (by kernel_rfl) rfl (by decide) (.slice (some ⟨g61,0,none⟩) 1 1) 1 [.int .u32 xf] rfl rfl (rdG_new (Done.at_ (C:=fun X=>Star (Star (Star (Star (CellW g (yG me A0 n cap C0 m cc) 98) (OwnO 105 3 (.slice A0 n cap) n (secs l))) (qH C0 m cc cl)) (qG w0 xf xt xs xn xa xk)) X) (Fr.r (((cS.star oS).star oS).star cS) Fr.id_) HS61.out) rfl) (by decide) (by simp [Value.oneCell']) (m + 1) rfl HM1.out (u32s (cl ++ [xf])) (u32s_snoc _ _) ?_
       intro A62 c62 w62 hs hc;have HS62:=jzD hs;have HE62:Hid ((qTs w0 xf xt xs xn xa xk) w62):=(Done.at_ (C:=fun X=>Star (Star (Star (Star (CellW g (yG me A0 n cap C0 m cc) 98) (OwnO 105 3 (.slice A0 n cap) n (secs l))) (qI A62 m c62 cl xf)) X) (CellW g61 #[.int .u32 xf] 22)) (Fr.l (Fr.r ((cS.star oS).star oS) Fr.id_) cS) hs);have HC62:=jzD hc;refine ⟨HE62.out,?_⟩;clear hs hc
       simp only [Act.put,jzU,jzV,jzW]
       refine rtk 9 HE62.out ?_
       refine rtk 10 HE62.out ?_
       refine rests_store1 11 (oi:=_) (by simp only [jzG,jzH,jzI];rfl) (by kernel_rfl) (by rfl) 44 (.tmp 26) (.tmp 24) rfl g 2 (.slice A62 (m + 1) c62) rfl rfl 98 _ (Done.at_ (C:=fun X=>Star (Star (Star (Star (X) (OwnO 105 3 (.slice A0 n cap) n (secs l))) (qI A62 m c62 cl xf)) (qG w0 xf xt xs xn xa xk)) (CellW g61 #[.int .u32 xf] 22)) (Fr.l (Fr.l (Fr.l (Fr.l Fr.id_ oS) oS) cS) cS) HS62.out) (by simp) (run_storeUS _ ⟨_,_,_,rfl⟩ _ _) ?_
       intro w63 hg hh;have HS63:Hid (Done w0 F (Star (Star (Star (Star (CellW g (yG me A0 n cap A62 (m + 1) c62) 98) (OwnO 105 3 (.slice A0 n cap) n (secs l))) (qI A62 m c62 cl xf)) (qG w0 xf xt xs xn xa xk)) (CellW g61 #[.int .u32 xf] 22)) w63):=Done.put_ (C:=fun X=>Star (Star (Star (Star (X) (OwnO 105 3 (.slice A0 n cap) n (secs l))) (qI A62 m c62 cl xf)) (qG w0 xf xt xs xn xa xk)) (CellW g61 #[.int .u32 xf] 22)) (Fr.l (Fr.l (Fr.l (Fr.l Fr.id_ oS) oS) cS) cS) HS62.out hg hh;have HE63:Hid ((qTs w0 xf xt xs xn xa xk) w63):=(Done.at_ (C:=fun X=>Star (Star (Star (Star (CellW g (yG me A0 n cap A62 (m + 1) c62) 98) (OwnO 105 3 (.slice A0 n cap) n (secs l))) (qI A62 m c62 cl xf)) X) (CellW g61 #[.int .u32 xf] 22)) (Fr.l (Fr.r ((cS.star oS).star oS) Fr.id_) cS) HS63.out);refine ⟨HE63.out,?_⟩;clear hg hh
       simp only [Act.put,jzU,jzV,jzW]
       refine rests_done (by kernel_rfl) ?_
       go_wp2
       go_ret
       exact ⟨by rw [HH.out.1] <;> first | rfl | (simp;done),by rw [HH.out.2];exact HS63.out.drop.drop.mono fun F hF=>clash_end HMC.out HN.out HMK.out hF⟩
     · obtain ⟨g60,hg60⟩:∃ g,g=((w2).drew).heap.size:=⟨_,rfl⟩
       have hal60:=CellW.new ((w2).drew) #[.int .u32 xf] 22
       rw [← hg60] at hal60
       obtain ⟨w60,hw60⟩:∃ wz,wz=((w2).drew).alloc (.cells #[.int .u32 xf] 22):=⟨_,rfl⟩
       rw [← hw60] at hal60
       have HS60:=jzD (HSd.out.add (((cS.star oS).star oS).star cS) hal60)
       have HE60:Hid ((qTs w0 xf xt xs xn xa xk) w60):=(Done.at_ (C:=fun X=>Star (Star (Star (Star (CellW g (yG me A0 n cap C0 m cc) 98) (OwnO 105 3 (.slice A0 n cap) n (secs l))) (qH C0 m cc cl)) X) (CellW g60 #[.int .u32 xf] 22)) (Fr.l (Fr.r ((cS.star oS).star oS) Fr.id_) cS) HS60.out)
       refine wp_val (v:=(.slice (some ⟨g60,0,none⟩) 1 1)) (w' := w60) (by rw [hg60,hw60];go_simp) ⟨HE60.out,?_⟩
       clear hg60 hal60 hw60
       simp only [Act.put,jzU,jzV,jzW]
       have cq61:(w60).cell? ⟨g,2,none⟩=some (.slice C0 m cc):=cell_at (Done.at_ (C:=fun X=>Star (Star (Star (Star (X) (OwnO 105 3 (.slice A0 n cap) n (secs l))) (qH C0 m cc cl)) (qG w0 xf xt xs xn xa xk)) (CellW g60 #[.int .u32 xf] 22)) (Fr.l (Fr.l (Fr.l (Fr.l Fr.id_ oS) oS) cS) cS) HS60.out) 2 _ rfl
       refine rests_run 4 (oi:=_) (by simp only [jzG,jzH,jzI];rfl) (by kernel_rfl) (by rfl) (.slice C0 m cc) (w60) (by go_simp) ⟨HE60.out,?_⟩
       clear cq61
       simp only [Act.put,jzU,jzV,jzW]
       refine rests_appO 8 (oi:=_) (by simp only [jzG,jzH,jzI];rfl) (by kernel_rfl) (by rfl) (C:=fun X=>Star (Star (Star (Star (CellW g (yG me A0 n cap C0 m cc) 98) (OwnO 105 3 (.slice A0 n cap) n (secs l))) X) (qG w0 xf xt xs xn xa xk)) (CellW g60 #[.int .u32 xf] 22)) (Fr.l (Fr.l (Fr.r (cS.star oS) Fr.id_) cS) cS) HS60.out (.tmp 20) (.tmp 23) 44 4 (.int .u32 0) rfl Tryz.underlying44 (by kernel_rfl) rfl (by decide) (.slice (some ⟨g60,0,none⟩) 1 1) 1 [.int .u32 xf] rfl rfl (rdG_new (Done.at_ (C:=fun X=>Star (Star (Star (Star (CellW g (yG me A0 n cap C0 m cc) 98) (OwnO 105 3 (.slice A0 n cap) n (secs l))) (qH C0 m cc cl)) (qG w0 xf xt xs xn xa xk)) X) (Fr.r (((cS.star oS).star oS).star cS) Fr.id_) HS60.out) rfl) (by decide) (by simp [Value.oneCell']) (m + 1) rfl HM1.out (u32s (cl ++ [xf])) (u32s_snoc _ _) ?_
       intro A62 c62 w62 hs hc;have HS62:=jzD hs;have HE62:Hid ((qTs w0 xf xt xs xn xa xk) w62):=(Done.at_ (C:=fun X=>Star (Star (Star (Star (CellW g (yG me A0 n cap C0 m cc) 98) (OwnO 105 3 (.slice A0 n cap) n (secs l))) (qI A62 m c62 cl xf)) X) (CellW g60 #[.int .u32 xf] 22)) (Fr.l (Fr.r ((cS.star oS).star oS) Fr.id_) cS) hs);have HC62:=jzD hc;refine ⟨HE62.out,?_⟩;clear hs hc
       simp only [Act.put,jzU,jzV,jzW]
       refine rtk 9 HE62.out ?_
       refine rtk 10 HE62.out ?_
       refine rests_store1 11 (oi:=_) (by simp only [jzG,jzH,jzI];rfl) (by kernel_rfl) (by rfl) 44 (.tmp 26) (.tmp 24) rfl g 2 (.slice A62 (m + 1) c62) rfl rfl 98 _ (Done.at_ (C:=fun X=>Star (Star (Star (Star (X) (OwnO 105 3 (.slice A0 n cap) n (secs l))) (qI A62 m c62 cl xf)) (qG w0 xf xt xs xn xa xk)) (CellW g60 #[.int .u32 xf] 22)) (Fr.l (Fr.l (Fr.l (Fr.l Fr.id_ oS) oS) cS) cS) HS62.out) (by simp) (run_storeUS _ ⟨_,_,_,rfl⟩ _ _) ?_
       intro w63 hg hh;have HS63:Hid (Done w0 F (Star (Star (Star (Star (CellW g (yG me A0 n cap A62 (m + 1) c62) 98) (OwnO 105 3 (.slice A0 n cap) n (secs l))) (qI A62 m c62 cl xf)) (qG w0 xf xt xs xn xa xk)) (CellW g60 #[.int .u32 xf] 22)) w63):=Done.put_ (C:=fun X=>Star (Star (Star (Star (X) (OwnO 105 3 (.slice A0 n cap) n (secs l))) (qI A62 m c62 cl xf)) (qG w0 xf xt xs xn xa xk)) (CellW g60 #[.int .u32 xf] 22)) (Fr.l (Fr.l (Fr.l (Fr.l Fr.id_ oS) oS) cS) cS) HS62.out hg hh;have HE63:Hid ((qTs w0 xf xt xs xn xa xk) w63):=(Done.at_ (C:=fun X=>Star (Star (Star (Star (CellW g (yG me A0 n cap A62 (m + 1) c62) 98) (OwnO 105 3 (.slice A0 n cap) n (secs l))) (qI A62 m c62 cl xf)) X) (CellW g60 #[.int .u32 xf] 22)) (Fr.l (Fr.r ((cS.star oS).star oS) Fr.id_) cS) HS63.out);refine ⟨HE63.out,?_⟩;clear hg hh
       simp only [Act.put,jzU,jzV,jzW]
       refine rests_done (by kernel_rfl) ?_
       go_wp2
       go_ret
       exact ⟨by rw [HH.out.1] <;> first | rfl | (simp;done),by rw [HH.out.2];exact HS63.out.drop.drop.mono fun F hF=>clash_end HMC.out HN.out HMK.out hF⟩
   · have t1:(xf == me)=false:=beq_eq_false_iff_ne.2 hme
     have HMY:=jzD hmy
     have HME:=jzD hme
     clear hmy hme
     go_enter Tryz.func59,Tryz.ntmps59
     go_wp2_with (first
      | (with_reducible refine wpList_loadD (C:=fun X=>Star (Star (Star (CellW g (yG me A0 n cap C0 m cc) 98) (OwnO 105 3 (.slice A0 n cap) n (secs l))) (qH C0 m cc cl)) X) (Fr.r ((cS.star oS).star oS) Fr.id_) HS0.out rfl 32 (.tmp 3) rfl rfl _ Tryz.underlying32 rfl (by kernel_rfl) ?_)
      | (go_at_call 38;((with_reducible refine (dcalls_keep (((cS.star oS).star oS).star cS) HS0.out (HMX.out _)).mono ?_);rintro e w1 ⟨rfl,hs⟩;have HS1:=jzD hs;clear hs)))
     refine regq (fun W=>Below (w1).heap.size (w1) W) (by kernel_rfl) (by kernel_rfl) ((Below.refl _ _).drew) ?_
     refine qtk ?_
     refine qtk ?_ (hy:=by intro W HW;have cw:W.cell? ⟨w0.heap.size,0,none⟩=some (.int .u32 xf):=cell_at (keep_at (Done.at_ (C:=fun X=>Star (Star (Star (CellW g (yG me A0 n cap C0 m cc) 98) (OwnO 105 3 (.slice A0 n cap) n (secs l))) (qH C0 m cc cl)) X) (Fr.r ((cS.star oS).star oS) Fr.id_) HS1.out) HW) 0 _ rfl;go_simp;try with_reducible rfl)
     iterate 3 refine qtk ?_
     refine qtk ?_ (hy:=by intro W HW;have cw:W.cell? ⟨g,0,none⟩=some (.int .u32 me):=cell_at (keep_at (Done.at_ (C:=fun X=>Star (Star (Star (X) (OwnO 105 3 (.slice A0 n cap) n (secs l))) (qH C0 m cc cl)) (qG w0 xf xt xs xn xa xk)) (Fr.l (Fr.l (Fr.l Fr.id_ oS) oS) cS) HS1.out) HW) 0 _ rfl;go_simp;try with_reducible rfl)
     refine qtk ?_
     refine q_done ?_
     intro w2 hb
     have HS2:=jzD (HS1.out.keep (((cS.star oS).star oS).star cS) hb)
     clear hb
     go_wp2
     go_loopw [5] (fun iv wr=>∃ i:Nat,i≤n∧iv=.int .i64 (i:Int)∧(∀ s ∈ l.take i,¬ s.id=xf)∧Done w0 F (Star (Star (Star (CellW g (yG me A0 n cap C0 m cc) 98) (OwnO 105 3 (.slice A0 n cap) n (secs l))) (qH C0 m cc cl)) (qG w0 xf xt xs xn xa xk)) wr) (fun iv _=>(60 - intOf iv).toNat)
     case atStart=>exact ⟨0,by omega,rfl,by simp,HS2.out⟩
     case round =>
      obtain ⟨i,hi,rfl,hno,hs⟩:=hrel
      have HSr:=jzD hs
      have HNO:=jzD hno
      have q1:wr.cell? ⟨g,1,none⟩=some (.slice A0 n cap):=cell_at (Done.at_ (C:=fun X=>Star (Star (Star (X) (OwnO 105 3 (.slice A0 n cap) n (secs l))) (qH C0 m cc cl)) (qG w0 xf xt xs xn xa xk)) (Fr.l (Fr.l (Fr.l Fr.id_ oS) oS) cS) hs) 1 _ rfl
      clear hs hno
      by_cases hlt:i < n
      · have t1:decide ((i:Int) < (n:Int))=true:=decide_eq_true (by omega)
        have t2:(i:Int) < (n:Int):=by omega
        have tc1:(n:Int)≤(cap:Int):=by have := HCP.out;omega
        have e1:IntKind.i64.wrap ((i:Int) + 1)=(i:Int) + 1:=IntWalk.i64_in _ (by have := HL.out;omega)
        have hi16:i≤16:=by have := HL.out;omega
        have hil:i < l.length:=by have := HN.out;omega
        obtain ⟨s,hp⟩:∃ s,l[i]?=some s:=⟨l[i],List.getElem?_eq_getElem hil⟩
        obtain ⟨F1,hF1⟩:=Done.get (C:=fun X=>Star (Star (Star (CellW g (yG me A0 n cap C0 m cc) 98) X) (qH C0 m cc cl)) (qG w0 xf xt xs xn xa xk)) (Fr.l (Fr.l (Fr.r cS Fr.id_) oS) cS) HSr.out
        obtain ⟨sb,so,rfl⟩:=hF1.addr (by omega)
        have HC0:=jzD (secs_at hp).1
        have HC1:=jzD (secs_at hp).2.1
        have HC2:=jzD (secs_at hp).2.2
        have HP:=jzD hp
        obtain ⟨si,sk,ss⟩:=s
        clear hF1
        by_cases hid:si=xf
        · have t3:(si == xf)=true:=beq_iff_eq.2 hid
          have hw:=who_some (me:=me) (cs:=clF cl) HNO.out HP.out hid
          by_cases hnk:sk.toList=xk.toList
          · have t4:(sk.toList == xk.toList)=true:=beq_iff_eq.2 hnk
            by_cases hsl:ss=xs
            · have t5:(ss == xs)=true:=beq_iff_eq.2 hsl
              have HH:=jzD (add_same (m:=(⟨me,l,clF cl⟩:LogM)) (x:=(⟨xf,xt,xs,xn,xa,xk⟩:XIn)) HMY.out HME.out hw (same_yes hnk hsl))
              clear hid hw hnk hsl hp hil
              go_wp2
              refine regq (fun W=>Below (wr).heap.size (wr) W) (by kernel_rfl) (by kernel_rfl) ((Below.refl _ _).drew) ?_
              iterate 3 refine qtk ?_
              refine qtk ?_ (hy:=by intro W HW;have cw:W.cell? ⟨g,1,none⟩=some (.slice (some ⟨sb,so,none⟩) n cap):=cell_at (keep_at (Done.at_ (C:=fun X=>Star (Star (Star (X) (qF sb so n cap l)) (qH C0 m cc cl)) (qG w0 xf xt xs xn xa xk)) (Fr.l (Fr.l (Fr.l Fr.id_ oS) oS) cS) HSr.out) HW) 1 _ rfl;go_simp;try with_reducible rfl)
              iterate 3 refine qtk ?_
              refine qtk ?_ (hy:=by intro W HW;have cz:(wr).cell? ⟨sb,so + i * 3,none⟩=some (.int .u32 si):=((Done.get (C:=fun X=>Star (Star (Star (qE g me sb so n cap C0 m cc) X) (qH C0 m cc cl)) (qG w0 xf xt xs xn xa xk)) (Fr.l (Fr.l (Fr.r cS Fr.id_) oS) cS) HSr.out).elim fun _ h=>OwnO.cell h HC0.out);have cw:W.cell? ⟨sb,so + i * 3,none⟩=some (.int .u32 si):=(HW.cell (p:=⟨sb,so + i * 3,none⟩) (World.block_lt_of_cell? _ _ cz)).trans cz;go_simp;try with_reducible rfl)
              refine qtk ?_
              refine qtk ?_ (hy:=by intro W HW;have cw:W.cell? ⟨w0.heap.size,0,none⟩=some (.int .u32 xf):=cell_at (keep_at (Done.at_ (C:=fun X=>Star (Star (Star (qE g me sb so n cap C0 m cc) (qF sb so n cap l)) (qH C0 m cc cl)) X) (Fr.r ((cS.star oS).star oS) Fr.id_) HSr.out) HW) 0 _ rfl;go_simp;try with_reducible rfl)
              refine qtk ?_
              refine q_done ?_
              intro w3 hb
              have HS3:=jzD (HSr.out.keep (((cS.star oS).star oS).star cS) hb)
              clear hb
              go_wp2
              refine regq (fun W=>Below (w3).heap.size (w3) W) (by kernel_rfl) (by kernel_rfl) ((Below.refl _ _).drew) ?_
              iterate 3 refine qtk ?_
              refine qtk ?_ (hy:=by intro W HW;have cw:W.cell? ⟨g,1,none⟩=some (.slice (some ⟨sb,so,none⟩) n cap):=cell_at (keep_at (Done.at_ (C:=fun X=>Star (Star (Star (X) (qF sb so n cap l)) (qH C0 m cc cl)) (qG w0 xf xt xs xn xa xk)) (Fr.l (Fr.l (Fr.l Fr.id_ oS) oS) cS) HS3.out) HW) 1 _ rfl;go_simp;try with_reducible rfl)
              iterate 3 refine qtk ?_
              refine qtk ?_ (hy:=by intro W HW;have cz:w3.cell? ⟨sb,so + i * 3 + 1,none⟩=some (.string sk):=((Done.get (C:=fun X=>Star (Star (Star (qE g me sb so n cap C0 m cc) X) (qH C0 m cc cl)) (qG w0 xf xt xs xn xa xk)) (Fr.l (Fr.l (Fr.r cS Fr.id_) oS) cS) HS3.out).elim fun _ h=>OwnO.cell h HC1.out);have cw:W.cell? ⟨sb,so + i * 3 + 1,none⟩=some (.string sk):=(HW.cell (p:=⟨sb,so + i * 3 + 1,none⟩) (World.block_lt_of_cell? _ _ cz)).trans cz;go_simp;try with_reducible rfl)
              refine qtk ?_
              refine qtk ?_ (hy:=by intro W HW;have cw:W.cell? ⟨w0.heap.size,5,none⟩=some (.string xk):=cell_at (keep_at (Done.at_ (C:=fun X=>Star (Star (Star (qE g me sb so n cap C0 m cc) (qF sb so n cap l)) (qH C0 m cc cl)) X) (Fr.r ((cS.star oS).star oS) Fr.id_) HS3.out) HW) 5 _ rfl;go_simp;try with_reducible rfl)
              iterate 5 refine qtk ?_
              refine qtk ?_ (hy:=by intro W HW;have cw:W.cell? ⟨g,1,none⟩=some (.slice (some ⟨sb,so,none⟩) n cap):=cell_at (keep_at (Done.at_ (C:=fun X=>Star (Star (Star (X) (qF sb so n cap l)) (qH C0 m cc cl)) (qG w0 xf xt xs xn xa xk)) (Fr.l (Fr.l (Fr.l Fr.id_ oS) oS) cS) HS3.out) HW) 1 _ rfl;go_simp;try with_reducible rfl)
              iterate 3 refine qtk ?_
              refine qtk ?_ (hy:=by intro W HW;have cz:w3.cell? ⟨sb,so + i * 3 + 2,none⟩=some (.int .i64 ss):=((Done.get (C:=fun X=>Star (Star (Star (qE g me sb so n cap C0 m cc) X) (qH C0 m cc cl)) (qG w0 xf xt xs xn xa xk)) (Fr.l (Fr.l (Fr.r cS Fr.id_) oS) cS) HS3.out).elim fun _ h=>OwnO.cell h HC2.out);have cw:W.cell? ⟨sb,so + i * 3 + 2,none⟩=some (.int .i64 ss):=(HW.cell (p:=⟨sb,so + i * 3 + 2,none⟩) (World.block_lt_of_cell? _ _ cz)).trans cz;go_simp;try with_reducible rfl)
              refine qtk ?_
              refine qtk ?_ (hy:=by intro W HW;have cw:W.cell? ⟨w0.heap.size,2,none⟩=some (.int .i64 xs):=cell_at (keep_at (Done.at_ (C:=fun X=>Star (Star (Star (qE g me sb so n cap C0 m cc) (qF sb so n cap l)) (qH C0 m cc cl)) X) (Fr.r ((cS.star oS).star oS) Fr.id_) HS3.out) HW) 2 _ rfl;go_simp;try with_reducible rfl)
              iterate 2 refine qtk ?_
              refine q_done ?_
              intro w4 hb
              have HS4:=jzD (HS3.out.keep (((cS.star oS).star oS).star cS) hb)
              clear hb
              go_wp2
              go_ret
              exact ⟨by rw [HH.out.1] <;> first | rfl | (simp;done),by rw [HH.out.2];exact HS4.out.drop.mono fun F hF=>same_end HMC.out HN.out HMK.out hF⟩
            · have t5:(ss == xs)=false:=beq_eq_false_iff_ne.2 hsl
              have HH:=jzD (add_diff (m:=(⟨me,l,clF cl⟩:LogM)) (x:=(⟨xf,xt,xs,xn,xa,xk⟩:XIn)) HMY.out HME.out hw (same_slot hsl))
              clear hid hw hnk hsl hp hil
              go_wp2
              refine regq (fun W=>Below (wr).heap.size (wr) W) (by kernel_rfl) (by kernel_rfl) ((Below.refl _ _).drew) ?_
              iterate 3 refine qtk ?_
              refine qtk ?_ (hy:=by intro W HW;have cw:W.cell? ⟨g,1,none⟩=some (.slice (some ⟨sb,so,none⟩) n cap):=cell_at (keep_at (Done.at_ (C:=fun X=>Star (Star (Star (X) (qF sb so n cap l)) (qH C0 m cc cl)) (qG w0 xf xt xs xn xa xk)) (Fr.l (Fr.l (Fr.l Fr.id_ oS) oS) cS) HSr.out) HW) 1 _ rfl;go_simp;try with_reducible rfl)
              iterate 3 refine qtk ?_
              refine qtk ?_ (hy:=by intro W HW;have cz:(wr).cell? ⟨sb,so + i * 3,none⟩=some (.int .u32 si):=((Done.get (C:=fun X=>Star (Star (Star (qE g me sb so n cap C0 m cc) X) (qH C0 m cc cl)) (qG w0 xf xt xs xn xa xk)) (Fr.l (Fr.l (Fr.r cS Fr.id_) oS) cS) HSr.out).elim fun _ h=>OwnO.cell h HC0.out);have cw:W.cell? ⟨sb,so + i * 3,none⟩=some (.int .u32 si):=(HW.cell (p:=⟨sb,so + i * 3,none⟩) (World.block_lt_of_cell? _ _ cz)).trans cz;go_simp;try with_reducible rfl)
              refine qtk ?_
              refine qtk ?_ (hy:=by intro W HW;have cw:W.cell? ⟨w0.heap.size,0,none⟩=some (.int .u32 xf):=cell_at (keep_at (Done.at_ (C:=fun X=>Star (Star (Star (qE g me sb so n cap C0 m cc) (qF sb so n cap l)) (qH C0 m cc cl)) X) (Fr.r ((cS.star oS).star oS) Fr.id_) HSr.out) HW) 0 _ rfl;go_simp;try with_reducible rfl)
              refine qtk ?_
              refine q_done ?_
              intro w3 hb
              have HS3:=jzD (HSr.out.keep (((cS.star oS).star oS).star cS) hb)
              clear hb
              go_wp2
              refine regq (fun W=>Below (w3).heap.size (w3) W) (by kernel_rfl) (by kernel_rfl) ((Below.refl _ _).drew) ?_
              iterate 3 refine qtk ?_
              refine qtk ?_ (hy:=by intro W HW;have cw:W.cell? ⟨g,1,none⟩=some (.slice (some ⟨sb,so,none⟩) n cap):=cell_at (keep_at (Done.at_ (C:=fun X=>Star (Star (Star (X) (qF sb so n cap l)) (qH C0 m cc cl)) (qG w0 xf xt xs xn xa xk)) (Fr.l (Fr.l (Fr.l Fr.id_ oS) oS) cS) HS3.out) HW) 1 _ rfl;go_simp;try with_reducible rfl)
              iterate 3 refine qtk ?_
              refine qtk ?_ (hy:=by intro W HW;have cz:w3.cell? ⟨sb,so + i * 3 + 1,none⟩=some (.string sk):=((Done.get (C:=fun X=>Star (Star (Star (qE g me sb so n cap C0 m cc) X) (qH C0 m cc cl)) (qG w0 xf xt xs xn xa xk)) (Fr.l (Fr.l (Fr.r cS Fr.id_) oS) cS) HS3.out).elim fun _ h=>OwnO.cell h HC1.out);have cw:W.cell? ⟨sb,so + i * 3 + 1,none⟩=some (.string sk):=(HW.cell (p:=⟨sb,so + i * 3 + 1,none⟩) (World.block_lt_of_cell? _ _ cz)).trans cz;go_simp;try with_reducible rfl)
              refine qtk ?_
              refine qtk ?_ (hy:=by intro W HW;have cw:W.cell? ⟨w0.heap.size,5,none⟩=some (.string xk):=cell_at (keep_at (Done.at_ (C:=fun X=>Star (Star (Star (qE g me sb so n cap C0 m cc) (qF sb so n cap l)) (qH C0 m cc cl)) X) (Fr.r ((cS.star oS).star oS) Fr.id_) HS3.out) HW) 5 _ rfl;go_simp;try with_reducible rfl)
              iterate 5 refine qtk ?_
              refine qtk ?_ (hy:=by intro W HW;have cw:W.cell? ⟨g,1,none⟩=some (.slice (some ⟨sb,so,none⟩) n cap):=cell_at (keep_at (Done.at_ (C:=fun X=>Star (Star (Star (X) (qF sb so n cap l)) (qH C0 m cc cl)) (qG w0 xf xt xs xn xa xk)) (Fr.l (Fr.l (Fr.l Fr.id_ oS) oS) cS) HS3.out) HW) 1 _ rfl;go_simp;try with_reducible rfl)
              iterate 3 refine qtk ?_
              refine qtk ?_ (hy:=by intro W HW;have cz:w3.cell? ⟨sb,so + i * 3 + 2,none⟩=some (.int .i64 ss):=((Done.get (C:=fun X=>Star (Star (Star (qE g me sb so n cap C0 m cc) X) (qH C0 m cc cl)) (qG w0 xf xt xs xn xa xk)) (Fr.l (Fr.l (Fr.r cS Fr.id_) oS) cS) HS3.out).elim fun _ h=>OwnO.cell h HC2.out);have cw:W.cell? ⟨sb,so + i * 3 + 2,none⟩=some (.int .i64 ss):=(HW.cell (p:=⟨sb,so + i * 3 + 2,none⟩) (World.block_lt_of_cell? _ _ cz)).trans cz;go_simp;try with_reducible rfl)
              refine qtk ?_
              refine qtk ?_ (hy:=by intro W HW;have cw:W.cell? ⟨w0.heap.size,2,none⟩=some (.int .i64 xs):=cell_at (keep_at (Done.at_ (C:=fun X=>Star (Star (Star (qE g me sb so n cap C0 m cc) (qF sb so n cap l)) (qH C0 m cc cl)) X) (Fr.r ((cS.star oS).star oS) Fr.id_) HS3.out) HW) 2 _ rfl;go_simp;try with_reducible rfl)
              iterate 2 refine qtk ?_
              refine q_done ?_
              intro w4 hb
              have HS4:=jzD (HS3.out.keep (((cS.star oS).star oS).star cS) hb)
              clear hb
              go_wp2
              have HSd:=jzD (HS4.out.drewD (((cS.star oS).star oS).star cS))
              have HEd:Hid ((qTs w0 xf xt xs xn xa xk) (w4).drew):=(Done.at_ (C:=fun X=>Star (Star (Star (qE g me sb so n cap C0 m cc) (qF sb so n cap l)) (qH C0 m cc cl)) X) (Fr.r ((cS.star oS).star oS) Fr.id_) HSd.out)
              refine rests_begin (qTs w0 xf xt xs xn xa xk) (by kernel_rfl) ?_
              refine rtk 0 HEd.out ?_
              refine rtk 1 HEd.out ?_
              refine rtk 2 HEd.out ?_
              refine rtk 3 HEd.out ?_
              refine rtk 5 HEd.out ?_
              refine rtk 6 HEd.out ?_ (hy:=by intro W HW;have cw:W.cell? ⟨w0.heap.size,0,none⟩=some (.int .u32 xf):=cell_at HW 0 _ rfl;go_simp;try with_reducible rfl)
              refine rests_two 4 7 (oi:=_) (oj:=_) (by simp only [jzG,jzH,jzI];rfl) (by simp only [jzG,jzH,jzI];rfl) (by kernel_rfl) (by rfl) (by rfl) ?_ ?_
              · have cq60:((w4).drew).cell? ⟨g,2,none⟩=some (.slice C0 m cc):=cell_at (Done.at_ (C:=fun X=>Star (Star (Star (X) (qF sb so n cap l)) (qH C0 m cc cl)) (qG w0 xf xt xs xn xa xk)) (Fr.l (Fr.l (Fr.l Fr.id_ oS) oS) cS) HSd.out) 2 _ rfl
                refine wp_val (v:=.slice C0 m cc) (w' := (w4).drew) (by go_simp) ⟨HEd.out,?_⟩
                clear cq60
                simp only [Act.put,jzU,jzV,jzW]
                obtain ⟨g61,hg61⟩:∃ g,g=((w4).drew).heap.size:=⟨_,rfl⟩
                have hal61:=CellW.new ((w4).drew) #[.int .u32 xf] 22
                rw [← hg61] at hal61
                obtain ⟨w61,hw61⟩:∃ wz,wz=((w4).drew).alloc (.cells #[.int .u32 xf] 22):=⟨_,rfl⟩
                rw [← hw61] at hal61
                have HS61:=jzD (HSd.out.add (((cS.star oS).star oS).star cS) hal61)
                have HE61:Hid ((qTs w0 xf xt xs xn xa xk) w61):=(Done.at_ (C:=fun X=>Star (Star (Star (Star (qE g me sb so n cap C0 m cc) (qF sb so n cap l)) (qH C0 m cc cl)) X) (CellW g61 #[.int .u32 xf] 22)) (Fr.l (Fr.r ((cS.star oS).star oS) Fr.id_) cS) HS61.out)
                refine rests_run 7 (oi:=_) (by simp only [jzG,jzH,jzI];rfl) (by kernel_rfl) (by rfl) ((.slice (some ⟨g61,0,none⟩) 1 1)) w61 (by rw [hg61,hw61];go_simp) ⟨HE61.out,?_⟩
                clear hg61 hal61 hw61
                simp only [Act.put,jzU,jzV,jzW]
                refine rests_appO 8 (oi:=_) (by simp only [jzG,jzH,jzI];rfl) (by kernel_rfl) (by rfl) (C:=fun X=>Star (Star (Star (Star (qE g me sb so n cap C0 m cc) (qF sb so n cap l)) X) (qG w0 xf xt xs xn xa xk)) (CellW g61 #[.int .u32 xf] 22)) (Fr.l (Fr.l (Fr.r (cS.star oS) Fr.id_) cS) cS) HS61.out (.tmp 75) (.tmp 78) 44 4 (.int .u32 0) rfl Tryz.underlying44 (by kernel_rfl) rfl (by decide) (.slice (some ⟨g61,0,none⟩) 1 1) 1 [.int .u32 xf] rfl rfl (rdG_new (Done.at_ (C:=fun X=>Star (Star (Star (Star (qE g me sb so n cap C0 m cc) (qF sb so n cap l)) (qH C0 m cc cl)) (qG w0 xf xt xs xn xa xk)) X) (Fr.r (((cS.star oS).star oS).star cS) Fr.id_) HS61.out) rfl) (by decide) (by simp [Value.oneCell']) (m + 1) rfl HM1.out (u32s (cl ++ [xf])) (u32s_snoc _ _) ?_
                intro A62 c62 w62 hs hc;have HS62:=jzD hs;have HE62:Hid ((qTs w0 xf xt xs xn xa xk) w62):=(Done.at_ (C:=fun X=>Star (Star (Star (Star (qE g me sb so n cap C0 m cc) (qF sb so n cap l)) (qI A62 m c62 cl xf)) X) (CellW g61 #[.int .u32 xf] 22)) (Fr.l (Fr.r ((cS.star oS).star oS) Fr.id_) cS) hs);have HC62:=jzD hc;refine ⟨HE62.out,?_⟩;clear hs hc
                simp only [Act.put,jzU,jzV,jzW]
                refine rtk 9 HE62.out ?_
                refine rtk 10 HE62.out ?_
                refine rests_store1 11 (oi:=_) (by simp only [jzG,jzH,jzI];rfl) (by kernel_rfl) (by rfl) 44 (.tmp 81) (.tmp 79) rfl g 2 (.slice A62 (m + 1) c62) rfl rfl 98 _ (Done.at_ (C:=fun X=>Star (Star (Star (Star (X) (qF sb so n cap l)) (qI A62 m c62 cl xf)) (qG w0 xf xt xs xn xa xk)) (CellW g61 #[.int .u32 xf] 22)) (Fr.l (Fr.l (Fr.l (Fr.l Fr.id_ oS) oS) cS) cS) HS62.out) (by simp) (run_storeUS _ ⟨_,_,_,rfl⟩ _ _) ?_
                intro w63 hg hh;have HS63:Hid (Done w0 F (Star (Star (Star (Star (CellW g (yG me (some ⟨sb,so,none⟩) n cap A62 (m + 1) c62) 98) (qF sb so n cap l)) (qI A62 m c62 cl xf)) (qG w0 xf xt xs xn xa xk)) (CellW g61 #[.int .u32 xf] 22)) w63):=Done.put_ (C:=fun X=>Star (Star (Star (Star (X) (qF sb so n cap l)) (qI A62 m c62 cl xf)) (qG w0 xf xt xs xn xa xk)) (CellW g61 #[.int .u32 xf] 22)) (Fr.l (Fr.l (Fr.l (Fr.l Fr.id_ oS) oS) cS) cS) HS62.out hg hh;have HE63:Hid ((qTs w0 xf xt xs xn xa xk) w63):=(Done.at_ (C:=fun X=>Star (Star (Star (Star (CellW g (yG me (some ⟨sb,so,none⟩) n cap A62 (m + 1) c62) 98) (qF sb so n cap l)) (qI A62 m c62 cl xf)) X) (CellW g61 #[.int .u32 xf] 22)) (Fr.l (Fr.r ((cS.star oS).star oS) Fr.id_) cS) HS63.out);refine ⟨HE63.out,?_⟩;clear hg hh
                simp only [Act.put,jzU,jzV,jzW]
                refine rests_done (by kernel_rfl) ?_
                go_wp2
                go_ret
                exact ⟨by rw [HH.out.1] <;> first | rfl | (simp;done),by rw [HH.out.2];exact HS63.out.drop.drop.mono fun F hF=>clash_end HMC.out HN.out HMK.out hF⟩
              · obtain ⟨g60,hg60⟩:∃ g,g=((w4).drew).heap.size:=⟨_,rfl⟩
                have hal60:=CellW.new ((w4).drew) #[.int .u32 xf] 22
                rw [← hg60] at hal60
                obtain ⟨w60,hw60⟩:∃ wz,wz=((w4).drew).alloc (.cells #[.int .u32 xf] 22):=⟨_,rfl⟩
                rw [← hw60] at hal60
                have HS60:=jzD (HSd.out.add (((cS.star oS).star oS).star cS) hal60)
                have HE60:Hid ((qTs w0 xf xt xs xn xa xk) w60):=(Done.at_ (C:=fun X=>Star (Star (Star (Star (qE g me sb so n cap C0 m cc) (qF sb so n cap l)) (qH C0 m cc cl)) X) (CellW g60 #[.int .u32 xf] 22)) (Fr.l (Fr.r ((cS.star oS).star oS) Fr.id_) cS) HS60.out)
                refine wp_val (v:=(.slice (some ⟨g60,0,none⟩) 1 1)) (w' := w60) (by rw [hg60,hw60];go_simp) ⟨HE60.out,?_⟩
                clear hg60 hal60 hw60
                simp only [Act.put,jzU,jzV,jzW]
                have cq61:(w60).cell? ⟨g,2,none⟩=some (.slice C0 m cc):=cell_at (Done.at_ (C:=fun X=>Star (Star (Star (Star (X) (qF sb so n cap l)) (qH C0 m cc cl)) (qG w0 xf xt xs xn xa xk)) (CellW g60 #[.int .u32 xf] 22)) (Fr.l (Fr.l (Fr.l (Fr.l Fr.id_ oS) oS) cS) cS) HS60.out) 2 _ rfl
                refine rests_run 4 (oi:=_) (by simp only [jzG,jzH,jzI];rfl) (by kernel_rfl) (by rfl) (.slice C0 m cc) (w60) (by go_simp) ⟨HE60.out,?_⟩
                clear cq61
                simp only [Act.put,jzU,jzV,jzW]
                refine rests_appO 8 (oi:=_) (by simp only [jzG,jzH,jzI];rfl) (by kernel_rfl) (by rfl) (C:=fun X=>Star (Star (Star (Star (qE g me sb so n cap C0 m cc) (qF sb so n cap l)) X) (qG w0 xf xt xs xn xa xk)) (CellW g60 #[.int .u32 xf] 22)) (Fr.l (Fr.l (Fr.r (cS.star oS) Fr.id_) cS) cS) HS60.out (.tmp 75) (.tmp 78) 44 4 (.int .u32 0) rfl Tryz.underlying44 (by kernel_rfl) rfl (by decide) (.slice (some ⟨g60,0,none⟩) 1 1) 1 [.int .u32 xf] rfl rfl (rdG_new (Done.at_ (C:=fun X=>Star (Star (Star (Star (qE g me sb so n cap C0 m cc) (qF sb so n cap l)) (qH C0 m cc cl)) (qG w0 xf xt xs xn xa xk)) X) (Fr.r (((cS.star oS).star oS).star cS) Fr.id_) HS60.out) rfl) (by decide) (by simp [Value.oneCell']) (m + 1) rfl HM1.out (u32s (cl ++ [xf])) (u32s_snoc _ _) ?_
                intro A62 c62 w62 hs hc;have HS62:=jzD hs;have HE62:Hid ((qTs w0 xf xt xs xn xa xk) w62):=(Done.at_ (C:=fun X=>Star (Star (Star (Star (qE g me sb so n cap C0 m cc) (qF sb so n cap l)) (qI A62 m c62 cl xf)) X) (CellW g60 #[.int .u32 xf] 22)) (Fr.l (Fr.r ((cS.star oS).star oS) Fr.id_) cS) hs);have HC62:=jzD hc;refine ⟨HE62.out,?_⟩;clear hs hc
                simp only [Act.put,jzU,jzV,jzW]
                refine rtk 9 HE62.out ?_
                refine rtk 10 HE62.out ?_
                refine rests_store1 11 (oi:=_) (by simp only [jzG,jzH,jzI];rfl) (by kernel_rfl) (by rfl) 44 (.tmp 81) (.tmp 79) rfl g 2 (.slice A62 (m + 1) c62) rfl rfl 98 _ (Done.at_ (C:=fun X=>Star (Star (Star (Star (X) (qF sb so n cap l)) (qI A62 m c62 cl xf)) (qG w0 xf xt xs xn xa xk)) (CellW g60 #[.int .u32 xf] 22)) (Fr.l (Fr.l (Fr.l (Fr.l Fr.id_ oS) oS) cS) cS) HS62.out) (by simp) (run_storeUS _ ⟨_,_,_,rfl⟩ _ _) ?_
                intro w63 hg hh;have HS63:Hid (Done w0 F (Star (Star (Star (Star (CellW g (yG me (some ⟨sb,so,none⟩) n cap A62 (m + 1) c62) 98) (qF sb so n cap l)) (qI A62 m c62 cl xf)) (qG w0 xf xt xs xn xa xk)) (CellW g60 #[.int .u32 xf] 22)) w63):=Done.put_ (C:=fun X=>Star (Star (Star (Star (X) (qF sb so n cap l)) (qI A62 m c62 cl xf)) (qG w0 xf xt xs xn xa xk)) (CellW g60 #[.int .u32 xf] 22)) (Fr.l (Fr.l (Fr.l (Fr.l Fr.id_ oS) oS) cS) cS) HS62.out hg hh;have HE63:Hid ((qTs w0 xf xt xs xn xa xk) w63):=(Done.at_ (C:=fun X=>Star (Star (Star (Star (CellW g (yG me (some ⟨sb,so,none⟩) n cap A62 (m + 1) c62) 98) (qF sb so n cap l)) (qI A62 m c62 cl xf)) X) (CellW g60 #[.int .u32 xf] 22)) (Fr.l (Fr.r ((cS.star oS).star oS) Fr.id_) cS) HS63.out);refine ⟨HE63.out,?_⟩;clear hg hh
                simp only [Act.put,jzU,jzV,jzW]
                refine rests_done (by kernel_rfl) ?_
                go_wp2
                go_ret
                exact ⟨by rw [HH.out.1] <;> first | rfl | (simp;done),by rw [HH.out.2];exact HS63.out.drop.drop.mono fun F hF=>clash_end HMC.out HN.out HMK.out hF⟩
          · have t4:(sk.toList == xk.toList)=false:=beq_eq_false_iff_ne.2 hnk
            have HH:=jzD (add_diff (m:=(⟨me,l,clF cl⟩:LogM)) (x:=(⟨xf,xt,xs,xn,xa,xk⟩:XIn)) HMY.out HME.out hw (same_nick hnk))
            clear hid hw hnk hp hil
            go_wp2
            refine regq (fun W=>Below (wr).heap.size (wr) W) (by kernel_rfl) (by kernel_rfl) ((Below.refl _ _).drew) ?_
            iterate 3 refine qtk ?_
            refine qtk ?_ (hy:=by intro W HW;have cw:W.cell? ⟨g,1,none⟩=some (.slice (some ⟨sb,so,none⟩) n cap):=cell_at (keep_at (Done.at_ (C:=fun X=>Star (Star (Star (X) (qF sb so n cap l)) (qH C0 m cc cl)) (qG w0 xf xt xs xn xa xk)) (Fr.l (Fr.l (Fr.l Fr.id_ oS) oS) cS) HSr.out) HW) 1 _ rfl;go_simp;try with_reducible rfl)
            iterate 3 refine qtk ?_
            refine qtk ?_ (hy:=by intro W HW;have cz:(wr).cell? ⟨sb,so + i * 3,none⟩=some (.int .u32 si):=((Done.get (C:=fun X=>Star (Star (Star (qE g me sb so n cap C0 m cc) X) (qH C0 m cc cl)) (qG w0 xf xt xs xn xa xk)) (Fr.l (Fr.l (Fr.r cS Fr.id_) oS) cS) HSr.out).elim fun _ h=>OwnO.cell h HC0.out);have cw:W.cell? ⟨sb,so + i * 3,none⟩=some (.int .u32 si):=(HW.cell (p:=⟨sb,so + i * 3,none⟩) (World.block_lt_of_cell? _ _ cz)).trans cz;go_simp;try with_reducible rfl)
            refine qtk ?_
            refine qtk ?_ (hy:=by intro W HW;have cw:W.cell? ⟨w0.heap.size,0,none⟩=some (.int .u32 xf):=cell_at (keep_at (Done.at_ (C:=fun X=>Star (Star (Star (qE g me sb so n cap C0 m cc) (qF sb so n cap l)) (qH C0 m cc cl)) X) (Fr.r ((cS.star oS).star oS) Fr.id_) HSr.out) HW) 0 _ rfl;go_simp;try with_reducible rfl)
            refine qtk ?_
            refine q_done ?_
            intro w3 hb
            have HS3:=jzD (HSr.out.keep (((cS.star oS).star oS).star cS) hb)
            clear hb
            go_wp2
            refine regq (fun W=>Below (w3).heap.size (w3) W) (by kernel_rfl) (by kernel_rfl) ((Below.refl _ _).drew) ?_
            iterate 3 refine qtk ?_
            refine qtk ?_ (hy:=by intro W HW;have cw:W.cell? ⟨g,1,none⟩=some (.slice (some ⟨sb,so,none⟩) n cap):=cell_at (keep_at (Done.at_ (C:=fun X=>Star (Star (Star (X) (qF sb so n cap l)) (qH C0 m cc cl)) (qG w0 xf xt xs xn xa xk)) (Fr.l (Fr.l (Fr.l Fr.id_ oS) oS) cS) HS3.out) HW) 1 _ rfl;go_simp;try with_reducible rfl)
            iterate 3 refine qtk ?_
            refine qtk ?_ (hy:=by intro W HW;have cz:w3.cell? ⟨sb,so + i * 3 + 1,none⟩=some (.string sk):=((Done.get (C:=fun X=>Star (Star (Star (qE g me sb so n cap C0 m cc) X) (qH C0 m cc cl)) (qG w0 xf xt xs xn xa xk)) (Fr.l (Fr.l (Fr.r cS Fr.id_) oS) cS) HS3.out).elim fun _ h=>OwnO.cell h HC1.out);have cw:W.cell? ⟨sb,so + i * 3 + 1,none⟩=some (.string sk):=(HW.cell (p:=⟨sb,so + i * 3 + 1,none⟩) (World.block_lt_of_cell? _ _ cz)).trans cz;go_simp;try with_reducible rfl)
            refine qtk ?_
            refine qtk ?_ (hy:=by intro W HW;have cw:W.cell? ⟨w0.heap.size,5,none⟩=some (.string xk):=cell_at (keep_at (Done.at_ (C:=fun X=>Star (Star (Star (qE g me sb so n cap C0 m cc) (qF sb so n cap l)) (qH C0 m cc cl)) X) (Fr.r ((cS.star oS).star oS) Fr.id_) HS3.out) HW) 5 _ rfl;go_simp;try with_reducible rfl)
            iterate 2 refine qtk ?_
            iterate 11 refine qsk ?_
            refine qtk ?_
            refine q_done ?_
            intro w4 hb
            have HS4:=jzD (HS3.out.keep (((cS.star oS).star oS).star cS) hb)
            clear hb
            go_wp2
            have HSd:=jzD (HS4.out.drewD (((cS.star oS).star oS).star cS))
            have HEd:Hid ((qTs w0 xf xt xs xn xa xk) (w4).drew):=(Done.at_ (C:=fun X=>Star (Star (Star (qE g me sb so n cap C0 m cc) (qF sb so n cap l)) (qH C0 m cc cl)) X) (Fr.r ((cS.star oS).star oS) Fr.id_) HSd.out)
            refine rests_begin (qTs w0 xf xt xs xn xa xk) (by kernel_rfl) ?_
            refine rtk 0 HEd.out ?_
            refine rtk 1 HEd.out ?_
            refine rtk 2 HEd.out ?_
            refine rtk 3 HEd.out ?_
            refine rtk 5 HEd.out ?_
            refine rtk 6 HEd.out ?_ (hy:=by intro W HW;have cw:W.cell? ⟨w0.heap.size,0,none⟩=some (.int .u32 xf):=cell_at HW 0 _ rfl;go_simp;try with_reducible rfl)
            refine rests_two 4 7 (oi:=_) (oj:=_) (by simp only [jzG,jzH,jzI];rfl) (by simp only [jzG,jzH,jzI];rfl) (by kernel_rfl) (by rfl) (by rfl) ?_ ?_
            · have cq60:((w4).drew).cell? ⟨g,2,none⟩=some (.slice C0 m cc):=cell_at (Done.at_ (C:=fun X=>Star (Star (Star (X) (qF sb so n cap l)) (qH C0 m cc cl)) (qG w0 xf xt xs xn xa xk)) (Fr.l (Fr.l (Fr.l Fr.id_ oS) oS) cS) HSd.out) 2 _ rfl
              refine wp_val (v:=.slice C0 m cc) (w' := (w4).drew) (by go_simp) ⟨HEd.out,?_⟩
              clear cq60
              simp only [Act.put,jzU,jzV,jzW]
              obtain ⟨g61,hg61⟩:∃ g,g=((w4).drew).heap.size:=⟨_,rfl⟩
              have hal61:=CellW.new ((w4).drew) #[.int .u32 xf] 22
              rw [← hg61] at hal61
              obtain ⟨w61,hw61⟩:∃ wz,wz=((w4).drew).alloc (.cells #[.int .u32 xf] 22):=⟨_,rfl⟩
              rw [← hw61] at hal61
              have HS61:=jzD (HSd.out.add (((cS.star oS).star oS).star cS) hal61)
              have HE61:Hid ((qTs w0 xf xt xs xn xa xk) w61):=(Done.at_ (C:=fun X=>Star (Star (Star (Star (qE g me sb so n cap C0 m cc) (qF sb so n cap l)) (qH C0 m cc cl)) X) (CellW g61 #[.int .u32 xf] 22)) (Fr.l (Fr.r ((cS.star oS).star oS) Fr.id_) cS) HS61.out)
              refine rests_run 7 (oi:=_) (by simp only [jzG,jzH,jzI];rfl) (by kernel_rfl) (by rfl) ((.slice (some ⟨g61,0,none⟩) 1 1)) w61 (by rw [hg61,hw61];go_simp) ⟨HE61.out,?_⟩
              clear hg61 hal61 hw61
              simp only [Act.put,jzU,jzV,jzW]
              refine rests_appO 8 (oi:=_) (by simp only [jzG,jzH,jzI];rfl) (by kernel_rfl) (by rfl) (C:=fun X=>Star (Star (Star (Star (qE g me sb so n cap C0 m cc) (qF sb so n cap l)) X) (qG w0 xf xt xs xn xa xk)) (CellW g61 #[.int .u32 xf] 22)) (Fr.l (Fr.l (Fr.r (cS.star oS) Fr.id_) cS) cS) HS61.out (.tmp 75) (.tmp 78) 44 4 (.int .u32 0) rfl Tryz.underlying44 (by kernel_rfl) rfl (by decide) (.slice (some ⟨g61,0,none⟩) 1 1) 1 [.int .u32 xf] rfl rfl (rdG_new (Done.at_ (C:=fun X=>Star (Star (Star (Star (qE g me sb so n cap C0 m cc) (qF sb so n cap l)) (qH C0 m cc cl)) (qG w0 xf xt xs xn xa xk)) X) (Fr.r (((cS.star oS).star oS).star cS) Fr.id_) HS61.out) rfl) (by decide) (by simp [Value.oneCell']) (m + 1) rfl HM1.out (u32s (cl ++ [xf])) (u32s_snoc _ _) ?_
              intro A62 c62 w62 hs hc;have HS62:=jzD hs;have HE62:Hid ((qTs w0 xf xt xs xn xa xk) w62):=(Done.at_ (C:=fun X=>Star (Star (Star (Star (qE g me sb so n cap C0 m cc) (qF sb so n cap l)) (qI A62 m c62 cl xf)) X) (CellW g61 #[.int .u32 xf] 22)) (Fr.l (Fr.r ((cS.star oS).star oS) Fr.id_) cS) hs);have HC62:=jzD hc;refine ⟨HE62.out,?_⟩;clear hs hc
              simp only [Act.put,jzU,jzV,jzW]
              refine rtk 9 HE62.out ?_
              refine rtk 10 HE62.out ?_
              refine rests_store1 11 (oi:=_) (by simp only [jzG,jzH,jzI];rfl) (by kernel_rfl) (by rfl) 44 (.tmp 81) (.tmp 79) rfl g 2 (.slice A62 (m + 1) c62) rfl rfl 98 _ (Done.at_ (C:=fun X=>Star (Star (Star (Star (X) (qF sb so n cap l)) (qI A62 m c62 cl xf)) (qG w0 xf xt xs xn xa xk)) (CellW g61 #[.int .u32 xf] 22)) (Fr.l (Fr.l (Fr.l (Fr.l Fr.id_ oS) oS) cS) cS) HS62.out) (by simp) (run_storeUS _ ⟨_,_,_,rfl⟩ _ _) ?_
              intro w63 hg hh;have HS63:Hid (Done w0 F (Star (Star (Star (Star (CellW g (yG me (some ⟨sb,so,none⟩) n cap A62 (m + 1) c62) 98) (qF sb so n cap l)) (qI A62 m c62 cl xf)) (qG w0 xf xt xs xn xa xk)) (CellW g61 #[.int .u32 xf] 22)) w63):=Done.put_ (C:=fun X=>Star (Star (Star (Star (X) (qF sb so n cap l)) (qI A62 m c62 cl xf)) (qG w0 xf xt xs xn xa xk)) (CellW g61 #[.int .u32 xf] 22)) (Fr.l (Fr.l (Fr.l (Fr.l Fr.id_ oS) oS) cS) cS) HS62.out hg hh;have HE63:Hid ((qTs w0 xf xt xs xn xa xk) w63):=(Done.at_ (C:=fun X=>Star (Star (Star (Star (CellW g (yG me (some ⟨sb,so,none⟩) n cap A62 (m + 1) c62) 98) (qF sb so n cap l)) (qI A62 m c62 cl xf)) X) (CellW g61 #[.int .u32 xf] 22)) (Fr.l (Fr.r ((cS.star oS).star oS) Fr.id_) cS) HS63.out);refine ⟨HE63.out,?_⟩;clear hg hh
              simp only [Act.put,jzU,jzV,jzW]
              refine rests_done (by kernel_rfl) ?_
              go_wp2
              go_ret
              exact ⟨by rw [HH.out.1] <;> first | rfl | (simp;done),by rw [HH.out.2];exact HS63.out.drop.drop.mono fun F hF=>clash_end HMC.out HN.out HMK.out hF⟩
            · obtain ⟨g60,hg60⟩:∃ g,g=((w4).drew).heap.size:=⟨_,rfl⟩
              have hal60:=CellW.new ((w4).drew) #[.int .u32 xf] 22
              rw [← hg60] at hal60
              obtain ⟨w60,hw60⟩:∃ wz,wz=((w4).drew).alloc (.cells #[.int .u32 xf] 22):=⟨_,rfl⟩
              rw [← hw60] at hal60
              have HS60:=jzD (HSd.out.add (((cS.star oS).star oS).star cS) hal60)
              have HE60:Hid ((qTs w0 xf xt xs xn xa xk) w60):=(Done.at_ (C:=fun X=>Star (Star (Star (Star (qE g me sb so n cap C0 m cc) (qF sb so n cap l)) (qH C0 m cc cl)) X) (CellW g60 #[.int .u32 xf] 22)) (Fr.l (Fr.r ((cS.star oS).star oS) Fr.id_) cS) HS60.out)
              refine wp_val (v:=(.slice (some ⟨g60,0,none⟩) 1 1)) (w' := w60) (by rw [hg60,hw60];go_simp) ⟨HE60.out,?_⟩
              clear hg60 hal60 hw60
              simp only [Act.put,jzU,jzV,jzW]
              have cq61:(w60).cell? ⟨g,2,none⟩=some (.slice C0 m cc):=cell_at (Done.at_ (C:=fun X=>Star (Star (Star (Star (X) (qF sb so n cap l)) (qH C0 m cc cl)) (qG w0 xf xt xs xn xa xk)) (CellW g60 #[.int .u32 xf] 22)) (Fr.l (Fr.l (Fr.l (Fr.l Fr.id_ oS) oS) cS) cS) HS60.out) 2 _ rfl
              refine rests_run 4 (oi:=_) (by simp only [jzG,jzH,jzI];rfl) (by kernel_rfl) (by rfl) (.slice C0 m cc) (w60) (by go_simp) ⟨HE60.out,?_⟩
              clear cq61
              simp only [Act.put,jzU,jzV,jzW]
              refine rests_appO 8 (oi:=_) (by simp only [jzG,jzH,jzI];rfl) (by kernel_rfl) (by rfl) (C:=fun X=>Star (Star (Star (Star (qE g me sb so n cap C0 m cc) (qF sb so n cap l)) X) (qG w0 xf xt xs xn xa xk)) (CellW g60 #[.int .u32 xf] 22)) (Fr.l (Fr.l (Fr.r (cS.star oS) Fr.id_) cS) cS) HS60.out (.tmp 75) (.tmp 78) 44 4 (.int .u32 0) rfl Tryz.underlying44 (by kernel_rfl) rfl (by decide) (.slice (some ⟨g60,0,none⟩) 1 1) 1 [.int .u32 xf] rfl rfl (rdG_new (Done.at_ (C:=fun X=>Star (Star (Star (Star (qE g me sb so n cap C0 m cc) (qF sb so n cap l)) (qH C0 m cc cl)) (qG w0 xf xt xs xn xa xk)) X) (Fr.r (((cS.star oS).star oS).star cS) Fr.id_) HS60.out) rfl) (by decide) (by simp [Value.oneCell']) (m + 1) rfl HM1.out (u32s (cl ++ [xf])) (u32s_snoc _ _) ?_
              intro A62 c62 w62 hs hc;have HS62:=jzD hs;have HE62:Hid ((qTs w0 xf xt xs xn xa xk) w62):=(Done.at_ (C:=fun X=>Star (Star (Star (Star (qE g me sb so n cap C0 m cc) (qF sb so n cap l)) (qI A62 m c62 cl xf)) X) (CellW g60 #[.int .u32 xf] 22)) (Fr.l (Fr.r ((cS.star oS).star oS) Fr.id_) cS) hs);have HC62:=jzD hc;refine ⟨HE62.out,?_⟩;clear hs hc
              simp only [Act.put,jzU,jzV,jzW]
              refine rtk 9 HE62.out ?_
              refine rtk 10 HE62.out ?_
              refine rests_store1 11 (oi:=_) (by simp only [jzG,jzH,jzI];rfl) (by kernel_rfl) (by rfl) 44 (.tmp 81) (.tmp 79) rfl g 2 (.slice A62 (m + 1) c62) rfl rfl 98 _ (Done.at_ (C:=fun X=>Star (Star (Star (Star (X) (qF sb so n cap l)) (qI A62 m c62 cl xf)) (qG w0 xf xt xs xn xa xk)) (CellW g60 #[.int .u32 xf] 22)) (Fr.l (Fr.l (Fr.l (Fr.l Fr.id_ oS) oS) cS) cS) HS62.out) (by simp) (run_storeUS _ ⟨_,_,_,rfl⟩ _ _) ?_
              intro w63 hg hh;have HS63:Hid (Done w0 F (Star (Star (Star (Star (CellW g (yG me (some ⟨sb,so,none⟩) n cap A62 (m + 1) c62) 98) (qF sb so n cap l)) (qI A62 m c62 cl xf)) (qG w0 xf xt xs xn xa xk)) (CellW g60 #[.int .u32 xf] 22)) w63):=Done.put_ (C:=fun X=>Star (Star (Star (Star (X) (qF sb so n cap l)) (qI A62 m c62 cl xf)) (qG w0 xf xt xs xn xa xk)) (CellW g60 #[.int .u32 xf] 22)) (Fr.l (Fr.l (Fr.l (Fr.l Fr.id_ oS) oS) cS) cS) HS62.out hg hh;have HE63:Hid ((qTs w0 xf xt xs xn xa xk) w63):=(Done.at_ (C:=fun X=>Star (Star (Star (Star (CellW g (yG me (some ⟨sb,so,none⟩) n cap A62 (m + 1) c62) 98) (qF sb so n cap l)) (qI A62 m c62 cl xf)) X) (CellW g60 #[.int .u32 xf] 22)) (Fr.l (Fr.r ((cS.star oS).star oS) Fr.id_) cS) HS63.out);refine ⟨HE63.out,?_⟩;clear hg hh
              simp only [Act.put,jzU,jzV,jzW]
              refine rests_done (by kernel_rfl) ?_
              go_wp2
              go_ret
              exact ⟨by rw [HH.out.1] <;> first | rfl | (simp;done),by rw [HH.out.2];exact HS63.out.drop.drop.mono fun F hF=>clash_end HMC.out HN.out HMK.out hF⟩
        · have t3:(si == xf)=false:=beq_eq_false_iff_ne.2 hid
          have HNO2:Hid (∀ s ∈ l.take (i + 1),¬ s.id=xf):=by
           show ∀ s ∈ l.take (i + 1),¬ s.id=xf
           rw [List.take_succ_eq_append_getElem hil]
           intro z hz
           rcases List.mem_append.1 hz with h | h
           · exact HNO.out z h
           · rw [List.mem_singleton.1 h,(List.getElem?_eq_some_iff.1 hp).2];exact hid
          clear hid hp hil
          go_wp2
          refine regq (fun W=>Below (wr).heap.size (wr) W) (by kernel_rfl) (by kernel_rfl) ((Below.refl _ _).drew) ?_
          iterate 3 refine qtk ?_
          refine qtk ?_ (hy:=by intro W HW;have cw:W.cell? ⟨g,1,none⟩=some (.slice (some ⟨sb,so,none⟩) n cap):=cell_at (keep_at (Done.at_ (C:=fun X=>Star (Star (Star (X) (qF sb so n cap l)) (qH C0 m cc cl)) (qG w0 xf xt xs xn xa xk)) (Fr.l (Fr.l (Fr.l Fr.id_ oS) oS) cS) HSr.out) HW) 1 _ rfl;go_simp;try with_reducible rfl)
          iterate 3 refine qtk ?_
          refine qtk ?_ (hy:=by intro W HW;have cz:(wr).cell? ⟨sb,so + i * 3,none⟩=some (.int .u32 si):=((Done.get (C:=fun X=>Star (Star (Star (qE g me sb so n cap C0 m cc) X) (qH C0 m cc cl)) (qG w0 xf xt xs xn xa xk)) (Fr.l (Fr.l (Fr.r cS Fr.id_) oS) cS) HSr.out).elim fun _ h=>OwnO.cell h HC0.out);have cw:W.cell? ⟨sb,so + i * 3,none⟩=some (.int .u32 si):=(HW.cell (p:=⟨sb,so + i * 3,none⟩) (World.block_lt_of_cell? _ _ cz)).trans cz;go_simp;try with_reducible rfl)
          refine qtk ?_
          refine qtk ?_ (hy:=by intro W HW;have cw:W.cell? ⟨w0.heap.size,0,none⟩=some (.int .u32 xf):=cell_at (keep_at (Done.at_ (C:=fun X=>Star (Star (Star (qE g me sb so n cap C0 m cc) (qF sb so n cap l)) (qH C0 m cc cl)) X) (Fr.r ((cS.star oS).star oS) Fr.id_) HSr.out) HW) 0 _ rfl;go_simp;try with_reducible rfl)
          refine qtk ?_
          refine q_done ?_
          intro w3 hb
          have HS3:=jzD (HSr.out.keep (((cS.star oS).star oS).star cS) hb)
          clear hb
          go_wp2
          go_roundw
          case rel=>exact ⟨i + 1,by omega,by go_num,HNO2.out,HS3.out⟩
          case measure=>simp [intOf] <;> omega
      · have t1:decide ((i:Int) < (n:Int))=false:=decide_eq_false (by omega)
        have hw:(⟨me,l,clF cl⟩:LogM).who xf=none:=who_none (fun s hs=>HNO.out s (by rw [List.take_of_length_le (by have := HN.out;omega)];exact hs))
        by_cases h16:n < 16
        · have t6:decide ((16:Int)≤(n:Int))=false:=decide_eq_false (by omega)
          have t7:decide (16≤n)=false:=decide_eq_false (by omega)
          have HH:=jzD (add_new (m:=(⟨me,l,clF cl⟩:LogM)) (x:=(⟨xf,xt,xs,xn,xa,xk⟩:XIn)) HMY.out HME.out hw (by have := HN.out;show l.length < 16;omega))
          clear hw h16
          go_wp2
          have HSd:=jzD (HSr.out.drewD (((cS.star oS).star oS).star cS))
          have HEd:Hid ((qTs w0 xf xt xs xn xa xk) (wr).drew):=(Done.at_ (C:=fun X=>Star (Star (Star (CellW g (yG me A0 n cap C0 m cc) 98) (OwnO 105 3 (.slice A0 n cap) n (secs l))) (qH C0 m cc cl)) X) (Fr.r ((cS.star oS).star oS) Fr.id_) HSd.out)
          refine rests_begin (qTs w0 xf xt xs xn xa xk) (by kernel_rfl) ?_
          refine rtk 0 HEd.out ?_
          refine rtk 1 HEd.out ?_
          refine rtk 2 HEd.out ?_
          refine rtk 3 HEd.out ?_
          refine rtk 5 HEd.out ?_
          refine rtk 6 HEd.out ?_ (hy:=by intro W HW;have cw:W.cell? ⟨w0.heap.size,0,none⟩=some (.int .u32 xf):=cell_at HW 0 _ rfl;go_simp;try with_reducible rfl)
          refine rtk 7 HEd.out ?_
          refine rtk 8 HEd.out ?_ (hy:=by intro W HW;have cw:W.cell? ⟨w0.heap.size,5,none⟩=some (.string xk):=cell_at HW 5 _ rfl;go_simp;try with_reducible rfl)
          refine rtk 9 HEd.out ?_
          refine rtk 10 HEd.out ?_ (hy:=by intro W HW;have cw:W.cell? ⟨w0.heap.size,2,none⟩=some (.int .i64 xs):=cell_at HW 2 _ rfl;go_simp;try with_reducible rfl)
          refine rtk 11 HEd.out ?_
          refine rests_two 4 12 (oi:=_) (oj:=_) (by simp only [jzG,jzH,jzI];rfl) (by simp only [jzG,jzH,jzI];rfl) (by kernel_rfl) (by rfl) (by rfl) ?_ ?_
          · have cq60:((wr).drew).cell? ⟨g,1,none⟩=some (.slice A0 n cap):=cell_at (Done.at_ (C:=fun X=>Star (Star (Star (X) (OwnO 105 3 (.slice A0 n cap) n (secs l))) (qH C0 m cc cl)) (qG w0 xf xt xs xn xa xk)) (Fr.l (Fr.l (Fr.l Fr.id_ oS) oS) cS) HSd.out) 1 _ rfl
            refine wp_val (v:=.slice A0 n cap) (w' := (wr).drew) (by go_simp) ⟨HEd.out,?_⟩
            clear cq60
            simp only [Act.put,jzU,jzV,jzW]
            obtain ⟨g61,hg61⟩:∃ g,g=((wr).drew).heap.size:=⟨_,rfl⟩
            have hal61:=CellW.new ((wr).drew) #[.int .u32 xf,.string xk,.int .i64 xs] 105
            rw [← hg61] at hal61
            obtain ⟨w61,hw61⟩:∃ wz,wz=((wr).drew).alloc (.cells (yJ xf xk xs) 105):=⟨_,rfl⟩
            rw [← hw61] at hal61
            have HS61:=jzD (HSd.out.add (((cS.star oS).star oS).star cS) hal61)
            have HE61:Hid ((qTs w0 xf xt xs xn xa xk) w61):=(Done.at_ (C:=fun X=>Star (Star (Star (Star (CellW g (yG me A0 n cap C0 m cc) 98) (OwnO 105 3 (.slice A0 n cap) n (secs l))) (qH C0 m cc cl)) X) (CellW g61 (yJ xf xk xs) 105)) (Fr.l (Fr.r ((cS.star oS).star oS) Fr.id_) cS) HS61.out)
            refine rests_run 12 (oi:=_) (by simp only [jzG,jzH,jzI];rfl) (by kernel_rfl) (by rfl) ((.slice (some ⟨g61,0,none⟩) 1 1)) w61 (by rw [hg61,hw61];go_simp) ⟨HE61.out,?_⟩
            clear hg61 hal61 hw61
            simp only [Act.put,jzU,jzV,jzW]
            refine rests_appO 13 (oi:=_) (by simp only [jzG,jzH,jzI];rfl) (by kernel_rfl) (by rfl) (C:=fun X=>Star (Star (Star (Star (CellW g (yG me A0 n cap C0 m cc) 98) X) (qH C0 m cc cl)) (qG w0 xf xt xs xn xa xk)) (CellW g61 (yJ xf xk xs) 105)) (Fr.l (Fr.l (Fr.l (Fr.r cS Fr.id_) oS) cS) cS) HS61.out (.tmp 92) (.tmp 100) 96 32 (.agg #[.int .u32 0,.string ⟨#[]⟩,.int .i64 0]) rfl Tryz.underlying96 (by kernel_rfl) rfl (by decide) (.slice (some ⟨g61,0,none⟩) 1 1) 1 [.int .u32 xf,.string xk,.int .i64 xs] rfl rfl (rdG_new (Done.at_ (C:=fun X=>Star (Star (Star (Star (CellW g (yG me A0 n cap C0 m cc) 98) (OwnO 105 3 (.slice A0 n cap) n (secs l))) (qH C0 m cc cl)) (qG w0 xf xt xs xn xa xk)) X) (Fr.r (((cS.star oS).star oS).star cS) Fr.id_) HS61.out) rfl) (by decide) (by simp [Value.oneCell']) (n + 1) rfl HN1.out (secs (l ++ [(⟨xf,xk,xs⟩:SeenM)])) (secs_snoc _ _) ?_
            intro A62 c62 w62 hs hc;have HS62:=jzD hs;have HE62:Hid ((qTs w0 xf xt xs xn xa xk) w62):=(Done.at_ (C:=fun X=>Star (Star (Star (Star (CellW g (yG me A0 n cap C0 m cc) 98) (OwnO 105 3 (.slice A62 (n + 1) c62) (n + 1) (secs (l ++ [(⟨xf,xk,xs⟩:SeenM)])))) (qH C0 m cc cl)) X) (CellW g61 (yJ xf xk xs) 105)) (Fr.l (Fr.r ((cS.star oS).star oS) Fr.id_) cS) hs);have HC62:=jzD hc;refine ⟨HE62.out,?_⟩;clear hs hc
            simp only [Act.put,jzU,jzV,jzW]
            refine rtk 14 HE62.out ?_
            refine rtk 15 HE62.out ?_
            refine rests_store1 16 (oi:=_) (by simp only [jzG,jzH,jzI];rfl) (by kernel_rfl) (by rfl) 96 (.tmp 103) (.tmp 101) rfl g 1 (.slice A62 (n + 1) c62) rfl rfl 98 _ (Done.at_ (C:=fun X=>Star (Star (Star (Star (X) (OwnO 105 3 (.slice A62 (n + 1) c62) (n + 1) (secs (l ++ [(⟨xf,xk,xs⟩:SeenM)])))) (qH C0 m cc cl)) (qG w0 xf xt xs xn xa xk)) (CellW g61 (yJ xf xk xs) 105)) (Fr.l (Fr.l (Fr.l (Fr.l Fr.id_ oS) oS) cS) cS) HS62.out) (by simp) (run_storeSS _ ⟨_,_,_,rfl⟩ _ _) ?_
            intro w63 hg hh;have HS63:Hid (Done w0 F (Star (Star (Star (Star (CellW g (yG me A62 (n + 1) c62 C0 m cc) 98) (OwnO 105 3 (.slice A62 (n + 1) c62) (n + 1) (secs (l ++ [(⟨xf,xk,xs⟩:SeenM)])))) (qH C0 m cc cl)) (qG w0 xf xt xs xn xa xk)) (CellW g61 (yJ xf xk xs) 105)) w63):=Done.put_ (C:=fun X=>Star (Star (Star (Star (X) (OwnO 105 3 (.slice A62 (n + 1) c62) (n + 1) (secs (l ++ [(⟨xf,xk,xs⟩:SeenM)])))) (qH C0 m cc cl)) (qG w0 xf xt xs xn xa xk)) (CellW g61 (yJ xf xk xs) 105)) (Fr.l (Fr.l (Fr.l (Fr.l Fr.id_ oS) oS) cS) cS) HS62.out hg hh;have HE63:Hid ((qTs w0 xf xt xs xn xa xk) w63):=(Done.at_ (C:=fun X=>Star (Star (Star (Star (CellW g (yG me A62 (n + 1) c62 C0 m cc) 98) (OwnO 105 3 (.slice A62 (n + 1) c62) (n + 1) (secs (l ++ [(⟨xf,xk,xs⟩:SeenM)])))) (qH C0 m cc cl)) X) (CellW g61 (yJ xf xk xs) 105)) (Fr.l (Fr.r ((cS.star oS).star oS) Fr.id_) cS) HS63.out);refine ⟨HE63.out,?_⟩;clear hg hh
            simp only [Act.put,jzU,jzV,jzW]
            refine rests_done (by kernel_rfl) ?_
            go_wp2
            go_ret
            exact ⟨by rw [HH.out.1] <;> first | rfl | (simp;done),by rw [HH.out.2];exact HS63.out.drop.drop.mono fun F hF=>note_end HMC.out HN.out HMK.out hF⟩
          · obtain ⟨g60,hg60⟩:∃ g,g=((wr).drew).heap.size:=⟨_,rfl⟩
            have hal60:=CellW.new ((wr).drew) #[.int .u32 xf,.string xk,.int .i64 xs] 105
            rw [← hg60] at hal60
            obtain ⟨w60,hw60⟩:∃ wz,wz=((wr).drew).alloc (.cells (yJ xf xk xs) 105):=⟨_,rfl⟩
            rw [← hw60] at hal60
            have HS60:=jzD (HSd.out.add (((cS.star oS).star oS).star cS) hal60)
            have HE60:Hid ((qTs w0 xf xt xs xn xa xk) w60):=(Done.at_ (C:=fun X=>Star (Star (Star (Star (CellW g (yG me A0 n cap C0 m cc) 98) (OwnO 105 3 (.slice A0 n cap) n (secs l))) (qH C0 m cc cl)) X) (CellW g60 (yJ xf xk xs) 105)) (Fr.l (Fr.r ((cS.star oS).star oS) Fr.id_) cS) HS60.out)
            refine wp_val (v:=(.slice (some ⟨g60,0,none⟩) 1 1)) (w' := w60) (by rw [hg60,hw60];go_simp) ⟨HE60.out,?_⟩
            clear hg60 hal60 hw60
            simp only [Act.put,jzU,jzV,jzW]
            have cq61:(w60).cell? ⟨g,1,none⟩=some (.slice A0 n cap):=cell_at (Done.at_ (C:=fun X=>Star (Star (Star (Star (X) (OwnO 105 3 (.slice A0 n cap) n (secs l))) (qH C0 m cc cl)) (qG w0 xf xt xs xn xa xk)) (CellW g60 (yJ xf xk xs) 105)) (Fr.l (Fr.l (Fr.l (Fr.l Fr.id_ oS) oS) cS) cS) HS60.out) 1 _ rfl
            refine rests_run 4 (oi:=_) (by simp only [jzG,jzH,jzI];rfl) (by kernel_rfl) (by rfl) (.slice A0 n cap) (w60) (by go_simp) ⟨HE60.out,?_⟩
            clear cq61
            simp only [Act.put,jzU,jzV,jzW]
            refine rests_appO 13 (oi:=_) (by simp only [jzG,jzH,jzI];rfl) (by kernel_rfl) (by rfl) (C:=fun X=>Star (Star (Star (Star (CellW g (yG me A0 n cap C0 m cc) 98) X) (qH C0 m cc cl)) (qG w0 xf xt xs xn xa xk)) (CellW g60 (yJ xf xk xs) 105)) (Fr.l (Fr.l (Fr.l (Fr.r cS Fr.id_) oS) cS) cS) HS60.out (.tmp 92) (.tmp 100) 96 32 (.agg #[.int .u32 0,.string ⟨#[]⟩,.int .i64 0]) rfl Tryz.underlying96 (by kernel_rfl) rfl (by decide) (.slice (some ⟨g60,0,none⟩) 1 1) 1 [.int .u32 xf,.string xk,.int .i64 xs] rfl rfl (rdG_new (Done.at_ (C:=fun X=>Star (Star (Star (Star (CellW g (yG me A0 n cap C0 m cc) 98) (OwnO 105 3 (.slice A0 n cap) n (secs l))) (qH C0 m cc cl)) (qG w0 xf xt xs xn xa xk)) X) (Fr.r (((cS.star oS).star oS).star cS) Fr.id_) HS60.out) rfl) (by decide) (by simp [Value.oneCell']) (n + 1) rfl HN1.out (secs (l ++ [(⟨xf,xk,xs⟩:SeenM)])) (secs_snoc _ _) ?_
            intro A62 c62 w62 hs hc;have HS62:=jzD hs;have HE62:Hid ((qTs w0 xf xt xs xn xa xk) w62):=(Done.at_ (C:=fun X=>Star (Star (Star (Star (CellW g (yG me A0 n cap C0 m cc) 98) (OwnO 105 3 (.slice A62 (n + 1) c62) (n + 1) (secs (l ++ [(⟨xf,xk,xs⟩:SeenM)])))) (qH C0 m cc cl)) X) (CellW g60 (yJ xf xk xs) 105)) (Fr.l (Fr.r ((cS.star oS).star oS) Fr.id_) cS) hs);have HC62:=jzD hc;refine ⟨HE62.out,?_⟩;clear hs hc
            simp only [Act.put,jzU,jzV,jzW]
            refine rtk 14 HE62.out ?_
            refine rtk 15 HE62.out ?_
            refine rests_store1 16 (oi:=_) (by simp only [jzG,jzH,jzI];rfl) (by kernel_rfl) (by rfl) 96 (.tmp 103) (.tmp 101) rfl g 1 (.slice A62 (n + 1) c62) rfl rfl 98 _ (Done.at_ (C:=fun X=>Star (Star (Star (Star (X) (OwnO 105 3 (.slice A62 (n + 1) c62) (n + 1) (secs (l ++ [(⟨xf,xk,xs⟩:SeenM)])))) (qH C0 m cc cl)) (qG w0 xf xt xs xn xa xk)) (CellW g60 (yJ xf xk xs) 105)) (Fr.l (Fr.l (Fr.l (Fr.l Fr.id_ oS) oS) cS) cS) HS62.out) (by simp) (run_storeSS _ ⟨_,_,_,rfl⟩ _ _) ?_
            intro w63 hg hh;have HS63:Hid (Done w0 F (Star (Star (Star (Star (CellW g (yG me A62 (n + 1) c62 C0 m cc) 98) (OwnO 105 3 (.slice A62 (n + 1) c62) (n + 1) (secs (l ++ [(⟨xf,xk,xs⟩:SeenM)])))) (qH C0 m cc cl)) (qG w0 xf xt xs xn xa xk)) (CellW g60 (yJ xf xk xs) 105)) w63):=Done.put_ (C:=fun X=>Star (Star (Star (Star (X) (OwnO 105 3 (.slice A62 (n + 1) c62) (n + 1) (secs (l ++ [(⟨xf,xk,xs⟩:SeenM)])))) (qH C0 m cc cl)) (qG w0 xf xt xs xn xa xk)) (CellW g60 (yJ xf xk xs) 105)) (Fr.l (Fr.l (Fr.l (Fr.l Fr.id_ oS) oS) cS) cS) HS62.out hg hh;have HE63:Hid ((qTs w0 xf xt xs xn xa xk) w63):=(Done.at_ (C:=fun X=>Star (Star (Star (Star (CellW g (yG me A62 (n + 1) c62 C0 m cc) 98) (OwnO 105 3 (.slice A62 (n + 1) c62) (n + 1) (secs (l ++ [(⟨xf,xk,xs⟩:SeenM)])))) (qH C0 m cc cl)) X) (CellW g60 (yJ xf xk xs) 105)) (Fr.l (Fr.r ((cS.star oS).star oS) Fr.id_) cS) HS63.out);refine ⟨HE63.out,?_⟩;clear hg hh
            simp only [Act.put,jzU,jzV,jzW]
            refine rests_done (by kernel_rfl) ?_
            go_wp2
            go_ret
            exact ⟨by rw [HH.out.1] <;> first | rfl | (simp;done),by rw [HH.out.2];exact HS63.out.drop.drop.mono fun F hF=>note_end HMC.out HN.out HMK.out hF⟩
        · have t6:decide ((16:Int)≤(n:Int))=true:=decide_eq_true (by omega)
          have t7:decide (16≤n)=true:=decide_eq_true (by omega)
          have HH:=jzD (add_full (m:=(⟨me,l,clF cl⟩:LogM)) (x:=(⟨xf,xt,xs,xn,xa,xk⟩:XIn)) HMY.out HME.out hw (by have := HN.out;show ¬ l.length < 16;omega))
          clear hw h16
          go_wp2
          go_ret
          exact ⟨by rw [HH.out.1] <;> first | rfl | (simp;done),by rw [HH.out.2];exact HSr.out.drop.mono fun F hF=>same_end HMC.out HN.out HMK.out hF⟩
end Go.Proofs.YtjddbjmcjhjpiaaGreatDoor
