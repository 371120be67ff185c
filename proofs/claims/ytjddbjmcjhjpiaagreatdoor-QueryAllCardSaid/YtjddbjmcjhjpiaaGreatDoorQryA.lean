/- Package query as landed (a4d10533): one who asks who is there. -/
import Derived.Test.YtjddbjmcjhjpiaaGreatDoorLogA4
import Derived.Test.YtjddbjmcjhjpiaaGreatDoorN16A
import Derived.Test.YtjddbjmcjhjpiaaGreatDoorM4D
import Derived.Test.YtjddbjmcjhjpiaaGreatDoorN16B
import Derived.Test.YtjddbjmcjhjpiaaGreatDoorM4E

set_option linter.all false

namespace Go.Proofs.YtjddbjmcjhjpiaaGreatDoor
set_option maxRecDepth 100000
set_option maxHeartbeats 16000000
open Go.RowKit M

section
variable {q:QueryM} {x:XIn}
theorem qHear_no (h:q.open_ x=false):q.hearB x=false∧q.hear x=q:=by
 unfold QueryM.hearB QueryM.hear;rw [h];exact ⟨rfl,rfl⟩
theorem qHear_yes (h:q.open_ x=true):q.hearB x=q.log.addB x∧q.hear x={ q with log:=q.log.add x }:=by
 unfold QueryM.hearB QueryM.hear;rw [h];exact ⟨rfl,rfl⟩
end
theorem qTick_no (me n c:Int) (nk:ByteArray) (lg:LogM) (h:¬ (c % 8=0∧c≤n * 8)):(⟨me,nk,n,c,lg⟩:QueryM).asks=false∧(⟨me,nk,n,c,lg⟩:QueryM).xid=⟨0,0,0,0,false,⟨#[]⟩⟩:=by
 have ha:(⟨me,nk,n,c,lg⟩:QueryM).asks=false:=decide_eq_false h
 refine ⟨ha,?_⟩
 unfold QueryM.xid;rw [ha];rfl
theorem qTick_yes (me n c:Int) (nk:ByteArray) (lg:LogM) (h:c % 8=0∧c≤n * 8):(⟨me,nk,n,c,lg⟩:QueryM).asks=true∧(⟨me,nk,n,c,lg⟩:QueryM).xid=⟨me,0,if c / 8=n then -1 else c / 8,n,false,nk⟩:=by
 have ha:(⟨me,nk,n,c,lg⟩:QueryM).asks=true:=decide_eq_true h
 refine ⟨ha,?_⟩
 unfold QueryM.xid;rw [ha];rfl
theorem qMay (me n:Int) (nk:ByteArray):mayX (XIn.xd ⟨me,0,0,n,false,nk⟩)=QueryM.mayNew me nk n:=rfl
theorem qMay_ok {me n:Int} {nk:ByteArray} (h:QueryM.mayNew me nk n=true):(QueryM.new me nk n).ok∧nk.size≤20:=by
 have h20:=LogM.nick_len (x:=⟨me,0,0,n,false,nk⟩) h
 unfold QueryM.mayNew XIn.xd mayX at h
 simp only [Bool.and_eq_true,decide_eq_true_eq] at h
 obtain ⟨⟨⟨h1,h2⟩,h3⟩,h4⟩:=h
 exact ⟨⟨h2,by simp only [QueryM.new];omega,h1⟩,h20⟩
def qrcs (u:Value) (m:QueryM):Array Value:=#[.int .u32 m.me,.int .u32 0,.int .i64 0,.int .i64 m.slots,.bool false,.string m.nick,.int .i64 m.calls,u]
def QueryO (v u:Value) (m:QueryM):Obj:=fun w F=>(m.ok∧∃ b:Addr,u=.pointer (some b))∧∃ g,v=.pointer (some ⟨g,0,none⟩)∧CellW g (qrcs u m) 95 w F
theorem QueryO.stab (v u:Value) (m:QueryM):Stab (QueryO v u m) where
 in_:=fun ⟨_,g,_,h⟩=>(CellW.stab g _ _).in_ h
 tch:=fun ⟨h1,g,e,h⟩ ht hd=>⟨h1,g,e,(CellW.stab g _ _).tch h ht hd⟩
def QueryW (v u:Value) (m:QueryM):Obj:=Star (QueryO v u m) (LogW u m.log)
theorem QueryW.stab (v u:Value) (m:QueryM):Stab (QueryW v u m):=(QueryO.stab v u m).star (LogW.stab u m.log)
section
variable {w:World} {v u:Value} {F:List Nat}
theorem QueryO.ptr {m:QueryM} (h:QueryO v u m w F):(∃ a:Addr,v=.pointer (some a))∧∃ b:Addr,u=.pointer (some b):=by
 obtain ⟨⟨_,h2⟩,g,rfl,_⟩:=h
 exact ⟨⟨_,rfl⟩,h2⟩
theorem QueryO.ok {m:QueryM} (h:QueryO v u m w F):m.ok:=h.1.1
theorem QueryW.opened {m:QueryM} (h:QueryW v u m w F):∃ (g:Nat) (b:Addr),v=.pointer (some ⟨g,0,none⟩)∧u=.pointer (some b)∧m.ok∧Done w F (Star (CellW g (qrcs (.pointer (some b)) m) 95) (LogW (.pointer (some b)) m.log)) w:=by
 obtain ⟨F1,F2,rfl,⟨⟨h1,b,rfl⟩,g,rfl,h2⟩,h3,h4⟩:=h
 exact ⟨g,b,rfl,rfl,h1,Done.start ⟨F1,F2,rfl,h2,h3,h4⟩⟩
theorem QueryW.closed {m:QueryM} {g:Nat} {b:Addr} (hok:m.ok) (h:Star (CellW g (qrcs (.pointer (some b)) m) 95) (LogW (.pointer (some b)) m.log) w F):QueryW (.pointer (some ⟨g,0,none⟩)) (.pointer (some b)) m w F:=by
 obtain ⟨F1,F2,rfl,h2,h3,h4⟩:=h
 exact ⟨F1,F2,rfl,⟨⟨hok,b,rfl⟩,g,rfl,h2⟩,h3,h4⟩
end
theorem QLog_nil (w:World):Calls Tryz.prog 28 #[.pointer none] w fun e w' => e=.returned (.pointer none)∧Below w.heap.size w w' := by
 go_enter Tryz.func28,Tryz.ntmps28
 go_wp2
 go_ret
 exact ⟨rfl,Below.refl _ _⟩
theorem QLog_any (v u:Value) (m:QueryM) (F:List Nat) (w:World) (h:QueryW v u m w F):Calls Tryz.prog 28 #[v] w fun e w' => e=.returned u∧Below w.heap.size w w' := by
 obtain ⟨g,b,rfl,rfl,-,hd⟩:=h.opened
 have q:w.cell? ⟨g,7,none⟩=some (.pointer (some b)):=cell_at (Done.at_ (C:=fun X=>Star X (LogW (.pointer (some b)) m.log)) (Fr.l Fr.id_ (LogW.stab _ _)) hd) 7 _ rfl
 clear hd h
 go_enter Tryz.func28,Tryz.ntmps28
 go_wp2
 go_ret
 exact ⟨rfl,Below.refl _ _⟩
theorem QOver_nil (w:World):Calls Tryz.prog 25 #[.pointer none] w fun e w' => e=.returned (.bool true)∧Below w.heap.size w w' := by
 go_enter Tryz.func25,Tryz.ntmps25
 go_wp2
 refine regq (fun W=>Below w.heap.size w W) (by kernel_rfl) (by kernel_rfl) ((Below.refl _ _).drew) ?_
 iterate 3 refine qtk ?_
 iterate 12 refine qsk ?_
 iterate 2 refine qtk ?_
 refine q_done ?_
 intro w1 hb
 have HB1:=jzD hb
 clear hb
 go_wp2
 go_ret
 exact ⟨rfl,HB1.out⟩
theorem QOver_at (g:Nat) (b:Addr) (me n c:Int) (nk:ByteArray) (w:World) (h0:w.heap[g]?=some (.cells (yF me 0 0 n false nk c (some b)) 95 (0,0))) (hs:0≤n∧n≤8) (hc:0≤c∧c≤1000):Calls Tryz.prog 25 #[.pointer (some ⟨g,0,none⟩)] w fun e w' => e=.returned (.bool (decide (n * 8 + 1 < c)))∧Below w.heap.size w w' := by
 have H0:=jzD h0
 have e1:IntKind.i64.wrap (n * 8)=n * 8:=IntWalk.i64_in _ (by omega)
 have e2:IntKind.i64.wrap (n * 8 + 1)=n * 8 + 1:=IntWalk.i64_in _ (by omega)
 clear hs hc h0
 obtain ⟨bo,hb⟩:∃ bo,bo=decide (n * 8 + 1 < c):=⟨_,rfl⟩
 have HB:=jzD hb
 have hb2:decide (n * 8 + 1 < c)=bo:=hb.symm
 rw [hb2]
 clear hb
 go_enter Tryz.func25,Tryz.ntmps25
 go_wp2
 refine regq (fun W=>Below w.heap.size w W) (by kernel_rfl) (by kernel_rfl) ((Below.refl _ _).drew) ?_
 iterate 6 refine qtk ?_
 refine qtk ?_ (hy:=by intro W HW;have cw:W.cell? ⟨g,6,none⟩=some (.int .i64 c):=cell_at (keep_at H0.out HW) 6 _ rfl;go_simp;try with_reducible rfl)
 iterate 4 refine qtk ?_
 refine qtk ?_ (hy:=by intro W HW;have cw:W.cell? ⟨g,3,none⟩=some (.int .i64 n):=cell_at (keep_at H0.out HW) 3 _ rfl;go_simp;try with_reducible rfl)
 iterate 5 refine qtk ?_
 refine q_done ?_
 intro w1 hb
 have HB1:=jzD hb
 clear hb
 go_wp2
 go_ret
 exact ⟨by first | rfl | (rw [HB.out];simp;done) | (simp;done),HB1.out⟩
theorem QOver_any (v u:Value) (m:QueryM) (F:List Nat) (w:World) (h:QueryW v u m w F):Calls Tryz.prog 25 #[v] w fun e w' => e=.returned (.bool m.over)∧Below w.heap.size w w' := by
 obtain ⟨g,b,rfl,rfl,hok,hd⟩:=h.opened
 obtain ⟨me,nk,n,c,lg⟩:=m
 have hs:=hok.slots
 have hc:=hok.calls
 simp only at hs hc
 exact QOver_at g b me n c nk w (Done.at_ (C:=fun X=>Star X (LogW (.pointer (some b)) lg)) (Fr.l Fr.id_ (LogW.stab _ _)) hd) (by omega) (by omega)
theorem QHear_nil (x:XIn) (w:World):Calls Tryz.prog 23 #[.pointer none,x.val] w fun e w' => e=.returned (.bool false)∧Below w.heap.size w w' := by
 obtain ⟨xf,xt,xs,xn,xa,xk⟩:=x
 have HB:Hid (Below w.heap.size w (w.alloc (.cells (yA xf xt xs xn xa xk) 32))):=(Below.refl _ _).alloc (Nat.le_refl _) _
 go_enter Tryz.func23,Tryz.ntmps23
 go_wp2
 refine regq (fun W=>Below w.heap.size w W) (by kernel_rfl) (by kernel_rfl) (HB.out.drew) ?_
 refine qtk ?_
 refine q_call 25 #[.pointer none] (by rfl) (by intro W HW;go_simp) (fun W HW=>(QOver_nil W).mono fun e w2 h=>⟨h.1,HW.trans (h.2.mono HW.size)⟩) ?_
 simp only [Act.put,jzU,jzV,jzW]
 refine qtk ?_
 iterate 5 refine qsk ?_
 iterate 2 refine qtk ?_
 iterate 8 refine qsk ?_
 refine qtk ?_
 refine q_done ?_
 intro w1 hb
 have HB1:=jzD hb
 clear hb
 go_wp2
 go_ret
 exact ⟨rfl,HB1.out⟩
theorem QHear_any (v u:Value) (m:QueryM) (F:List Nat) (x:XIn) (w0:World) (h:QueryW v u m w0 F) (hx:x.ok):Calls Tryz.prog 23 #[v,x.val] w0 fun e w' => e=.returned (.bool (m.hearB x))∧Done w0 F (QueryW v u (m.hear x)) w' := by
 obtain ⟨g,b,rfl,rfl,hok,hd⟩:=h.opened
 obtain ⟨me,nk,n,c,lg⟩:=m
 obtain ⟨xf,xt,xs,xn,xa,xk⟩:=x
 have hsl:=hok.slots
 have hca:=hok.calls
 simp only at hsl hca
 have hro:=fun (w:World) (hw:w.heap[g]?=some (.cells (yF me 0 0 n false nk c (some b)) 95 (0,0)))=>QOver_at g b me n c nk w hw (by omega) (by omega)
 have had:=fun w F1 (h:LogW (.pointer (some b)) lg w F1)=>LAdd_any (.pointer (some b)) lg F1 (⟨xf,xt,xs,xn,xa,xk⟩:XIn) w h hx
 replace hd:Done w0 F (Star (CellW g (yF me 0 0 n false nk c (some b)) 95) (LogW (.pointer (some b)) lg)) w0:=hd
 have HS0:Hid (Done w0 F (Star (Star (CellW g (yF me 0 0 n false nk c (some b)) 95) (LogW (.pointer (some b)) lg)) (CellW w0.heap.size (yA xf xt xs xn xa xk) 32)) (w0.alloc (.cells (yA xf xt xs xn xa xk) 32))):=hd.add (cS.star (LogW.stab _ _)) (CellW.new w0 #[.int .u32 xf,.int .u32 xt,.int .i64 xs,.int .i64 xn,.bool xa,.string xk] 32)
 have HOK:Hid (∀ {lg' : LogM},(⟨me,nk,n,c,lg'⟩:QueryM).ok):=fun {lg'}=>⟨hok.slots,hok.calls,hok.me⟩
 clear hd h hx hok hsl
 rcases hov:decide (n * 8 + 1 < c) with _ | _
 · have hov2:(⟨me,nk,n,c,lg⟩:QueryM).over=false:=hov
   by_cases hc:c=0
   · have t1:(c == 0)=true:=beq_iff_eq.2 hc
     have HH:=jzD (qHear_no (q:=(⟨me,nk,n,c,lg⟩:QueryM)) (x:=(⟨xf,xt,xs,xn,xa,xk⟩:XIn)) (by unfold QueryM.open_;rw [hov2];simp [hc]))
     rw [hov] at hro
     have HOV:=jzD hro
     have HAD:=jzD had
     clear hov hro had hov2 hca hc
     go_enter Tryz.func23,Tryz.ntmps23
     go_wp2
     have HSd:=jzD (HS0.out.drewD ((cS.star (LogW.stab _ _)).star cS))
     have HEd:Hid ((fun U=>U.heap[g]?=some (.cells (yF me 0 0 n false nk c (some b)) 95 (0,0))∧U.heap[w0.heap.size]?=some (.cells (yA xf xt xs xn xa xk) 32 (0,0))) (w0.alloc (.cells (yA xf xt xs xn xa xk) 32)).drew):=⟨(Done.at_ (C:=fun X=>Star (Star (X) (LogW (.pointer (some b)) lg)) (CellW w0.heap.size (yA xf xt xs xn xa xk) 32)) (Fr.l (Fr.l Fr.id_ (LogW.stab _ _)) cS) HSd.out),(Done.at_ (C:=fun X=>Star (Star (CellW g (yF me 0 0 n false nk c (some b)) 95) (LogW (.pointer (some b)) lg)) X) (Fr.r (cS.star (LogW.stab _ _)) Fr.id_) HSd.out)⟩
     refine rests_begin (fun U=>U.heap[g]?=some (.cells (yF me 0 0 n false nk c (some b)) 95 (0,0))∧U.heap[w0.heap.size]?=some (.cells (yA xf xt xs xn xa xk) 32 (0,0))) (by kernel_rfl) ?_
     refine rtk 0 HEd.out ?_
     refine rests_call 1 (oi:=_) (by simp only [jzG,jzH,jzI];rfl) 25 #[.pointer (some ⟨g,0,none⟩)] _ (by kernel_rfl) (by rfl) (by go_simp) (dcalls_keep ((cS.star (LogW.stab _ _)).star cS) HSd.out (HOV.out _ (HEd.out.1))) ?_
     rintro e w10 ⟨rfl,hs⟩;have HS10:=jzD hs;have HE10:Hid ((fun U=>U.heap[g]?=some (.cells (yF me 0 0 n false nk c (some b)) 95 (0,0))∧U.heap[w0.heap.size]?=some (.cells (yA xf xt xs xn xa xk) 32 (0,0))) w10):=⟨(Done.at_ (C:=fun X=>Star (Star (X) (LogW (.pointer (some b)) lg)) (CellW w0.heap.size (yA xf xt xs xn xa xk) 32)) (Fr.l (Fr.l Fr.id_ (LogW.stab _ _)) cS) hs),(Done.at_ (C:=fun X=>Star (Star (CellW g (yF me 0 0 n false nk c (some b)) 95) (LogW (.pointer (some b)) lg)) X) (Fr.r (cS.star (LogW.stab _ _)) Fr.id_) hs)⟩;refine ⟨_,rfl,HE10.out,?_⟩;clear hs
     simp only [Act.put,jzU,jzV,jzW]
     refine rtk 2 HE10.out ?_
     refine rtk 3 HE10.out ?_
     refine rtk 4 HE10.out ?_
     refine rtk 5 HE10.out ?_
     refine rtk 6 HE10.out ?_ (hy:=by intro W HW;have cw:W.cell? ⟨g,6,none⟩=some (.int .i64 c):=cell_at HW.1 6 _ rfl;go_simp;try with_reducible rfl)
     refine rtk 7 HE10.out ?_
     refine rtk 8 HE10.out ?_
     refine rtk 9 HE10.out ?_
     refine rsk 10 HE10.out ?_
     refine rsk 11 HE10.out ?_
     refine rsk 12 HE10.out ?_
     refine rsk 13 HE10.out ?_
     refine rsk 14 HE10.out ?_
     refine rsk 15 HE10.out ?_
     refine rsk 16 HE10.out ?_
     refine rsk 17 HE10.out ?_
     refine rtk 18 HE10.out ?_
     refine rests_done (by kernel_rfl) ?_
     go_wp2
     go_ret
     exact ⟨by rw [HH.out.1] <;> first | rfl | (simp;done),by rw [HH.out.2];exact HS10.out.drop.mono fun F hF=>QueryW.closed HOK.out hF⟩
   · have t1:(c == 0)=false:=beq_eq_false_iff_ne.2 hc
     by_cases hm:xt=me
     · have t2:(xt != me)=false:=by simp [bne,hm]
       have t3:(xt == me)=true:=beq_iff_eq.2 hm
       have hc0:0 < c:=by omega
       have HH:=jzD (qHear_yes (q:=(⟨me,nk,n,c,lg⟩:QueryM)) (x:=(⟨xf,xt,xs,xn,xa,xk⟩:XIn)) (by unfold QueryM.open_;rw [hov2];simp [hc0,hm]))
       rw [hov] at hro
       have HOV:=jzD hro
       have HAD:=jzD had
       clear hov hro had hov2 hca hc hc0 hm
       go_enter Tryz.func23,Tryz.ntmps23
       go_wp2
       have HSd:=jzD (HS0.out.drewD ((cS.star (LogW.stab _ _)).star cS))
       have HEd:Hid ((fun U=>U.heap[g]?=some (.cells (yF me 0 0 n false nk c (some b)) 95 (0,0))∧U.heap[w0.heap.size]?=some (.cells (yA xf xt xs xn xa xk) 32 (0,0))) (w0.alloc (.cells (yA xf xt xs xn xa xk) 32)).drew):=⟨(Done.at_ (C:=fun X=>Star (Star (X) (LogW (.pointer (some b)) lg)) (CellW w0.heap.size (yA xf xt xs xn xa xk) 32)) (Fr.l (Fr.l Fr.id_ (LogW.stab _ _)) cS) HSd.out),(Done.at_ (C:=fun X=>Star (Star (CellW g (yF me 0 0 n false nk c (some b)) 95) (LogW (.pointer (some b)) lg)) X) (Fr.r (cS.star (LogW.stab _ _)) Fr.id_) HSd.out)⟩
       refine rests_begin (fun U=>U.heap[g]?=some (.cells (yF me 0 0 n false nk c (some b)) 95 (0,0))∧U.heap[w0.heap.size]?=some (.cells (yA xf xt xs xn xa xk) 32 (0,0))) (by kernel_rfl) ?_
       refine rtk 0 HEd.out ?_
       refine rests_call 1 (oi:=_) (by simp only [jzG,jzH,jzI];rfl) 25 #[.pointer (some ⟨g,0,none⟩)] _ (by kernel_rfl) (by rfl) (by go_simp) (dcalls_keep ((cS.star (LogW.stab _ _)).star cS) HSd.out (HOV.out _ (HEd.out.1))) ?_
       rintro e w10 ⟨rfl,hs⟩;have HS10:=jzD hs;have HE10:Hid ((fun U=>U.heap[g]?=some (.cells (yF me 0 0 n false nk c (some b)) 95 (0,0))∧U.heap[w0.heap.size]?=some (.cells (yA xf xt xs xn xa xk) 32 (0,0))) w10):=⟨(Done.at_ (C:=fun X=>Star (Star (X) (LogW (.pointer (some b)) lg)) (CellW w0.heap.size (yA xf xt xs xn xa xk) 32)) (Fr.l (Fr.l Fr.id_ (LogW.stab _ _)) cS) hs),(Done.at_ (C:=fun X=>Star (Star (CellW g (yF me 0 0 n false nk c (some b)) 95) (LogW (.pointer (some b)) lg)) X) (Fr.r (cS.star (LogW.stab _ _)) Fr.id_) hs)⟩;refine ⟨_,rfl,HE10.out,?_⟩;clear hs
       simp only [Act.put,jzU,jzV,jzW]
       refine rtk 2 HE10.out ?_
       refine rtk 3 HE10.out ?_
       refine rtk 4 HE10.out ?_
       refine rtk 5 HE10.out ?_
       refine rtk 6 HE10.out ?_ (hy:=by intro W HW;have cw:W.cell? ⟨g,6,none⟩=some (.int .i64 c):=cell_at HW.1 6 _ rfl;go_simp;try with_reducible rfl)
       refine rtk 7 HE10.out ?_
       refine rtk 8 HE10.out ?_
       refine rtk 9 HE10.out ?_
       refine rtk 10 HE10.out ?_
       refine rtk 11 HE10.out ?_ (hy:=by intro W HW;have cw:W.cell? ⟨w0.heap.size,1,none⟩=some (.int .u32 xt):=cell_at HW.2 1 _ rfl;go_simp;try with_reducible rfl)
       refine rtk 12 HE10.out ?_
       refine rtk 13 HE10.out ?_
       refine rtk 14 HE10.out ?_
       refine rtk 15 HE10.out ?_
       refine rtk 16 HE10.out ?_ (hy:=by intro W HW;have cw:W.cell? ⟨g,0,none⟩=some (.int .u32 me):=cell_at HW.1 0 _ rfl;go_simp;try with_reducible rfl)
       refine rtk 17 HE10.out ?_
       refine rtk 18 HE10.out ?_
       refine rests_done (by kernel_rfl) ?_
       go_wp2
       have HSe:=jzD (HS10.out.drewD ((cS.star (LogW.stab _ _)).star cS))
       have HEe:Hid ((fun U=>U.heap[g]?=some (.cells (yF me 0 0 n false nk c (some b)) 95 (0,0))∧U.heap[w0.heap.size]?=some (.cells (yA xf xt xs xn xa xk) 32 (0,0))) w10.drew):=⟨(Done.at_ (C:=fun X=>Star (Star (X) (LogW (.pointer (some b)) lg)) (CellW w0.heap.size (yA xf xt xs xn xa xk) 32)) (Fr.l (Fr.l Fr.id_ (LogW.stab _ _)) cS) HSe.out),(Done.at_ (C:=fun X=>Star (Star (CellW g (yF me 0 0 n false nk c (some b)) 95) (LogW (.pointer (some b)) lg)) X) (Fr.r (cS.star (LogW.stab _ _)) Fr.id_) HSe.out)⟩
       refine rests_begin (fun U=>U.heap[g]?=some (.cells (yF me 0 0 n false nk c (some b)) 95 (0,0))∧U.heap[w0.heap.size]?=some (.cells (yA xf xt xs xn xa xk) 32 (0,0))) (by kernel_rfl) ?_
       refine rtk 0 HEe.out ?_
       refine rtk 1 HEe.out ?_
       refine rtk 2 HEe.out ?_
       refine rtk 3 HEe.out ?_ (hy:=by intro W HW;have cw:W.cell? ⟨g,7,none⟩=some (.pointer (some b)):=cell_at HW.1 7 _ rfl;go_simp;try with_reducible rfl)
       refine rests_take 4 (oi:=_) (v:=.agg #[.int .u32 xf,.int .u32 xt,.int .i64 xs,.int .i64 xn,.bool xa,.string xk]) (by simp only [jzG,jzH,jzI];rfl) (by kernel_rfl) (by kernel_rfl) (by kernel_rfl) (by exact fun _ _ _ h=>h) (HEe.out) (by rfl) (fun W HW=>exec_loadB rfl rfl HW.2 Tryz.underlying32 rfl (by kernel_rfl)) ?_
       simp only [Act.put,jzU,jzV,jzW]
       refine rests_call 5 (oi:=_) (by simp only [jzG,jzH,jzI];rfl) 51 #[.pointer (some b),.agg #[.int .u32 xf,.int .u32 xt,.int .i64 xs,.int .i64 xn,.bool xa,.string xk]] _ (by kernel_rfl) (by rfl) (by go_simp) (dcalls_at (C:=fun X=>Star (Star (CellW g (yF me 0 0 n false nk c (some b)) 95) X) (CellW w0.heap.size (yA xf xt xs xn xa xk) 32)) (Fr.l (Fr.r cS Fr.id_) cS) HSe.out (fun F1 h=>HAD.out _ F1 h)) ?_
       rintro e w30 ⟨rfl,hs⟩;have HS30:=jzD hs;have HE30:Hid ((fun U=>U.heap[g]?=some (.cells (yF me 0 0 n false nk c (some b)) 95 (0,0))∧U.heap[w0.heap.size]?=some (.cells (yA xf xt xs xn xa xk) 32 (0,0))) w30):=⟨(Done.at_ (C:=fun X=>Star (Star (X) (LogW (.pointer (some b)) (LogM.add lg (⟨xf,xt,xs,xn,xa,xk⟩:XIn)))) (CellW w0.heap.size (yA xf xt xs xn xa xk) 32)) (Fr.l (Fr.l Fr.id_ (LogW.stab _ _)) cS) hs),(Done.at_ (C:=fun X=>Star (Star (CellW g (yF me 0 0 n false nk c (some b)) 95) (LogW (.pointer (some b)) (LogM.add lg (⟨xf,xt,xs,xn,xa,xk⟩:XIn)))) X) (Fr.r (cS.star (LogW.stab _ _)) Fr.id_) hs)⟩;refine ⟨_,rfl,HE30.out,?_⟩;clear hs
       simp only [Act.put,jzU,jzV,jzW]
       refine rtk 6 HE30.out ?_
       refine rests_done (by kernel_rfl) ?_
       go_wp2
       go_ret
       exact ⟨by rw [HH.out.1] <;> first | rfl | (simp;done),by rw [HH.out.2];exact HS30.out.drop.mono fun F hF=>QueryW.closed HOK.out hF⟩
     · have t2:(xt != me)=true:=bne_iff_ne.2 hm
       have t3:(xt == me)=false:=beq_eq_false_iff_ne.2 hm
       have HH:=jzD (qHear_no (q:=(⟨me,nk,n,c,lg⟩:QueryM)) (x:=(⟨xf,xt,xs,xn,xa,xk⟩:XIn)) (by unfold QueryM.open_;rw [hov2];simp [hm]))
       rw [hov] at hro
       have HOV:=jzD hro
       have HAD:=jzD had
       clear hov hro had hov2 hca hc hm
       go_enter Tryz.func23,Tryz.ntmps23
       go_wp2
       have HSd:=jzD (HS0.out.drewD ((cS.star (LogW.stab _ _)).star cS))
       have HEd:Hid ((fun U=>U.heap[g]?=some (.cells (yF me 0 0 n false nk c (some b)) 95 (0,0))∧U.heap[w0.heap.size]?=some (.cells (yA xf xt xs xn xa xk) 32 (0,0))) (w0.alloc (.cells (yA xf xt xs xn xa xk) 32)).drew):=⟨(Done.at_ (C:=fun X=>Star (Star (X) (LogW (.pointer (some b)) lg)) (CellW w0.heap.size (yA xf xt xs xn xa xk) 32)) (Fr.l (Fr.l Fr.id_ (LogW.stab _ _)) cS) HSd.out),(Done.at_ (C:=fun X=>Star (Star (CellW g (yF me 0 0 n false nk c (some b)) 95) (LogW (.pointer (some b)) lg)) X) (Fr.r (cS.star (LogW.stab _ _)) Fr.id_) HSd.out)⟩
       refine rests_begin (fun U=>U.heap[g]?=some (.cells (yF me 0 0 n false nk c (some b)) 95 (0,0))∧U.heap[w0.heap.size]?=some (.cells (yA xf xt xs xn xa xk) 32 (0,0))) (by kernel_rfl) ?_
       refine rtk 0 HEd.out ?_
       refine rests_call 1 (oi:=_) (by simp only [jzG,jzH,jzI];rfl) 25 #[.pointer (some ⟨g,0,none⟩)] _ (by kernel_rfl) (by rfl) (by go_simp) (dcalls_keep ((cS.star (LogW.stab _ _)).star cS) HSd.out (HOV.out _ (HEd.out.1))) ?_
       rintro e w10 ⟨rfl,hs⟩;have HS10:=jzD hs;have HE10:Hid ((fun U=>U.heap[g]?=some (.cells (yF me 0 0 n false nk c (some b)) 95 (0,0))∧U.heap[w0.heap.size]?=some (.cells (yA xf xt xs xn xa xk) 32 (0,0))) w10):=⟨(Done.at_ (C:=fun X=>Star (Star (X) (LogW (.pointer (some b)) lg)) (CellW w0.heap.size (yA xf xt xs xn xa xk) 32)) (Fr.l (Fr.l Fr.id_ (LogW.stab _ _)) cS) hs),(Done.at_ (C:=fun X=>Star (Star (CellW g (yF me 0 0 n false nk c (some b)) 95) (LogW (.pointer (some b)) lg)) X) (Fr.r (cS.star (LogW.stab _ _)) Fr.id_) hs)⟩;refine ⟨_,rfl,HE10.out,?_⟩;clear hs
       simp only [Act.put,jzU,jzV,jzW]
       refine rtk 2 HE10.out ?_
       refine rtk 3 HE10.out ?_
       refine rtk 4 HE10.out ?_
       refine rtk 5 HE10.out ?_
       refine rtk 6 HE10.out ?_ (hy:=by intro W HW;have cw:W.cell? ⟨g,6,none⟩=some (.int .i64 c):=cell_at HW.1 6 _ rfl;go_simp;try with_reducible rfl)
       refine rtk 7 HE10.out ?_
       refine rtk 8 HE10.out ?_
       refine rtk 9 HE10.out ?_
       refine rtk 10 HE10.out ?_
       refine rtk 11 HE10.out ?_ (hy:=by intro W HW;have cw:W.cell? ⟨w0.heap.size,1,none⟩=some (.int .u32 xt):=cell_at HW.2 1 _ rfl;go_simp;try with_reducible rfl)
       refine rtk 12 HE10.out ?_
       refine rtk 13 HE10.out ?_
       refine rtk 14 HE10.out ?_
       refine rtk 15 HE10.out ?_
       refine rtk 16 HE10.out ?_ (hy:=by intro W HW;have cw:W.cell? ⟨g,0,none⟩=some (.int .u32 me):=cell_at HW.1 0 _ rfl;go_simp;try with_reducible rfl)
       refine rtk 17 HE10.out ?_
       refine rtk 18 HE10.out ?_
       refine rests_done (by kernel_rfl) ?_
       go_wp2
       go_ret
       exact ⟨by rw [HH.out.1] <;> first | rfl | (simp;done),by rw [HH.out.2];exact HS10.out.drop.mono fun F hF=>QueryW.closed HOK.out hF⟩
 · have hov2:(⟨me,nk,n,c,lg⟩:QueryM).over=true:=hov
   have HH:=jzD (qHear_no (q:=(⟨me,nk,n,c,lg⟩:QueryM)) (x:=(⟨xf,xt,xs,xn,xa,xk⟩:XIn)) (by unfold QueryM.open_;rw [hov2];simp []))
   rw [hov] at hro
   have HOV:=jzD hro
   have HAD:=jzD had
   clear hov hro had hov2 hca
   go_enter Tryz.func23,Tryz.ntmps23
   go_wp2
   have HSd:=jzD (HS0.out.drewD ((cS.star (LogW.stab _ _)).star cS))
   have HEd:Hid ((fun U=>U.heap[g]?=some (.cells (yF me 0 0 n false nk c (some b)) 95 (0,0))∧U.heap[w0.heap.size]?=some (.cells (yA xf xt xs xn xa xk) 32 (0,0))) (w0.alloc (.cells (yA xf xt xs xn xa xk) 32)).drew):=⟨(Done.at_ (C:=fun X=>Star (Star (X) (LogW (.pointer (some b)) lg)) (CellW w0.heap.size (yA xf xt xs xn xa xk) 32)) (Fr.l (Fr.l Fr.id_ (LogW.stab _ _)) cS) HSd.out),(Done.at_ (C:=fun X=>Star (Star (CellW g (yF me 0 0 n false nk c (some b)) 95) (LogW (.pointer (some b)) lg)) X) (Fr.r (cS.star (LogW.stab _ _)) Fr.id_) HSd.out)⟩
   refine rests_begin (fun U=>U.heap[g]?=some (.cells (yF me 0 0 n false nk c (some b)) 95 (0,0))∧U.heap[w0.heap.size]?=some (.cells (yA xf xt xs xn xa xk) 32 (0,0))) (by kernel_rfl) ?_
   refine rtk 0 HEd.out ?_
   refine rests_call 1 (oi:=_) (by simp only [jzG,jzH,jzI];rfl) 25 #[.pointer (some ⟨g,0,none⟩)] _ (by kernel_rfl) (by rfl) (by go_simp) (dcalls_keep ((cS.star (LogW.stab _ _)).star cS) HSd.out (HOV.out _ (HEd.out.1))) ?_
   rintro e w10 ⟨rfl,hs⟩;have HS10:=jzD hs;have HE10:Hid ((fun U=>U.heap[g]?=some (.cells (yF me 0 0 n false nk c (some b)) 95 (0,0))∧U.heap[w0.heap.size]?=some (.cells (yA xf xt xs xn xa xk) 32 (0,0))) w10):=⟨(Done.at_ (C:=fun X=>Star (Star (X) (LogW (.pointer (some b)) lg)) (CellW w0.heap.size (yA xf xt xs xn xa xk) 32)) (Fr.l (Fr.l Fr.id_ (LogW.stab _ _)) cS) hs),(Done.at_ (C:=fun X=>Star (Star (CellW g (yF me 0 0 n false nk c (some b)) 95) (LogW (.pointer (some b)) lg)) X) (Fr.r (cS.star (LogW.stab _ _)) Fr.id_) hs)⟩;refine ⟨_,rfl,HE10.out,?_⟩;clear hs
   simp only [Act.put,jzU,jzV,jzW]
   refine rtk 2 HE10.out ?_
   refine rsk 3 HE10.out ?_
   refine rsk 4 HE10.out ?_
   refine rsk 5 HE10.out ?_
   refine rsk 6 HE10.out ?_
   refine rsk 7 HE10.out ?_
   refine rtk 8 HE10.out ?_
   refine rtk 9 HE10.out ?_
   refine rsk 10 HE10.out ?_
   refine rsk 11 HE10.out ?_
   refine rsk 12 HE10.out ?_
   refine rsk 13 HE10.out ?_
   refine rsk 14 HE10.out ?_
   refine rsk 15 HE10.out ?_
   refine rsk 16 HE10.out ?_
   refine rsk 17 HE10.out ?_
   refine rtk 18 HE10.out ?_
   refine rests_done (by kernel_rfl) ?_
   go_wp2
   go_ret
   exact ⟨by rw [HH.out.1] <;> first | rfl | (simp;done),by rw [HH.out.2];exact HS10.out.drop.mono fun F hF=>QueryW.closed HOK.out hF⟩
theorem qcs_low {me n c:Int} {nk:ByteArray} {b:Addr} {r:Nat} (hr:r < [Value.int .u32 me,.int .u32 0,.int .i64 0,.int .i64 n,.bool false,.string nk].length):(#[.int .u32 me,.int .u32 0,.int .i64 0,.int .i64 n,.bool false,.string nk,.int .i64 c,.pointer (some b)]:Array Value)[r]?=[Value.int .u32 me,.int .u32 0,.int .i64 0,.int .i64 n,.bool false,.string nk][r]?:=by
 simp only [List.length_cons,List.length_nil] at hr
 have : r=0 ∨ r=1 ∨ r=2 ∨ r=3 ∨ r=4 ∨ r=5:=by omega
 rcases this with rfl | rfl | rfl | rfl | rfl | rfl <;> rfl
theorem QTick_any (v u:Value) (m:QueryM) (F:List Nat) (w0:World) (h:QueryW v u m w0 F):Calls Tryz.prog 34 #[v] w0 fun e w' => e=.returned (.tuple #[m.xid.val,.bool m.asks])∧Done w0 F (QueryW v u m.tick) w' := by
 obtain ⟨g,b,rfl,rfl,hok,hd⟩:=h.opened
 obtain ⟨me,nk,n,c,lg⟩:=m
 have hsl:=hok.slots
 have hca:=hok.calls
 simp only at hsl hca
 replace hd:Done w0 F (Star (CellW g (yF me 0 0 n false nk c (some b)) 95) (LogW (.pointer (some b)) lg)) w0:=hd
 have HS0:Hid (Done w0 F (Star (Star (CellW g (yF me 0 0 n false nk c (some b)) 95) (LogW (.pointer (some b)) lg)) (CellW w0.heap.size (yA 0 0 0 0 false ⟨#[]⟩) 32)) (w0.alloc (.cells (yA 0 0 0 0 false ⟨#[]⟩) 32))):=hd.add (cS.star (LogW.stab _ _)) (CellW.new w0 #[.int .u32 0,.int .u32 0,.int .i64 0,.int .i64 0,.bool false,.string ⟨#[]⟩] 32)
 have hov:=QOver_at g b me n c nk (w0.alloc (.cells (yA 0 0 0 0 false ⟨#[]⟩) 32)) (Done.at_ (C:=fun X=>Star (Star (X) (LogW (.pointer (some b)) lg)) (CellW w0.heap.size (yA 0 0 0 0 false ⟨#[]⟩) 32)) (Fr.l (Fr.l Fr.id_ (LogW.stab _ _)) cS) HS0.out) (by omega) (by omega)
 have HOK:Hid ((QueryM.tick (⟨me,nk,n,c,lg⟩:QueryM)).ok):=⟨hsl,by show 0≤min (c + 1) (n * 8 + 2)∧min (c + 1) (n * 8 + 2)≤n * 8 + 2;omega,hok.me⟩
 clear hd h hok
 rcases ho:decide (n * 8 + 1 < c) with _ | _
 · have hno:¬ n * 8 + 1 < c:=of_decide_eq_false ho
   rw [ho] at hov
   have HOV:=jzD hov
   obtain ⟨c1,hc1⟩:∃ c1,c1=c + 1:=⟨_,rfl⟩
   have HT:Hid (QueryM.tick (⟨me,nk,n,c,lg⟩:QueryM)=(⟨me,nk,n,c1,lg⟩:QueryM)):=by show _=_;unfold QueryM.tick;simp only [QueryM.mk.injEq,true_and,and_true];omega
   rw [HT.out] at HOK
   have e1:IntKind.i64.wrap (c + 1)=c1:=by rw [hc1];exact IntWalk.i64_in _ (by omega)
   clear ho hov hc1
   by_cases h8:c % 8=0
   · have r1:c.tmod 8=0:=by rw [Int.tmod_eq_emod_of_nonneg (by omega)];exact h8
     have HH:=jzD (qTick_yes me n c nk lg (by omega))
     obtain ⟨k8,hk8⟩:∃ k8,c / 8=k8:=⟨_,rfl⟩
     rw [hk8] at HH
     have r3:IntKind.i64.wrap (c.tdiv 8)=k8:=by rw [Int.tdiv_eq_ediv_of_nonneg (by omega),IntWalk.i64_in _ (by omega)];exact hk8
     by_cases hx:k8=n
     · have t5:(k8 == n)=true:=beq_iff_eq.2 hx
       rw [if_pos hx] at HH
       clear hk8 h8 hx hsl hca hno
       go_enter Tryz.func34,Tryz.ntmps34
       go_wp2_with (first
        | (go_at_call 25;((with_reducible refine (dcalls_keep ((cS.star (LogW.stab _ _)).star cS) HS0.out HOV.out).mono ?_);rintro e w1 ⟨rfl,hs⟩;have HS1:Hid (Done w0 F (Star (Star (CellW g (yF me 0 0 n false nk c (some b)) 95) (LogW (.pointer (some b)) lg)) (CellW w0.heap.size (yA 0 0 0 0 false ⟨#[]⟩) 32)) w1):=(by show Done _ _ _ _;exact hs);have q6:w1.cell? ⟨g,6,none⟩=some (.int .i64 c):=cell_at (Done.at_ (C:=fun X=>Star (Star (X) (LogW (.pointer (some b)) lg)) (CellW w0.heap.size (yA 0 0 0 0 false ⟨#[]⟩) 32)) (Fr.l (Fr.l Fr.id_ (LogW.stab _ _)) cS) hs) 6 _ rfl;clear hs))
        | ((with_reducible refine wpList_storeD (C:=fun X=>Star (Star (X) (LogW (.pointer (some b)) lg)) (CellW w0.heap.size (yA 0 0 0 0 false ⟨#[]⟩) 32)) (Fr.l (Fr.l Fr.id_ (LogW.stab _ _)) cS) HS1.out rfl 3 (.tmp 19) (.tmp 17) rfl 6 (.int .i64 c1) rfl rfl (by simp) (run_storeI _ _ _) ?_);intro w2 hs;have HS2:Hid (Done w0 F (Star (Star (CellW g (yF me 0 0 n false nk c1 (some b)) 95) (LogW (.pointer (some b)) lg)) (CellW w0.heap.size (yA 0 0 0 0 false ⟨#[]⟩) 32)) w2):=(by show Done _ _ _ _;exact hs);have HRG:Hid (w2.rangeAt g 0 [.int .u32 me,.int .u32 0,.int .i64 0,.int .i64 n,.bool false,.string nk]):=(by intro r u hu;have hr:=(List.getElem?_eq_some_iff.1 hu).1;refine cell_at (Done.at_ (C:=fun X=>Star (Star (X) (LogW (.pointer (some b)) lg)) (CellW w0.heap.size (yA 0 0 0 0 false ⟨#[]⟩) 32)) (Fr.l (Fr.l Fr.id_ (LogW.stab _ _)) cS) hs) _ _ ?_;rw [Nat.zero_add];rw [← hu];exact qcs_low hr);have HSK:Hid (∀ w3,Below w2.heap.size w2 w3→Done w0 F (Star (Star (CellW g (yF me 0 0 n false nk c1 (some b)) 95) (LogW (.pointer (some b)) lg)) (CellW w0.heap.size (yA 0 0 0 0 false ⟨#[]⟩) 32)) w3):=(fun w3 hb=>HS2.out.keep ((cS.star (LogW.stab _ _)).star cS) hb);clear hs)
        | (with_reducible refine wpList_load_mid rfl 32 (.tmp 26) rfl g 0 rfl [.int .u32 me,.int .u32 0,.int .i64 0,.int .i64 n,.bool false,.string nk] _ HRG.out Tryz.underlying32 rfl (by kernel_rfl) ?_)
        | ((with_reducible refine wpList_storeBD (C:=fun X=>Star (Star (CellW g (yF me 0 0 n false nk c1 (some b)) 95) (LogW (.pointer (some b)) lg)) X) (Fr.r (cS.star (LogW.stab _ _)) Fr.id_) (HSK.out (w2.alloc (.cells (yA me 0 (-1) n false nk) 32)) ((Below.refl _ _).alloc (Nat.le_refl _) _)) rfl 32 (.tmp 2) (.tmp 37) rfl #[.int .u32 me,.int .u32 0,.int .i64 (-1),.int .i64 n,.bool false,.string nk] rfl rfl (by kernel_rfl) rfl (by simp [Value.oneCell']) ?_);intro wz hs;have HSwz:Hid (Done w0 F (Star (Star (CellW g (yF me 0 0 n false nk c1 (some b)) 95) (LogW (.pointer (some b)) lg)) (CellW w0.heap.size (yA me 0 (-1) n false nk) 32)) wz):=(by show Done _ _ _ _;exact hs);clear hs))
       exact ⟨rfl,_,results_cell2 rfl _ _ w0.heap.size _ _ _ _ (.bool true) rfl rfl (Done.at_ (C:=fun X=>Star (Star (CellW g (yF me 0 0 n false nk c1 (some b)) 95) (LogW (.pointer (some b)) lg)) X) (Fr.r (cS.star (LogW.stab _ _)) Fr.id_) HSwz.out) Tryz.underlying32 rfl (by kernel_rfl),by rw [HH.out.1,HH.out.2] <;> rfl,HSwz.out.drop.mono fun F hF=>by rw [HT.out];exact QueryW.closed HOK.out hF⟩
     · have t5:(k8 == n)=false:=beq_eq_false_iff_ne.2 hx
       rw [if_neg hx] at HH
       clear hk8 h8 hx hsl hca hno
       go_enter Tryz.func34,Tryz.ntmps34
       go_wp2_with (first
        | (go_at_call 25;((with_reducible refine (dcalls_keep ((cS.star (LogW.stab _ _)).star cS) HS0.out HOV.out).mono ?_);rintro e w1 ⟨rfl,hs⟩;have HS1:Hid (Done w0 F (Star (Star (CellW g (yF me 0 0 n false nk c (some b)) 95) (LogW (.pointer (some b)) lg)) (CellW w0.heap.size (yA 0 0 0 0 false ⟨#[]⟩) 32)) w1):=(by show Done _ _ _ _;exact hs);have q6:w1.cell? ⟨g,6,none⟩=some (.int .i64 c):=cell_at (Done.at_ (C:=fun X=>Star (Star (X) (LogW (.pointer (some b)) lg)) (CellW w0.heap.size (yA 0 0 0 0 false ⟨#[]⟩) 32)) (Fr.l (Fr.l Fr.id_ (LogW.stab _ _)) cS) hs) 6 _ rfl;clear hs))
        | ((with_reducible refine wpList_storeD (C:=fun X=>Star (Star (X) (LogW (.pointer (some b)) lg)) (CellW w0.heap.size (yA 0 0 0 0 false ⟨#[]⟩) 32)) (Fr.l (Fr.l Fr.id_ (LogW.stab _ _)) cS) HS1.out rfl 3 (.tmp 19) (.tmp 17) rfl 6 (.int .i64 c1) rfl rfl (by simp) (run_storeI _ _ _) ?_);intro w2 hs;have HS2:Hid (Done w0 F (Star (Star (CellW g (yF me 0 0 n false nk c1 (some b)) 95) (LogW (.pointer (some b)) lg)) (CellW w0.heap.size (yA 0 0 0 0 false ⟨#[]⟩) 32)) w2):=(by show Done _ _ _ _;exact hs);have HRG:Hid (w2.rangeAt g 0 [.int .u32 me,.int .u32 0,.int .i64 0,.int .i64 n,.bool false,.string nk]):=(by intro r u hu;have hr:=(List.getElem?_eq_some_iff.1 hu).1;refine cell_at (Done.at_ (C:=fun X=>Star (Star (X) (LogW (.pointer (some b)) lg)) (CellW w0.heap.size (yA 0 0 0 0 false ⟨#[]⟩) 32)) (Fr.l (Fr.l Fr.id_ (LogW.stab _ _)) cS) hs) _ _ ?_;rw [Nat.zero_add];rw [← hu];exact qcs_low hr);have HSK:Hid (∀ w3,Below w2.heap.size w2 w3→Done w0 F (Star (Star (CellW g (yF me 0 0 n false nk c1 (some b)) 95) (LogW (.pointer (some b)) lg)) (CellW w0.heap.size (yA 0 0 0 0 false ⟨#[]⟩) 32)) w3):=(fun w3 hb=>HS2.out.keep ((cS.star (LogW.stab _ _)).star cS) hb);clear hs)
        | (with_reducible refine wpList_load_mid rfl 32 (.tmp 26) rfl g 0 rfl [.int .u32 me,.int .u32 0,.int .i64 0,.int .i64 n,.bool false,.string nk] _ HRG.out Tryz.underlying32 rfl (by kernel_rfl) ?_)
        | ((with_reducible refine wpList_storeBD (C:=fun X=>Star (Star (CellW g (yF me 0 0 n false nk c1 (some b)) 95) (LogW (.pointer (some b)) lg)) X) (Fr.r (cS.star (LogW.stab _ _)) Fr.id_) (HSK.out (w2.alloc (.cells (yA me 0 k8 n false nk) 32)) ((Below.refl _ _).alloc (Nat.le_refl _) _)) rfl 32 (.tmp 2) (.tmp 37) rfl #[.int .u32 me,.int .u32 0,.int .i64 k8,.int .i64 n,.bool false,.string nk] rfl rfl (by kernel_rfl) rfl (by simp [Value.oneCell']) ?_);intro wz hs;have HSwz:Hid (Done w0 F (Star (Star (CellW g (yF me 0 0 n false nk c1 (some b)) 95) (LogW (.pointer (some b)) lg)) (CellW w0.heap.size (yA me 0 k8 n false nk) 32)) wz):=(by show Done _ _ _ _;exact hs);clear hs))
       exact ⟨rfl,_,results_cell2 rfl _ _ w0.heap.size _ _ _ _ (.bool true) rfl rfl (Done.at_ (C:=fun X=>Star (Star (CellW g (yF me 0 0 n false nk c1 (some b)) 95) (LogW (.pointer (some b)) lg)) X) (Fr.r (cS.star (LogW.stab _ _)) Fr.id_) HSwz.out) Tryz.underlying32 rfl (by kernel_rfl),by rw [HH.out.1,HH.out.2] <;> rfl,HSwz.out.drop.mono fun F hF=>by rw [HT.out];exact QueryW.closed HOK.out hF⟩
   · have HH:=jzD (qTick_no me n c nk lg (fun h=>h8 h.1))
     obtain ⟨r,hr⟩:∃ r,c.tmod 8=r:=⟨_,rfl⟩
     have r2:(r != 0)=true:=by rw [← hr,Int.tmod_eq_emod_of_nonneg (by omega)];exact bne_iff_ne.2 h8
     have r4:(r == 0)=false:=by rw [← hr,Int.tmod_eq_emod_of_nonneg (by omega)];exact beq_eq_false_iff_ne.2 h8
     clear h8 hsl hca hno
     go_enter Tryz.func34,Tryz.ntmps34
     go_wp2_with (first
      | (go_at_call 25;((with_reducible refine (dcalls_keep ((cS.star (LogW.stab _ _)).star cS) HS0.out HOV.out).mono ?_);rintro e w1 ⟨rfl,hs⟩;have HS1:Hid (Done w0 F (Star (Star (CellW g (yF me 0 0 n false nk c (some b)) 95) (LogW (.pointer (some b)) lg)) (CellW w0.heap.size (yA 0 0 0 0 false ⟨#[]⟩) 32)) w1):=(by show Done _ _ _ _;exact hs);have q6:w1.cell? ⟨g,6,none⟩=some (.int .i64 c):=cell_at (Done.at_ (C:=fun X=>Star (Star (X) (LogW (.pointer (some b)) lg)) (CellW w0.heap.size (yA 0 0 0 0 false ⟨#[]⟩) 32)) (Fr.l (Fr.l Fr.id_ (LogW.stab _ _)) cS) hs) 6 _ rfl;clear hs))
      | ((with_reducible refine wpList_storeD (C:=fun X=>Star (Star (X) (LogW (.pointer (some b)) lg)) (CellW w0.heap.size (yA 0 0 0 0 false ⟨#[]⟩) 32)) (Fr.l (Fr.l Fr.id_ (LogW.stab _ _)) cS) HS1.out rfl 3 (.tmp 19) (.tmp 17) rfl 6 (.int .i64 c1) rfl rfl (by simp) (run_storeI _ _ _) ?_);intro w2 hs;have HS2:Hid (Done w0 F (Star (Star (CellW g (yF me 0 0 n false nk c1 (some b)) 95) (LogW (.pointer (some b)) lg)) (CellW w0.heap.size (yA 0 0 0 0 false ⟨#[]⟩) 32)) w2):=(by show Done _ _ _ _;exact hs);clear hs)
      | ((with_reducible refine wpList_storeBD (C:=fun X=>Star (Star (CellW g (yF me 0 0 n false nk c1 (some b)) 95) (LogW (.pointer (some b)) lg)) X) (Fr.r (cS.star (LogW.stab _ _)) Fr.id_) HS2.out rfl 32 (.tmp 2) (.tmp 23) rfl #[.int .u32 0,.int .u32 0,.int .i64 0,.int .i64 0,.bool false,.string ⟨#[]⟩] rfl rfl (by kernel_rfl) rfl (by simp [Value.oneCell']) ?_);intro wz hs;have HSwz:Hid (Done w0 F (Star (Star (CellW g (yF me 0 0 n false nk c1 (some b)) 95) (LogW (.pointer (some b)) lg)) (CellW w0.heap.size (yA 0 0 0 0 false ⟨#[]⟩) 32)) wz):=(by show Done _ _ _ _;exact hs);clear hs))
     exact ⟨rfl,_,results_cell2 rfl _ _ w0.heap.size _ _ _ _ (.bool false) rfl rfl (Done.at_ (C:=fun X=>Star (Star (CellW g (yF me 0 0 n false nk c1 (some b)) 95) (LogW (.pointer (some b)) lg)) X) (Fr.r (cS.star (LogW.stab _ _)) Fr.id_) HSwz.out) Tryz.underlying32 rfl (by kernel_rfl),by rw [HH.out.1,HH.out.2] <;> rfl,HSwz.out.drop.mono fun F hF=>by rw [HT.out];exact QueryW.closed HOK.out hF⟩
 · have hno:n * 8 + 1 < c:=of_decide_eq_true ho
   rw [ho] at hov
   have HOV:=jzD hov
   have HT:Hid (QueryM.tick (⟨me,nk,n,c,lg⟩:QueryM)=(⟨me,nk,n,c,lg⟩:QueryM)):=by show _=_;unfold QueryM.tick;simp only [QueryM.mk.injEq,true_and,and_true];omega
   rw [HT.out] at HOK
   have HH:=jzD (qTick_no me n c nk lg (by omega))
   clear ho hov hsl hca hno
   go_enter Tryz.func34,Tryz.ntmps34
   go_wp2_with (first
    | (go_at_call 25;((with_reducible refine (dcalls_keep ((cS.star (LogW.stab _ _)).star cS) HS0.out HOV.out).mono ?_);rintro e w1 ⟨rfl,hs⟩;have HS1:Hid (Done w0 F (Star (Star (CellW g (yF me 0 0 n false nk c (some b)) 95) (LogW (.pointer (some b)) lg)) (CellW w0.heap.size (yA 0 0 0 0 false ⟨#[]⟩) 32)) w1):=(by show Done _ _ _ _;exact hs);have q6:w1.cell? ⟨g,6,none⟩=some (.int .i64 c):=cell_at (Done.at_ (C:=fun X=>Star (Star (X) (LogW (.pointer (some b)) lg)) (CellW w0.heap.size (yA 0 0 0 0 false ⟨#[]⟩) 32)) (Fr.l (Fr.l Fr.id_ (LogW.stab _ _)) cS) hs) 6 _ rfl;clear hs))
    | ((with_reducible refine wpList_storeBD (C:=fun X=>Star (Star (CellW g (yF me 0 0 n false nk c (some b)) 95) (LogW (.pointer (some b)) lg)) X) (Fr.r (cS.star (LogW.stab _ _)) Fr.id_) HS1.out rfl 32 (.tmp 2) (.tmp 8) rfl #[.int .u32 0,.int .u32 0,.int .i64 0,.int .i64 0,.bool false,.string ⟨#[]⟩] rfl rfl (by kernel_rfl) rfl (by simp [Value.oneCell']) ?_);intro wz hs;have HSwz:Hid (Done w0 F (Star (Star (CellW g (yF me 0 0 n false nk c (some b)) 95) (LogW (.pointer (some b)) lg)) (CellW w0.heap.size (yA 0 0 0 0 false ⟨#[]⟩) 32)) wz):=(by show Done _ _ _ _;exact hs);clear hs))
   exact ⟨rfl,_,results_cell2 rfl _ _ w0.heap.size _ _ _ _ (.bool false) rfl rfl (Done.at_ (C:=fun X=>Star (Star (CellW g (yF me 0 0 n false nk c (some b)) 95) (LogW (.pointer (some b)) lg)) X) (Fr.r (cS.star (LogW.stab _ _)) Fr.id_) HSwz.out) Tryz.underlying32 rfl (by kernel_rfl),by rw [HH.out.1,HH.out.2] <;> rfl,HSwz.out.drop.mono fun F hF=>by rw [HT.out];exact QueryW.closed HOK.out hF⟩
theorem QTick_nil (w0:World):Calls Tryz.prog 34 #[.pointer none] w0 fun e w' => e=.returned (.tuple #[ReplyM.xz.val,.bool false])∧Below w0.heap.size w0 w' := by
 have HS0:=jzD (CellW.new w0 #[.int .u32 0,.int .u32 0,.int .i64 0,.int .i64 0,.bool false,.string ⟨#[]⟩] 32)
 have HOV:=jzD (QOver_nil (w0.alloc (.cells (yA 0 0 0 0 false ⟨#[]⟩) 32)))
 go_enter Tryz.func34,Tryz.ntmps34
 go_wp2_with (first
  | (go_at_call 25;((with_reducible refine (dcalls_keep cS HS0.out HOV.out).mono ?_);rintro e w1 ⟨rfl,hs⟩;have HS1:Hid (Done w0 [] (CellW w0.heap.size (yA 0 0 0 0 false ⟨#[]⟩) 32) w1):=(by show Done _ _ _ _;exact hs);clear hs))
  | ((with_reducible refine wpList_storeBD (C:=fun X=>X) Fr.id_ HS1.out rfl 32 (.tmp 2) (.tmp 8) rfl #[.int .u32 0,.int .u32 0,.int .i64 0,.int .i64 0,.bool false,.string ⟨#[]⟩] rfl rfl (by kernel_rfl) rfl (by simp [Value.oneCell']) ?_);intro wz hs;have HSz:Hid (Done w0 [] (CellW w0.heap.size (yA 0 0 0 0 false ⟨#[]⟩) 32) wz):=(by show Done _ _ _ _;exact hs);clear hs))
 exact ⟨rfl,_,results_cell2 rfl _ _ w0.heap.size _ _ _ _ (.bool false) rfl rfl (Done.at_ (C:=fun X=>X) Fr.id_ HSz.out) Tryz.underlying32 rfl (by kernel_rfl),rfl,HSz.out.bel⟩
theorem run_storeSt (s:ByteArray) (g k:Nat):∀ w:World,(∃ u,w.cell? ⟨g,k,none⟩=some u)→w.frozen? ⟨g,k,none⟩=false→(Instr.storeAt 9 (.pointer (some ⟨g,k,none⟩)) (.string s)).run Tryz.prog w=.ok () (w.setCell ⟨g,k,none⟩ (.string s)):=by
 rintro w ⟨u,hu⟩ hf
 go_simp
theorem qlog_new {w0 w:World} {F0:List Nat} {H:Obj} {me:Int} (hn:(Lit.int .u32 me).wf=true) (hH:Stab H) (h:Done w0 F0 H w):Calls Tryz.prog 53 #[.int .u32 me] w fun e w' => ∃ b:Addr,e=.returned (.pointer (some b))∧Done w0 F0 (Star H (LogW (.pointer (some b)) (LogM.new me))) w' := by
 refine (LNew_any me w hn).mono ?_
 rintro e w' ⟨v,rfl,hd⟩
 have hd2:=hd
 obtain ⟨F,hF,_⟩:=hd2
 obtain ⟨b,rfl⟩:=hF.ptr
 exact ⟨b,rfl,h.add hH hd⟩
theorem QNew_none (me:Int) (nk:ByteArray) (n:Int) (w:World) (_hn:(Lit.int .u32 me).wf=true) (_hs:nk.size≤maxLen) (_hk:(Lit.int .i64 n).wf=true) (hm:QueryM.mayNew me nk n=false):Calls Tryz.prog 20 #[.int .u32 me,.string nk,.int .i64 n] w fun e w' => e=.returned (.pointer none)∧Below w.heap.size w w' := by
 have hmy:∀ w,Calls Tryz.prog 57 #[.agg #[.int .u32 me,.int .u32 0,.int .i64 0,.int .i64 n,.bool false,.string nk]] w fun e w' => e=.returned (.bool false)∧Below w.heap.size w w' := fun w=>by
  have := XMay_all (⟨me,0,0,n,false,nk⟩:XIn) w
  rw [qMay,hm] at this
  exact this
 have HMY:=jzD hmy
 have HS1:=jzD (CellW.new w #[.int .u32 me,.int .u32 0,.int .i64 0,.int .i64 n,.bool false,.string nk] 32)
 have c0:(w.alloc (.cells (yA me 0 0 n false nk) 32)).cell? ⟨w.heap.size,0,none⟩=some (.int .u32 me):=cell_at (heap_alloc_new w _) 0 _ rfl
 have c1:(w.alloc (.cells (yA me 0 0 n false nk) 32)).cell? ⟨w.heap.size,1,none⟩=some (.int .u32 0):=cell_at (heap_alloc_new w _) 1 _ rfl
 have c2:(w.alloc (.cells (yA me 0 0 n false nk) 32)).cell? ⟨w.heap.size,2,none⟩=some (.int .i64 0):=cell_at (heap_alloc_new w _) 2 _ rfl
 have c3:(w.alloc (.cells (yA me 0 0 n false nk) 32)).cell? ⟨w.heap.size,3,none⟩=some (.int .i64 n):=cell_at (heap_alloc_new w _) 3 _ rfl
 have c4:(w.alloc (.cells (yA me 0 0 n false nk) 32)).cell? ⟨w.heap.size,4,none⟩=some (.bool false):=cell_at (heap_alloc_new w _) 4 _ rfl
 have c5:(w.alloc (.cells (yA me 0 0 n false nk) 32)).cell? ⟨w.heap.size,5,none⟩=some (.string nk):=cell_at (heap_alloc_new w _) 5 _ rfl
 clear hmy hm
 go_enter Tryz.func20,Tryz.ntmps20
 go_wp2_with (go_at_call 57;((with_reducible refine (dcalls_keep cS HS1.out (HMY.out _)).mono ?_);rintro e w2 ⟨rfl,hs⟩;have HS2:=jzD hs;clear hs))
 go_ret
 exact ⟨rfl,HS2.out.bel⟩
theorem QNew_any (me:Int) (nk:ByteArray) (n:Int) (w:World) (hn:(Lit.int .u32 me).wf=true) (_hs:nk.size≤maxLen) (_hk:(Lit.int .i64 n).wf=true) (hm:QueryM.mayNew me nk n=true):Calls Tryz.prog 20 #[.int .u32 me,.string nk,.int .i64 n] w fun e w' => ∃ v u,e=.returned v∧Done w [] (QueryW v u (QueryM.new me nk n)) w' := by
 have hmy:∀ w,Calls Tryz.prog 57 #[.agg #[.int .u32 me,.int .u32 0,.int .i64 0,.int .i64 n,.bool false,.string nk]] w fun e w' => e=.returned (.bool true)∧Below w.heap.size w w' := fun w=>by
  have := XMay_all (⟨me,0,0,n,false,nk⟩:XIn) w
  rw [qMay,hm] at this
  exact this
 have HMY:=jzD hmy
 have HS1:=jzD (CellW.new w #[.int .u32 me,.int .u32 0,.int .i64 0,.int .i64 n,.bool false,.string nk] 32)
 have c0:(w.alloc (.cells (yA me 0 0 n false nk) 32)).cell? ⟨w.heap.size,0,none⟩=some (.int .u32 me):=cell_at (heap_alloc_new w _) 0 _ rfl
 have c1:(w.alloc (.cells (yA me 0 0 n false nk) 32)).cell? ⟨w.heap.size,1,none⟩=some (.int .u32 0):=cell_at (heap_alloc_new w _) 1 _ rfl
 have c2:(w.alloc (.cells (yA me 0 0 n false nk) 32)).cell? ⟨w.heap.size,2,none⟩=some (.int .i64 0):=cell_at (heap_alloc_new w _) 2 _ rfl
 have c3:(w.alloc (.cells (yA me 0 0 n false nk) 32)).cell? ⟨w.heap.size,3,none⟩=some (.int .i64 n):=cell_at (heap_alloc_new w _) 3 _ rfl
 have c4:(w.alloc (.cells (yA me 0 0 n false nk) 32)).cell? ⟨w.heap.size,4,none⟩=some (.bool false):=cell_at (heap_alloc_new w _) 4 _ rfl
 have c5:(w.alloc (.cells (yA me 0 0 n false nk) 32)).cell? ⟨w.heap.size,5,none⟩=some (.string nk):=cell_at (heap_alloc_new w _) 5 _ rfl
 have hq:=qMay_ok hm
 have HOK:Hid ((⟨me,nk,n,0,LogM.new me⟩:QueryM).ok):=hq.1
 have HCL:=jzD (fun w=>SClone_any nk w (by have := hq.2;omega))
 have HN:=jzD hn
 clear hmy hm hq hn
 go_enter Tryz.func20,Tryz.ntmps20
 go_wp2_with (first
  | (go_at_call 57;((with_reducible refine (dcalls_keep cS HS1.out (HMY.out _)).mono ?_);rintro e w2 ⟨rfl,hs⟩;have HS2:Hid (Done w [] (CellW w.heap.size (yA me 0 0 n false nk) 32) w2):=(by show Done _ _ _ _;exact hs);clear hs))
  | (go_at_call 58;((with_reducible refine (dcalls_keep cS HS2.out (HCL.out _)).mono ?_);rintro e w3 ⟨rfl,hs⟩;have HS3:Hid (Done w [] (CellW w.heap.size (yA me 0 0 n false nk) 32) w3):=(by show Done _ _ _ _;exact hs);clear hs))
  | ((with_reducible refine wpList_storeD (C:=fun X=>X) Fr.id_ HS3.out rfl 9 (.tmp 17) (.tmp 16) rfl 5 (.string nk) rfl rfl (by simp) (run_storeSt _ _ _) ?_);intro w4 hs;have HS4:Hid (Done w [] (CellW w.heap.size (yA me 0 0 n false nk) 32) w4):=(by show Done _ _ _ _;exact hs);clear hs))
 have HSd:=jzD (HS4.out.drewD cS)
 have HEd:Hid ((fun U=>U.heap[w.heap.size]?=some (.cells (yA me 0 0 n false nk) 32 (0,0))) w4.drew):=(Done.at_ (C:=fun X=>X) Fr.id_ HSd.out)
 refine rests_begin (fun U=>U.heap[w.heap.size]?=some (.cells (yA me 0 0 n false nk) 32 (0,0))) (by kernel_rfl) ?_
 refine rests_take 0 (oi:=_) (v:=.agg #[.int .u32 me,.int .u32 0,.int .i64 0,.int .i64 n,.bool false,.string nk]) (by simp only [jzG,jzH,jzI];rfl) (by kernel_rfl) (by kernel_rfl) (by kernel_rfl) (by exact fun _ _ _ h=>h) (HEd.out) (by rfl) (fun W HW=>exec_loadB rfl rfl HW Tryz.underlying32 rfl (by kernel_rfl)) ?_
 simp only [Act.put,jzU,jzV,jzW]
 refine rtk 1 HEd.out ?_
 refine rests_call 2 (oi:=_) (by simp only [jzG,jzH,jzI];rfl) 53 #[.int .u32 me] _ (by kernel_rfl) (by rfl) (by go_simp) (qlog_new HN.out cS HSd.out) ?_
 rintro e w10 ⟨b,rfl,hs⟩;have HS10:=jzD hs;have HE10:Hid ((fun U=>U.heap[w.heap.size]?=some (.cells (yA me 0 0 n false nk) 32 (0,0))) w10):=(Done.at_ (C:=fun X=>Star (X) (LogW (.pointer (some b)) (LogM.new me))) (Fr.l Fr.id_ (LogW.stab _ _)) hs);refine ⟨_,rfl,HE10.out,?_⟩;clear hs
 simp only [Act.put,jzU,jzV,jzW]
 refine rtk 3 HE10.out ?_
 obtain ⟨g11,hg11⟩:∃ g,g=(w10).heap.size:=⟨_,rfl⟩
 have hal11:=CellW.new (w10) #[.int .u32 me,.int .u32 0,.int .i64 0,.int .i64 n,.bool false,.string nk,.int .i64 0,.pointer (some b)] 95
 rw [← hg11] at hal11
 obtain ⟨w11,hw11⟩:∃ wz,wz=(w10).alloc (.cells (yF me 0 0 n false nk 0 (some b)) 95):=⟨_,rfl⟩
 rw [← hw11] at hal11
 have HS11:=jzD (HS10.out.add (cS.star (LogW.stab _ _)) hal11)
 have HE11:Hid ((fun U=>U.heap[w.heap.size]?=some (.cells (yA me 0 0 n false nk) 32 (0,0))) w11):=(Done.at_ (C:=fun X=>Star (Star (X) (LogW (.pointer (some b)) (LogM.new me))) (CellW g11 (yF me 0 0 n false nk 0 (some b)) 95)) (Fr.l (Fr.l Fr.id_ (LogW.stab _ _)) cS) HS11.out)
 refine rests_run 4 (oi:=_) (by simp only [jzG,jzH,jzI];rfl) (by kernel_rfl) (by rfl) (.pointer (some ⟨g11,0,none⟩)) w11 (by rw [hg11,hw11];go_simp) ⟨HE11.out,?_⟩
 clear hg11 hal11 hw11
 simp only [Act.put,jzU,jzV,jzW]
 refine rtk 5 HE11.out ?_
 refine rests_done (by kernel_rfl) ?_
 go_wp2
 go_ret
 refine ⟨_,rfl,.pointer (some b),?_⟩
 have h1:=Done.comm_at (C:=fun X=>X) Fr.id_ HS11.out
 have h2:=Done.comm_at (C:=fun X=>Star (CellW g11 (yF me 0 0 n false nk 0 (some b)) 95) X) (Fr.r cS Fr.id_) h1
 have h3:=Done.unassoc_at (C:=fun X=>X) Fr.id_ h2
 exact h3.drop.mono fun F hF=>QueryW.closed HOK.out hF
end Go.Proofs.YtjddbjmcjhjpiaaGreatDoor
