/- The reference of layer 16: one who asks hears. -/
import Derived.Test.YtjddbjmcjhjpiaaGreatDoorN16J
import Derived.Test.YtjddbjmcjhjpiaaGreatDoorL16xxQueryAll
import Derived.Test.YtjddbjmcjhjpiaaGreatDoorL16sxQueryAll
import Derived.Test.YtjddbjmcjhjpiaaGreatDoorL16txQueryAll
import Derived.Test.YtjddbjmcjhjpiaaGreatDoorL16uxQueryAll
import Derived.Test.YtjddbjmcjhjpiaaGreatDoorL16vxQueryAll
import Derived.Test.YtjddbjmcjhjpiaaGreatDoorL16wxQueryAll

set_option linter.all false

namespace Go.Proofs.YtjddbjmcjhjpiaaGreatDoor
set_option maxRecDepth 100000
set_option maxHeartbeats 16000000
open Go.RowKit M

theorem RLg.up {g k:Nat} {m:LogM} {w:World} {F:List Nat} (h:RLg g m k w F):RLg g m (k + 1) w F:=by
 obtain ⟨sl,sc,cl,h1,h2,h3⟩:=h
 exact ⟨sl,sc,cl,h1,by omega,h3⟩
section
variable {q:QueryM} {x:XIn}
theorem hearQ_no (h:q.open_ x=false):q.hearB x=false∧q.hear x=q:=by
 unfold QueryM.hearB QueryM.hear;rw [h];exact ⟨rfl,rfl⟩
theorem hearQ_yes (h:q.open_ x=true):q.hearB x=q.log.addB x∧q.hear x={ q with log:=q.log.add x }:=by
 unfold QueryM.hearB QueryM.hear;rw [h];exact ⟨rfl,rfl⟩
end
theorem RQHear_any (g gl k:Nat) (q:QueryM) (F:List Nat) (xf xt xs xn:Int) (xa:Bool) (xk:ByteArray) (w0:World) (h:RQy g gl q k w0 F) (hsl:0≤q.slots∧q.slots≤8) (hca:0≤q.calls∧q.calls≤1000) (hl:q.log.l.length≤16) (hk:k≤900) (hxk:xk.size≤1000000):Calls Tryz.prog 24 #[.pointer (some ⟨g,0,none⟩),.agg #[.int .u32 xf,.int .u32 xt,.int .i64 xs,.int .i64 xn,.bool xa,.string xk]] w0 fun e w' => e=.returned (.bool (q.hearB (⟨xf,xt,xs,xn,xa,xk⟩:XIn)))∧Done w0 F (RQy g gl (q.hear (⟨xf,xt,xs,xn,xa,xk⟩:XIn)) (k + 1)) w' := by
 obtain ⟨me,nk,n,c,lg⟩:=q
 have hro:=fun w F1 h=>ROver_any g gl (⟨me,nk,n,c,lg⟩:QueryM) w F1 h hsl hca
 have had:=fun w F1 h=>RLAdd_any gl k lg F1 xf xt xs xn xa xk w h hl hk hxk
 replace h:Done w0 F (Star (RLg gl lg k) (CellW g (yH me nk n c (some ⟨gl,0,none⟩)) 42)) w0:=Done.start h
 have HS0:Hid (Done w0 F (Star (Star (RLg gl lg k) (CellW g (yH me nk n c (some ⟨gl,0,none⟩)) 42)) (CellW w0.heap.size (yA xf xt xs xn xa xk) 32)) (w0.alloc (.cells (yA xf xt xs xn xa xk) 32))):=h.add ((RLg.stab _ _ _).star cS) (CellW.new w0 #[.int .u32 xf,.int .u32 xt,.int .i64 xs,.int .i64 xn,.bool xa,.string xk] 32)
 clear h hsl hca hl hk hxk
 rcases hov:(⟨me,nk,n,c,lg⟩:QueryM).over with _ | _
 · by_cases hc:0 < c
   · have t1:decide (0 < c)=true:=decide_eq_true hc
     by_cases hm:xt=me
     · have t2:(xt == me)=true:=beq_iff_eq.2 hm
       have HH:=jzD (hearQ_yes (q:=(⟨me,nk,n,c,lg⟩:QueryM)) (x:=(⟨xf,xt,xs,xn,xa,xk⟩:XIn)) (by unfold QueryM.open_;rw [hov];simp [hc,hm]))
       rw [hov] at hro
       have HOV:=jzD hro
       have HAD:=jzD had
       clear hov hro had hc hm
       go_enter Tryz.func24,Tryz.ntmps24
       go_wp2
       have HSd:=jzD (HS0.out.drewD (((RLg.stab _ _ _).star cS).star cS))
       have HEd:Hid ((fun U=>U.heap[g]?=some (.cells (yH me nk n c (some ⟨gl,0,none⟩)) 42 (0,0))∧U.heap[w0.heap.size]?=some (.cells (yA xf xt xs xn xa xk) 32 (0,0))) (w0.alloc (.cells (yA xf xt xs xn xa xk) 32)).drew):=⟨(Done.at_ (C:=fun X=>Star (Star (RLg gl lg k) X) (CellW w0.heap.size (yA xf xt xs xn xa xk) 32)) (Fr.l (Fr.r (RLg.stab _ _ _) Fr.id_) cS) HSd.out),(Done.at_ (C:=fun X=>Star (Star (RLg gl lg k) (CellW g (yH me nk n c (some ⟨gl,0,none⟩)) 42)) X) (Fr.r ((RLg.stab _ _ _).star cS) Fr.id_) HSd.out)⟩
       refine rests_begin (fun U=>U.heap[g]?=some (.cells (yH me nk n c (some ⟨gl,0,none⟩)) 42 (0,0))∧U.heap[w0.heap.size]?=some (.cells (yA xf xt xs xn xa xk) 32 (0,0))) (by kernel_rfl) ?_
       refine rtk 0 HEd.out ?_
       refine rests_call 1 (oi:=_) (by simp only [jzG,jzH,jzI];rfl) 26 #[.pointer (some ⟨g,0,none⟩)] _ (by kernel_rfl) (by rfl) (by go_simp) ((Done.get (C:=fun X=>Star (Star (RLg gl lg k) X) (CellW w0.heap.size (yA xf xt xs xn xa xk) 32)) (Fr.l (Fr.r (RLg.stab _ _ _) Fr.id_) cS) HSd.out).elim fun F1 h=>dcalls_keep (((RLg.stab _ _ _).star cS).star cS) HSd.out (HOV.out _ F1 h)) ?_
       rintro e w10 ⟨rfl,hs⟩;have HS10:=jzD hs;have HE10:Hid ((fun U=>U.heap[g]?=some (.cells (yH me nk n c (some ⟨gl,0,none⟩)) 42 (0,0))∧U.heap[w0.heap.size]?=some (.cells (yA xf xt xs xn xa xk) 32 (0,0))) w10):=⟨(Done.at_ (C:=fun X=>Star (Star (RLg gl lg k) X) (CellW w0.heap.size (yA xf xt xs xn xa xk) 32)) (Fr.l (Fr.r (RLg.stab _ _ _) Fr.id_) cS) hs),(Done.at_ (C:=fun X=>Star (Star (RLg gl lg k) (CellW g (yH me nk n c (some ⟨gl,0,none⟩)) 42)) X) (Fr.r ((RLg.stab _ _ _).star cS) Fr.id_) hs)⟩;refine ⟨_,rfl,HE10.out,?_⟩;clear hs
       simp only [Act.put,jzU,jzV,jzW]
       refine rtk 2 HE10.out ?_
       refine rtk 3 HE10.out ?_
       refine rtk 4 HE10.out ?_
       refine rtk 5 HE10.out ?_
       refine rtk 6 HE10.out ?_
       refine rtk 7 HE10.out ?_ (hy:=by intro W HW;have cw:W.cell? ⟨g,3,none⟩=some (.int .i64 c):=cell_at HW.1 3 _ rfl;go_simp;try with_reducible rfl)
       refine rtk 8 HE10.out ?_
       refine rtk 9 HE10.out ?_
       refine rtk 10 HE10.out ?_
       refine rtk 11 HE10.out ?_
       refine rtk 12 HE10.out ?_ (hy:=by intro W HW;have cw:W.cell? ⟨w0.heap.size,1,none⟩=some (.int .u32 xt):=cell_at HW.2 1 _ rfl;go_simp;try with_reducible rfl)
       refine rtk 13 HE10.out ?_
       refine rtk 14 HE10.out ?_
       refine rtk 15 HE10.out ?_
       refine rtk 16 HE10.out ?_ (hy:=by intro W HW;have cw:W.cell? ⟨g,0,none⟩=some (.int .u32 me):=cell_at HW.1 0 _ rfl;go_simp;try with_reducible rfl)
       refine rtk 17 HE10.out ?_
       refine rtk 18 HE10.out ?_
       refine rtk 19 HE10.out ?_
       refine rtk 20 HE10.out ?_
       refine rtk 21 HE10.out ?_
       refine rtk 22 HE10.out ?_
       refine rtk 23 HE10.out ?_ (hy:=by intro W HW;have cw:W.cell? ⟨g,4,none⟩=some (.pointer (some ⟨gl,0,none⟩)):=cell_at HW.1 4 _ rfl;go_simp;try with_reducible rfl)
       refine rests_take 24 (oi:=_) (v:=.agg #[.int .u32 xf,.int .u32 xt,.int .i64 xs,.int .i64 xn,.bool xa,.string xk]) (by simp only [jzG,jzH,jzI];rfl) (by kernel_rfl) (by kernel_rfl) (by kernel_rfl) (by exact fun _ _ _ h=>h) (HE10.out) (by rfl) (fun W HW=>exec_loadB rfl rfl HW.2 Tryz.underlying32 rfl (by kernel_rfl)) ?_
       simp only [Act.put,jzU,jzV,jzW]
       refine rests_call 25 (oi:=_) (by simp only [jzG,jzH,jzI];rfl) 59 #[.pointer (some ⟨gl,0,none⟩),.agg #[.int .u32 xf,.int .u32 xt,.int .i64 xs,.int .i64 xn,.bool xa,.string xk]] _ (by kernel_rfl) (by rfl) (by go_simp) (dcalls_at (C:=fun X=>Star (Star (X) (CellW g (yH me nk n c (some ⟨gl,0,none⟩)) 42)) (CellW w0.heap.size (yA xf xt xs xn xa xk) 32)) (Fr.l (Fr.l Fr.id_ cS) cS) HS10.out (fun F1 h=>HAD.out _ F1 h)) ?_
       rintro e w11 ⟨rfl,hs⟩;have HS11:=jzD hs;have HE11:Hid ((fun U=>U.heap[g]?=some (.cells (yH me nk n c (some ⟨gl,0,none⟩)) 42 (0,0))∧U.heap[w0.heap.size]?=some (.cells (yA xf xt xs xn xa xk) 32 (0,0))) w11):=⟨(Done.at_ (C:=fun X=>Star (Star (RLg gl (LogM.add lg (⟨xf,xt,xs,xn,xa,xk⟩:XIn)) (k + 1)) X) (CellW w0.heap.size (yA xf xt xs xn xa xk) 32)) (Fr.l (Fr.r (RLg.stab _ _ _) Fr.id_) cS) hs),(Done.at_ (C:=fun X=>Star (Star (RLg gl (LogM.add lg (⟨xf,xt,xs,xn,xa,xk⟩:XIn)) (k + 1)) (CellW g (yH me nk n c (some ⟨gl,0,none⟩)) 42)) X) (Fr.r ((RLg.stab _ _ _).star cS) Fr.id_) hs)⟩;refine ⟨_,rfl,HE11.out,?_⟩;clear hs
       simp only [Act.put,jzU,jzV,jzW]
       refine rtk 26 HE11.out ?_
       refine rtk 27 HE11.out ?_
       refine rests_done (by kernel_rfl) ?_
       go_wp2
       go_ret
       exact ⟨by rw [HH.out.1] <;> first | rfl | (simp;done),by rw [HH.out.2];exact HS11.out.drop⟩
     · have t2:(xt == me)=false:=beq_eq_false_iff_ne.2 hm
       have HH:=jzD (hearQ_no (q:=(⟨me,nk,n,c,lg⟩:QueryM)) (x:=(⟨xf,xt,xs,xn,xa,xk⟩:XIn)) (by unfold QueryM.open_;rw [hov];simp [hm]))
       rw [hov] at hro
       have HOV:=jzD hro
       have HAD:=jzD had
       clear hov hro had hc hm
       go_enter Tryz.func24,Tryz.ntmps24
       go_wp2
       have HSd:=jzD (HS0.out.drewD (((RLg.stab _ _ _).star cS).star cS))
       have HEd:Hid ((fun U=>U.heap[g]?=some (.cells (yH me nk n c (some ⟨gl,0,none⟩)) 42 (0,0))∧U.heap[w0.heap.size]?=some (.cells (yA xf xt xs xn xa xk) 32 (0,0))) (w0.alloc (.cells (yA xf xt xs xn xa xk) 32)).drew):=⟨(Done.at_ (C:=fun X=>Star (Star (RLg gl lg k) X) (CellW w0.heap.size (yA xf xt xs xn xa xk) 32)) (Fr.l (Fr.r (RLg.stab _ _ _) Fr.id_) cS) HSd.out),(Done.at_ (C:=fun X=>Star (Star (RLg gl lg k) (CellW g (yH me nk n c (some ⟨gl,0,none⟩)) 42)) X) (Fr.r ((RLg.stab _ _ _).star cS) Fr.id_) HSd.out)⟩
       refine rests_begin (fun U=>U.heap[g]?=some (.cells (yH me nk n c (some ⟨gl,0,none⟩)) 42 (0,0))∧U.heap[w0.heap.size]?=some (.cells (yA xf xt xs xn xa xk) 32 (0,0))) (by kernel_rfl) ?_
       refine rtk 0 HEd.out ?_
       refine rests_call 1 (oi:=_) (by simp only [jzG,jzH,jzI];rfl) 26 #[.pointer (some ⟨g,0,none⟩)] _ (by kernel_rfl) (by rfl) (by go_simp) ((Done.get (C:=fun X=>Star (Star (RLg gl lg k) X) (CellW w0.heap.size (yA xf xt xs xn xa xk) 32)) (Fr.l (Fr.r (RLg.stab _ _ _) Fr.id_) cS) HSd.out).elim fun F1 h=>dcalls_keep (((RLg.stab _ _ _).star cS).star cS) HSd.out (HOV.out _ F1 h)) ?_
       rintro e w10 ⟨rfl,hs⟩;have HS10:=jzD hs;have HE10:Hid ((fun U=>U.heap[g]?=some (.cells (yH me nk n c (some ⟨gl,0,none⟩)) 42 (0,0))∧U.heap[w0.heap.size]?=some (.cells (yA xf xt xs xn xa xk) 32 (0,0))) w10):=⟨(Done.at_ (C:=fun X=>Star (Star (RLg gl lg k) X) (CellW w0.heap.size (yA xf xt xs xn xa xk) 32)) (Fr.l (Fr.r (RLg.stab _ _ _) Fr.id_) cS) hs),(Done.at_ (C:=fun X=>Star (Star (RLg gl lg k) (CellW g (yH me nk n c (some ⟨gl,0,none⟩)) 42)) X) (Fr.r ((RLg.stab _ _ _).star cS) Fr.id_) hs)⟩;refine ⟨_,rfl,HE10.out,?_⟩;clear hs
       simp only [Act.put,jzU,jzV,jzW]
       refine rtk 2 HE10.out ?_
       refine rtk 3 HE10.out ?_
       refine rtk 4 HE10.out ?_
       refine rtk 5 HE10.out ?_
       refine rtk 6 HE10.out ?_
       refine rtk 7 HE10.out ?_ (hy:=by intro W HW;have cw:W.cell? ⟨g,3,none⟩=some (.int .i64 c):=cell_at HW.1 3 _ rfl;go_simp;try with_reducible rfl)
       refine rtk 8 HE10.out ?_
       refine rtk 9 HE10.out ?_
       refine rtk 10 HE10.out ?_
       refine rtk 11 HE10.out ?_
       refine rtk 12 HE10.out ?_ (hy:=by intro W HW;have cw:W.cell? ⟨w0.heap.size,1,none⟩=some (.int .u32 xt):=cell_at HW.2 1 _ rfl;go_simp;try with_reducible rfl)
       refine rtk 13 HE10.out ?_
       refine rtk 14 HE10.out ?_
       refine rtk 15 HE10.out ?_
       refine rtk 16 HE10.out ?_ (hy:=by intro W HW;have cw:W.cell? ⟨g,0,none⟩=some (.int .u32 me):=cell_at HW.1 0 _ rfl;go_simp;try with_reducible rfl)
       refine rtk 17 HE10.out ?_
       refine rtk 18 HE10.out ?_
       refine rtk 19 HE10.out ?_
       refine rsk 20 HE10.out ?_
       refine rsk 21 HE10.out ?_
       refine rsk 22 HE10.out ?_
       refine rsk 23 HE10.out ?_
       refine rsk 24 HE10.out ?_
       refine rsk 25 HE10.out ?_
       refine rtk 26 HE10.out ?_
       refine rtk 27 HE10.out ?_
       refine rests_done (by kernel_rfl) ?_
       go_wp2
       go_ret
       exact ⟨by rw [HH.out.1] <;> first | rfl | (simp;done),by rw [HH.out.2];exact Done.mono_at (C:=fun X=>Star X (CellW g (yH me nk n c (some ⟨gl,0,none⟩)) 42)) (Fr.l Fr.id_ cS) HS10.out.drop (fun F hF=>RLg.up hF)⟩
   · have t1:decide (0 < c)=false:=decide_eq_false hc
     have HH:=jzD (hearQ_no (q:=(⟨me,nk,n,c,lg⟩:QueryM)) (x:=(⟨xf,xt,xs,xn,xa,xk⟩:XIn)) (by unfold QueryM.open_;rw [hov];simp [hc]))
     rw [hov] at hro
     have HOV:=jzD hro
     have HAD:=jzD had
     clear hov hro had hc
     go_enter Tryz.func24,Tryz.ntmps24
     go_wp2
     have HSd:=jzD (HS0.out.drewD (((RLg.stab _ _ _).star cS).star cS))
     have HEd:Hid ((fun U=>U.heap[g]?=some (.cells (yH me nk n c (some ⟨gl,0,none⟩)) 42 (0,0))∧U.heap[w0.heap.size]?=some (.cells (yA xf xt xs xn xa xk) 32 (0,0))) (w0.alloc (.cells (yA xf xt xs xn xa xk) 32)).drew):=⟨(Done.at_ (C:=fun X=>Star (Star (RLg gl lg k) X) (CellW w0.heap.size (yA xf xt xs xn xa xk) 32)) (Fr.l (Fr.r (RLg.stab _ _ _) Fr.id_) cS) HSd.out),(Done.at_ (C:=fun X=>Star (Star (RLg gl lg k) (CellW g (yH me nk n c (some ⟨gl,0,none⟩)) 42)) X) (Fr.r ((RLg.stab _ _ _).star cS) Fr.id_) HSd.out)⟩
     refine rests_begin (fun U=>U.heap[g]?=some (.cells (yH me nk n c (some ⟨gl,0,none⟩)) 42 (0,0))∧U.heap[w0.heap.size]?=some (.cells (yA xf xt xs xn xa xk) 32 (0,0))) (by kernel_rfl) ?_
     refine rtk 0 HEd.out ?_
     refine rests_call 1 (oi:=_) (by simp only [jzG,jzH,jzI];rfl) 26 #[.pointer (some ⟨g,0,none⟩)] _ (by kernel_rfl) (by rfl) (by go_simp) ((Done.get (C:=fun X=>Star (Star (RLg gl lg k) X) (CellW w0.heap.size (yA xf xt xs xn xa xk) 32)) (Fr.l (Fr.r (RLg.stab _ _ _) Fr.id_) cS) HSd.out).elim fun F1 h=>dcalls_keep (((RLg.stab _ _ _).star cS).star cS) HSd.out (HOV.out _ F1 h)) ?_
     rintro e w10 ⟨rfl,hs⟩;have HS10:=jzD hs;have HE10:Hid ((fun U=>U.heap[g]?=some (.cells (yH me nk n c (some ⟨gl,0,none⟩)) 42 (0,0))∧U.heap[w0.heap.size]?=some (.cells (yA xf xt xs xn xa xk) 32 (0,0))) w10):=⟨(Done.at_ (C:=fun X=>Star (Star (RLg gl lg k) X) (CellW w0.heap.size (yA xf xt xs xn xa xk) 32)) (Fr.l (Fr.r (RLg.stab _ _ _) Fr.id_) cS) hs),(Done.at_ (C:=fun X=>Star (Star (RLg gl lg k) (CellW g (yH me nk n c (some ⟨gl,0,none⟩)) 42)) X) (Fr.r ((RLg.stab _ _ _).star cS) Fr.id_) hs)⟩;refine ⟨_,rfl,HE10.out,?_⟩;clear hs
     simp only [Act.put,jzU,jzV,jzW]
     refine rtk 2 HE10.out ?_
     refine rtk 3 HE10.out ?_
     refine rtk 4 HE10.out ?_
     refine rtk 5 HE10.out ?_
     refine rtk 6 HE10.out ?_
     refine rtk 7 HE10.out ?_ (hy:=by intro W HW;have cw:W.cell? ⟨g,3,none⟩=some (.int .i64 c):=cell_at HW.1 3 _ rfl;go_simp;try with_reducible rfl)
     refine rtk 8 HE10.out ?_
     refine rtk 9 HE10.out ?_
     refine rtk 10 HE10.out ?_
     refine rsk 11 HE10.out ?_
     refine rsk 12 HE10.out ?_
     refine rsk 13 HE10.out ?_
     refine rsk 14 HE10.out ?_
     refine rsk 15 HE10.out ?_
     refine rsk 16 HE10.out ?_
     refine rsk 17 HE10.out ?_
     refine rtk 18 HE10.out ?_
     refine rtk 19 HE10.out ?_
     refine rsk 20 HE10.out ?_
     refine rsk 21 HE10.out ?_
     refine rsk 22 HE10.out ?_
     refine rsk 23 HE10.out ?_
     refine rsk 24 HE10.out ?_
     refine rsk 25 HE10.out ?_
     refine rtk 26 HE10.out ?_
     refine rtk 27 HE10.out ?_
     refine rests_done (by kernel_rfl) ?_
     go_wp2
     go_ret
     exact ⟨by rw [HH.out.1] <;> first | rfl | (simp;done),by rw [HH.out.2];exact Done.mono_at (C:=fun X=>Star X (CellW g (yH me nk n c (some ⟨gl,0,none⟩)) 42)) (Fr.l Fr.id_ cS) HS10.out.drop (fun F hF=>RLg.up hF)⟩
 · skip
   have HH:=jzD (hearQ_no (q:=(⟨me,nk,n,c,lg⟩:QueryM)) (x:=(⟨xf,xt,xs,xn,xa,xk⟩:XIn)) (by unfold QueryM.open_;rw [hov];simp []))
   rw [hov] at hro
   have HOV:=jzD hro
   have HAD:=jzD had
   clear hov hro had
   go_enter Tryz.func24,Tryz.ntmps24
   go_wp2
   have HSd:=jzD (HS0.out.drewD (((RLg.stab _ _ _).star cS).star cS))
   have HEd:Hid ((fun U=>U.heap[g]?=some (.cells (yH me nk n c (some ⟨gl,0,none⟩)) 42 (0,0))∧U.heap[w0.heap.size]?=some (.cells (yA xf xt xs xn xa xk) 32 (0,0))) (w0.alloc (.cells (yA xf xt xs xn xa xk) 32)).drew):=⟨(Done.at_ (C:=fun X=>Star (Star (RLg gl lg k) X) (CellW w0.heap.size (yA xf xt xs xn xa xk) 32)) (Fr.l (Fr.r (RLg.stab _ _ _) Fr.id_) cS) HSd.out),(Done.at_ (C:=fun X=>Star (Star (RLg gl lg k) (CellW g (yH me nk n c (some ⟨gl,0,none⟩)) 42)) X) (Fr.r ((RLg.stab _ _ _).star cS) Fr.id_) HSd.out)⟩
   refine rests_begin (fun U=>U.heap[g]?=some (.cells (yH me nk n c (some ⟨gl,0,none⟩)) 42 (0,0))∧U.heap[w0.heap.size]?=some (.cells (yA xf xt xs xn xa xk) 32 (0,0))) (by kernel_rfl) ?_
   refine rtk 0 HEd.out ?_
   refine rests_call 1 (oi:=_) (by simp only [jzG,jzH,jzI];rfl) 26 #[.pointer (some ⟨g,0,none⟩)] _ (by kernel_rfl) (by rfl) (by go_simp) ((Done.get (C:=fun X=>Star (Star (RLg gl lg k) X) (CellW w0.heap.size (yA xf xt xs xn xa xk) 32)) (Fr.l (Fr.r (RLg.stab _ _ _) Fr.id_) cS) HSd.out).elim fun F1 h=>dcalls_keep (((RLg.stab _ _ _).star cS).star cS) HSd.out (HOV.out _ F1 h)) ?_
   rintro e w10 ⟨rfl,hs⟩;have HS10:=jzD hs;have HE10:Hid ((fun U=>U.heap[g]?=some (.cells (yH me nk n c (some ⟨gl,0,none⟩)) 42 (0,0))∧U.heap[w0.heap.size]?=some (.cells (yA xf xt xs xn xa xk) 32 (0,0))) w10):=⟨(Done.at_ (C:=fun X=>Star (Star (RLg gl lg k) X) (CellW w0.heap.size (yA xf xt xs xn xa xk) 32)) (Fr.l (Fr.r (RLg.stab _ _ _) Fr.id_) cS) hs),(Done.at_ (C:=fun X=>Star (Star (RLg gl lg k) (CellW g (yH me nk n c (some ⟨gl,0,none⟩)) 42)) X) (Fr.r ((RLg.stab _ _ _).star cS) Fr.id_) hs)⟩;refine ⟨_,rfl,HE10.out,?_⟩;clear hs
   simp only [Act.put,jzU,jzV,jzW]
   refine rtk 2 HE10.out ?_
   refine rtk 3 HE10.out ?_
   refine rsk 4 HE10.out ?_
   refine rsk 5 HE10.out ?_
   refine rsk 6 HE10.out ?_
   refine rsk 7 HE10.out ?_
   refine rsk 8 HE10.out ?_
   refine rtk 9 HE10.out ?_
   refine rtk 10 HE10.out ?_
   refine rsk 11 HE10.out ?_
   refine rsk 12 HE10.out ?_
   refine rsk 13 HE10.out ?_
   refine rsk 14 HE10.out ?_
   refine rsk 15 HE10.out ?_
   refine rsk 16 HE10.out ?_
   refine rsk 17 HE10.out ?_
   refine rtk 18 HE10.out ?_
   refine rtk 19 HE10.out ?_
   refine rsk 20 HE10.out ?_
   refine rsk 21 HE10.out ?_
   refine rsk 22 HE10.out ?_
   refine rsk 23 HE10.out ?_
   refine rsk 24 HE10.out ?_
   refine rsk 25 HE10.out ?_
   refine rtk 26 HE10.out ?_
   refine rtk 27 HE10.out ?_
   refine rests_done (by kernel_rfl) ?_
   go_wp2
   go_ret
   exact ⟨by rw [HH.out.1] <;> first | rfl | (simp;done),by rw [HH.out.2];exact Done.mono_at (C:=fun X=>Star X (CellW g (yH me nk n c (some ⟨gl,0,none⟩)) 42)) (Fr.l Fr.id_ cS) HS10.out.drop (fun F hF=>RLg.up hF)⟩
end Go.Proofs.YtjddbjmcjhjpiaaGreatDoor
