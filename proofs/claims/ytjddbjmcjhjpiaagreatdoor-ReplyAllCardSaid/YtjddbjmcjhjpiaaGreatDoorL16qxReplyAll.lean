/- The reference of layer 16: one who answers. -/
import Derived.Test.YtjddbjmcjhjpiaaGreatDoorN16J
import Derived.Test.YtjddbjmcjhjpiaaGreatDoorN16C
import Derived.Deep.DeepCutAuto
import Derived.Deep.CutBlock

set_option linter.all false

namespace Go.Proofs.YtjddbjmcjhjpiaaGreatDoor
set_option maxRecDepth 100000
set_option maxHeartbeats 32000000
open Go.RowKit M

theorem RdU.tchU {w w' : World} {v:Value} {l:List Int} {F:List Nat} (h:RdU w v l) (ht:Tch F w w') (hd:0 < l.length→Dis (blk v) F):RdU w' v l:=by
 obtain ⟨A,cap,rfl,h1,h2,h3,h4⟩:=h
 refine ⟨A,cap,rfl,h1,h2,h3,fun h0=>?_⟩
 obtain ⟨b,off,rfl,hlt,hc⟩:=h4 h0
 exact ⟨b,off,rfl,Nat.lt_of_lt_of_le hlt ht.size,fun j hj=>ht.cell (p:=⟨b,off + j,none⟩) (hc j hj) (hd h0 b (by simp [blk]))⟩
theorem u32_pos {n:Int} (h:u32 n):0≤n∧n < 4294967296:=h
theorem RRHear_any (g:Nat) (id ra rn rk:Int) (nk:ByteArray) (rd:Bool) (F:List Nat) (xf xt xs xn:Int) (xa:Bool) (xk:ByteArray) (v:Value) (l:List Int) (w0:World) (h:CellW g (yD id nk rd ra rn rk) 55 w0 F) (hx:XIn.ok (⟨xf,xt,xs,xn,xa,xk⟩:XIn)) (hxk:xk.size≤1000000) (hidu:u32 id) (hd:RdU w0 v l) (hl:l.length≤1000) (hdis:0 < l.length→Dis (blk v) F) :
 Calls Tryz.prog 40 #[.pointer (some ⟨g,0,none⟩),.agg #[.int .u32 xf,.int .u32 xt,.int .i64 xs,.int .i64 xn,.bool xa,.string xk],v] w0 fun e w' => e=.returned (.tuple #[(ReplyM.xid (⟨id,nk,rndR rd ra rn rk⟩:ReplyM) (⟨xf,xt,xs,xn,xa,xk⟩:XIn) l).val,.int .i64 (ReplyM.used (⟨id,nk,rndR rd ra rn rk⟩:ReplyM) (⟨xf,xt,xs,xn,xa,xk⟩:XIn) l),.bool (ReplyM.says (⟨id,nk,rndR rd ra rn rk⟩:ReplyM) (⟨xf,xt,xs,xn,xa,xk⟩:XIn) l)])∧Done w0 F (RRp g (ReplyM.hear (⟨id,nk,rndR rd ra rn rk⟩:ReplyM) (⟨xf,xt,xs,xn,xa,xk⟩:XIn) l)) w' := by
 have hv0:=hd
 obtain ⟨A,cap,rfl,-,-,hlu,-⟩:=hv0
 obtain ⟨L,hL⟩:∃ L,L=l.length:=⟨_,rfl⟩
 rw [← hL] at hd hdis ⊢
 have HL:=jzD hL
 have HD:=jzD hd
 have HL1:=jzD hl
 have HLU:=jzD hlu
 have HXK:=jzD hxk
 have HIU:=jzD hidu
 have HDIS:=jzD hdis
 have hs0:Done w0 F (Star (Star (CellW g (yD id nk rd ra rn rk) 55) (CellW w0.heap.size (yA xf xt xs xn xa xk) 32)) (CellW (w0.heap.size + 1) (yA 0 0 0 0 false ⟨#[]⟩) 32)) ((w0.alloc (.cells (yA xf xt xs xn xa xk) 32)).alloc (.cells (yA 0 0 0 0 false ⟨#[]⟩) 32)):=by
  have h1:=CellW.new w0 #[.int .u32 xf,.int .u32 xt,.int .i64 xs,.int .i64 xn,.bool xa,.string xk] 32
  have h2:=CellW.new (w0.alloc (.cells (yA xf xt xs xn xa xk) 32)) #[.int .u32 0,.int .u32 0,.int .i64 0,.int .i64 0,.bool false,.string ⟨#[]⟩] 32
  rw [show (w0.alloc (.cells (yA xf xt xs xn xa xk) 32)).heap.size=w0.heap.size + 1 by simp only [World.alloc,Array.size_push]] at h2
  exact ((Done.start h).add cS h1).add (cS.star cS) h2
 have HS0:=jzD hs0
 have hmx:=fun w=>RMayX_any (⟨xf,xt,xs,xn,xa,xk⟩:XIn) w hxk
 clear hs0 h hx hd hl hlu hxk hL hidu hdis
 rcases hm:mayX (XIn.xd (⟨xf,xt,xs,xn,xa,xk⟩:XIn)) with _ | _
 · rw [hm] at hmx
   have HMX:=jzD hmx
   have HH:=jzD (hear_no (r:=(⟨id,nk,rndR rd ra rn rk⟩:ReplyM)) (x:=(⟨xf,xt,xs,xn,xa,xk⟩:XIn)) (l:=l) hm)
   clear hm hmx
   go_enter Tryz.func40,Tryz.ntmps40
   skip
   go_wp2_with (first
    | (with_reducible refine wpList_loadD (C:=fun X=>Star (Star (CellW g (yD id nk rd ra rn rk) 55) X) (CellW (w0.heap.size + 1) (yA 0 0 0 0 false ⟨#[]⟩) 32)) (Fr.l (Fr.r cS Fr.id_) cS) HS0.out rfl 32 (.tmp 4) rfl rfl _ Tryz.underlying32 rfl (by kernel_rfl) ?_)
    | (go_at_call 38;((with_reducible refine (dcalls_keep ((cS.star cS).star cS) HS0.out (HMX.out _)).mono ?_);rintro e w1 ⟨rfl,hs⟩;have HSw1:=jzD hs;clear hs))
    | ((with_reducible refine wpList_storeBD (C:=fun X=>Star (Star (CellW g (yD id nk rd ra rn rk) 55) (CellW w0.heap.size (yA xf xt xs xn xa xk) 32)) X) (Fr.r (cS.star cS) Fr.id_) HSw1.out rfl 32 (.tmp 6) (.tmp 15) rfl #[.int .u32 0,.int .u32 0,.int .i64 0,.int .i64 0,.bool false,.string ⟨#[]⟩] rfl rfl (by kernel_rfl) rfl (by simp [Value.oneCell']) ?_);intro wz hs;have HSwz:Hid (Done w0 F (Star (Star (CellW g (yD id nk rd ra rn rk) 55) (CellW w0.heap.size (yA xf xt xs xn xa xk) 32)) (CellW (w0.heap.size + 1) (yA 0 0 0 0 false ⟨#[]⟩) 32)) wz):=(by show Done _ _ _ _;exact hs);clear hs))
   exact ⟨rfl,_,results_cell3 rfl _ _ (w0.heap.size + 1) _ _ _ _ (.int .i64 0) (.bool false) rfl rfl rfl (Done.at_ (C:=fun X=>Star (Star (CellW g (yD id nk rd ra rn rk) 55) (CellW w0.heap.size (yA xf xt xs xn xa xk) 32)) X) (Fr.r (cS.star cS) Fr.id_) HSwz.out) Tryz.underlying32 rfl (by kernel_rfl),by rw [HH.out.1,HH.out.2.1,HH.out.2.2.1] <;> rfl,by rw [HH.out.2.2.2];exact HSwz.out.drop.drop.mono fun F hF=>⟨rd,ra,rn,rk,rfl,hF⟩⟩
 · rw [hm] at hmx
   have HMX:=jzD hmx
   clear hmx
   rcases hw:xa with _ | _
   · subst hw
     by_cases ht:xt=0
     · subst ht
       by_cases hz:xs=-1
       · subst hz
         have HH:=jzD (hear_end (r:=(⟨id,nk,rndR rd ra rn rk⟩:ReplyM)) (x:=(⟨xf,0,-1,xn,false,xk⟩:XIn)) (l:=l) hm rfl rfl rfl)
         clear hm
         go_enter Tryz.func40,Tryz.ntmps40
         skip
         go_wp2_with (first
          | (with_reducible refine wpList_loadD (C:=fun X=>Star (Star (CellW g (yD id nk rd ra rn rk) 55) X) (CellW (w0.heap.size + 1) (yA 0 0 0 0 false ⟨#[]⟩) 32)) (Fr.l (Fr.r cS Fr.id_) cS) HS0.out rfl 32 (.tmp 4) rfl rfl _ Tryz.underlying32 rfl (by kernel_rfl) ?_)
          | (go_at_call 38;((with_reducible refine (dcalls_keep ((cS.star cS).star cS) HS0.out (HMX.out _)).mono ?_);rintro e w1 ⟨rfl,hs⟩;have HSw1:=jzD hs;have x4:w1.cell? ⟨w0.heap.size,4,none⟩=some (.bool false):=cell_at (Done.at_ (C:=fun X=>Star (Star (CellW g (yD id nk rd ra rn rk) 55) X) (CellW (w0.heap.size + 1) (yA 0 0 0 0 false ⟨#[]⟩) 32)) (Fr.l (Fr.r cS Fr.id_) cS) hs) 4 _ rfl;have x1:w1.cell? ⟨w0.heap.size,1,none⟩=some (.int .u32 0):=cell_at (Done.at_ (C:=fun X=>Star (Star (CellW g (yD id nk rd ra rn rk) 55) X) (CellW (w0.heap.size + 1) (yA 0 0 0 0 false ⟨#[]⟩) 32)) (Fr.l (Fr.r cS Fr.id_) cS) hs) 1 _ rfl;have x2:w1.cell? ⟨w0.heap.size,2,none⟩=some (.int .i64 (-1)):=cell_at (Done.at_ (C:=fun X=>Star (Star (CellW g (yD id nk rd ra rn rk) 55) X) (CellW (w0.heap.size + 1) (yA 0 0 0 0 false ⟨#[]⟩) 32)) (Fr.l (Fr.r cS Fr.id_) cS) hs) 2 _ rfl;clear hs))
          | ((with_reducible refine wpList_storeD (C:=fun X=>Star (Star (X) (CellW w0.heap.size (yA xf 0 (-1) xn false xk) 32)) (CellW (w0.heap.size + 1) (yA 0 0 0 0 false ⟨#[]⟩) 32)) (Fr.l (Fr.l Fr.id_ cS) cS) HSw1.out rfl 4 (.tmp 51) (.const (.bool false)) rfl 2 (.bool false) rfl rfl (by simp) (run_storeBo _ _ _) ?_);intro w2 hs;have HSw2:Hid (Done w0 F (Star (Star (CellW g (yD id nk false ra rn rk) 55) (CellW w0.heap.size (yA xf 0 (-1) xn false xk) 32)) (CellW (w0.heap.size + 1) (yA 0 0 0 0 false ⟨#[]⟩) 32)) w2):=(by show Done _ _ _ _;exact hs);clear hs)
          | ((with_reducible refine wpList_storeBD (C:=fun X=>Star (Star (CellW g (yD id nk false ra rn rk) 55) (CellW w0.heap.size (yA xf 0 (-1) xn false xk) 32)) X) (Fr.r (cS.star cS) Fr.id_) HSw2.out rfl 32 (.tmp 6) (.tmp 52) rfl #[.int .u32 0,.int .u32 0,.int .i64 0,.int .i64 0,.bool false,.string ⟨#[]⟩] rfl rfl (by kernel_rfl) rfl (by simp [Value.oneCell']) ?_);intro wz hs;have HSwz:Hid (Done w0 F (Star (Star (CellW g (yD id nk false ra rn rk) 55) (CellW w0.heap.size (yA xf 0 (-1) xn false xk) 32)) (CellW (w0.heap.size + 1) (yA 0 0 0 0 false ⟨#[]⟩) 32)) wz):=(by show Done _ _ _ _;exact hs);clear hs))
         exact ⟨rfl,_,results_cell3 rfl _ _ (w0.heap.size + 1) _ _ _ _ (.int .i64 0) (.bool false) rfl rfl rfl (Done.at_ (C:=fun X=>Star (Star (CellW g (yD id nk false ra rn rk) 55) (CellW w0.heap.size (yA xf 0 (-1) xn false xk) 32)) X) (Fr.r (cS.star cS) Fr.id_) HSwz.out) Tryz.underlying32 rfl (by kernel_rfl),by rw [HH.out.1,HH.out.2.1,HH.out.2.2.1] <;> rfl,by rw [HH.out.2.2.2];exact HSwz.out.drop.drop.mono fun F hF=>⟨false,ra,rn,rk,rfl,hF⟩⟩
       · skip
         obtain ⟨B,hB⟩:∃ B,B=ReplyM.begins (⟨id,nk,rndR rd ra rn rk⟩:ReplyM) (⟨xf,0,xs,xn,false,xk⟩:XIn):=⟨_,rfl⟩
         have tz:(xs == -1)=false:=beq_eq_false_iff_ne.2 hz
         have HHA:=jzD (fun p q k hr=>hear_ask (r:=(⟨id,nk,rndR rd ra rn rk⟩:ReplyM)) (x:=(⟨xf,0,xs,xn,false,xk⟩:XIn)) (l:=l) (p:=p) (q:=q) (k:=k) hm rfl rfl hz hr)
         have hxn:xn=1 ∨ xn=6 ∨ xn=8:=by
          have h1:=hm
          unfold mayX XIn.xd at h1
          simp at h1
          exact h1.1.1.2
         have hxs:0≤xs:=by
          have h1:=hm
          unfold mayX XIn.xd at h1
          simp at h1
          have := h1.1.2.1
          omega
         have hn0:¬ xn=0:=by omega
         have hn0b:(xn == 0)=false:=beq_eq_false_iff_ne.2 hn0
         have HB:=jzD hB
         clear hm hz
         go_enter Tryz.func40,Tryz.ntmps40
         skip
         go_upto_region 15 with (first
          | (with_reducible refine wpList_loadD (C:=fun X=>Star (Star (CellW g (yD id nk rd ra rn rk) 55) X) (CellW (w0.heap.size + 1) (yA 0 0 0 0 false ⟨#[]⟩) 32)) (Fr.l (Fr.r cS Fr.id_) cS) HS0.out rfl 32 (.tmp 4) rfl rfl _ Tryz.underlying32 rfl (by kernel_rfl) ?_)
          | (go_at_call 38;((with_reducible refine (dcalls_keep ((cS.star cS).star cS) HS0.out (HMX.out _)).mono ?_);rintro e w1 ⟨rfl,hs⟩;have HSw1:=jzD hs;have x4:w1.cell? ⟨w0.heap.size,4,none⟩=some (.bool false):=cell_at (Done.at_ (C:=fun X=>Star (Star (CellW g (yD id nk rd ra rn rk) 55) X) (CellW (w0.heap.size + 1) (yA 0 0 0 0 false ⟨#[]⟩) 32)) (Fr.l (Fr.r cS Fr.id_) cS) hs) 4 _ rfl;have x1:w1.cell? ⟨w0.heap.size,1,none⟩=some (.int .u32 0):=cell_at (Done.at_ (C:=fun X=>Star (Star (CellW g (yD id nk rd ra rn rk) 55) X) (CellW (w0.heap.size + 1) (yA 0 0 0 0 false ⟨#[]⟩) 32)) (Fr.l (Fr.r cS Fr.id_) cS) hs) 1 _ rfl;have x2:w1.cell? ⟨w0.heap.size,2,none⟩=some (.int .i64 xs):=cell_at (Done.at_ (C:=fun X=>Star (Star (CellW g (yD id nk rd ra rn rk) 55) X) (CellW (w0.heap.size + 1) (yA 0 0 0 0 false ⟨#[]⟩) 32)) (Fr.l (Fr.r cS Fr.id_) cS) hs) 2 _ rfl;clear hs)))
         go_cut [80] (fun bv wx=>bv=.bool B∧Done w0 F (Star (Star (CellW g (yD id nk rd ra rn rk) 55) (CellW w0.heap.size (yA xf 0 xs xn false xk) 32)) (CellW (w0.heap.size + 1) (yA 0 0 0 0 false ⟨#[]⟩) 32)) wx)
         case first =>
          by_cases hx0:xs=0
          · skip
            have hb:B=true:=by rw [HB.out];unfold ReplyM.begins;simp [rndR,hx0]
            have HBB:=jzD hb
            clear hb
            have t1:(xs == 0)=true:=beq_iff_eq.2 hx0
            clear hx0 HB
            refine regq (fun W=>Below (w1).heap.size (w1) W) (by kernel_rfl) (by kernel_rfl) ((Below.refl _ _).drew) ?_
            refine qtk ?_
            refine qtk ?_ (hy:=by intro W HW;have cw:W.cell? ⟨w0.heap.size,2,none⟩=some (.int .i64 xs):=cell_at (keep_at (Done.at_ (C:=fun X=>Star (Star (CellW g (yD id nk rd ra rn rk) 55) X) (CellW (w0.heap.size + 1) (yA 0 0 0 0 false ⟨#[]⟩) 32)) (Fr.l (Fr.r cS Fr.id_) cS) HSw1.out) HW) 2 _ rfl;go_simp;try with_reducible rfl)
            iterate 2 refine qtk ?_
            iterate 5 refine qsk ?_
            iterate 2 refine qtk ?_
            iterate 7 refine qsk ?_
            iterate 2 refine qtk ?_
            iterate 7 refine qsk ?_
            refine qtk ?_
            refine q_done ?_
            intro w2 hb2
            have HSw2:=jzD (HSw1.out.keep ((cS.star cS).star cS) hb2)
            clear hb2
            go_wp2_with fail
            go_meet
            exact ⟨by rw [HBB.out],HSw2.out⟩
          · cases rd
            · skip
              have hb:B=true:=by rw [HB.out];unfold ReplyM.begins;simp [rndR,hx0]
              have HBB:=jzD hb
              clear hb
              have t1:(xs == 0)=false:=beq_eq_false_iff_ne.2 hx0
              clear hx0 HB
              refine regq (fun W=>Below (w1).heap.size (w1) W) (by kernel_rfl) (by kernel_rfl) ((Below.refl _ _).drew) ?_
              refine qtk ?_
              refine qtk ?_ (hy:=by intro W HW;have cw:W.cell? ⟨w0.heap.size,2,none⟩=some (.int .i64 xs):=cell_at (keep_at (Done.at_ (C:=fun X=>Star (Star (CellW g (yD id nk false ra rn rk) 55) X) (CellW (w0.heap.size + 1) (yA 0 0 0 0 false ⟨#[]⟩) 32)) (Fr.l (Fr.r cS Fr.id_) cS) HSw1.out) HW) 2 _ rfl;go_simp;try with_reducible rfl)
              iterate 5 refine qtk ?_
              refine qtk ?_ (hy:=by intro W HW;have cw:W.cell? ⟨g,2,none⟩=some (.bool false):=cell_at (keep_at (Done.at_ (C:=fun X=>Star (Star (X) (CellW w0.heap.size (yA xf 0 xs xn false xk) 32)) (CellW (w0.heap.size + 1) (yA 0 0 0 0 false ⟨#[]⟩) 32)) (Fr.l (Fr.l Fr.id_ cS) cS) HSw1.out) HW) 2 _ rfl;go_simp;try with_reducible rfl)
              iterate 3 refine qtk ?_
              iterate 7 refine qsk ?_
              iterate 2 refine qtk ?_
              iterate 7 refine qsk ?_
              refine qtk ?_
              refine q_done ?_
              intro w2 hb2
              have HSw2:=jzD (HSw1.out.keep ((cS.star cS).star cS) hb2)
              clear hb2
              go_wp2_with fail
              go_meet
              exact ⟨by rw [HBB.out],HSw2.out⟩
            · by_cases ha:ra=xf
              · by_cases hn:rn=xn
                · skip
                  have hb:B=false:=by rw [HB.out];unfold ReplyM.begins;simp [rndR,hx0,ha,hn]
                  have HBB:=jzD hb
                  clear hb
                  have t1:(xs == 0)=false:=beq_eq_false_iff_ne.2 hx0
                  have t2:(ra != xf)=false:=by simp [ha]
                  have t3:(rn != xn)=false:=by simp [hn]
                  clear hx0 ha hn HB
                  refine regq (fun W=>Below (w1).heap.size (w1) W) (by kernel_rfl) (by kernel_rfl) ((Below.refl _ _).drew) ?_
                  refine qtk ?_
                  refine qtk ?_ (hy:=by intro W HW;have cw:W.cell? ⟨w0.heap.size,2,none⟩=some (.int .i64 xs):=cell_at (keep_at (Done.at_ (C:=fun X=>Star (Star (CellW g (yD id nk true ra rn rk) 55) X) (CellW (w0.heap.size + 1) (yA 0 0 0 0 false ⟨#[]⟩) 32)) (Fr.l (Fr.r cS Fr.id_) cS) HSw1.out) HW) 2 _ rfl;go_simp;try with_reducible rfl)
                  iterate 5 refine qtk ?_
                  refine qtk ?_ (hy:=by intro W HW;have cw:W.cell? ⟨g,2,none⟩=some (.bool true):=cell_at (keep_at (Done.at_ (C:=fun X=>Star (Star (X) (CellW w0.heap.size (yA xf 0 xs xn false xk) 32)) (CellW (w0.heap.size + 1) (yA 0 0 0 0 false ⟨#[]⟩) 32)) (Fr.l (Fr.l Fr.id_ cS) cS) HSw1.out) HW) 2 _ rfl;go_simp;try with_reducible rfl)
                  iterate 6 refine qtk ?_
                  refine qtk ?_ (hy:=by intro W HW;have cw:W.cell? ⟨g,3,none⟩=some (.int .u32 ra):=cell_at (keep_at (Done.at_ (C:=fun X=>Star (Star (X) (CellW w0.heap.size (yA xf 0 xs xn false xk) 32)) (CellW (w0.heap.size + 1) (yA 0 0 0 0 false ⟨#[]⟩) 32)) (Fr.l (Fr.l Fr.id_ cS) cS) HSw1.out) HW) 3 _ rfl;go_simp;try with_reducible rfl)
                  refine qtk ?_
                  refine qtk ?_ (hy:=by intro W HW;have cw:W.cell? ⟨w0.heap.size,0,none⟩=some (.int .u32 xf):=cell_at (keep_at (Done.at_ (C:=fun X=>Star (Star (CellW g (yD id nk true ra rn rk) 55) X) (CellW (w0.heap.size + 1) (yA 0 0 0 0 false ⟨#[]⟩) 32)) (Fr.l (Fr.r cS Fr.id_) cS) HSw1.out) HW) 0 _ rfl;go_simp;try with_reducible rfl)
                  iterate 6 refine qtk ?_
                  refine qtk ?_ (hy:=by intro W HW;have cw:W.cell? ⟨g,4,none⟩=some (.int .i64 rn):=cell_at (keep_at (Done.at_ (C:=fun X=>Star (Star (X) (CellW w0.heap.size (yA xf 0 xs xn false xk) 32)) (CellW (w0.heap.size + 1) (yA 0 0 0 0 false ⟨#[]⟩) 32)) (Fr.l (Fr.l Fr.id_ cS) cS) HSw1.out) HW) 4 _ rfl;go_simp;try with_reducible rfl)
                  refine qtk ?_
                  refine qtk ?_ (hy:=by intro W HW;have cw:W.cell? ⟨w0.heap.size,3,none⟩=some (.int .i64 xn):=cell_at (keep_at (Done.at_ (C:=fun X=>Star (Star (CellW g (yD id nk true ra rn rk) 55) X) (CellW (w0.heap.size + 1) (yA 0 0 0 0 false ⟨#[]⟩) 32)) (Fr.l (Fr.r cS Fr.id_) cS) HSw1.out) HW) 3 _ rfl;go_simp;try with_reducible rfl)
                  iterate 2 refine qtk ?_
                  refine q_done ?_
                  intro w2 hb2
                  have HSw2:=jzD (HSw1.out.keep ((cS.star cS).star cS) hb2)
                  clear hb2
                  go_wp2_with fail
                  go_meet
                  exact ⟨by rw [HBB.out],HSw2.out⟩
                · skip
                  have hb:B=true:=by rw [HB.out];unfold ReplyM.begins;simp [rndR,hx0,ha,hn]
                  have HBB:=jzD hb
                  clear hb
                  have t1:(xs == 0)=false:=beq_eq_false_iff_ne.2 hx0
                  have t2:(ra != xf)=false:=by simp [ha]
                  have t3:(rn != xn)=true:=bne_iff_ne.2 hn
                  clear hx0 ha hn HB
                  refine regq (fun W=>Below (w1).heap.size (w1) W) (by kernel_rfl) (by kernel_rfl) ((Below.refl _ _).drew) ?_
                  refine qtk ?_
                  refine qtk ?_ (hy:=by intro W HW;have cw:W.cell? ⟨w0.heap.size,2,none⟩=some (.int .i64 xs):=cell_at (keep_at (Done.at_ (C:=fun X=>Star (Star (CellW g (yD id nk true ra rn rk) 55) X) (CellW (w0.heap.size + 1) (yA 0 0 0 0 false ⟨#[]⟩) 32)) (Fr.l (Fr.r cS Fr.id_) cS) HSw1.out) HW) 2 _ rfl;go_simp;try with_reducible rfl)
                  iterate 5 refine qtk ?_
                  refine qtk ?_ (hy:=by intro W HW;have cw:W.cell? ⟨g,2,none⟩=some (.bool true):=cell_at (keep_at (Done.at_ (C:=fun X=>Star (Star (X) (CellW w0.heap.size (yA xf 0 xs xn false xk) 32)) (CellW (w0.heap.size + 1) (yA 0 0 0 0 false ⟨#[]⟩) 32)) (Fr.l (Fr.l Fr.id_ cS) cS) HSw1.out) HW) 2 _ rfl;go_simp;try with_reducible rfl)
                  iterate 6 refine qtk ?_
                  refine qtk ?_ (hy:=by intro W HW;have cw:W.cell? ⟨g,3,none⟩=some (.int .u32 ra):=cell_at (keep_at (Done.at_ (C:=fun X=>Star (Star (X) (CellW w0.heap.size (yA xf 0 xs xn false xk) 32)) (CellW (w0.heap.size + 1) (yA 0 0 0 0 false ⟨#[]⟩) 32)) (Fr.l (Fr.l Fr.id_ cS) cS) HSw1.out) HW) 3 _ rfl;go_simp;try with_reducible rfl)
                  refine qtk ?_
                  refine qtk ?_ (hy:=by intro W HW;have cw:W.cell? ⟨w0.heap.size,0,none⟩=some (.int .u32 xf):=cell_at (keep_at (Done.at_ (C:=fun X=>Star (Star (CellW g (yD id nk true ra rn rk) 55) X) (CellW (w0.heap.size + 1) (yA 0 0 0 0 false ⟨#[]⟩) 32)) (Fr.l (Fr.r cS Fr.id_) cS) HSw1.out) HW) 0 _ rfl;go_simp;try with_reducible rfl)
                  iterate 6 refine qtk ?_
                  refine qtk ?_ (hy:=by intro W HW;have cw:W.cell? ⟨g,4,none⟩=some (.int .i64 rn):=cell_at (keep_at (Done.at_ (C:=fun X=>Star (Star (X) (CellW w0.heap.size (yA xf 0 xs xn false xk) 32)) (CellW (w0.heap.size + 1) (yA 0 0 0 0 false ⟨#[]⟩) 32)) (Fr.l (Fr.l Fr.id_ cS) cS) HSw1.out) HW) 4 _ rfl;go_simp;try with_reducible rfl)
                  refine qtk ?_
                  refine qtk ?_ (hy:=by intro W HW;have cw:W.cell? ⟨w0.heap.size,3,none⟩=some (.int .i64 xn):=cell_at (keep_at (Done.at_ (C:=fun X=>Star (Star (CellW g (yD id nk true ra rn rk) 55) X) (CellW (w0.heap.size + 1) (yA 0 0 0 0 false ⟨#[]⟩) 32)) (Fr.l (Fr.r cS Fr.id_) cS) HSw1.out) HW) 3 _ rfl;go_simp;try with_reducible rfl)
                  iterate 2 refine qtk ?_
                  refine q_done ?_
                  intro w2 hb2
                  have HSw2:=jzD (HSw1.out.keep ((cS.star cS).star cS) hb2)
                  clear hb2
                  go_wp2_with fail
                  go_meet
                  exact ⟨by rw [HBB.out],HSw2.out⟩
              · skip
                have hb:B=true:=by rw [HB.out];unfold ReplyM.begins;simp [rndR,hx0,ha]
                have HBB:=jzD hb
                clear hb
                have t1:(xs == 0)=false:=beq_eq_false_iff_ne.2 hx0
                have t2:(ra != xf)=true:=bne_iff_ne.2 ha
                clear hx0 ha HB
                refine regq (fun W=>Below (w1).heap.size (w1) W) (by kernel_rfl) (by kernel_rfl) ((Below.refl _ _).drew) ?_
                refine qtk ?_
                refine qtk ?_ (hy:=by intro W HW;have cw:W.cell? ⟨w0.heap.size,2,none⟩=some (.int .i64 xs):=cell_at (keep_at (Done.at_ (C:=fun X=>Star (Star (CellW g (yD id nk true ra rn rk) 55) X) (CellW (w0.heap.size + 1) (yA 0 0 0 0 false ⟨#[]⟩) 32)) (Fr.l (Fr.r cS Fr.id_) cS) HSw1.out) HW) 2 _ rfl;go_simp;try with_reducible rfl)
                iterate 5 refine qtk ?_
                refine qtk ?_ (hy:=by intro W HW;have cw:W.cell? ⟨g,2,none⟩=some (.bool true):=cell_at (keep_at (Done.at_ (C:=fun X=>Star (Star (X) (CellW w0.heap.size (yA xf 0 xs xn false xk) 32)) (CellW (w0.heap.size + 1) (yA 0 0 0 0 false ⟨#[]⟩) 32)) (Fr.l (Fr.l Fr.id_ cS) cS) HSw1.out) HW) 2 _ rfl;go_simp;try with_reducible rfl)
                iterate 6 refine qtk ?_
                refine qtk ?_ (hy:=by intro W HW;have cw:W.cell? ⟨g,3,none⟩=some (.int .u32 ra):=cell_at (keep_at (Done.at_ (C:=fun X=>Star (Star (X) (CellW w0.heap.size (yA xf 0 xs xn false xk) 32)) (CellW (w0.heap.size + 1) (yA 0 0 0 0 false ⟨#[]⟩) 32)) (Fr.l (Fr.l Fr.id_ cS) cS) HSw1.out) HW) 3 _ rfl;go_simp;try with_reducible rfl)
                refine qtk ?_
                refine qtk ?_ (hy:=by intro W HW;have cw:W.cell? ⟨w0.heap.size,0,none⟩=some (.int .u32 xf):=cell_at (keep_at (Done.at_ (C:=fun X=>Star (Star (CellW g (yD id nk true ra rn rk) 55) X) (CellW (w0.heap.size + 1) (yA 0 0 0 0 false ⟨#[]⟩) 32)) (Fr.l (Fr.r cS Fr.id_) cS) HSw1.out) HW) 0 _ rfl;go_simp;try with_reducible rfl)
                iterate 3 refine qtk ?_
                iterate 7 refine qsk ?_
                refine qtk ?_
                refine q_done ?_
                intro w2 hb2
                have HSw2:=jzD (HSw1.out.keep ((cS.star cS).star cS) hb2)
                clear hb2
                go_wp2_with fail
                go_meet
                exact ⟨by rw [HBB.out],HSw2.out⟩
         case rest =>
          obtain ⟨rfl,hs⟩:=hcut
          have HSw3:=jzD hs
          clear hs HSw1 HS0
          rcases hBB:B with _ | _
          · rw [hBB] at HB
            have hrd:rd=true:=by
             have := HB.out
             unfold ReplyM.begins at this
             cases rd
             · simp [rndR] at this
             · rfl
            subst hrd
            have HRD:Hid (rndR true ra rn rk=some (ra,rn,rk)):=rfl
            clear hBB
            have hr:ReplyM.roundOf (⟨id,nk,rndR true ra rn rk⟩:ReplyM) (⟨xf,0,xs,xn,false,xk⟩:XIn) l=some (ra,rn,rk):=by unfold ReplyM.roundOf;rw [← HB.out];exact HRD.out
            have hu:ReplyM.usedOf (⟨id,nk,rndR true ra rn rk⟩:ReplyM) (⟨xf,0,xs,xn,false,xk⟩:XIn) l=0:=by unfold ReplyM.usedOf;rw [← HB.out];rfl
            have hh:=HHA.out ra rn rk hr
            rw [hu] at hh
            have HHK:Hid (ReplyM.xid (⟨id,nk,rndR true ra rn rk⟩:ReplyM) (⟨xf,0,xs,xn,false,xk⟩:XIn) l=(if rk == xs then ⟨id,xf,xs,xn,false,nk⟩ else ReplyM.xz)∧ReplyM.used (⟨id,nk,rndR true ra rn rk⟩:ReplyM) (⟨xf,0,xs,xn,false,xk⟩:XIn) l=0∧ReplyM.says (⟨id,nk,rndR true ra rn rk⟩:ReplyM) (⟨xf,0,xs,xn,false,xk⟩:XIn) l=(rk == xs)∧ReplyM.hear (⟨id,nk,rndR true ra rn rk⟩:ReplyM) (⟨xf,0,xs,xn,false,xk⟩:XIn) l=⟨id,nk,some (ra,rn,rk)⟩):=hh
            clear hr hu hh HHA HB HRD
            go_wp2
            by_cases hk:rk=xs
            · skip
              have kb:(rk == xs)=true:=by simp [hk]
              have kn:(xs != rk)=false:=by simp [hk]
              have HH:Hid (ReplyM.xid (⟨id,nk,rndR true ra rn rk⟩:ReplyM) (⟨xf,0,xs,xn,false,xk⟩:XIn) l=(⟨id,xf,xs,xn,false,nk⟩:XIn)∧ReplyM.used (⟨id,nk,rndR true ra rn rk⟩:ReplyM) (⟨xf,0,xs,xn,false,xk⟩:XIn) l=0∧ReplyM.says (⟨id,nk,rndR true ra rn rk⟩:ReplyM) (⟨xf,0,xs,xn,false,xk⟩:XIn) l=true∧ReplyM.hear (⟨id,nk,rndR true ra rn rk⟩:ReplyM) (⟨xf,0,xs,xn,false,xk⟩:XIn) l=⟨id,nk,some (ra,rn,rk)⟩):=by show _∧_;have hq:=HHK.out;rw [kb] at hq;exact hq
              clear kb hk HHK
              refine regq (fun W=>Below (wc).heap.size (wc) W) (by kernel_rfl) (by kernel_rfl) ((Below.refl _ _).drew) ?_
              refine qtk ?_
              refine qtk ?_ (hy:=by intro W HW;have cw:W.cell? ⟨w0.heap.size,2,none⟩=some (.int .i64 xs):=cell_at (keep_at (Done.at_ (C:=fun X=>Star (Star (CellW g (yD id nk true ra rn rk) 55) X) (CellW (w0.heap.size + 1) (yA 0 0 0 0 false ⟨#[]⟩) 32)) (Fr.l (Fr.r cS Fr.id_) cS) HSw3.out) HW) 2 _ rfl;go_simp;try with_reducible rfl)
              iterate 3 refine qtk ?_
              refine qtk ?_ (hy:=by intro W HW;have cw:W.cell? ⟨g,5,none⟩=some (.int .i64 rk):=cell_at (keep_at (Done.at_ (C:=fun X=>Star (Star (X) (CellW w0.heap.size (yA xf 0 xs xn false xk) 32)) (CellW (w0.heap.size + 1) (yA 0 0 0 0 false ⟨#[]⟩) 32)) (Fr.l (Fr.l Fr.id_ cS) cS) HSw3.out) HW) 5 _ rfl;go_simp;try with_reducible rfl)
              refine qtk ?_
              refine q_done ?_
              intro w7 hb
              have HSw7:=jzD (HSw3.out.keep ((cS.star cS).star cS) hb)
              clear hb
              go_wp2
              have HSd:=jzD (HSw7.out.drewD ((cS.star cS).star cS))
              have HEd:Hid ((fun U=>U.heap[g]?=some (.cells (yD id nk true ra rn rk) 55 (0,0))∧U.heap[w0.heap.size]?=some (.cells (yA xf 0 xs xn false xk) 32 (0,0))) w7.drew):=⟨(Done.at_ (C:=fun X=>Star (Star (X) (CellW w0.heap.size (yA xf 0 xs xn false xk) 32)) (CellW (w0.heap.size + 1) (yA 0 0 0 0 false ⟨#[]⟩) 32)) (Fr.l (Fr.l Fr.id_ cS) cS) HSd.out),(Done.at_ (C:=fun X=>Star (Star (CellW g (yD id nk true ra rn rk) 55) X) (CellW (w0.heap.size + 1) (yA 0 0 0 0 false ⟨#[]⟩) 32)) (Fr.l (Fr.r cS Fr.id_) cS) HSd.out)⟩
              refine rests_begin (fun U=>U.heap[g]?=some (.cells (yD id nk true ra rn rk) 55 (0,0))∧U.heap[w0.heap.size]?=some (.cells (yA xf 0 xs xn false xk) 32 (0,0))) (by kernel_rfl) ?_
              refine rtk 0 HEd.out ?_
              refine rtk 1 HEd.out ?_
              refine rtk 2 HEd.out ?_
              refine rtk 3 HEd.out ?_ (hy:=by intro W HW;have cw:W.cell? ⟨g,0,none⟩=some (.int .u32 id):=cell_at HW.1 0 _ rfl;go_simp;try with_reducible rfl)
              refine rtk 4 HEd.out ?_
              refine rtk 5 HEd.out ?_ (hy:=by intro W HW;have cw:W.cell? ⟨w0.heap.size,0,none⟩=some (.int .u32 xf):=cell_at HW.2 0 _ rfl;go_simp;try with_reducible rfl)
              refine rtk 6 HEd.out ?_
              refine rtk 7 HEd.out ?_ (hy:=by intro W HW;have cw:W.cell? ⟨w0.heap.size,2,none⟩=some (.int .i64 xs):=cell_at HW.2 2 _ rfl;go_simp;try with_reducible rfl)
              refine rtk 8 HEd.out ?_
              refine rtk 9 HEd.out ?_ (hy:=by intro W HW;have cw:W.cell? ⟨w0.heap.size,3,none⟩=some (.int .i64 xn):=cell_at HW.2 3 _ rfl;go_simp;try with_reducible rfl)
              refine rtk 10 HEd.out ?_
              refine rtk 11 HEd.out ?_
              refine rtk 12 HEd.out ?_
              refine rtk 13 HEd.out ?_ (hy:=by intro W HW;have cw:W.cell? ⟨g,1,none⟩=some (.string nk):=cell_at HW.1 1 _ rfl;go_simp;try with_reducible rfl)
              refine rtk 14 HEd.out ?_
              refine rtk 15 HEd.out ?_
              refine rests_storeB 16 (oi:=_) (by simp only [jzG,jzH,jzI];rfl) (by kernel_rfl) (by rfl) 32 (.tmp 6) (.tmp 143) rfl (w0.heap.size + 1) #[.int .u32 id,.int .u32 xf,.int .i64 xs,.int .i64 xn,.bool false,.string nk] rfl rfl 32 _ (Done.at_ (C:=fun X=>Star (Star (CellW g (yD id nk true ra rn rk) 55) (CellW w0.heap.size (yA xf 0 xs xn false xk) 32)) X) (Fr.r (cS.star cS) Fr.id_) HSd.out) (by kernel_rfl) rfl (by simp [Value.oneCell']) ?_
              intro w8 hg _ hh;have HSw8:Hid (Done w0 F (Star (Star (CellW g (yD id nk true ra rn rk) 55) (CellW w0.heap.size (yA xf 0 xs xn false xk) 32)) (CellW (w0.heap.size + 1) (yA id xf xs xn false nk) 32)) w8):=Done.put_ (C:=fun X=>Star (Star (CellW g (yD id nk true ra rn rk) 55) (CellW w0.heap.size (yA xf 0 xs xn false xk) 32)) X) (Fr.r (cS.star cS) Fr.id_) HSd.out hg hh;have HE8:Hid ((fun U=>U.heap[g]?=some (.cells (yD id nk true ra rn rk) 55 (0,0))∧U.heap[w0.heap.size]?=some (.cells (yA xf 0 xs xn false xk) 32 (0,0))) w8):=⟨(Done.at_ (C:=fun X=>Star (Star (X) (CellW w0.heap.size (yA xf 0 xs xn false xk) 32)) (CellW (w0.heap.size + 1) (yA id xf xs xn false nk) 32)) (Fr.l (Fr.l Fr.id_ cS) cS) HSw8.out),(Done.at_ (C:=fun X=>Star (Star (CellW g (yD id nk true ra rn rk) 55) X) (CellW (w0.heap.size + 1) (yA id xf xs xn false nk) 32)) (Fr.l (Fr.r cS Fr.id_) cS) HSw8.out)⟩;refine ⟨HE8.out,?_⟩;clear hg hh
              simp only [Act.put,jzU,jzV,jzW]
              refine rtk 17 HE8.out ?_
              refine rtk 18 HE8.out ?_
              refine rests_done (by kernel_rfl) ?_
              go_wp2
              exact ⟨rfl,_,results_cell3 rfl _ _ (w0.heap.size + 1) _ _ _ _ (.int .i64 0) (.bool true) rfl rfl rfl (Done.at_ (C:=fun X=>Star (Star (CellW g (yD id nk true ra rn rk) 55) (CellW w0.heap.size (yA xf 0 xs xn false xk) 32)) X) (Fr.r (cS.star cS) Fr.id_) HSw8.out) Tryz.underlying32 rfl (by kernel_rfl),by rw [HH.out.1,HH.out.2.1,HH.out.2.2.1] <;> rfl,by rw [HH.out.2.2.2];exact HSw8.out.drop.drop.mono fun F hF=>⟨true,ra,rn,rk,rfl,hF⟩⟩

            · skip
              have kb:(rk == xs)=false:=beq_eq_false_iff_ne.2 hk
              have kn:(xs != rk)=true:=bne_iff_ne.2 (fun h=>hk h.symm)
              have HH:Hid (ReplyM.xid (⟨id,nk,rndR true ra rn rk⟩:ReplyM) (⟨xf,0,xs,xn,false,xk⟩:XIn) l=ReplyM.xz∧ReplyM.used (⟨id,nk,rndR true ra rn rk⟩:ReplyM) (⟨xf,0,xs,xn,false,xk⟩:XIn) l=0∧ReplyM.says (⟨id,nk,rndR true ra rn rk⟩:ReplyM) (⟨xf,0,xs,xn,false,xk⟩:XIn) l=false∧ReplyM.hear (⟨id,nk,rndR true ra rn rk⟩:ReplyM) (⟨xf,0,xs,xn,false,xk⟩:XIn) l=⟨id,nk,some (ra,rn,rk)⟩):=by show _∧_;have hq:=HHK.out;rw [kb] at hq;exact hq
              clear kb hk HHK
              refine regq (fun W=>Below (wc).heap.size (wc) W) (by kernel_rfl) (by kernel_rfl) ((Below.refl _ _).drew) ?_
              refine qtk ?_
              refine qtk ?_ (hy:=by intro W HW;have cw:W.cell? ⟨w0.heap.size,2,none⟩=some (.int .i64 xs):=cell_at (keep_at (Done.at_ (C:=fun X=>Star (Star (CellW g (yD id nk true ra rn rk) 55) X) (CellW (w0.heap.size + 1) (yA 0 0 0 0 false ⟨#[]⟩) 32)) (Fr.l (Fr.r cS Fr.id_) cS) HSw3.out) HW) 2 _ rfl;go_simp;try with_reducible rfl)
              iterate 3 refine qtk ?_
              refine qtk ?_ (hy:=by intro W HW;have cw:W.cell? ⟨g,5,none⟩=some (.int .i64 rk):=cell_at (keep_at (Done.at_ (C:=fun X=>Star (Star (X) (CellW w0.heap.size (yA xf 0 xs xn false xk) 32)) (CellW (w0.heap.size + 1) (yA 0 0 0 0 false ⟨#[]⟩) 32)) (Fr.l (Fr.l Fr.id_ cS) cS) HSw3.out) HW) 5 _ rfl;go_simp;try with_reducible rfl)
              refine qtk ?_
              refine q_done ?_
              intro w7 hb
              have HSw7:=jzD (HSw3.out.keep ((cS.star cS).star cS) hb)
              clear hb
              go_wp2_with ((with_reducible refine wpList_storeBD (C:=fun X=>Star (Star (CellW g (yD id nk true ra rn rk) 55) (CellW w0.heap.size (yA xf 0 xs xn false xk) 32)) X) (Fr.r (cS.star cS) Fr.id_) HSw7.out rfl 32 (.tmp 6) (.tmp 127) rfl #[.int .u32 0,.int .u32 0,.int .i64 0,.int .i64 0,.bool false,.string ⟨#[]⟩] rfl rfl (by kernel_rfl) rfl (by simp [Value.oneCell']) ?_);intro wz hs;have HSwz:Hid (Done w0 F (Star (Star (CellW g (yD id nk true ra rn rk) 55) (CellW w0.heap.size (yA xf 0 xs xn false xk) 32)) (CellW (w0.heap.size + 1) (yA 0 0 0 0 false ⟨#[]⟩) 32)) wz):=(by show Done _ _ _ _;exact hs);clear hs)
              exact ⟨rfl,_,results_cell3 rfl _ _ (w0.heap.size + 1) _ _ _ _ (.int .i64 0) (.bool false) rfl rfl rfl (Done.at_ (C:=fun X=>Star (Star (CellW g (yD id nk true ra rn rk) 55) (CellW w0.heap.size (yA xf 0 xs xn false xk) 32)) X) (Fr.r (cS.star cS) Fr.id_) HSwz.out) Tryz.underlying32 rfl (by kernel_rfl),by rw [HH.out.1,HH.out.2.1,HH.out.2.2.1] <;> rfl,by rw [HH.out.2.2.2];exact HSwz.out.drop.drop.mono fun F hF=>⟨true,ra,rn,rk,rfl,hF⟩⟩
          · rw [hBB] at HB
            clear hBB
            go_wp2
            have HSd:=jzD (HSw3.out.drewD ((cS.star cS).star cS))
            have HEd:Hid ((fun U=>U.heap[w0.heap.size]?=some (.cells (yA xf 0 xs xn false xk) 32 (0,0))) wc.drew):=(Done.at_ (C:=fun X=>Star (Star (CellW g (yD id nk rd ra rn rk) 55) X) (CellW (w0.heap.size + 1) (yA 0 0 0 0 false ⟨#[]⟩) 32)) (Fr.l (Fr.r cS Fr.id_) cS) HSd.out)
            refine rests_begin (fun U=>U.heap[w0.heap.size]?=some (.cells (yA xf 0 xs xn false xk) 32 (0,0))) (by kernel_rfl) ?_
            refine rtk 0 HEd.out ?_
            refine rtk 1 HEd.out ?_
            refine rtk 2 HEd.out ?_
            refine rtk 3 HEd.out ?_
            refine rtk 4 HEd.out ?_
            refine rtk 5 HEd.out ?_ (hy:=by intro W HW;have cw:W.cell? ⟨w0.heap.size,0,none⟩=some (.int .u32 xf):=cell_at HW 0 _ rfl;go_simp;try with_reducible rfl)
            refine rtk 6 HEd.out ?_
            refine rtk 7 HEd.out ?_ (hy:=by intro W HW;have cw:W.cell? ⟨w0.heap.size,3,none⟩=some (.int .i64 xn):=cell_at HW 3 _ rfl;go_simp;try with_reducible rfl)
            refine rtk 8 HEd.out ?_
            refine rtk 9 HEd.out ?_
            refine rests_store1 10 (oi:=_) (by simp only [jzG,jzH,jzI];rfl) (by kernel_rfl) (by rfl) 4 (.tmp 90) (.const (.bool true)) rfl g 2 (.bool true) rfl rfl 55 _ (Done.at_ (C:=fun X=>Star (Star (X) (CellW w0.heap.size (yA xf 0 xs xn false xk) 32)) (CellW (w0.heap.size + 1) (yA 0 0 0 0 false ⟨#[]⟩) 32)) (Fr.l (Fr.l Fr.id_ cS) cS) HSd.out) (by simp) (run_storeBo _ _ _) ?_
            intro w20 hg hh;have HSw20:Hid (Done w0 F (Star (Star (CellW g (yD id nk true ra rn rk) 55) (CellW w0.heap.size (yA xf 0 xs xn false xk) 32)) (CellW (w0.heap.size + 1) (yA 0 0 0 0 false ⟨#[]⟩) 32)) w20):=Done.put_ (C:=fun X=>Star (Star (X) (CellW w0.heap.size (yA xf 0 xs xn false xk) 32)) (CellW (w0.heap.size + 1) (yA 0 0 0 0 false ⟨#[]⟩) 32)) (Fr.l (Fr.l Fr.id_ cS) cS) HSd.out hg hh;have HE20:Hid ((fun U=>U.heap[w0.heap.size]?=some (.cells (yA xf 0 xs xn false xk) 32 (0,0))) w20):=(Done.at_ (C:=fun X=>Star (Star (CellW g (yD id nk true ra rn rk) 55) X) (CellW (w0.heap.size + 1) (yA 0 0 0 0 false ⟨#[]⟩) 32)) (Fr.l (Fr.r cS Fr.id_) cS) HSw20.out);refine ⟨HE20.out,?_⟩;clear hg hh
            simp only [Act.put,jzU,jzV,jzW]
            refine rtk 11 HE20.out ?_
            refine rtk 12 HE20.out ?_
            refine rests_store1 13 (oi:=_) (by simp only [jzG,jzH,jzI];rfl) (by kernel_rfl) (by rfl) 22 (.tmp 92) (.tmp 86) rfl g 3 (.int .u32 xf) rfl rfl 55 _ (Done.at_ (C:=fun X=>Star (Star (X) (CellW w0.heap.size (yA xf 0 xs xn false xk) 32)) (CellW (w0.heap.size + 1) (yA 0 0 0 0 false ⟨#[]⟩) 32)) (Fr.l (Fr.l Fr.id_ cS) cS) HSw20.out) (by simp) (run_storeU _ _ _) ?_
            intro w21 hg hh;have HSw21:Hid (Done w0 F (Star (Star (CellW g (yD id nk true xf rn rk) 55) (CellW w0.heap.size (yA xf 0 xs xn false xk) 32)) (CellW (w0.heap.size + 1) (yA 0 0 0 0 false ⟨#[]⟩) 32)) w21):=Done.put_ (C:=fun X=>Star (Star (X) (CellW w0.heap.size (yA xf 0 xs xn false xk) 32)) (CellW (w0.heap.size + 1) (yA 0 0 0 0 false ⟨#[]⟩) 32)) (Fr.l (Fr.l Fr.id_ cS) cS) HSw20.out hg hh;have HE21:Hid ((fun U=>U.heap[w0.heap.size]?=some (.cells (yA xf 0 xs xn false xk) 32 (0,0))) w21):=(Done.at_ (C:=fun X=>Star (Star (CellW g (yD id nk true xf rn rk) 55) X) (CellW (w0.heap.size + 1) (yA 0 0 0 0 false ⟨#[]⟩) 32)) (Fr.l (Fr.r cS Fr.id_) cS) HSw21.out);refine ⟨HE21.out,?_⟩;clear hg hh
            simp only [Act.put,jzU,jzV,jzW]
            refine rtk 14 HE21.out ?_
            refine rtk 15 HE21.out ?_
            refine rests_store1 16 (oi:=_) (by simp only [jzG,jzH,jzI];rfl) (by kernel_rfl) (by rfl) 3 (.tmp 94) (.tmp 88) rfl g 4 (.int .i64 xn) rfl rfl 55 _ (Done.at_ (C:=fun X=>Star (Star (X) (CellW w0.heap.size (yA xf 0 xs xn false xk) 32)) (CellW (w0.heap.size + 1) (yA 0 0 0 0 false ⟨#[]⟩) 32)) (Fr.l (Fr.l Fr.id_ cS) cS) HSw21.out) (by simp) (run_storeI _ _ _) ?_
            intro w22 hg hh;have HSw22:Hid (Done w0 F (Star (Star (CellW g (yD id nk true xf xn rk) 55) (CellW w0.heap.size (yA xf 0 xs xn false xk) 32)) (CellW (w0.heap.size + 1) (yA 0 0 0 0 false ⟨#[]⟩) 32)) w22):=Done.put_ (C:=fun X=>Star (Star (X) (CellW w0.heap.size (yA xf 0 xs xn false xk) 32)) (CellW (w0.heap.size + 1) (yA 0 0 0 0 false ⟨#[]⟩) 32)) (Fr.l (Fr.l Fr.id_ cS) cS) HSw21.out hg hh;have HE22:Hid ((fun U=>U.heap[w0.heap.size]?=some (.cells (yA xf 0 xs xn false xk) 32 (0,0))) w22):=(Done.at_ (C:=fun X=>Star (Star (CellW g (yD id nk true xf xn rk) 55) X) (CellW (w0.heap.size + 1) (yA 0 0 0 0 false ⟨#[]⟩) 32)) (Fr.l (Fr.r cS Fr.id_) cS) HSw22.out);refine ⟨HE22.out,?_⟩;clear hg hh
            simp only [Act.put,jzU,jzV,jzW]
            refine rtk 17 HE22.out ?_
            refine rtk 18 HE22.out ?_
            refine rests_store1 19 (oi:=_) (by simp only [jzG,jzH,jzI];rfl) (by kernel_rfl) (by rfl) 3 (.tmp 96) (.const (.int .i64 0)) rfl g 5 (.int .i64 0) rfl rfl 55 _ (Done.at_ (C:=fun X=>Star (Star (X) (CellW w0.heap.size (yA xf 0 xs xn false xk) 32)) (CellW (w0.heap.size + 1) (yA 0 0 0 0 false ⟨#[]⟩) 32)) (Fr.l (Fr.l Fr.id_ cS) cS) HSw22.out) (by simp) (run_storeI _ _ _) ?_
            intro w23 hg hh;have HSw23:Hid (Done w0 F (Star (Star (CellW g (yD id nk true xf xn 0) 55) (CellW w0.heap.size (yA xf 0 xs xn false xk) 32)) (CellW (w0.heap.size + 1) (yA 0 0 0 0 false ⟨#[]⟩) 32)) w23):=Done.put_ (C:=fun X=>Star (Star (X) (CellW w0.heap.size (yA xf 0 xs xn false xk) 32)) (CellW (w0.heap.size + 1) (yA 0 0 0 0 false ⟨#[]⟩) 32)) (Fr.l (Fr.l Fr.id_ cS) cS) HSw22.out hg hh;have HE23:Hid ((fun U=>U.heap[w0.heap.size]?=some (.cells (yA xf 0 xs xn false xk) 32 (0,0))) w23):=(Done.at_ (C:=fun X=>Star (Star (CellW g (yD id nk true xf xn 0) 55) X) (CellW (w0.heap.size + 1) (yA 0 0 0 0 false ⟨#[]⟩) 32)) (Fr.l (Fr.r cS Fr.id_) cS) HSw23.out);refine ⟨HE23.out,?_⟩;clear hg hh
            simp only [Act.put,jzU,jzV,jzW]
            refine rests_done (by kernel_rfl) ?_
            by_cases hL0:0 < L
            · skip
              have d1:decide ((0:Int) < (L:Int))=true:=decide_eq_true (by omega)
              have d2:decide (0 < L)=true:=decide_eq_true hL0
              obtain ⟨d,hd⟩:∃ d,l[0]?=some d:=⟨l[0]'(by rw [← HL.out];exact hL0),List.getElem?_eq_getElem (by rw [← HL.out];exact hL0)⟩
              have hdu:=HLU.out d (List.mem_of_getElem? hd)
              have hsl:ReplyM.slotOf (⟨xf,0,xs,xn,false,xk⟩:XIn) l=max (d % xn) xs:=by
               cases l with
               | nil=>simp at hd
               | cons a r=>simp at hd;subst hd;rfl
              obtain ⟨D,hD⟩:∃ D,D=d % xn:=⟨_,rfl⟩
              obtain ⟨KK,hK⟩:∃ k,k=max D xs:=⟨_,rfl⟩
              have HMAX:Hid (max D xs=KK):=hK.symm
              have hdp:=u32_pos hdu
              have HRM:Hid (d.tmod xn=D):=by show _=_;rw [hD,Int.tmod_eq_emod_of_nonneg hdp.1]
              have hus:ReplyM.usedOf (⟨id,nk,rndR rd ra rn rk⟩:ReplyM) (⟨xf,0,xs,xn,false,xk⟩:XIn) l=1:=by unfold ReplyM.usedOf;rw [← HB.out,← HL.out,d2];rfl
              rw [← hD,← hK] at hsl
              obtain ⟨db,doff,hda,hdlt,hdc⟩:=HD.out.at_ (i:=0) (by rw [← HL.out];exact hL0)
              subst hda
              have hd0:l[0]'(by rw [← HL.out];exact hL0)=d:=by
               have := List.getElem?_eq_getElem (l:=l) (i:=0) (by rw [← HL.out];exact hL0)
               rw [this] at hd
               injection hd
              rw [hd0,Nat.add_zero] at hdc
              have b0:(0:Int) < (L:Int):=by omega
              have ed:IntKind.i64.wrap d=d:=IntWalk.i64_in _ (by omega)
              have eD:IntKind.i64.wrap D=D:=IntWalk.i64_in _ (by rw [hD];rcases hxn with h | h | h <;> rw [h] <;> omega)
              have HDC0:=jzD hdc
              have HDC:Hid (w23.cell? ⟨db,doff,none⟩=some (.int .u32 d)):=(Done.tch HSw23.out).cell (p:=⟨db,doff,none⟩) hdc (HDIS.out hL0 db (by simp [blk]))
              have hr:ReplyM.roundOf (⟨id,nk,rndR rd ra rn rk⟩:ReplyM) (⟨xf,0,xs,xn,false,xk⟩:XIn) l=some (xf,xn,KK):=by unfold ReplyM.roundOf;rw [← HB.out,if_pos rfl,hsl]
              have hh:=HHA.out xf xn KK hr
              rw [hus] at hh
              have HHK:Hid (ReplyM.xid (⟨id,nk,rndR rd ra rn rk⟩:ReplyM) (⟨xf,0,xs,xn,false,xk⟩:XIn) l=(if KK == xs then ⟨id,xf,xs,xn,false,nk⟩ else ReplyM.xz)∧ReplyM.used (⟨id,nk,rndR rd ra rn rk⟩:ReplyM) (⟨xf,0,xs,xn,false,xk⟩:XIn) l=1∧ReplyM.says (⟨id,nk,rndR rd ra rn rk⟩:ReplyM) (⟨xf,0,xs,xn,false,xk⟩:XIn) l=(KK == xs)∧ReplyM.hear (⟨id,nk,rndR rd ra rn rk⟩:ReplyM) (⟨xf,0,xs,xn,false,xk⟩:XIn) l=⟨id,nk,some (xf,xn,KK)⟩):=hh
              clear hr hus hh hsl hD hK hdu hd hd0 hdc hdp
              go_wp2
              have HSd30:=jzD (HSw23.out.drewD ((cS.star cS).star cS))
              have HEd30:Hid ((fun U=>U.heap[w0.heap.size]?=some (.cells (yA xf 0 xs xn false xk) 32 (0,0))∧U.cell? ⟨db,doff,none⟩=some (.int .u32 d)) (w23).drew):=⟨(Done.at_ (C:=fun X=>Star (Star (CellW g (yD id nk true xf xn 0) 55) X) (CellW (w0.heap.size + 1) (yA 0 0 0 0 false ⟨#[]⟩) 32)) (Fr.l (Fr.r cS Fr.id_) cS) HSd30.out),HDC.out⟩
              refine rests_begin (fun U=>U.heap[w0.heap.size]?=some (.cells (yA xf 0 xs xn false xk) 32 (0,0))∧U.cell? ⟨db,doff,none⟩=some (.int .u32 d)) (by kernel_rfl) ?_
              refine rtk 0 HEd30.out ?_
              refine rtk 1 HEd30.out ?_
              refine rtk 2 HEd30.out ?_
              refine rtk 3 HEd30.out ?_ (hy:=by intro W HW;have cw:=HW.2;go_simp;try with_reducible rfl)
              refine rtk 4 HEd30.out ?_
              refine rtk 5 HEd30.out ?_
              refine rtk 6 HEd30.out ?_ (hy:=by intro W HW;have cw:W.cell? ⟨w0.heap.size,3,none⟩=some (.int .i64 xn):=cell_at HW.1 3 _ rfl;go_simp;try with_reducible rfl)
              refine rests_take 7 (oi:=_) (v:=.int .i64 D) (by simp only [jzG,jzH,jzI];rfl) (by kernel_rfl) (by kernel_rfl) (by kernel_rfl) (by exact fun _ _ _ h=>h) (HEd30.out) (by rfl) (fun W HW=>by go_simp;exact HRM.out) ?_
              simp only [Act.put,jzU,jzV,jzW]
              refine rtk 8 HEd30.out ?_
              refine rtk 9 HEd30.out ?_
              refine rests_store1 10 (oi:=_) (by simp only [jzG,jzH,jzI];rfl) (by kernel_rfl) (by rfl) 3 (.tmp 109) (.tmp 107) rfl g 5 (.int .i64 D) rfl rfl 55 _ (Done.at_ (C:=fun X=>Star (Star (X) (CellW w0.heap.size (yA xf 0 xs xn false xk) 32)) (CellW (w0.heap.size + 1) (yA 0 0 0 0 false ⟨#[]⟩) 32)) (Fr.l (Fr.l Fr.id_ cS) cS) HSd30.out) (by simp) (run_storeI _ _ _) ?_
              intro w31 hg hh;have HSw31:Hid (Done w0 F (Star (Star (CellW g (yD id nk true xf xn D) 55) (CellW w0.heap.size (yA xf 0 xs xn false xk) 32)) (CellW (w0.heap.size + 1) (yA 0 0 0 0 false ⟨#[]⟩) 32)) w31):=Done.put_ (C:=fun X=>Star (Star (X) (CellW w0.heap.size (yA xf 0 xs xn false xk) 32)) (CellW (w0.heap.size + 1) (yA 0 0 0 0 false ⟨#[]⟩) 32)) (Fr.l (Fr.l Fr.id_ cS) cS) HSd30.out hg hh;have HE31:Hid ((fun U=>U.heap[w0.heap.size]?=some (.cells (yA xf 0 xs xn false xk) 32 (0,0))∧U.cell? ⟨db,doff,none⟩=some (.int .u32 d)) w31):=⟨(Done.at_ (C:=fun X=>Star (Star (CellW g (yD id nk true xf xn D) 55) X) (CellW (w0.heap.size + 1) (yA 0 0 0 0 false ⟨#[]⟩) 32)) (Fr.l (Fr.r cS Fr.id_) cS) HSw31.out),(Done.tch HSw31.out).cell (p:=⟨db,doff,none⟩) HDC0.out (HDIS.out hL0 db (by simp [blk]))⟩;refine ⟨HE31.out,?_⟩;clear hg hh
              simp only [Act.put,jzU,jzV,jzW]
              refine rtk 11 HE31.out ?_
              refine rests_done (by kernel_rfl) ?_
              go_wp2
              have HSd40:=jzD (HSw31.out.drewD ((cS.star cS).star cS))
              have HEd40:Hid ((fun U=>U.heap[w0.heap.size]?=some (.cells (yA xf 0 xs xn false xk) 32 (0,0))) (w31).drew):=(Done.at_ (C:=fun X=>Star (Star (CellW g (yD id nk true xf xn D) 55) X) (CellW (w0.heap.size + 1) (yA 0 0 0 0 false ⟨#[]⟩) 32)) (Fr.l (Fr.r cS Fr.id_) cS) HSd40.out)
              refine rests_begin (fun U=>U.heap[w0.heap.size]?=some (.cells (yA xf 0 xs xn false xk) 32 (0,0))) (by kernel_rfl) ?_
              refine rtk 0 HEd40.out ?_
              refine rtk 1 HEd40.out ?_
              refine rtk 2 HEd40.out ?_
              refine rtk 3 HEd40.out ?_
              refine rtk 5 HEd40.out ?_
              refine rtk 6 HEd40.out ?_ (hy:=by intro W HW;have cw:W.cell? ⟨w0.heap.size,2,none⟩=some (.int .i64 xs):=cell_at HW 2 _ rfl;go_simp;try with_reducible rfl)
              have cq40:((w31).drew).cell? ⟨g,5,none⟩=some (.int .i64 D):=cell_at (Done.at_ (C:=fun X=>Star (Star (X) (CellW w0.heap.size (yA xf 0 xs xn false xk) 32)) (CellW (w0.heap.size + 1) (yA 0 0 0 0 false ⟨#[]⟩) 32)) (Fr.l (Fr.l Fr.id_ cS) cS) HSd40.out) 5 _ rfl
              refine rests_run 4 (oi:=_) (by simp only [jzG,jzH,jzI];rfl) (by kernel_rfl) (by rfl) (.int .i64 D) ((w31).drew) (by go_simp) ⟨HEd40.out,?_⟩
              clear cq40
              simp only [Act.put,jzU,jzV,jzW]
              refine rests_take 7 (oi:=_) (v:=.int .i64 KK) (by simp only [jzG,jzH,jzI];rfl) (by kernel_rfl) (by kernel_rfl) (by kernel_rfl) (by exact fun _ _ _ h=>h) (HEd40.out) (by rfl) (fun W HW=>by go_simp;exact HMAX.out) ?_
              simp only [Act.put,jzU,jzV,jzW]
              refine rtk 8 HEd40.out ?_
              refine rtk 9 HEd40.out ?_
              refine rests_store1 10 (oi:=_) (by simp only [jzG,jzH,jzI];rfl) (by kernel_rfl) (by rfl) 3 (.tmp 119) (.tmp 117) rfl g 5 (.int .i64 KK) rfl rfl 55 _ (Done.at_ (C:=fun X=>Star (Star (X) (CellW w0.heap.size (yA xf 0 xs xn false xk) 32)) (CellW (w0.heap.size + 1) (yA 0 0 0 0 false ⟨#[]⟩) 32)) (Fr.l (Fr.l Fr.id_ cS) cS) HSd40.out) (by simp) (run_storeI _ _ _) ?_
              intro w41 hg hh;have HSw41:Hid (Done w0 F (Star (Star (CellW g (yD id nk true xf xn KK) 55) (CellW w0.heap.size (yA xf 0 xs xn false xk) 32)) (CellW (w0.heap.size + 1) (yA 0 0 0 0 false ⟨#[]⟩) 32)) w41):=Done.put_ (C:=fun X=>Star (Star (X) (CellW w0.heap.size (yA xf 0 xs xn false xk) 32)) (CellW (w0.heap.size + 1) (yA 0 0 0 0 false ⟨#[]⟩) 32)) (Fr.l (Fr.l Fr.id_ cS) cS) HSd40.out hg hh;have HE41:Hid ((fun U=>U.heap[w0.heap.size]?=some (.cells (yA xf 0 xs xn false xk) 32 (0,0))) w41):=(Done.at_ (C:=fun X=>Star (Star (CellW g (yD id nk true xf xn KK) 55) X) (CellW (w0.heap.size + 1) (yA 0 0 0 0 false ⟨#[]⟩) 32)) (Fr.l (Fr.r cS Fr.id_) cS) HSw41.out);refine ⟨HE41.out,?_⟩;clear hg hh
              simp only [Act.put,jzU,jzV,jzW]
              refine rests_done (by kernel_rfl) ?_
              go_wp2
              by_cases hk:KK=xs
              · skip
                have kb:(KK == xs)=true:=by simp [hk]
                have kn:(xs != KK)=false:=by simp [hk]
                have HH:Hid (ReplyM.xid (⟨id,nk,rndR rd ra rn rk⟩:ReplyM) (⟨xf,0,xs,xn,false,xk⟩:XIn) l=(⟨id,xf,xs,xn,false,nk⟩:XIn)∧ReplyM.used (⟨id,nk,rndR rd ra rn rk⟩:ReplyM) (⟨xf,0,xs,xn,false,xk⟩:XIn) l=1∧ReplyM.says (⟨id,nk,rndR rd ra rn rk⟩:ReplyM) (⟨xf,0,xs,xn,false,xk⟩:XIn) l=true∧ReplyM.hear (⟨id,nk,rndR rd ra rn rk⟩:ReplyM) (⟨xf,0,xs,xn,false,xk⟩:XIn) l=⟨id,nk,some (xf,xn,KK)⟩):=by show _∧_;have hq:=HHK.out;rw [kb] at hq;exact hq
                clear kb hk HHK
                refine regq (fun W=>Below (w41).heap.size (w41) W) (by kernel_rfl) (by kernel_rfl) ((Below.refl _ _).drew) ?_
                refine qtk ?_
                refine qtk ?_ (hy:=by intro W HW;have cw:W.cell? ⟨w0.heap.size,2,none⟩=some (.int .i64 xs):=cell_at (keep_at (Done.at_ (C:=fun X=>Star (Star (CellW g (yD id nk true xf xn KK) 55) X) (CellW (w0.heap.size + 1) (yA 0 0 0 0 false ⟨#[]⟩) 32)) (Fr.l (Fr.r cS Fr.id_) cS) HSw41.out) HW) 2 _ rfl;go_simp;try with_reducible rfl)
                iterate 3 refine qtk ?_
                refine qtk ?_ (hy:=by intro W HW;have cw:W.cell? ⟨g,5,none⟩=some (.int .i64 KK):=cell_at (keep_at (Done.at_ (C:=fun X=>Star (Star (X) (CellW w0.heap.size (yA xf 0 xs xn false xk) 32)) (CellW (w0.heap.size + 1) (yA 0 0 0 0 false ⟨#[]⟩) 32)) (Fr.l (Fr.l Fr.id_ cS) cS) HSw41.out) HW) 5 _ rfl;go_simp;try with_reducible rfl)
                refine qtk ?_
                refine q_done ?_
                intro w7 hb
                have HSw7:=jzD (HSw41.out.keep ((cS.star cS).star cS) hb)
                clear hb
                go_wp2
                have HSd:=jzD (HSw7.out.drewD ((cS.star cS).star cS))
                have HEd:Hid ((fun U=>U.heap[g]?=some (.cells (yD id nk true xf xn KK) 55 (0,0))∧U.heap[w0.heap.size]?=some (.cells (yA xf 0 xs xn false xk) 32 (0,0))) w7.drew):=⟨(Done.at_ (C:=fun X=>Star (Star (X) (CellW w0.heap.size (yA xf 0 xs xn false xk) 32)) (CellW (w0.heap.size + 1) (yA 0 0 0 0 false ⟨#[]⟩) 32)) (Fr.l (Fr.l Fr.id_ cS) cS) HSd.out),(Done.at_ (C:=fun X=>Star (Star (CellW g (yD id nk true xf xn KK) 55) X) (CellW (w0.heap.size + 1) (yA 0 0 0 0 false ⟨#[]⟩) 32)) (Fr.l (Fr.r cS Fr.id_) cS) HSd.out)⟩
                refine rests_begin (fun U=>U.heap[g]?=some (.cells (yD id nk true xf xn KK) 55 (0,0))∧U.heap[w0.heap.size]?=some (.cells (yA xf 0 xs xn false xk) 32 (0,0))) (by kernel_rfl) ?_
                refine rtk 0 HEd.out ?_
                refine rtk 1 HEd.out ?_
                refine rtk 2 HEd.out ?_
                refine rtk 3 HEd.out ?_ (hy:=by intro W HW;have cw:W.cell? ⟨g,0,none⟩=some (.int .u32 id):=cell_at HW.1 0 _ rfl;go_simp;try with_reducible rfl)
                refine rtk 4 HEd.out ?_
                refine rtk 5 HEd.out ?_ (hy:=by intro W HW;have cw:W.cell? ⟨w0.heap.size,0,none⟩=some (.int .u32 xf):=cell_at HW.2 0 _ rfl;go_simp;try with_reducible rfl)
                refine rtk 6 HEd.out ?_
                refine rtk 7 HEd.out ?_ (hy:=by intro W HW;have cw:W.cell? ⟨w0.heap.size,2,none⟩=some (.int .i64 xs):=cell_at HW.2 2 _ rfl;go_simp;try with_reducible rfl)
                refine rtk 8 HEd.out ?_
                refine rtk 9 HEd.out ?_ (hy:=by intro W HW;have cw:W.cell? ⟨w0.heap.size,3,none⟩=some (.int .i64 xn):=cell_at HW.2 3 _ rfl;go_simp;try with_reducible rfl)
                refine rtk 10 HEd.out ?_
                refine rtk 11 HEd.out ?_
                refine rtk 12 HEd.out ?_
                refine rtk 13 HEd.out ?_ (hy:=by intro W HW;have cw:W.cell? ⟨g,1,none⟩=some (.string nk):=cell_at HW.1 1 _ rfl;go_simp;try with_reducible rfl)
                refine rtk 14 HEd.out ?_
                refine rtk 15 HEd.out ?_
                refine rests_storeB 16 (oi:=_) (by simp only [jzG,jzH,jzI];rfl) (by kernel_rfl) (by rfl) 32 (.tmp 6) (.tmp 143) rfl (w0.heap.size + 1) #[.int .u32 id,.int .u32 xf,.int .i64 xs,.int .i64 xn,.bool false,.string nk] rfl rfl 32 _ (Done.at_ (C:=fun X=>Star (Star (CellW g (yD id nk true xf xn KK) 55) (CellW w0.heap.size (yA xf 0 xs xn false xk) 32)) X) (Fr.r (cS.star cS) Fr.id_) HSd.out) (by kernel_rfl) rfl (by simp [Value.oneCell']) ?_
                intro w8 hg _ hh;have HSw8:Hid (Done w0 F (Star (Star (CellW g (yD id nk true xf xn KK) 55) (CellW w0.heap.size (yA xf 0 xs xn false xk) 32)) (CellW (w0.heap.size + 1) (yA id xf xs xn false nk) 32)) w8):=Done.put_ (C:=fun X=>Star (Star (CellW g (yD id nk true xf xn KK) 55) (CellW w0.heap.size (yA xf 0 xs xn false xk) 32)) X) (Fr.r (cS.star cS) Fr.id_) HSd.out hg hh;have HE8:Hid ((fun U=>U.heap[g]?=some (.cells (yD id nk true xf xn KK) 55 (0,0))∧U.heap[w0.heap.size]?=some (.cells (yA xf 0 xs xn false xk) 32 (0,0))) w8):=⟨(Done.at_ (C:=fun X=>Star (Star (X) (CellW w0.heap.size (yA xf 0 xs xn false xk) 32)) (CellW (w0.heap.size + 1) (yA id xf xs xn false nk) 32)) (Fr.l (Fr.l Fr.id_ cS) cS) HSw8.out),(Done.at_ (C:=fun X=>Star (Star (CellW g (yD id nk true xf xn KK) 55) X) (CellW (w0.heap.size + 1) (yA id xf xs xn false nk) 32)) (Fr.l (Fr.r cS Fr.id_) cS) HSw8.out)⟩;refine ⟨HE8.out,?_⟩;clear hg hh
                simp only [Act.put,jzU,jzV,jzW]
                refine rtk 17 HE8.out ?_
                refine rtk 18 HE8.out ?_
                refine rests_done (by kernel_rfl) ?_
                go_wp2
                exact ⟨rfl,_,results_cell3 rfl _ _ (w0.heap.size + 1) _ _ _ _ (.int .i64 1) (.bool true) rfl rfl rfl (Done.at_ (C:=fun X=>Star (Star (CellW g (yD id nk true xf xn KK) 55) (CellW w0.heap.size (yA xf 0 xs xn false xk) 32)) X) (Fr.r (cS.star cS) Fr.id_) HSw8.out) Tryz.underlying32 rfl (by kernel_rfl),by rw [HH.out.1,HH.out.2.1,HH.out.2.2.1] <;> rfl,by rw [HH.out.2.2.2];exact HSw8.out.drop.drop.mono fun F hF=>⟨true,xf,xn,KK,rfl,hF⟩⟩

              · skip
                have kb:(KK == xs)=false:=beq_eq_false_iff_ne.2 hk
                have kn:(xs != KK)=true:=bne_iff_ne.2 (fun h=>hk h.symm)
                have HH:Hid (ReplyM.xid (⟨id,nk,rndR rd ra rn rk⟩:ReplyM) (⟨xf,0,xs,xn,false,xk⟩:XIn) l=ReplyM.xz∧ReplyM.used (⟨id,nk,rndR rd ra rn rk⟩:ReplyM) (⟨xf,0,xs,xn,false,xk⟩:XIn) l=1∧ReplyM.says (⟨id,nk,rndR rd ra rn rk⟩:ReplyM) (⟨xf,0,xs,xn,false,xk⟩:XIn) l=false∧ReplyM.hear (⟨id,nk,rndR rd ra rn rk⟩:ReplyM) (⟨xf,0,xs,xn,false,xk⟩:XIn) l=⟨id,nk,some (xf,xn,KK)⟩):=by show _∧_;have hq:=HHK.out;rw [kb] at hq;exact hq
                clear kb hk HHK
                refine regq (fun W=>Below (w41).heap.size (w41) W) (by kernel_rfl) (by kernel_rfl) ((Below.refl _ _).drew) ?_
                refine qtk ?_
                refine qtk ?_ (hy:=by intro W HW;have cw:W.cell? ⟨w0.heap.size,2,none⟩=some (.int .i64 xs):=cell_at (keep_at (Done.at_ (C:=fun X=>Star (Star (CellW g (yD id nk true xf xn KK) 55) X) (CellW (w0.heap.size + 1) (yA 0 0 0 0 false ⟨#[]⟩) 32)) (Fr.l (Fr.r cS Fr.id_) cS) HSw41.out) HW) 2 _ rfl;go_simp;try with_reducible rfl)
                iterate 3 refine qtk ?_
                refine qtk ?_ (hy:=by intro W HW;have cw:W.cell? ⟨g,5,none⟩=some (.int .i64 KK):=cell_at (keep_at (Done.at_ (C:=fun X=>Star (Star (X) (CellW w0.heap.size (yA xf 0 xs xn false xk) 32)) (CellW (w0.heap.size + 1) (yA 0 0 0 0 false ⟨#[]⟩) 32)) (Fr.l (Fr.l Fr.id_ cS) cS) HSw41.out) HW) 5 _ rfl;go_simp;try with_reducible rfl)
                refine qtk ?_
                refine q_done ?_
                intro w7 hb
                have HSw7:=jzD (HSw41.out.keep ((cS.star cS).star cS) hb)
                clear hb
                go_wp2_with ((with_reducible refine wpList_storeBD (C:=fun X=>Star (Star (CellW g (yD id nk true xf xn KK) 55) (CellW w0.heap.size (yA xf 0 xs xn false xk) 32)) X) (Fr.r (cS.star cS) Fr.id_) HSw7.out rfl 32 (.tmp 6) (.tmp 127) rfl #[.int .u32 0,.int .u32 0,.int .i64 0,.int .i64 0,.bool false,.string ⟨#[]⟩] rfl rfl (by kernel_rfl) rfl (by simp [Value.oneCell']) ?_);intro wz hs;have HSwz:Hid (Done w0 F (Star (Star (CellW g (yD id nk true xf xn KK) 55) (CellW w0.heap.size (yA xf 0 xs xn false xk) 32)) (CellW (w0.heap.size + 1) (yA 0 0 0 0 false ⟨#[]⟩) 32)) wz):=(by show Done _ _ _ _;exact hs);clear hs)
                exact ⟨rfl,_,results_cell3 rfl _ _ (w0.heap.size + 1) _ _ _ _ (.int .i64 1) (.bool false) rfl rfl rfl (Done.at_ (C:=fun X=>Star (Star (CellW g (yD id nk true xf xn KK) 55) (CellW w0.heap.size (yA xf 0 xs xn false xk) 32)) X) (Fr.r (cS.star cS) Fr.id_) HSwz.out) Tryz.underlying32 rfl (by kernel_rfl),by rw [HH.out.1,HH.out.2.1,HH.out.2.2.1] <;> rfl,by rw [HH.out.2.2.2];exact HSwz.out.drop.drop.mono fun F hF=>⟨true,xf,xn,KK,rfl,hF⟩⟩
            · skip
              have d1:decide ((0:Int) < (L:Int))=false:=decide_eq_false (by omega)
              have d2:decide (0 < L)=false:=decide_eq_false hL0
              have hl0:l=[]:=List.eq_nil_of_length_eq_zero (by have := HL.out;omega)
              have hsl:ReplyM.slotOf (⟨xf,0,xs,xn,false,xk⟩:XIn) l=xs:=by rw [hl0];rfl
              have hus:ReplyM.usedOf (⟨id,nk,rndR rd ra rn rk⟩:ReplyM) (⟨xf,0,xs,xn,false,xk⟩:XIn) l=0:=by unfold ReplyM.usedOf;rw [← HB.out,← HL.out,d2];rfl
              obtain ⟨KK,hK⟩:∃ k,k=max 0 xs:=⟨_,rfl⟩
              have HMAX:Hid (max 0 xs=KK):=hK.symm
              have hxm:KK=xs:=by rw [hK];omega
              have hsl:=hsl.trans hxm.symm
              have hr:ReplyM.roundOf (⟨id,nk,rndR rd ra rn rk⟩:ReplyM) (⟨xf,0,xs,xn,false,xk⟩:XIn) l=some (xf,xn,KK):=by unfold ReplyM.roundOf;rw [← HB.out,if_pos rfl,hsl]
              have hh:=HHA.out xf xn KK hr
              rw [hus] at hh
              have HHK:Hid (ReplyM.xid (⟨id,nk,rndR rd ra rn rk⟩:ReplyM) (⟨xf,0,xs,xn,false,xk⟩:XIn) l=(if KK == xs then ⟨id,xf,xs,xn,false,nk⟩ else ReplyM.xz)∧ReplyM.used (⟨id,nk,rndR rd ra rn rk⟩:ReplyM) (⟨xf,0,xs,xn,false,xk⟩:XIn) l=0∧ReplyM.says (⟨id,nk,rndR rd ra rn rk⟩:ReplyM) (⟨xf,0,xs,xn,false,xk⟩:XIn) l=(KK == xs)∧ReplyM.hear (⟨id,nk,rndR rd ra rn rk⟩:ReplyM) (⟨xf,0,xs,xn,false,xk⟩:XIn) l=⟨id,nk,some (xf,xn,KK)⟩):=hh
              clear hr hus hh hsl hxm hK hl0
              go_wp2
              have HSd40:=jzD (HSw23.out.drewD ((cS.star cS).star cS))
              have HEd40:Hid ((fun U=>U.heap[w0.heap.size]?=some (.cells (yA xf 0 xs xn false xk) 32 (0,0))) (w23).drew):=(Done.at_ (C:=fun X=>Star (Star (CellW g (yD id nk true xf xn 0) 55) X) (CellW (w0.heap.size + 1) (yA 0 0 0 0 false ⟨#[]⟩) 32)) (Fr.l (Fr.r cS Fr.id_) cS) HSd40.out)
              refine rests_begin (fun U=>U.heap[w0.heap.size]?=some (.cells (yA xf 0 xs xn false xk) 32 (0,0))) (by kernel_rfl) ?_
              refine rtk 0 HEd40.out ?_
              refine rtk 1 HEd40.out ?_
              refine rtk 2 HEd40.out ?_
              refine rtk 3 HEd40.out ?_
              refine rtk 5 HEd40.out ?_
              refine rtk 6 HEd40.out ?_ (hy:=by intro W HW;have cw:W.cell? ⟨w0.heap.size,2,none⟩=some (.int .i64 xs):=cell_at HW 2 _ rfl;go_simp;try with_reducible rfl)
              have cq40:((w23).drew).cell? ⟨g,5,none⟩=some (.int .i64 0):=cell_at (Done.at_ (C:=fun X=>Star (Star (X) (CellW w0.heap.size (yA xf 0 xs xn false xk) 32)) (CellW (w0.heap.size + 1) (yA 0 0 0 0 false ⟨#[]⟩) 32)) (Fr.l (Fr.l Fr.id_ cS) cS) HSd40.out) 5 _ rfl
              refine rests_run 4 (oi:=_) (by simp only [jzG,jzH,jzI];rfl) (by kernel_rfl) (by rfl) (.int .i64 0) ((w23).drew) (by go_simp) ⟨HEd40.out,?_⟩
              clear cq40
              simp only [Act.put,jzU,jzV,jzW]
              refine rests_take 7 (oi:=_) (v:=.int .i64 KK) (by simp only [jzG,jzH,jzI];rfl) (by kernel_rfl) (by kernel_rfl) (by kernel_rfl) (by exact fun _ _ _ h=>h) (HEd40.out) (by rfl) (fun W HW=>by go_simp;exact HMAX.out) ?_
              simp only [Act.put,jzU,jzV,jzW]
              refine rtk 8 HEd40.out ?_
              refine rtk 9 HEd40.out ?_
              refine rests_store1 10 (oi:=_) (by simp only [jzG,jzH,jzI];rfl) (by kernel_rfl) (by rfl) 3 (.tmp 119) (.tmp 117) rfl g 5 (.int .i64 KK) rfl rfl 55 _ (Done.at_ (C:=fun X=>Star (Star (X) (CellW w0.heap.size (yA xf 0 xs xn false xk) 32)) (CellW (w0.heap.size + 1) (yA 0 0 0 0 false ⟨#[]⟩) 32)) (Fr.l (Fr.l Fr.id_ cS) cS) HSd40.out) (by simp) (run_storeI _ _ _) ?_
              intro w41 hg hh;have HSw41:Hid (Done w0 F (Star (Star (CellW g (yD id nk true xf xn KK) 55) (CellW w0.heap.size (yA xf 0 xs xn false xk) 32)) (CellW (w0.heap.size + 1) (yA 0 0 0 0 false ⟨#[]⟩) 32)) w41):=Done.put_ (C:=fun X=>Star (Star (X) (CellW w0.heap.size (yA xf 0 xs xn false xk) 32)) (CellW (w0.heap.size + 1) (yA 0 0 0 0 false ⟨#[]⟩) 32)) (Fr.l (Fr.l Fr.id_ cS) cS) HSd40.out hg hh;have HE41:Hid ((fun U=>U.heap[w0.heap.size]?=some (.cells (yA xf 0 xs xn false xk) 32 (0,0))) w41):=(Done.at_ (C:=fun X=>Star (Star (CellW g (yD id nk true xf xn KK) 55) X) (CellW (w0.heap.size + 1) (yA 0 0 0 0 false ⟨#[]⟩) 32)) (Fr.l (Fr.r cS Fr.id_) cS) HSw41.out);refine ⟨HE41.out,?_⟩;clear hg hh
              simp only [Act.put,jzU,jzV,jzW]
              refine rests_done (by kernel_rfl) ?_
              go_wp2
              by_cases hk:KK=xs
              · skip
                have kb:(KK == xs)=true:=by simp [hk]
                have kn:(xs != KK)=false:=by simp [hk]
                have HH:Hid (ReplyM.xid (⟨id,nk,rndR rd ra rn rk⟩:ReplyM) (⟨xf,0,xs,xn,false,xk⟩:XIn) l=(⟨id,xf,xs,xn,false,nk⟩:XIn)∧ReplyM.used (⟨id,nk,rndR rd ra rn rk⟩:ReplyM) (⟨xf,0,xs,xn,false,xk⟩:XIn) l=0∧ReplyM.says (⟨id,nk,rndR rd ra rn rk⟩:ReplyM) (⟨xf,0,xs,xn,false,xk⟩:XIn) l=true∧ReplyM.hear (⟨id,nk,rndR rd ra rn rk⟩:ReplyM) (⟨xf,0,xs,xn,false,xk⟩:XIn) l=⟨id,nk,some (xf,xn,KK)⟩):=by show _∧_;have hq:=HHK.out;rw [kb] at hq;exact hq
                clear kb hk HHK
                refine regq (fun W=>Below (w41).heap.size (w41) W) (by kernel_rfl) (by kernel_rfl) ((Below.refl _ _).drew) ?_
                refine qtk ?_
                refine qtk ?_ (hy:=by intro W HW;have cw:W.cell? ⟨w0.heap.size,2,none⟩=some (.int .i64 xs):=cell_at (keep_at (Done.at_ (C:=fun X=>Star (Star (CellW g (yD id nk true xf xn KK) 55) X) (CellW (w0.heap.size + 1) (yA 0 0 0 0 false ⟨#[]⟩) 32)) (Fr.l (Fr.r cS Fr.id_) cS) HSw41.out) HW) 2 _ rfl;go_simp;try with_reducible rfl)
                iterate 3 refine qtk ?_
                refine qtk ?_ (hy:=by intro W HW;have cw:W.cell? ⟨g,5,none⟩=some (.int .i64 KK):=cell_at (keep_at (Done.at_ (C:=fun X=>Star (Star (X) (CellW w0.heap.size (yA xf 0 xs xn false xk) 32)) (CellW (w0.heap.size + 1) (yA 0 0 0 0 false ⟨#[]⟩) 32)) (Fr.l (Fr.l Fr.id_ cS) cS) HSw41.out) HW) 5 _ rfl;go_simp;try with_reducible rfl)
                refine qtk ?_
                refine q_done ?_
                intro w7 hb
                have HSw7:=jzD (HSw41.out.keep ((cS.star cS).star cS) hb)
                clear hb
                go_wp2
                have HSd:=jzD (HSw7.out.drewD ((cS.star cS).star cS))
                have HEd:Hid ((fun U=>U.heap[g]?=some (.cells (yD id nk true xf xn KK) 55 (0,0))∧U.heap[w0.heap.size]?=some (.cells (yA xf 0 xs xn false xk) 32 (0,0))) w7.drew):=⟨(Done.at_ (C:=fun X=>Star (Star (X) (CellW w0.heap.size (yA xf 0 xs xn false xk) 32)) (CellW (w0.heap.size + 1) (yA 0 0 0 0 false ⟨#[]⟩) 32)) (Fr.l (Fr.l Fr.id_ cS) cS) HSd.out),(Done.at_ (C:=fun X=>Star (Star (CellW g (yD id nk true xf xn KK) 55) X) (CellW (w0.heap.size + 1) (yA 0 0 0 0 false ⟨#[]⟩) 32)) (Fr.l (Fr.r cS Fr.id_) cS) HSd.out)⟩
                refine rests_begin (fun U=>U.heap[g]?=some (.cells (yD id nk true xf xn KK) 55 (0,0))∧U.heap[w0.heap.size]?=some (.cells (yA xf 0 xs xn false xk) 32 (0,0))) (by kernel_rfl) ?_
                refine rtk 0 HEd.out ?_
                refine rtk 1 HEd.out ?_
                refine rtk 2 HEd.out ?_
                refine rtk 3 HEd.out ?_ (hy:=by intro W HW;have cw:W.cell? ⟨g,0,none⟩=some (.int .u32 id):=cell_at HW.1 0 _ rfl;go_simp;try with_reducible rfl)
                refine rtk 4 HEd.out ?_
                refine rtk 5 HEd.out ?_ (hy:=by intro W HW;have cw:W.cell? ⟨w0.heap.size,0,none⟩=some (.int .u32 xf):=cell_at HW.2 0 _ rfl;go_simp;try with_reducible rfl)
                refine rtk 6 HEd.out ?_
                refine rtk 7 HEd.out ?_ (hy:=by intro W HW;have cw:W.cell? ⟨w0.heap.size,2,none⟩=some (.int .i64 xs):=cell_at HW.2 2 _ rfl;go_simp;try with_reducible rfl)
                refine rtk 8 HEd.out ?_
                refine rtk 9 HEd.out ?_ (hy:=by intro W HW;have cw:W.cell? ⟨w0.heap.size,3,none⟩=some (.int .i64 xn):=cell_at HW.2 3 _ rfl;go_simp;try with_reducible rfl)
                refine rtk 10 HEd.out ?_
                refine rtk 11 HEd.out ?_
                refine rtk 12 HEd.out ?_
                refine rtk 13 HEd.out ?_ (hy:=by intro W HW;have cw:W.cell? ⟨g,1,none⟩=some (.string nk):=cell_at HW.1 1 _ rfl;go_simp;try with_reducible rfl)
                refine rtk 14 HEd.out ?_
                refine rtk 15 HEd.out ?_
                refine rests_storeB 16 (oi:=_) (by simp only [jzG,jzH,jzI];rfl) (by kernel_rfl) (by rfl) 32 (.tmp 6) (.tmp 143) rfl (w0.heap.size + 1) #[.int .u32 id,.int .u32 xf,.int .i64 xs,.int .i64 xn,.bool false,.string nk] rfl rfl 32 _ (Done.at_ (C:=fun X=>Star (Star (CellW g (yD id nk true xf xn KK) 55) (CellW w0.heap.size (yA xf 0 xs xn false xk) 32)) X) (Fr.r (cS.star cS) Fr.id_) HSd.out) (by kernel_rfl) rfl (by simp [Value.oneCell']) ?_
                intro w8 hg _ hh;have HSw8:Hid (Done w0 F (Star (Star (CellW g (yD id nk true xf xn KK) 55) (CellW w0.heap.size (yA xf 0 xs xn false xk) 32)) (CellW (w0.heap.size + 1) (yA id xf xs xn false nk) 32)) w8):=Done.put_ (C:=fun X=>Star (Star (CellW g (yD id nk true xf xn KK) 55) (CellW w0.heap.size (yA xf 0 xs xn false xk) 32)) X) (Fr.r (cS.star cS) Fr.id_) HSd.out hg hh;have HE8:Hid ((fun U=>U.heap[g]?=some (.cells (yD id nk true xf xn KK) 55 (0,0))∧U.heap[w0.heap.size]?=some (.cells (yA xf 0 xs xn false xk) 32 (0,0))) w8):=⟨(Done.at_ (C:=fun X=>Star (Star (X) (CellW w0.heap.size (yA xf 0 xs xn false xk) 32)) (CellW (w0.heap.size + 1) (yA id xf xs xn false nk) 32)) (Fr.l (Fr.l Fr.id_ cS) cS) HSw8.out),(Done.at_ (C:=fun X=>Star (Star (CellW g (yD id nk true xf xn KK) 55) X) (CellW (w0.heap.size + 1) (yA id xf xs xn false nk) 32)) (Fr.l (Fr.r cS Fr.id_) cS) HSw8.out)⟩;refine ⟨HE8.out,?_⟩;clear hg hh
                simp only [Act.put,jzU,jzV,jzW]
                refine rtk 17 HE8.out ?_
                refine rtk 18 HE8.out ?_
                refine rests_done (by kernel_rfl) ?_
                go_wp2
                exact ⟨rfl,_,results_cell3 rfl _ _ (w0.heap.size + 1) _ _ _ _ (.int .i64 0) (.bool true) rfl rfl rfl (Done.at_ (C:=fun X=>Star (Star (CellW g (yD id nk true xf xn KK) 55) (CellW w0.heap.size (yA xf 0 xs xn false xk) 32)) X) (Fr.r (cS.star cS) Fr.id_) HSw8.out) Tryz.underlying32 rfl (by kernel_rfl),by rw [HH.out.1,HH.out.2.1,HH.out.2.2.1] <;> rfl,by rw [HH.out.2.2.2];exact HSw8.out.drop.drop.mono fun F hF=>⟨true,xf,xn,KK,rfl,hF⟩⟩

              · skip
                have kb:(KK == xs)=false:=beq_eq_false_iff_ne.2 hk
                have kn:(xs != KK)=true:=bne_iff_ne.2 (fun h=>hk h.symm)
                have HH:Hid (ReplyM.xid (⟨id,nk,rndR rd ra rn rk⟩:ReplyM) (⟨xf,0,xs,xn,false,xk⟩:XIn) l=ReplyM.xz∧ReplyM.used (⟨id,nk,rndR rd ra rn rk⟩:ReplyM) (⟨xf,0,xs,xn,false,xk⟩:XIn) l=0∧ReplyM.says (⟨id,nk,rndR rd ra rn rk⟩:ReplyM) (⟨xf,0,xs,xn,false,xk⟩:XIn) l=false∧ReplyM.hear (⟨id,nk,rndR rd ra rn rk⟩:ReplyM) (⟨xf,0,xs,xn,false,xk⟩:XIn) l=⟨id,nk,some (xf,xn,KK)⟩):=by show _∧_;have hq:=HHK.out;rw [kb] at hq;exact hq
                clear kb hk HHK
                refine regq (fun W=>Below (w41).heap.size (w41) W) (by kernel_rfl) (by kernel_rfl) ((Below.refl _ _).drew) ?_
                refine qtk ?_
                refine qtk ?_ (hy:=by intro W HW;have cw:W.cell? ⟨w0.heap.size,2,none⟩=some (.int .i64 xs):=cell_at (keep_at (Done.at_ (C:=fun X=>Star (Star (CellW g (yD id nk true xf xn KK) 55) X) (CellW (w0.heap.size + 1) (yA 0 0 0 0 false ⟨#[]⟩) 32)) (Fr.l (Fr.r cS Fr.id_) cS) HSw41.out) HW) 2 _ rfl;go_simp;try with_reducible rfl)
                iterate 3 refine qtk ?_
                refine qtk ?_ (hy:=by intro W HW;have cw:W.cell? ⟨g,5,none⟩=some (.int .i64 KK):=cell_at (keep_at (Done.at_ (C:=fun X=>Star (Star (X) (CellW w0.heap.size (yA xf 0 xs xn false xk) 32)) (CellW (w0.heap.size + 1) (yA 0 0 0 0 false ⟨#[]⟩) 32)) (Fr.l (Fr.l Fr.id_ cS) cS) HSw41.out) HW) 5 _ rfl;go_simp;try with_reducible rfl)
                refine qtk ?_
                refine q_done ?_
                intro w7 hb
                have HSw7:=jzD (HSw41.out.keep ((cS.star cS).star cS) hb)
                clear hb
                go_wp2_with ((with_reducible refine wpList_storeBD (C:=fun X=>Star (Star (CellW g (yD id nk true xf xn KK) 55) (CellW w0.heap.size (yA xf 0 xs xn false xk) 32)) X) (Fr.r (cS.star cS) Fr.id_) HSw7.out rfl 32 (.tmp 6) (.tmp 127) rfl #[.int .u32 0,.int .u32 0,.int .i64 0,.int .i64 0,.bool false,.string ⟨#[]⟩] rfl rfl (by kernel_rfl) rfl (by simp [Value.oneCell']) ?_);intro wz hs;have HSwz:Hid (Done w0 F (Star (Star (CellW g (yD id nk true xf xn KK) 55) (CellW w0.heap.size (yA xf 0 xs xn false xk) 32)) (CellW (w0.heap.size + 1) (yA 0 0 0 0 false ⟨#[]⟩) 32)) wz):=(by show Done _ _ _ _;exact hs);clear hs)
                exact ⟨rfl,_,results_cell3 rfl _ _ (w0.heap.size + 1) _ _ _ _ (.int .i64 0) (.bool false) rfl rfl rfl (Done.at_ (C:=fun X=>Star (Star (CellW g (yD id nk true xf xn KK) 55) (CellW w0.heap.size (yA xf 0 xs xn false xk) 32)) X) (Fr.r (cS.star cS) Fr.id_) HSwz.out) Tryz.underlying32 rfl (by kernel_rfl),by rw [HH.out.1,HH.out.2.1,HH.out.2.2.1] <;> rfl,by rw [HH.out.2.2.2];exact HSwz.out.drop.drop.mono fun F hF=>⟨true,xf,xn,KK,rfl,hF⟩⟩
     · have HH:=jzD (hear_to (r:=(⟨id,nk,rndR rd ra rn rk⟩:ReplyM)) (x:=(⟨xf,xt,xs,xn,false,xk⟩:XIn)) (l:=l) hm rfl ht)
       have tn:(xt != 0)=true:=bne_iff_ne.2 ht
       clear hm ht
       go_enter Tryz.func40,Tryz.ntmps40
       skip
       go_wp2_with (first
        | (with_reducible refine wpList_loadD (C:=fun X=>Star (Star (CellW g (yD id nk rd ra rn rk) 55) X) (CellW (w0.heap.size + 1) (yA 0 0 0 0 false ⟨#[]⟩) 32)) (Fr.l (Fr.r cS Fr.id_) cS) HS0.out rfl 32 (.tmp 4) rfl rfl _ Tryz.underlying32 rfl (by kernel_rfl) ?_)
        | (go_at_call 38;((with_reducible refine (dcalls_keep ((cS.star cS).star cS) HS0.out (HMX.out _)).mono ?_);rintro e w1 ⟨rfl,hs⟩;have HSw1:=jzD hs;have x4:w1.cell? ⟨w0.heap.size,4,none⟩=some (.bool false):=cell_at (Done.at_ (C:=fun X=>Star (Star (CellW g (yD id nk rd ra rn rk) 55) X) (CellW (w0.heap.size + 1) (yA 0 0 0 0 false ⟨#[]⟩) 32)) (Fr.l (Fr.r cS Fr.id_) cS) hs) 4 _ rfl;have x1:w1.cell? ⟨w0.heap.size,1,none⟩=some (.int .u32 xt):=cell_at (Done.at_ (C:=fun X=>Star (Star (CellW g (yD id nk rd ra rn rk) 55) X) (CellW (w0.heap.size + 1) (yA 0 0 0 0 false ⟨#[]⟩) 32)) (Fr.l (Fr.r cS Fr.id_) cS) hs) 1 _ rfl;clear hs))
        | ((with_reducible refine wpList_storeBD (C:=fun X=>Star (Star (CellW g (yD id nk rd ra rn rk) 55) (CellW w0.heap.size (yA xf xt xs xn false xk) 32)) X) (Fr.r (cS.star cS) Fr.id_) HSw1.out rfl 32 (.tmp 6) (.tmp 45) rfl #[.int .u32 0,.int .u32 0,.int .i64 0,.int .i64 0,.bool false,.string ⟨#[]⟩] rfl rfl (by kernel_rfl) rfl (by simp [Value.oneCell']) ?_);intro wz hs;have HSwz:Hid (Done w0 F (Star (Star (CellW g (yD id nk rd ra rn rk) 55) (CellW w0.heap.size (yA xf xt xs xn false xk) 32)) (CellW (w0.heap.size + 1) (yA 0 0 0 0 false ⟨#[]⟩) 32)) wz):=(by show Done _ _ _ _;exact hs);clear hs))
       exact ⟨rfl,_,results_cell3 rfl _ _ (w0.heap.size + 1) _ _ _ _ (.int .i64 0) (.bool false) rfl rfl rfl (Done.at_ (C:=fun X=>Star (Star (CellW g (yD id nk rd ra rn rk) 55) (CellW w0.heap.size (yA xf xt xs xn false xk) 32)) X) (Fr.r (cS.star cS) Fr.id_) HSwz.out) Tryz.underlying32 rfl (by kernel_rfl),by rw [HH.out.1,HH.out.2.1,HH.out.2.2.1] <;> rfl,by rw [HH.out.2.2.2];exact HSwz.out.drop.drop.mono fun F hF=>⟨rd,ra,rn,rk,rfl,hF⟩⟩
   · subst hw
     by_cases ht:xt=id
     · subst ht
       have HH:=jzD (hear_own (r:=(⟨xt,nk,rndR rd ra rn rk⟩:ReplyM)) (x:=(⟨xf,xt,xs,xn,true,xk⟩:XIn)) (l:=l) hm rfl rfl)
       clear hm
       go_enter Tryz.func40,Tryz.ntmps40
       skip
       go_wp2_with (first
        | (with_reducible refine wpList_loadD (C:=fun X=>Star (Star (CellW g (yD xt nk rd ra rn rk) 55) X) (CellW (w0.heap.size + 1) (yA 0 0 0 0 false ⟨#[]⟩) 32)) (Fr.l (Fr.r cS Fr.id_) cS) HS0.out rfl 32 (.tmp 4) rfl rfl _ Tryz.underlying32 rfl (by kernel_rfl) ?_)
        | (go_at_call 38;((with_reducible refine (dcalls_keep ((cS.star cS).star cS) HS0.out (HMX.out _)).mono ?_);rintro e w1 ⟨rfl,hs⟩;have HSw1:=jzD hs;have x4:w1.cell? ⟨w0.heap.size,4,none⟩=some (.bool true):=cell_at (Done.at_ (C:=fun X=>Star (Star (CellW g (yD xt nk rd ra rn rk) 55) X) (CellW (w0.heap.size + 1) (yA 0 0 0 0 false ⟨#[]⟩) 32)) (Fr.l (Fr.r cS Fr.id_) cS) hs) 4 _ rfl;clear hs)))
       refine regq (fun W=>Below (w1).heap.size (w1) W) (by kernel_rfl) (by kernel_rfl) ((Below.refl _ _).drew) ?_
       refine qtk ?_
       refine qtk ?_ (hy:=by intro W HW;have cw:W.cell? ⟨w0.heap.size,1,none⟩=some (.int .u32 xt):=cell_at (keep_at (Done.at_ (C:=fun X=>Star (Star (CellW g (yD xt nk rd ra rn rk) 55) X) (CellW (w0.heap.size + 1) (yA 0 0 0 0 false ⟨#[]⟩) 32)) (Fr.l (Fr.r cS Fr.id_) cS) HSw1.out) HW) 1 _ rfl;go_simp;try with_reducible rfl)
       iterate 3 refine qtk ?_
       refine qtk ?_ (hy:=by intro W HW;have cw:W.cell? ⟨g,0,none⟩=some (.int .u32 xt):=cell_at (keep_at (Done.at_ (C:=fun X=>Star (Star (X) (CellW w0.heap.size (yA xf xt xs xn true xk) 32)) (CellW (w0.heap.size + 1) (yA 0 0 0 0 false ⟨#[]⟩) 32)) (Fr.l (Fr.l Fr.id_ cS) cS) HSw1.out) HW) 0 _ rfl;go_simp;try with_reducible rfl)
       refine qtk ?_
       refine q_done ?_
       intro w2 hb
       have HSw2:=jzD (HSw1.out.keep ((cS.star cS).star cS) hb)
       clear hb
       have r0:w2.cell? ⟨g,0,none⟩=some (.int .u32 xt):=cell_at (Done.at_ (C:=fun X=>Star (Star (X) (CellW w0.heap.size (yA xf xt xs xn true xk) 32)) (CellW (w0.heap.size + 1) (yA 0 0 0 0 false ⟨#[]⟩) 32)) (Fr.l (Fr.l Fr.id_ cS) cS) HSw2.out) 0 _ rfl
       have HT3:Hid (Done w0 F (Star (Star (Star (CellW g (yD xt nk rd ra rn rk) 55) (CellW w0.heap.size (yA xf xt xs xn true xk) 32)) (CellW (w0.heap.size + 1) (yA 0 0 0 0 false ⟨#[]⟩) 32)) (CellW w2.heap.size #[.int .u32 xt] 22)) (w2.alloc (.cells #[.int .u32 xt] 22))):=HSw2.out.add ((cS.star cS).star cS) (CellW.new w2 #[.int .u32 xt] 22)
       obtain ⟨nf,hnf⟩:∃ n,n=(freshM l [xt]).1:=⟨_,rfl⟩
       obtain ⟨kf,hkf⟩:∃ n,n=((freshM l [xt]).2:Int):=⟨_,rfl⟩
       have HNF:=jzD hnf
       have HKF:=jzD hkf
       have hh2:=HH.out
       have HH2:Hid (ReplyM.xid (⟨xt,nk,rndR rd ra rn rk⟩:ReplyM) (⟨xf,xt,xs,xn,true,xk⟩:XIn) l=ReplyM.xz∧ReplyM.used (⟨xt,nk,rndR rd ra rn rk⟩:ReplyM) (⟨xf,xt,xs,xn,true,xk⟩:XIn) l=kf∧ReplyM.says (⟨xt,nk,rndR rd ra rn rk⟩:ReplyM) (⟨xf,xt,xs,xn,true,xk⟩:XIn) l=false∧ReplyM.hear (⟨xt,nk,rndR rd ra rn rk⟩:ReplyM) (⟨xf,xt,xs,xn,true,xk⟩:XIn) l=⟨nf,nk,rndR rd ra rn rk⟩):=by show _∧_;rw [hkf,hnf];exact hh2
       clear HH
       have HH:=HH2
       clear HH2 hh2 hnf hkf
       have HDW:Hid (RdU (w2.alloc (.cells #[.int .u32 xt] 22)) (.slice A L cap) l):=by show RdU _ _ _;exact HD.out.tchU (Done.tch HT3.out) (fun h=>HDIS.out (by rw [HL.out];exact h))
       go_wp2_with (first
        | (go_at_call 55;((with_reducible refine (dcalls_keep (((cS.star cS).star cS).star cS) HT3.out (RFresh_k (n:=nf) (k:=kf) HDW.out (rdU_one (n:=xt) (Done.at_ (C:=fun X=>Star (Star (Star (CellW g (yD xt nk rd ra rn rk) 55) (CellW w0.heap.size (yA xf xt xs xn true xk) 32)) (CellW (w0.heap.size + 1) (yA 0 0 0 0 false ⟨#[]⟩) 32)) X) (Fr.r ((cS.star cS).star cS) Fr.id_) HT3.out) HIU.out) HL1.out (by simp) HNF.out HKF.out)).mono ?_);rintro e w3 ⟨rfl,hs⟩;have HSw3:Hid (Done w0 F (Star (Star (Star (CellW g (yD xt nk rd ra rn rk) 55) (CellW w0.heap.size (yA xf xt xs xn true xk) 32)) (CellW (w0.heap.size + 1) (yA 0 0 0 0 false ⟨#[]⟩) 32)) (CellW w2.heap.size #[.int .u32 xt] 22)) w3):=(by show Done _ _ _ _;exact hs);clear hs))
        | ((with_reducible refine wpList_storeD (C:=fun X=>Star (Star (Star (X) (CellW w0.heap.size (yA xf xt xs xn true xk) 32)) (CellW (w0.heap.size + 1) (yA 0 0 0 0 false ⟨#[]⟩) 32)) (CellW w2.heap.size #[.int .u32 xt] 22)) (Fr.l (Fr.l (Fr.l Fr.id_ cS) cS) cS) HSw3.out rfl 22 (.tmp 39) (.tmp 37) rfl 0 (.int .u32 nf) rfl rfl (by simp) (run_storeU _ _ _) ?_);intro w4 hs;have HSw4:Hid (Done w0 F (Star (Star (Star (CellW g (yD nf nk rd ra rn rk) 55) (CellW w0.heap.size (yA xf xt xs xn true xk) 32)) (CellW (w0.heap.size + 1) (yA 0 0 0 0 false ⟨#[]⟩) 32)) (CellW w2.heap.size #[.int .u32 xt] 22)) w4):=(by show Done _ _ _ _;exact hs);clear hs)
        | ((with_reducible refine wpList_storeBD (C:=fun X=>Star (Star (Star (CellW g (yD nf nk rd ra rn rk) 55) (CellW w0.heap.size (yA xf xt xs xn true xk) 32)) X) (CellW w2.heap.size #[.int .u32 xt] 22)) (Fr.l (Fr.r (cS.star cS) Fr.id_) cS) HSw4.out rfl 32 (.tmp 6) (.tmp 40) rfl #[.int .u32 0,.int .u32 0,.int .i64 0,.int .i64 0,.bool false,.string ⟨#[]⟩] rfl rfl (by kernel_rfl) rfl (by simp [Value.oneCell']) ?_);intro wz hs;have HSwz:Hid (Done w0 F (Star (Star (Star (CellW g (yD nf nk rd ra rn rk) 55) (CellW w0.heap.size (yA xf xt xs xn true xk) 32)) (CellW (w0.heap.size + 1) (yA 0 0 0 0 false ⟨#[]⟩) 32)) (CellW w2.heap.size #[.int .u32 xt] 22)) wz):=(by show Done _ _ _ _;exact hs);clear hs))
       exact ⟨rfl,_,results_cell3 rfl _ _ (w0.heap.size + 1) _ _ _ _ (.int .i64 kf) (.bool false) rfl rfl rfl (Done.at_ (C:=fun X=>Star (Star (Star (CellW g (yD nf nk rd ra rn rk) 55) (CellW w0.heap.size (yA xf xt xs xn true xk) 32)) X) (CellW w2.heap.size #[.int .u32 xt] 22)) (Fr.l (Fr.r (cS.star cS) Fr.id_) cS) HSwz.out) Tryz.underlying32 rfl (by kernel_rfl),by rw [HH.out.1,HH.out.2.1,HH.out.2.2.1] <;> rfl,by rw [HH.out.2.2.2];exact HSwz.out.drop.drop.drop.mono fun F hF=>⟨rd,ra,rn,rk,rfl,hF⟩⟩
     · skip
       have HH:=jzD (hear_other (r:=(⟨id,nk,rndR rd ra rn rk⟩:ReplyM)) (x:=(⟨xf,xt,xs,xn,true,xk⟩:XIn)) (l:=l) hm rfl ht)
       have tn:(xt != id)=true:=bne_iff_ne.2 ht
       clear hm ht
       go_enter Tryz.func40,Tryz.ntmps40
       skip
       go_wp2_with (first
        | (with_reducible refine wpList_loadD (C:=fun X=>Star (Star (CellW g (yD id nk rd ra rn rk) 55) X) (CellW (w0.heap.size + 1) (yA 0 0 0 0 false ⟨#[]⟩) 32)) (Fr.l (Fr.r cS Fr.id_) cS) HS0.out rfl 32 (.tmp 4) rfl rfl _ Tryz.underlying32 rfl (by kernel_rfl) ?_)
        | (go_at_call 38;((with_reducible refine (dcalls_keep ((cS.star cS).star cS) HS0.out (HMX.out _)).mono ?_);rintro e w1 ⟨rfl,hs⟩;have HSw1:=jzD hs;have x4:w1.cell? ⟨w0.heap.size,4,none⟩=some (.bool true):=cell_at (Done.at_ (C:=fun X=>Star (Star (CellW g (yD id nk rd ra rn rk) 55) X) (CellW (w0.heap.size + 1) (yA 0 0 0 0 false ⟨#[]⟩) 32)) (Fr.l (Fr.r cS Fr.id_) cS) hs) 4 _ rfl;clear hs)))
       refine regq (fun W=>Below (w1).heap.size (w1) W) (by kernel_rfl) (by kernel_rfl) ((Below.refl _ _).drew) ?_
       refine qtk ?_
       refine qtk ?_ (hy:=by intro W HW;have cw:W.cell? ⟨w0.heap.size,1,none⟩=some (.int .u32 xt):=cell_at (keep_at (Done.at_ (C:=fun X=>Star (Star (CellW g (yD id nk rd ra rn rk) 55) X) (CellW (w0.heap.size + 1) (yA 0 0 0 0 false ⟨#[]⟩) 32)) (Fr.l (Fr.r cS Fr.id_) cS) HSw1.out) HW) 1 _ rfl;go_simp;try with_reducible rfl)
       iterate 3 refine qtk ?_
       refine qtk ?_ (hy:=by intro W HW;have cw:W.cell? ⟨g,0,none⟩=some (.int .u32 id):=cell_at (keep_at (Done.at_ (C:=fun X=>Star (Star (X) (CellW w0.heap.size (yA xf xt xs xn true xk) 32)) (CellW (w0.heap.size + 1) (yA 0 0 0 0 false ⟨#[]⟩) 32)) (Fr.l (Fr.l Fr.id_ cS) cS) HSw1.out) HW) 0 _ rfl;go_simp;try with_reducible rfl)
       refine qtk ?_
       refine q_done ?_
       intro w2 hb
       have HSw2:=jzD (HSw1.out.keep ((cS.star cS).star cS) hb)
       clear hb
       go_wp2_with ((with_reducible refine wpList_storeBD (C:=fun X=>Star (Star (CellW g (yD id nk rd ra rn rk) 55) (CellW w0.heap.size (yA xf xt xs xn true xk) 32)) X) (Fr.r (cS.star cS) Fr.id_) HSw2.out rfl 32 (.tmp 6) (.tmp 25) rfl #[.int .u32 0,.int .u32 0,.int .i64 0,.int .i64 0,.bool false,.string ⟨#[]⟩] rfl rfl (by kernel_rfl) rfl (by simp [Value.oneCell']) ?_);intro wz hs;have HSwz:Hid (Done w0 F (Star (Star (CellW g (yD id nk rd ra rn rk) 55) (CellW w0.heap.size (yA xf xt xs xn true xk) 32)) (CellW (w0.heap.size + 1) (yA 0 0 0 0 false ⟨#[]⟩) 32)) wz):=(by show Done _ _ _ _;exact hs);clear hs)
       exact ⟨rfl,_,results_cell3 rfl _ _ (w0.heap.size + 1) _ _ _ _ (.int .i64 0) (.bool false) rfl rfl rfl (Done.at_ (C:=fun X=>Star (Star (CellW g (yD id nk rd ra rn rk) 55) (CellW w0.heap.size (yA xf xt xs xn true xk) 32)) X) (Fr.r (cS.star cS) Fr.id_) HSwz.out) Tryz.underlying32 rfl (by kernel_rfl),by rw [HH.out.1,HH.out.2.1,HH.out.2.2.1] <;> rfl,by rw [HH.out.2.2.2];exact HSwz.out.drop.drop.mono fun F hF=>⟨rd,ra,rn,rk,rfl,hF⟩⟩
end Go.Proofs.YtjddbjmcjhjpiaaGreatDoor
