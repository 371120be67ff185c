/- The reference of layer 16: the tick of one who asks. -/
import Derived.Test.YtjddbjmcjhjpiaaGreatDoorN16J
import Derived.Test.YtjddbjmcjhjpiaaGreatDoorL16txQueryAll
import Derived.Test.YtjddbjmcjhjpiaaGreatDoorL16sxQueryAll

set_option linter.all false

namespace Go.Proofs.YtjddbjmcjhjpiaaGreatDoor
set_option maxRecDepth 100000
set_option maxHeartbeats 16000000
open Go.RowKit M

theorem tick_no (me n c:Int) (nk:ByteArray) (lg:LogM) (h:¬ (c % 8=0∧c≤n * 8)):(⟨me,nk,n,c,lg⟩:QueryM).asks=false∧(⟨me,nk,n,c,lg⟩:QueryM).xid=⟨0,0,0,0,false,⟨#[]⟩⟩:=by
 have ha:(⟨me,nk,n,c,lg⟩:QueryM).asks=false:=decide_eq_false h
 refine ⟨ha,?_⟩
 unfold QueryM.xid;rw [ha];rfl
theorem tick_yes (me n c:Int) (nk:ByteArray) (lg:LogM) (h:c % 8=0∧c≤n * 8):(⟨me,nk,n,c,lg⟩:QueryM).asks=true∧(⟨me,nk,n,c,lg⟩:QueryM).xid=⟨me,0,if c / 8=n then -1 else c / 8,n,false,nk⟩:=by
 have ha:(⟨me,nk,n,c,lg⟩:QueryM).asks=true:=decide_eq_true h
 refine ⟨ha,?_⟩
 unfold QueryM.xid;rw [ha];rfl
theorem RTick_any (g gl:Nat) (q:QueryM) (F:List Nat) (w0:World) (h:RQc g gl q w0 F) (hsl:0≤q.slots∧q.slots≤8) (hca:0≤q.calls∧q.calls≤1000):Calls Tryz.prog 35 #[.pointer (some ⟨g,0,none⟩)] w0 fun e w' => e=.returned (.tuple #[q.xid.val,.bool q.asks])∧Done w0 F (RQc g gl q.tick) w' := by
 obtain ⟨me,nk,n,c,lg⟩:=q
 have hcc:(0≤n∧n≤8)∧(0≤c∧c≤1000):=⟨hsl,hca⟩
 have hs0:Done w0 F (Star (CellW g (yH me nk n c (some ⟨gl,0,none⟩)) 42) (CellW w0.heap.size (yA 0 0 0 0 false ⟨#[]⟩) 32)) (w0.alloc (.cells (yA 0 0 0 0 false ⟨#[]⟩) 32)):=(Done.start h).add cS (CellW.new w0 #[.int .u32 0,.int .u32 0,.int .i64 0,.int .i64 0,.bool false,.string ⟨#[]⟩] 32)
 have HS0:=jzD hs0
 have q3:(w0.alloc (.cells (yA 0 0 0 0 false ⟨#[]⟩) 32)).cell? ⟨g,3,none⟩=some (.int .i64 c):=cell_at (Done.at_ (C:=fun X=>Star (X) (CellW w0.heap.size (yA 0 0 0 0 false ⟨#[]⟩) 32)) (Fr.l Fr.id_ cS) hs0) 3 _ rfl
 obtain ⟨c1,hc1⟩:∃ c1,min (c + 1) (n * 8 + 2)=c1:=⟨_,rfl⟩
 have HMIN:=jzD hc1
 have HT:Hid (RQc g gl (QueryM.tick (⟨me,nk,n,c,lg⟩:QueryM))=CellW g (yH me nk n c1 (some ⟨gl,0,none⟩)) 42):=by show _=_;unfold QueryM.tick RQc;simp only [hc1]
 have e1:IntKind.i64.wrap (c + 1)=c + 1:=IntWalk.i64_in _ (by omega)
 have e2:IntKind.i64.wrap (n * 8)=n * 8:=IntWalk.i64_in _ (by omega)
 have e3:IntKind.i64.wrap (n * 8 + 2)=n * 8 + 2:=IntWalk.i64_in _ (by omega)
 clear hs0 h hsl hca hc1
 go_enter Tryz.func35,Tryz.ntmps35
 go_wp2
 have HSd:=jzD (HS0.out.drewD (cS.star cS))
 have HEd:Hid ((fun _=>True) (w0.alloc (.cells (yA 0 0 0 0 false ⟨#[]⟩) 32)).drew):=jzD trivial
 clear q3
 refine' region_shared (fun W=>Done w0 F (Star (CellW g (yH me nk n c1 (some ⟨gl,0,none⟩)) 42) (CellW w0.heap.size (yA 0 0 0 0 false ⟨#[]⟩) 32)) W) _ ?cont ?reg
 case reg =>
  intro hK
  refine rests_begin (fun _=>True) (by kernel_rfl) ?_
  refine rtk 0 HEd.out ?_
  refine rtk 1 HEd.out ?_
  refine rtk 2 HEd.out ?_
  refine rtk 3 HEd.out ?_
  refine rtk 6 HEd.out ?_
  refine rtk 7 HEd.out ?_
  refine rtk 8 HEd.out ?_
  refine rests_two 4 9 (oi:=_) (oj:=_) (by simp only [jzG,jzH,jzI];rfl) (by simp only [jzG,jzH,jzI];rfl) (by kernel_rfl) (by rfl) (by rfl) ?_ ?_
  · have cq20:((w0.alloc (.cells (yA 0 0 0 0 false ⟨#[]⟩) 32)).drew).cell? ⟨g,3,none⟩=some (.int .i64 c):=cell_at (Done.at_ (C:=fun X=>Star (X) (CellW w0.heap.size (yA 0 0 0 0 false ⟨#[]⟩) 32)) (Fr.l Fr.id_ cS) HSd.out) 3 _ rfl
    refine wp_val (v:=.int .i64 c) (w' := (w0.alloc (.cells (yA 0 0 0 0 false ⟨#[]⟩) 32)).drew) (by go_simp) ⟨HEd.out,?_⟩
    clear cq20
    simp only [Act.put,jzU,jzV,jzW]
    refine rtk 5 HEd.out ?_
    have cq21:((w0.alloc (.cells (yA 0 0 0 0 false ⟨#[]⟩) 32)).drew).cell? ⟨g,2,none⟩=some (.int .i64 n):=cell_at (Done.at_ (C:=fun X=>Star (X) (CellW w0.heap.size (yA 0 0 0 0 false ⟨#[]⟩) 32)) (Fr.l Fr.id_ cS) HSd.out) 2 _ rfl
    refine rests_run 9 (oi:=_) (by simp only [jzG,jzH,jzI];rfl) (by kernel_rfl) (by rfl) (.int .i64 n) ((w0.alloc (.cells (yA 0 0 0 0 false ⟨#[]⟩) 32)).drew) (by go_simp) ⟨HEd.out,?_⟩
    clear cq21
    simp only [Act.put,jzU,jzV,jzW]
    refine rtk 10 HEd.out ?_
    refine rtk 11 HEd.out ?_
    refine rests_take 12 (oi:=_) (v:=.int .i64 c1) (by simp only [jzG,jzH,jzI];rfl) (by kernel_rfl) (by kernel_rfl) (by kernel_rfl) (by exact fun _ _ _ h=>h) (HEd.out) (by rfl) (fun W HW=>by go_simp;exact HMIN.out) ?_
    simp only [Act.put,jzU,jzV,jzW]
    refine rtk 13 HEd.out ?_
    refine rtk 14 HEd.out ?_
    refine rests_store1 15 (oi:=_) (by simp only [jzG,jzH,jzI];rfl) (by kernel_rfl) (by rfl) 3 (.tmp 24) (.tmp 22) rfl g 3 (.int .i64 c1) rfl rfl 42 _ (Done.at_ (C:=fun X=>Star (X) (CellW w0.heap.size (yA 0 0 0 0 false ⟨#[]⟩) 32)) (Fr.l Fr.id_ cS) HSd.out) (by simp) (run_storeI _ _ _) ?_
    intro w22 hg hh;have HS22:Hid (Done w0 F (Star (CellW g (yH me nk n c1 (some ⟨gl,0,none⟩)) 42) (CellW w0.heap.size (yA 0 0 0 0 false ⟨#[]⟩) 32)) w22):=Done.put_ (C:=fun X=>Star (X) (CellW w0.heap.size (yA 0 0 0 0 false ⟨#[]⟩) 32)) (Fr.l Fr.id_ cS) HSd.out hg hh;have HE22:Hid ((fun _=>True) w22):=jzD trivial;refine ⟨HE22.out,?_⟩;clear hg hh
    simp only [Act.put,jzU,jzV,jzW]
    refine rests_done (by kernel_rfl) ?_
    exact hK w22 HS22.out
  · have cq20:((w0.alloc (.cells (yA 0 0 0 0 false ⟨#[]⟩) 32)).drew).cell? ⟨g,2,none⟩=some (.int .i64 n):=cell_at (Done.at_ (C:=fun X=>Star (X) (CellW w0.heap.size (yA 0 0 0 0 false ⟨#[]⟩) 32)) (Fr.l Fr.id_ cS) HSd.out) 2 _ rfl
    refine wp_val (v:=.int .i64 n) (w' := (w0.alloc (.cells (yA 0 0 0 0 false ⟨#[]⟩) 32)).drew) (by go_simp) ⟨HEd.out,?_⟩
    clear cq20
    simp only [Act.put,jzU,jzV,jzW]
    refine rtk 10 HEd.out ?_
    refine rtk 11 HEd.out ?_
    have cq21:((w0.alloc (.cells (yA 0 0 0 0 false ⟨#[]⟩) 32)).drew).cell? ⟨g,3,none⟩=some (.int .i64 c):=cell_at (Done.at_ (C:=fun X=>Star (X) (CellW w0.heap.size (yA 0 0 0 0 false ⟨#[]⟩) 32)) (Fr.l Fr.id_ cS) HSd.out) 3 _ rfl
    refine rests_run 4 (oi:=_) (by simp only [jzG,jzH,jzI];rfl) (by kernel_rfl) (by rfl) (.int .i64 c) ((w0.alloc (.cells (yA 0 0 0 0 false ⟨#[]⟩) 32)).drew) (by go_simp) ⟨HEd.out,?_⟩
    clear cq21
    simp only [Act.put,jzU,jzV,jzW]
    refine rtk 5 HEd.out ?_
    refine rests_take 12 (oi:=_) (v:=.int .i64 c1) (by simp only [jzG,jzH,jzI];rfl) (by kernel_rfl) (by kernel_rfl) (by kernel_rfl) (by exact fun _ _ _ h=>h) (HEd.out) (by rfl) (fun W HW=>by go_simp;exact HMIN.out) ?_
    simp only [Act.put,jzU,jzV,jzW]
    refine rtk 13 HEd.out ?_
    refine rtk 14 HEd.out ?_
    refine rests_store1 15 (oi:=_) (by simp only [jzG,jzH,jzI];rfl) (by kernel_rfl) (by rfl) 3 (.tmp 24) (.tmp 22) rfl g 3 (.int .i64 c1) rfl rfl 42 _ (Done.at_ (C:=fun X=>Star (X) (CellW w0.heap.size (yA 0 0 0 0 false ⟨#[]⟩) 32)) (Fr.l Fr.id_ cS) HSd.out) (by simp) (run_storeI _ _ _) ?_
    intro w22 hg hh;have HS22:Hid (Done w0 F (Star (CellW g (yH me nk n c1 (some ⟨gl,0,none⟩)) 42) (CellW w0.heap.size (yA 0 0 0 0 false ⟨#[]⟩) 32)) w22):=Done.put_ (C:=fun X=>Star (X) (CellW w0.heap.size (yA 0 0 0 0 false ⟨#[]⟩) 32)) (Fr.l Fr.id_ cS) HSd.out hg hh;have HE22:Hid ((fun _=>True) w22):=jzD trivial;refine ⟨HE22.out,?_⟩;clear hg hh
    simp only [Act.put,jzU,jzV,jzW]
    refine rests_done (by kernel_rfl) ?_
    exact hK w22 HS22.out
 case cont =>
  intro w2 hs2
  have HS2:=jzD hs2
  have q2:w2.cell? ⟨g,2,none⟩=some (.int .i64 n):=cell_at (Done.at_ (C:=fun X=>Star (X) (CellW w0.heap.size (yA 0 0 0 0 false ⟨#[]⟩) 32)) (Fr.l Fr.id_ cS) hs2) 2 _ rfl
  clear hs2
  by_cases h8:c % 8=0
  · have r1:c.tmod 8=0:=by rw [Int.tmod_eq_emod_of_nonneg (by omega)];exact h8
    by_cases hn:c≤n * 8
    · skip
      have HH:=jzD (tick_yes me n c nk lg (by omega))
      have t2:decide (n * 8 < c)=false:=decide_eq_false (by omega)
      clear h8 hn
      obtain ⟨k8,hk8⟩:∃ k8,c / 8=k8:=⟨_,rfl⟩
      have HQ:=jzD hk8
      have HQ2:Hid (IntKind.i64.wrap (c.tdiv 8)=k8):=by show _=_;rw [Int.tdiv_eq_ediv_of_nonneg (by omega),IntWalk.i64_in _ (by omega)];exact hk8
      clear hk8 hcc
      go_wp2
      have HSd:=jzD (HS2.out.drewD (cS.star cS))
      have HEd:Hid ((fun U=>U.heap[g]?=some (.cells (yH me nk n c1 (some ⟨gl,0,none⟩)) 42 (0,0))) w2.drew):=(Done.at_ (C:=fun X=>Star (X) (CellW w0.heap.size (yA 0 0 0 0 false ⟨#[]⟩) 32)) (Fr.l Fr.id_ cS) HSd.out)
      refine rests_begin (fun U=>U.heap[g]?=some (.cells (yH me nk n c1 (some ⟨gl,0,none⟩)) 42 (0,0))) (by kernel_rfl) ?_
      refine rtk 0 HEd.out ?_
      refine rtk 1 HEd.out ?_
      refine rtk 2 HEd.out ?_
      refine rtk 3 HEd.out ?_ (hy:=by intro W HW;have cw:W.cell? ⟨g,0,none⟩=some (.int .u32 me):=cell_at HW 0 _ rfl;go_simp;try with_reducible rfl)
      refine rtk 4 HEd.out ?_
      refine rtk 5 HEd.out ?_
      refine rtk 6 HEd.out ?_
      refine rtk 7 HEd.out ?_ (hy:=by intro W HW;have cw:W.cell? ⟨g,2,none⟩=some (.int .i64 n):=cell_at HW 2 _ rfl;go_simp;try with_reducible rfl)
      refine rtk 8 HEd.out ?_
      refine rests_take 9 (oi:=_) (v:=.int .i64 k8) (by simp only [jzG,jzH,jzI];rfl) (by kernel_rfl) (by kernel_rfl) (by kernel_rfl) (by exact fun _ _ _ h=>h) (HEd.out) (by rfl) (fun W HW=>by go_simp;first | exact HQ2.out | rfl) ?_
      simp only [Act.put,jzU,jzV,jzW]
      refine rtk 10 HEd.out ?_
      refine rtk 11 HEd.out ?_
      refine rtk 12 HEd.out ?_
      refine rtk 13 HEd.out ?_ (hy:=by intro W HW;have cw:W.cell? ⟨g,1,none⟩=some (.string nk):=cell_at HW 1 _ rfl;go_simp;try with_reducible rfl)
      refine rtk 14 HEd.out ?_
      obtain ⟨g30,hg30⟩:∃ g,g=(w2.drew).heap.size:=⟨_,rfl⟩
      have hal30:=CellW.new (w2.drew) #[.int .u32 0,.int .u32 0,.int .i64 0,.int .i64 0,.bool false,.string ⟨#[]⟩] 32
      rw [← hg30] at hal30
      obtain ⟨w30,hw30⟩:∃ wz,wz=(w2.drew).alloc (.cells (yA 0 0 0 0 false ⟨#[]⟩) 32):=⟨_,rfl⟩
      rw [← hw30] at hal30
      have HS30:=jzD (HSd.out.add (cS.star cS) hal30)
      have HE30:Hid ((fun U=>U.heap[g]?=some (.cells (yH me nk n c1 (some ⟨gl,0,none⟩)) 42 (0,0))) w30):=(Done.at_ (C:=fun X=>Star (Star (X) (CellW w0.heap.size (yA 0 0 0 0 false ⟨#[]⟩) 32)) (CellW g30 (yA 0 0 0 0 false ⟨#[]⟩) 32)) (Fr.l (Fr.l Fr.id_ cS) cS) HS30.out)
      refine rests_run 15 (oi:=_) (by simp only [jzG,jzH,jzI];rfl) (by kernel_rfl) (by rfl) (.pointer (some ⟨g30,0,none⟩)) w30 (by rw [hg30,hw30];go_simp) ⟨HE30.out,?_⟩
      clear hg30 hal30 hw30
      simp only [Act.put,jzU,jzV,jzW]
      refine rests_storeB 16 (oi:=_) (by simp only [jzG,jzH,jzI];rfl) (by kernel_rfl) (by rfl) 32 (.tmp 5) (.tmp 52) rfl g30 #[.int .u32 me,.int .u32 0,.int .i64 k8,.int .i64 n,.bool false,.string nk] rfl rfl 32 _ (Done.at_ (C:=fun X=>Star (Star (CellW g (yH me nk n c1 (some ⟨gl,0,none⟩)) 42) (CellW w0.heap.size (yA 0 0 0 0 false ⟨#[]⟩) 32)) X) (Fr.r (cS.star cS) Fr.id_) HS30.out) (by kernel_rfl) rfl (by simp [Value.oneCell']) ?_
      intro w31 hg _ hh;have HS31:Hid (Done w0 F (Star (Star (CellW g (yH me nk n c1 (some ⟨gl,0,none⟩)) 42) (CellW w0.heap.size (yA 0 0 0 0 false ⟨#[]⟩) 32)) (CellW g30 (yA me 0 k8 n false nk) 32)) w31):=Done.put_ (C:=fun X=>Star (Star (CellW g (yH me nk n c1 (some ⟨gl,0,none⟩)) 42) (CellW w0.heap.size (yA 0 0 0 0 false ⟨#[]⟩) 32)) X) (Fr.r (cS.star cS) Fr.id_) HS30.out hg hh;have HE31:Hid ((fun U=>U.heap[g]?=some (.cells (yH me nk n c1 (some ⟨gl,0,none⟩)) 42 (0,0))) w31):=(Done.at_ (C:=fun X=>Star (Star (X) (CellW w0.heap.size (yA 0 0 0 0 false ⟨#[]⟩) 32)) (CellW g30 (yA me 0 k8 n false nk) 32)) (Fr.l (Fr.l Fr.id_ cS) cS) HS31.out);refine ⟨HE31.out,?_⟩;clear hg hh
      simp only [Act.put,jzU,jzV,jzW]
      refine rests_done (by kernel_rfl) ?_
      go_wp2
      refine regq (fun W=>Below (w31).heap.size (w31) W) (by kernel_rfl) (by kernel_rfl) ((Below.refl _ _).drew) ?_
      refine qtk ?_
      refine qtk ?_ (hy:=by intro W HW;have cw:W.cell? ⟨g30,2,none⟩=some (.int .i64 k8):=cell_at (keep_at (Done.at_ (C:=fun X=>Star (Star (CellW g (yH me nk n c1 (some ⟨gl,0,none⟩)) 42) (CellW w0.heap.size (yA 0 0 0 0 false ⟨#[]⟩) 32)) X) (Fr.r (cS.star cS) Fr.id_) HS31.out) HW) 2 _ rfl;go_simp;try with_reducible rfl)
      iterate 3 refine qtk ?_
      refine qtk ?_ (hy:=by intro W HW;have cw:W.cell? ⟨g,2,none⟩=some (.int .i64 n):=cell_at (keep_at (Done.at_ (C:=fun X=>Star (Star (X) (CellW w0.heap.size (yA 0 0 0 0 false ⟨#[]⟩) 32)) (CellW g30 (yA me 0 k8 n false nk) 32)) (Fr.l (Fr.l Fr.id_ cS) cS) HS31.out) HW) 2 _ rfl;go_simp;try with_reducible rfl)
      refine qtk ?_
      refine q_done ?_
      intro w7 hb
      have HS7:=jzD (HS31.out.keep ((cS.star cS).star cS) hb)
      clear hb
      by_cases hx:k8=n
      · skip
        have t5:(k8 == n)=true:=beq_iff_eq.2 hx
        have HX2:=jzD (show (if c / 8=n then (-1:Int) else c / 8)=-1 by rw [HQ.out];rw [if_pos hx])
        clear hx
        go_wp2_with (first
         | ((with_reducible refine wpList_storeD (C:=fun X=>Star (Star (CellW g (yH me nk n c1 (some ⟨gl,0,none⟩)) 42) (CellW w0.heap.size (yA 0 0 0 0 false ⟨#[]⟩) 32)) X) (Fr.r (cS.star cS) Fr.id_) HS7.out rfl 3 (.tmp 60) (.const (.int .i64 (-1))) rfl 2 (.int .i64 (-1)) rfl rfl (by simp) (run_storeI _ _ _) ?_);intro w8 hs;have HSw8:Hid (Done w0 F (Star (Star (CellW g (yH me nk n c1 (some ⟨gl,0,none⟩)) 42) (CellW w0.heap.size (yA 0 0 0 0 false ⟨#[]⟩) 32)) (CellW g30 (yA me 0 (-1) n false nk) 32)) w8):=(by show Done _ _ _ _;exact hs);clear hs)
         | (with_reducible refine wpList_loadD (C:=fun X=>Star (Star (CellW g (yH me nk n c1 (some ⟨gl,0,none⟩)) 42) (CellW w0.heap.size (yA 0 0 0 0 false ⟨#[]⟩) 32)) X) (Fr.r (cS.star cS) Fr.id_) HSw8.out rfl 32 (.tmp 5) rfl rfl _ Tryz.underlying32 rfl (by kernel_rfl) ?_)
         | ((with_reducible refine wpList_storeBD (C:=fun X=>Star (Star (CellW g (yH me nk n c1 (some ⟨gl,0,none⟩)) 42) X) (CellW g30 (yA me 0 (-1) n false nk) 32)) (Fr.l (Fr.r cS Fr.id_) cS) HSw8.out rfl 32 (.tmp 2) (.tmp 61) rfl #[.int .u32 me,.int .u32 0,.int .i64 (-1),.int .i64 n,.bool false,.string nk] rfl rfl (by kernel_rfl) rfl (by simp [Value.oneCell']) ?_);intro wz hs;have HSwz:Hid (Done w0 F (Star (Star (CellW g (yH me nk n c1 (some ⟨gl,0,none⟩)) 42) (CellW w0.heap.size (yA me 0 (-1) n false nk) 32)) (CellW g30 (yA me 0 (-1) n false nk) 32)) wz):=(by show Done _ _ _ _;exact hs);clear hs))
        exact ⟨rfl,_,results_cell2 rfl _ _ w0.heap.size _ _ _ _ (.bool true) rfl rfl (Done.at_ (C:=fun X=>Star (Star (CellW g (yH me nk n c1 (some ⟨gl,0,none⟩)) 42) X) (CellW g30 (yA me 0 (-1) n false nk) 32)) (Fr.l (Fr.r cS Fr.id_) cS) HSwz.out) Tryz.underlying32 rfl (by kernel_rfl),by rw [HH.out.1,HH.out.2,HX2.out] <;> rfl,by rw [HT.out];exact HSwz.out.drop.drop⟩
      · skip
        have t5:(k8 == n)=false:=beq_eq_false_iff_ne.2 hx
        have HX2:=jzD (show (if c / 8=n then (-1:Int) else c / 8)=k8 by rw [HQ.out];rw [if_neg hx])
        clear hx
        go_wp2_with (first
         | (with_reducible refine wpList_loadD (C:=fun X=>Star (Star (CellW g (yH me nk n c1 (some ⟨gl,0,none⟩)) 42) (CellW w0.heap.size (yA 0 0 0 0 false ⟨#[]⟩) 32)) X) (Fr.r (cS.star cS) Fr.id_) HS7.out rfl 32 (.tmp 5) rfl rfl _ Tryz.underlying32 rfl (by kernel_rfl) ?_)
         | ((with_reducible refine wpList_storeBD (C:=fun X=>Star (Star (CellW g (yH me nk n c1 (some ⟨gl,0,none⟩)) 42) X) (CellW g30 (yA me 0 k8 n false nk) 32)) (Fr.l (Fr.r cS Fr.id_) cS) HS7.out rfl 32 (.tmp 2) (.tmp 61) rfl #[.int .u32 me,.int .u32 0,.int .i64 k8,.int .i64 n,.bool false,.string nk] rfl rfl (by kernel_rfl) rfl (by simp [Value.oneCell']) ?_);intro wz hs;have HSwz:Hid (Done w0 F (Star (Star (CellW g (yH me nk n c1 (some ⟨gl,0,none⟩)) 42) (CellW w0.heap.size (yA me 0 k8 n false nk) 32)) (CellW g30 (yA me 0 k8 n false nk) 32)) wz):=(by show Done _ _ _ _;exact hs);clear hs))
        exact ⟨rfl,_,results_cell2 rfl _ _ w0.heap.size _ _ _ _ (.bool true) rfl rfl (Done.at_ (C:=fun X=>Star (Star (CellW g (yH me nk n c1 (some ⟨gl,0,none⟩)) 42) X) (CellW g30 (yA me 0 k8 n false nk) 32)) (Fr.l (Fr.r cS Fr.id_) cS) HSwz.out) Tryz.underlying32 rfl (by kernel_rfl),by rw [HH.out.1,HH.out.2,HX2.out] <;> rfl,by rw [HT.out];exact HSwz.out.drop.drop⟩
    · skip
      have HH:=jzD (tick_no me n c nk lg (by omega))
      have t2:decide (n * 8 < c)=true:=decide_eq_true (by omega)
      clear h8 hn
      clear hcc
      go_wp2_with ((with_reducible refine wpList_storeBD (C:=fun X=>Star (CellW g (yH me nk n c1 (some ⟨gl,0,none⟩)) 42) X) (Fr.r cS Fr.id_) HS2.out rfl 32 (.tmp 2) (.tmp 37) rfl #[.int .u32 0,.int .u32 0,.int .i64 0,.int .i64 0,.bool false,.string ⟨#[]⟩] rfl rfl (by kernel_rfl) rfl (by simp [Value.oneCell']) ?_);intro wz hs;have HSwz:Hid (Done w0 F (Star (CellW g (yH me nk n c1 (some ⟨gl,0,none⟩)) 42) (CellW w0.heap.size (yA 0 0 0 0 false ⟨#[]⟩) 32)) wz):=(by show Done _ _ _ _;exact hs);clear hs)
      exact ⟨rfl,_,results_cell2 rfl _ _ w0.heap.size _ _ _ _ (.bool false) rfl rfl (Done.at_ (C:=fun X=>Star (CellW g (yH me nk n c1 (some ⟨gl,0,none⟩)) 42) X) (Fr.r cS Fr.id_) HSwz.out) Tryz.underlying32 rfl (by kernel_rfl),by rw [HH.out.1,HH.out.2] <;> rfl,by rw [HT.out];exact HSwz.out.drop⟩
  · obtain ⟨r,hr⟩:∃ r,c.tmod 8=r:=⟨_,rfl⟩
    have r2:(r != 0)=true:=by rw [← hr,Int.tmod_eq_emod_of_nonneg (by omega)];exact bne_iff_ne.2 h8
    have HH:=jzD (tick_no me n c nk lg (by omega))
    clear h8
    clear hcc
    go_wp2_with ((with_reducible refine wpList_storeBD (C:=fun X=>Star (CellW g (yH me nk n c1 (some ⟨gl,0,none⟩)) 42) X) (Fr.r cS Fr.id_) HS2.out rfl 32 (.tmp 2) (.tmp 37) rfl #[.int .u32 0,.int .u32 0,.int .i64 0,.int .i64 0,.bool false,.string ⟨#[]⟩] rfl rfl (by kernel_rfl) rfl (by simp [Value.oneCell']) ?_);intro wz hs;have HSwz:Hid (Done w0 F (Star (CellW g (yH me nk n c1 (some ⟨gl,0,none⟩)) 42) (CellW w0.heap.size (yA 0 0 0 0 false ⟨#[]⟩) 32)) wz):=(by show Done _ _ _ _;exact hs);clear hs)
    exact ⟨rfl,_,results_cell2 rfl _ _ w0.heap.size _ _ _ _ (.bool false) rfl rfl (Done.at_ (C:=fun X=>Star (CellW g (yH me nk n c1 (some ⟨gl,0,none⟩)) 42) X) (Fr.r cS Fr.id_) HSwz.out) Tryz.underlying32 rfl (by kernel_rfl),by rw [HH.out.1,HH.out.2] <;> rfl,by rw [HT.out];exact HSwz.out.drop⟩
end Go.Proofs.YtjddbjmcjhjpiaaGreatDoor
