/- Package log as landed (f9204e7d): one is noted. -/
import Derived.Test.YtjddbjmcjhjpiaaGreatDoorN16D

set_option linter.all false

namespace Go.Proofs.YtjddbjmcjhjpiaaGreatDoor
set_option maxRecDepth 100000
set_option maxHeartbeats 16000000
open Go.RowKit M

theorem find_r_none {l:List SeenM} {q r:Int} (h:FindR l q r) (hf:l.find? (fun s=>s.id == q)=none):r=-1:=by
 rcases h with ⟨h,_⟩ | ⟨k,s,_,_,h⟩
 · exact h
 · rw [hf] at h;cases h
theorem find_r_some {l:List SeenM} {q r:Int} {s:SeenM} (h:FindR l q r) (hf:l.find? (fun s=>s.id == q)=some s):∃ k:Nat,r=(k:Int)∧l[k]?=some s:=by
 rcases h with ⟨_,h⟩ | ⟨k,s', h1,h2,h3⟩
 · rw [hf] at h;cases h
 · rw [hf] at h3
   injection h3 with h3
   subst h3
   exact ⟨k,h1,h2⟩
theorem sncs_one (s:SeenM):∀ y ∈ sncs s,y.oneCell' = true:=by
 intro y hy
 simp only [sncs,List.mem_cons,List.not_mem_nil,or_false] at hy
 rcases hy with rfl | rfl | rfl <;> rfl
theorem LAdd_nil (x:XIn) (w:World):Calls Tryz.prog 51 #[.pointer none,x.val] w fun e w' => e=.returned (.bool false)∧Below w.heap.size w w' := by
 obtain ⟨xf,xt,xs,xn,xa,xk⟩:=x
 have HB:Hid (Below w.heap.size w (w.alloc (.cells (yA xf xt xs xn xa xk) 32))):=(Below.refl _ _).alloc (Nat.le_refl _) _
 go_enter Tryz.func51,Tryz.ntmps51
 go_wp2
 go_ret
 exact ⟨rfl,HB.out⟩
theorem LAdd_no (a:Addr) (xf xt xs xn:Int) (xa:Bool) (xk:ByteArray) (w:World) (hm:mayX (XIn.xd (⟨xf,xt,xs,xn,xa,xk⟩:XIn))=false):Calls Tryz.prog 51 #[.pointer (some a),.agg #[.int .u32 xf,.int .u32 xt,.int .i64 xs,.int .i64 xn,.bool xa,.string xk]] w fun e w' => e=.returned (.bool false)∧Below w.heap.size w w' := by
 have HB:Hid (Below w.heap.size w (w.alloc (.cells (yA xf xt xs xn xa xk) 32))):=(Below.refl _ _).alloc (Nat.le_refl _) _
 have hmy:∀ w,Calls Tryz.prog 57 #[.agg #[.int .u32 xf,.int .u32 xt,.int .i64 xs,.int .i64 xn,.bool xa,.string xk]] w fun e w' => e=.returned (.bool false)∧Below w.heap.size w w' := fun w=>by
  have := XMay_all (⟨xf,xt,xs,xn,xa,xk⟩:XIn) w
  rw [hm] at this
  exact this
 have HMY:=jzD hmy
 have c0:(w.alloc (.cells (yA xf xt xs xn xa xk) 32)).cell? ⟨w.heap.size,0,none⟩=some (.int .u32 xf):=cell_at (heap_alloc_new w _) 0 _ rfl
 have c1:(w.alloc (.cells (yA xf xt xs xn xa xk) 32)).cell? ⟨w.heap.size,1,none⟩=some (.int .u32 xt):=cell_at (heap_alloc_new w _) 1 _ rfl
 have c2:(w.alloc (.cells (yA xf xt xs xn xa xk) 32)).cell? ⟨w.heap.size,2,none⟩=some (.int .i64 xs):=cell_at (heap_alloc_new w _) 2 _ rfl
 have c3:(w.alloc (.cells (yA xf xt xs xn xa xk) 32)).cell? ⟨w.heap.size,3,none⟩=some (.int .i64 xn):=cell_at (heap_alloc_new w _) 3 _ rfl
 have c4:(w.alloc (.cells (yA xf xt xs xn xa xk) 32)).cell? ⟨w.heap.size,4,none⟩=some (.bool xa):=cell_at (heap_alloc_new w _) 4 _ rfl
 have c5:(w.alloc (.cells (yA xf xt xs xn xa xk) 32)).cell? ⟨w.heap.size,5,none⟩=some (.string xk):=cell_at (heap_alloc_new w _) 5 _ rfl
 clear hm hmy
 go_enter Tryz.func51,Tryz.ntmps51
 go_wp2_with (go_at_call 57;((with_reducible refine (HMY.out _).mono ?_);rintro e w2 ⟨rfl,hb⟩;have HB2:=jzD hb;clear hb))
 go_ret
 exact ⟨rfl,HB.out.trans (HB2.out.mono HB.out.size)⟩
theorem LAdd_me (gl:Nat) (A:Option Addr) (n ca:Nat) (B:Option Addr) (p cb:Nat) (me:Int) (l:List SeenM) (cl:List Int) (xf xt xs xn:Int) (xa:Bool) (xk:ByteArray) (w:World) (F:List Nat) (hn:n=l.length) (hp:p=cl.length) (hok:(⟨me,l,cl⟩:LogM).ok) (hcv:(⟨me,l,cl⟩:LogM).cov) (hm:mayX (XIn.xd (⟨xf,xt,xs,xn,xa,xk⟩:XIn))=true) (h:LogX gl A n ca B p cb me l cl w F) (hme:xf=me):Calls Tryz.prog 51 #[.pointer (some ⟨gl,0,none⟩),.agg #[.int .u32 xf,.int .u32 xt,.int .i64 xs,.int .i64 xn,.bool xa,.string xk]] w fun e w' => e=.returned (.bool false)∧∃ B' cb', Done w F (LogX gl A n ca B' (insC xf cl).length cb' me l (insC xf cl)) w' := by
 have t1:(xf == me)=true:=by rw [hme];exact beq_self_eq_true me
 have hmy:∀ w,Calls Tryz.prog 57 #[.agg #[.int .u32 xf,.int .u32 xt,.int .i64 xs,.int .i64 xn,.bool xa,.string xk]] w fun e w' => e=.returned (.bool true)∧Below w.heap.size w w' := fun w=>by
  have := XMay_all (⟨xf,xt,xs,xn,xa,xk⟩:XIn) w
  rw [hm] at this
  exact this
 have HMY:=jzD hmy
 have HN:=jzD hn
 have HP:=jzD hp
 have h16:=hok.len
 simp only at h16
 have HL:Hid (n≤1000):=by show _≤_;omega
 have h17:=LogM.cov_len hok hcv
 simp only at h17
 have H17:Hid (p≤17):=by show _≤_;omega
 have HCL:Hid (cl.Pairwise (· < ·)):=hok.rise
 have hS:Done w F (Star (Star (CellW gl (yG me A n ca B p cb) 101) (OwnK 103 3 (.slice A n ca) n (lgcs l))) (OwnK 22 1 (.slice B p cb) p (u32s cl))) w:=Done.start h
 have HS1:=jzD (hS.add ((cS.star kS).star kS) (CellW.new w #[.int .u32 xf,.int .u32 xt,.int .i64 xs,.int .i64 xn,.bool xa,.string xk] 32))
 have c0:(w.alloc (.cells (yA xf xt xs xn xa xk) 32)).cell? ⟨w.heap.size,0,none⟩=some (.int .u32 xf):=cell_at (heap_alloc_new w _) 0 _ rfl
 have c1:(w.alloc (.cells (yA xf xt xs xn xa xk) 32)).cell? ⟨w.heap.size,1,none⟩=some (.int .u32 xt):=cell_at (heap_alloc_new w _) 1 _ rfl
 have c2:(w.alloc (.cells (yA xf xt xs xn xa xk) 32)).cell? ⟨w.heap.size,2,none⟩=some (.int .i64 xs):=cell_at (heap_alloc_new w _) 2 _ rfl
 have c3:(w.alloc (.cells (yA xf xt xs xn xa xk) 32)).cell? ⟨w.heap.size,3,none⟩=some (.int .i64 xn):=cell_at (heap_alloc_new w _) 3 _ rfl
 have c4:(w.alloc (.cells (yA xf xt xs xn xa xk) 32)).cell? ⟨w.heap.size,4,none⟩=some (.bool xa):=cell_at (heap_alloc_new w _) 4 _ rfl
 have c5:(w.alloc (.cells (yA xf xt xs xn xa xk) 32)).cell? ⟨w.heap.size,5,none⟩=some (.string xk):=cell_at (heap_alloc_new w _) 5 _ rfl
 clear hme
 clear hmy hn hp hok hcv hm h h16 h17 hS
 go_enter Tryz.func51,Tryz.ntmps51
 go_wp2_with (first
  | (go_at_call 57;((with_reducible refine (dcalls_keep (((cS.star kS).star kS).star cS) HS1.out (HMY.out _)).mono ?_);rintro e w2 ⟨rfl,hs⟩;have HS2:=jzD hs;have d0:w2.cell? ⟨w.heap.size,0,none⟩=some (.int .u32 xf):=cell_at (Done.at_ (C:=fun X=>Star (Star (Star (CellW gl (yG me A n ca B p cb) 101) (OwnK 103 3 (.slice A n ca) n (lgcs l))) (OwnK 22 1 (.slice B p cb) p (u32s cl))) X) (Fr.r ((cS.star kS).star kS) Fr.id_) hs) 0 _ rfl;clear hs))
  | (go_at_call 67;((with_reducible refine (dFind cS HN.out HL.out HS2.out).mono ?_);rintro e w3 ⟨⟨r,rfl,hr⟩,hs⟩;clear hr;have HS3:=jzD hs;clear hs)))
 have HS3d:=jzD (HS3.out.drewD (((cS.star kS).star kS).star cS))
 have HE5:Hid ((fun U=>U.heap[gl]?=some (.cells (yG me A n ca B p cb) 101 (0,0))∧U.heap[w.heap.size]?=some (.cells (yA xf xt xs xn xa xk) 32 (0,0))) w3.drew):=⟨(Done.at_ (C:=fun X=>Star (Star (Star (X) (OwnK 103 3 (.slice A n ca) n (lgcs l))) (OwnK 22 1 (.slice B p cb) p (u32s cl))) (CellW w.heap.size (yA xf xt xs xn xa xk) 32)) (Fr.l (Fr.l (Fr.l Fr.id_ kS) kS) cS) HS3d.out),(Done.at_ (C:=fun X=>Star (Star (Star (CellW gl (yG me A n ca B p cb) 101) (OwnK 103 3 (.slice A n ca) n (lgcs l))) (OwnK 22 1 (.slice B p cb) p (u32s cl))) X) (Fr.r ((cS.star kS).star kS) Fr.id_) HS3d.out)⟩
 refine rests_begin (fun U=>U.heap[gl]?=some (.cells (yG me A n ca B p cb) 101 (0,0))∧U.heap[w.heap.size]?=some (.cells (yA xf xt xs xn xa xk) 32 (0,0))) (by kernel_rfl) ?_
 refine rtk 0 HE5.out ?_
 refine rtk 1 HE5.out ?_ (hy:=by intro W HW;have q:=cell_at HW.2 0 _ rfl;go_simp;try with_reducible rfl)
 refine rtk 2 HE5.out ?_
 refine rtk 3 HE5.out ?_
 refine rtk 4 HE5.out ?_
 refine rtk 5 HE5.out ?_ (hy:=by intro W HW;have q:=cell_at HW.1 0 _ rfl;go_simp;try with_reducible rfl)
 refine rtk 6 HE5.out ?_
 refine rtk 7 HE5.out ?_
 refine rests_done (by kernel_rfl) ?_
 have f0:w3.drew.cell? ⟨w.heap.size,0,none⟩=some (.int .u32 xf):=cell_at (Done.at_ (C:=fun X=>Star (Star (Star (CellW gl (yG me A n ca B p cb) 101) (OwnK 103 3 (.slice A n ca) n (lgcs l))) (OwnK 22 1 (.slice B p cb) p (u32s cl))) X) (Fr.r ((cS.star kS).star kS) Fr.id_) HS3d.out) 0 _ rfl
 go_wp2_with (go_at_call 69;((with_reducible refine (dACl cS HP.out HCL.out H17.out HS3d.out).mono ?_);rintro e w9 ⟨rfl,B2,c2,hs⟩;have HS9:=jzD hs;clear hs))
 go_ret
 exact ⟨rfl,B2,c2,HS9.out.drop⟩
theorem LAdd_same (gl:Nat) (A:Option Addr) (n ca:Nat) (B:Option Addr) (p cb:Nat) (me:Int) (l:List SeenM) (cl:List Int) (xf xt xs xn:Int) (xa:Bool) (xk:ByteArray) (w:World) (F:List Nat) (hn:n=l.length) (hp:p=cl.length) (hok:(⟨me,l,cl⟩:LogM).ok) (hcv:(⟨me,l,cl⟩:LogM).cov) (hm:mayX (XIn.xd (⟨xf,xt,xs,xn,xa,xk⟩:XIn))=true) (h:LogX gl A n ca B p cb me l cl w F) (hme:¬ xf=me) (s:SeenM) (hf:l.find? (fun s=>s.id == xf)=some s) (hs:LogM.same s (⟨xf,xt,xs,xn,xa,xk⟩:XIn)=true):Calls Tryz.prog 51 #[.pointer (some ⟨gl,0,none⟩),.agg #[.int .u32 xf,.int .u32 xt,.int .i64 xs,.int .i64 xn,.bool xa,.string xk]] w fun e w' => e=.returned (.bool true)∧Done w F (LogX gl A n ca B p cb me l cl) w' := by
 have t1:(xf == me)=false:=beq_eq_false_iff_ne.2 hme
 have HFD:=jzD hf
 have hft:∀ w,Calls Tryz.prog 68 #[.agg (sncs s).toArray,.agg #[.int .u32 xf,.int .u32 xt,.int .i64 xs,.int .i64 xn,.bool xa,.string xk]] w fun e w' => e=.returned (.bool true)∧Below w.heap.size w w' := fun w=>by
  have := LFits_any s (⟨xf,xt,xs,xn,xa,xk⟩:XIn) w
  rw [hs] at this
  exact this
 have HFIT:=jzD hft
 have hmy:∀ w,Calls Tryz.prog 57 #[.agg #[.int .u32 xf,.int .u32 xt,.int .i64 xs,.int .i64 xn,.bool xa,.string xk]] w fun e w' => e=.returned (.bool true)∧Below w.heap.size w w' := fun w=>by
  have := XMay_all (⟨xf,xt,xs,xn,xa,xk⟩:XIn) w
  rw [hm] at this
  exact this
 have HMY:=jzD hmy
 have HN:=jzD hn
 have HP:=jzD hp
 have h16:=hok.len
 simp only at h16
 have HL:Hid (n≤1000):=by show _≤_;omega
 have h17:=LogM.cov_len hok hcv
 simp only at h17
 have H17:Hid (p≤17):=by show _≤_;omega
 have HCL:Hid (cl.Pairwise (· < ·)):=hok.rise
 have hS:Done w F (Star (Star (CellW gl (yG me A n ca B p cb) 101) (OwnK 103 3 (.slice A n ca) n (lgcs l))) (OwnK 22 1 (.slice B p cb) p (u32s cl))) w:=Done.start h
 have HS1:=jzD (hS.add ((cS.star kS).star kS) (CellW.new w #[.int .u32 xf,.int .u32 xt,.int .i64 xs,.int .i64 xn,.bool xa,.string xk] 32))
 have c0:(w.alloc (.cells (yA xf xt xs xn xa xk) 32)).cell? ⟨w.heap.size,0,none⟩=some (.int .u32 xf):=cell_at (heap_alloc_new w _) 0 _ rfl
 have c1:(w.alloc (.cells (yA xf xt xs xn xa xk) 32)).cell? ⟨w.heap.size,1,none⟩=some (.int .u32 xt):=cell_at (heap_alloc_new w _) 1 _ rfl
 have c2:(w.alloc (.cells (yA xf xt xs xn xa xk) 32)).cell? ⟨w.heap.size,2,none⟩=some (.int .i64 xs):=cell_at (heap_alloc_new w _) 2 _ rfl
 have c3:(w.alloc (.cells (yA xf xt xs xn xa xk) 32)).cell? ⟨w.heap.size,3,none⟩=some (.int .i64 xn):=cell_at (heap_alloc_new w _) 3 _ rfl
 have c4:(w.alloc (.cells (yA xf xt xs xn xa xk) 32)).cell? ⟨w.heap.size,4,none⟩=some (.bool xa):=cell_at (heap_alloc_new w _) 4 _ rfl
 have c5:(w.alloc (.cells (yA xf xt xs xn xa xk) 32)).cell? ⟨w.heap.size,5,none⟩=some (.string xk):=cell_at (heap_alloc_new w _) 5 _ rfl
 clear hme hf hs hft
 clear hmy hn hp hok hcv hm h h16 h17 hS
 go_enter Tryz.func51,Tryz.ntmps51
 go_wp2_with (first
  | (go_at_call 57;((with_reducible refine (dcalls_keep (((cS.star kS).star kS).star cS) HS1.out (HMY.out _)).mono ?_);rintro e w2 ⟨rfl,hs⟩;have HS2:=jzD hs;have d0:w2.cell? ⟨w.heap.size,0,none⟩=some (.int .u32 xf):=cell_at (Done.at_ (C:=fun X=>Star (Star (Star (CellW gl (yG me A n ca B p cb) 101) (OwnK 103 3 (.slice A n ca) n (lgcs l))) (OwnK 22 1 (.slice B p cb) p (u32s cl))) X) (Fr.r ((cS.star kS).star kS) Fr.id_) hs) 0 _ rfl;clear hs))
  | (go_at_call 67;((with_reducible refine (dFind cS HN.out HL.out HS2.out).mono ?_);rintro e w3 ⟨⟨r,rfl,hr⟩,hs⟩;obtain ⟨k,rfl,hk⟩:=find_r_some hr HFD.out;have HK:=jzD hk;clear hr hk;have HS3:=jzD hs;clear hs)))
 obtain ⟨b,rfl⟩:∃ b,A=some ⟨b,0,none⟩:=(Done.get (C:=fun X=>Star (Star (Star (CellW gl (yG me A n ca B p cb) 101) X) (OwnK 22 1 (.slice B p cb) p (u32s cl))) (CellW w.heap.size (yA xf xt xs xn xa xk) 32)) (Fr.l (Fr.l (Fr.r cS Fr.id_) kS) cS) HS3.out).elim fun _ h=>(own_form h.2).elim (fun e=>by have := (List.getElem?_eq_some_iff.1 HK.out).1;have := HN.out;omega) id
 have jz:(k:Int) < (n:Int):=by have := (List.getElem?_eq_some_iff.1 HK.out).1;have := HN.out;omega
 have tk:decide ((0:Int)≤(k:Int))=true:=decide_eq_true (by omega)
 have HS3d:=jzD (HS3.out.drewD (((cS.star kS).star kS).star cS))
 have HE5:Hid ((fun U=>U.heap[gl]?=some (.cells (yG me (some ⟨b,0,none⟩) n ca B p cb) 101 (0,0))∧U.heap[w.heap.size]?=some (.cells (yA xf xt xs xn xa xk) 32 (0,0))) w3.drew):=⟨(Done.at_ (C:=fun X=>Star (Star (Star (X) (OwnK 103 3 (.slice (some ⟨b,0,none⟩) n ca) n (lgcs l))) (OwnK 22 1 (.slice B p cb) p (u32s cl))) (CellW w.heap.size (yA xf xt xs xn xa xk) 32)) (Fr.l (Fr.l (Fr.l Fr.id_ kS) kS) cS) HS3d.out),(Done.at_ (C:=fun X=>Star (Star (Star (CellW gl (yG me (some ⟨b,0,none⟩) n ca B p cb) 101) (OwnK 103 3 (.slice (some ⟨b,0,none⟩) n ca) n (lgcs l))) (OwnK 22 1 (.slice B p cb) p (u32s cl))) X) (Fr.r ((cS.star kS).star kS) Fr.id_) HS3d.out)⟩
 refine rests_begin (fun U=>U.heap[gl]?=some (.cells (yG me (some ⟨b,0,none⟩) n ca B p cb) 101 (0,0))∧U.heap[w.heap.size]?=some (.cells (yA xf xt xs xn xa xk) 32 (0,0))) (by kernel_rfl) ?_
 refine rtk 0 HE5.out ?_
 refine rtk 1 HE5.out ?_ (hy:=by intro W HW;have q:=cell_at HW.2 0 _ rfl;go_simp;try with_reducible rfl)
 refine rtk 2 HE5.out ?_
 refine rtk 3 HE5.out ?_
 refine rtk 4 HE5.out ?_
 refine rtk 5 HE5.out ?_ (hy:=by intro W HW;have q:=cell_at HW.1 0 _ rfl;go_simp;try with_reducible rfl)
 refine rtk 6 HE5.out ?_
 refine rtk 7 HE5.out ?_
 refine rests_done (by kernel_rfl) ?_
 go_wp2
 have HS3e:=jzD (HS3d.out.drewD (((cS.star kS).star kS).star cS))
 have HE6:Hid ((fun U=>U.heap[gl]?=some (.cells (yG me (some ⟨b,0,none⟩) n ca B p cb) 101 (0,0))∧U.heap[w.heap.size]?=some (.cells (yA xf xt xs xn xa xk) 32 (0,0))∧U.rangeAt b (k * 3) (sncs s)) w3.drew.drew):=⟨(Done.at_ (C:=fun X=>Star (Star (Star (X) (OwnK 103 3 (.slice (some ⟨b,0,none⟩) n ca) n (lgcs l))) (OwnK 22 1 (.slice B p cb) p (u32s cl))) (CellW w.heap.size (yA xf xt xs xn xa xk) 32)) (Fr.l (Fr.l (Fr.l Fr.id_ kS) kS) cS) HS3e.out),(Done.at_ (C:=fun X=>Star (Star (Star (CellW gl (yG me (some ⟨b,0,none⟩) n ca B p cb) 101) (OwnK 103 3 (.slice (some ⟨b,0,none⟩) n ca) n (lgcs l))) (OwnK 22 1 (.slice B p cb) p (u32s cl))) X) (Fr.r ((cS.star kS).star kS) Fr.id_) HS3e.out),(by rw [← Nat.zero_add (k * 3)];exact ((Done.get (C:=fun X=>Star (Star (Star (CellW gl (yG me (some ⟨b,0,none⟩) n ca B p cb) 101) X) (OwnK 22 1 (.slice B p cb) p (u32s cl))) (CellW w.heap.size (yA xf xt xs xn xa xk) 32)) (Fr.l (Fr.l (Fr.r cS Fr.id_) kS) cS) HS3e.out).elim fun _ h=>(h.rd).seen HK.out))⟩
 refine rests_begin (fun U=>U.heap[gl]?=some (.cells (yG me (some ⟨b,0,none⟩) n ca B p cb) 101 (0,0))∧U.heap[w.heap.size]?=some (.cells (yA xf xt xs xn xa xk) 32 (0,0))∧U.rangeAt b (k * 3) (sncs s)) (by kernel_rfl) ?_
 refine rtk 0 HE6.out ?_
 refine rtk 1 HE6.out ?_
 refine rtk 2 HE6.out ?_
 refine rtk 3 HE6.out ?_
 refine rtk 4 HE6.out ?_
 refine rtk 5 HE6.out ?_ (hy:=by intro W HW;have q:=cell_at HW.1 1 _ rfl;go_simp;try with_reducible rfl)
 refine rtk 6 HE6.out ?_
 refine rtk 7 HE6.out ?_
 refine rests_take 8 (oi:=_) (v:=.agg (sncs s).toArray) (by simp only [jzG,jzH,jzI];rfl) (by kernel_rfl) (by kernel_rfl) (by kernel_rfl) (by exact fun _ _ _ h=>h) (HE6.out) (by rfl) (fun W HW=>exec_loadMid (cs:=sncs s) rfl rfl HW.2.2 Tryz.underlying103 rfl (by kernel_rfl)) ?_
 simp only [Act.put,jzU,jzV,jzW]
 refine rests_take 9 (oi:=_) (v:=.agg #[.int .u32 xf,.int .u32 xt,.int .i64 xs,.int .i64 xn,.bool xa,.string xk]) (by simp only [jzG,jzH,jzI];rfl) (by kernel_rfl) (by kernel_rfl) (by kernel_rfl) (by exact fun _ _ _ h=>h) (HE6.out) (by rfl) (fun W HW=>exec_loadB rfl rfl HW.2.1 Tryz.underlying32 rfl (by kernel_rfl)) ?_
 simp only [Act.put,jzU,jzV,jzW]
 refine rests_call 10 (oi:=_) (by simp only [jzG,jzH,jzI];rfl) 68 #[.agg (sncs s).toArray,.agg #[.int .u32 xf,.int .u32 xt,.int .i64 xs,.int .i64 xn,.bool xa,.string xk]] _ (by kernel_rfl) (by rfl) (by go_simp) (dcalls_keep (((cS.star kS).star kS).star cS) HS3e.out (HFIT.out _)) ?_
 rintro e w20 ⟨rfl,hs⟩;have HS20:=jzD hs;have HE20:Hid ((fun U=>U.heap[gl]?=some (.cells (yG me (some ⟨b,0,none⟩) n ca B p cb) 101 (0,0))∧U.heap[w.heap.size]?=some (.cells (yA xf xt xs xn xa xk) 32 (0,0))∧U.rangeAt b (k * 3) (sncs s)) w20):=⟨(Done.at_ (C:=fun X=>Star (Star (Star (X) (OwnK 103 3 (.slice (some ⟨b,0,none⟩) n ca) n (lgcs l))) (OwnK 22 1 (.slice B p cb) p (u32s cl))) (CellW w.heap.size (yA xf xt xs xn xa xk) 32)) (Fr.l (Fr.l (Fr.l Fr.id_ kS) kS) cS) hs),(Done.at_ (C:=fun X=>Star (Star (Star (CellW gl (yG me (some ⟨b,0,none⟩) n ca B p cb) 101) (OwnK 103 3 (.slice (some ⟨b,0,none⟩) n ca) n (lgcs l))) (OwnK 22 1 (.slice B p cb) p (u32s cl))) X) (Fr.r ((cS.star kS).star kS) Fr.id_) hs),(by rw [← Nat.zero_add (k * 3)];exact ((Done.get (C:=fun X=>Star (Star (Star (CellW gl (yG me (some ⟨b,0,none⟩) n ca B p cb) 101) X) (OwnK 22 1 (.slice B p cb) p (u32s cl))) (CellW w.heap.size (yA xf xt xs xn xa xk) 32)) (Fr.l (Fr.l (Fr.r cS Fr.id_) kS) cS) hs).elim fun _ h=>(h.rd).seen HK.out))⟩;refine ⟨_,rfl,HE20.out,?_⟩;clear hs
 simp only [Act.put,jzU,jzV,jzW]
 refine rtk 11 HE20.out ?_
 refine rtk 12 HE20.out ?_
 refine rtk 13 HE20.out ?_
 refine rests_done (by kernel_rfl) ?_
 go_wp2
 go_ret
 exact ⟨rfl,HS20.out.drop⟩
theorem LAdd_diff (gl:Nat) (A:Option Addr) (n ca:Nat) (B:Option Addr) (p cb:Nat) (me:Int) (l:List SeenM) (cl:List Int) (xf xt xs xn:Int) (xa:Bool) (xk:ByteArray) (w:World) (F:List Nat) (hn:n=l.length) (hp:p=cl.length) (hok:(⟨me,l,cl⟩:LogM).ok) (hcv:(⟨me,l,cl⟩:LogM).cov) (hm:mayX (XIn.xd (⟨xf,xt,xs,xn,xa,xk⟩:XIn))=true) (h:LogX gl A n ca B p cb me l cl w F) (hme:¬ xf=me) (s:SeenM) (hf:l.find? (fun s=>s.id == xf)=some s) (hs:LogM.same s (⟨xf,xt,xs,xn,xa,xk⟩:XIn)=false):Calls Tryz.prog 51 #[.pointer (some ⟨gl,0,none⟩),.agg #[.int .u32 xf,.int .u32 xt,.int .i64 xs,.int .i64 xn,.bool xa,.string xk]] w fun e w' => e=.returned (.bool false)∧∃ B' cb', Done w F (LogX gl A n ca B' (insC xf cl).length cb' me l (insC xf cl)) w' := by
 have t1:(xf == me)=false:=beq_eq_false_iff_ne.2 hme
 have HFD:=jzD hf
 have hft:∀ w,Calls Tryz.prog 68 #[.agg (sncs s).toArray,.agg #[.int .u32 xf,.int .u32 xt,.int .i64 xs,.int .i64 xn,.bool xa,.string xk]] w fun e w' => e=.returned (.bool false)∧Below w.heap.size w w' := fun w=>by
  have := LFits_any s (⟨xf,xt,xs,xn,xa,xk⟩:XIn) w
  rw [hs] at this
  exact this
 have HFIT:=jzD hft
 have hmy:∀ w,Calls Tryz.prog 57 #[.agg #[.int .u32 xf,.int .u32 xt,.int .i64 xs,.int .i64 xn,.bool xa,.string xk]] w fun e w' => e=.returned (.bool true)∧Below w.heap.size w w' := fun w=>by
  have := XMay_all (⟨xf,xt,xs,xn,xa,xk⟩:XIn) w
  rw [hm] at this
  exact this
 have HMY:=jzD hmy
 have HN:=jzD hn
 have HP:=jzD hp
 have h16:=hok.len
 simp only at h16
 have HL:Hid (n≤1000):=by show _≤_;omega
 have h17:=LogM.cov_len hok hcv
 simp only at h17
 have H17:Hid (p≤17):=by show _≤_;omega
 have HCL:Hid (cl.Pairwise (· < ·)):=hok.rise
 have hS:Done w F (Star (Star (CellW gl (yG me A n ca B p cb) 101) (OwnK 103 3 (.slice A n ca) n (lgcs l))) (OwnK 22 1 (.slice B p cb) p (u32s cl))) w:=Done.start h
 have HS1:=jzD (hS.add ((cS.star kS).star kS) (CellW.new w #[.int .u32 xf,.int .u32 xt,.int .i64 xs,.int .i64 xn,.bool xa,.string xk] 32))
 have c0:(w.alloc (.cells (yA xf xt xs xn xa xk) 32)).cell? ⟨w.heap.size,0,none⟩=some (.int .u32 xf):=cell_at (heap_alloc_new w _) 0 _ rfl
 have c1:(w.alloc (.cells (yA xf xt xs xn xa xk) 32)).cell? ⟨w.heap.size,1,none⟩=some (.int .u32 xt):=cell_at (heap_alloc_new w _) 1 _ rfl
 have c2:(w.alloc (.cells (yA xf xt xs xn xa xk) 32)).cell? ⟨w.heap.size,2,none⟩=some (.int .i64 xs):=cell_at (heap_alloc_new w _) 2 _ rfl
 have c3:(w.alloc (.cells (yA xf xt xs xn xa xk) 32)).cell? ⟨w.heap.size,3,none⟩=some (.int .i64 xn):=cell_at (heap_alloc_new w _) 3 _ rfl
 have c4:(w.alloc (.cells (yA xf xt xs xn xa xk) 32)).cell? ⟨w.heap.size,4,none⟩=some (.bool xa):=cell_at (heap_alloc_new w _) 4 _ rfl
 have c5:(w.alloc (.cells (yA xf xt xs xn xa xk) 32)).cell? ⟨w.heap.size,5,none⟩=some (.string xk):=cell_at (heap_alloc_new w _) 5 _ rfl
 clear hme hf hs hft
 clear hmy hn hp hok hcv hm h h16 h17 hS
 go_enter Tryz.func51,Tryz.ntmps51
 go_wp2_with (first
  | (go_at_call 57;((with_reducible refine (dcalls_keep (((cS.star kS).star kS).star cS) HS1.out (HMY.out _)).mono ?_);rintro e w2 ⟨rfl,hs⟩;have HS2:=jzD hs;have d0:w2.cell? ⟨w.heap.size,0,none⟩=some (.int .u32 xf):=cell_at (Done.at_ (C:=fun X=>Star (Star (Star (CellW gl (yG me A n ca B p cb) 101) (OwnK 103 3 (.slice A n ca) n (lgcs l))) (OwnK 22 1 (.slice B p cb) p (u32s cl))) X) (Fr.r ((cS.star kS).star kS) Fr.id_) hs) 0 _ rfl;clear hs))
  | (go_at_call 67;((with_reducible refine (dFind cS HN.out HL.out HS2.out).mono ?_);rintro e w3 ⟨⟨r,rfl,hr⟩,hs⟩;obtain ⟨k,rfl,hk⟩:=find_r_some hr HFD.out;have HK:=jzD hk;clear hr hk;have HS3:=jzD hs;clear hs)))
 obtain ⟨b,rfl⟩:∃ b,A=some ⟨b,0,none⟩:=(Done.get (C:=fun X=>Star (Star (Star (CellW gl (yG me A n ca B p cb) 101) X) (OwnK 22 1 (.slice B p cb) p (u32s cl))) (CellW w.heap.size (yA xf xt xs xn xa xk) 32)) (Fr.l (Fr.l (Fr.r cS Fr.id_) kS) cS) HS3.out).elim fun _ h=>(own_form h.2).elim (fun e=>by have := (List.getElem?_eq_some_iff.1 HK.out).1;have := HN.out;omega) id
 have jz:(k:Int) < (n:Int):=by have := (List.getElem?_eq_some_iff.1 HK.out).1;have := HN.out;omega
 have tk:decide ((0:Int)≤(k:Int))=true:=decide_eq_true (by omega)
 have HS3d:=jzD (HS3.out.drewD (((cS.star kS).star kS).star cS))
 have HE5:Hid ((fun U=>U.heap[gl]?=some (.cells (yG me (some ⟨b,0,none⟩) n ca B p cb) 101 (0,0))∧U.heap[w.heap.size]?=some (.cells (yA xf xt xs xn xa xk) 32 (0,0))) w3.drew):=⟨(Done.at_ (C:=fun X=>Star (Star (Star (X) (OwnK 103 3 (.slice (some ⟨b,0,none⟩) n ca) n (lgcs l))) (OwnK 22 1 (.slice B p cb) p (u32s cl))) (CellW w.heap.size (yA xf xt xs xn xa xk) 32)) (Fr.l (Fr.l (Fr.l Fr.id_ kS) kS) cS) HS3d.out),(Done.at_ (C:=fun X=>Star (Star (Star (CellW gl (yG me (some ⟨b,0,none⟩) n ca B p cb) 101) (OwnK 103 3 (.slice (some ⟨b,0,none⟩) n ca) n (lgcs l))) (OwnK 22 1 (.slice B p cb) p (u32s cl))) X) (Fr.r ((cS.star kS).star kS) Fr.id_) HS3d.out)⟩
 refine rests_begin (fun U=>U.heap[gl]?=some (.cells (yG me (some ⟨b,0,none⟩) n ca B p cb) 101 (0,0))∧U.heap[w.heap.size]?=some (.cells (yA xf xt xs xn xa xk) 32 (0,0))) (by kernel_rfl) ?_
 refine rtk 0 HE5.out ?_
 refine rtk 1 HE5.out ?_ (hy:=by intro W HW;have q:=cell_at HW.2 0 _ rfl;go_simp;try with_reducible rfl)
 refine rtk 2 HE5.out ?_
 refine rtk 3 HE5.out ?_
 refine rtk 4 HE5.out ?_
 refine rtk 5 HE5.out ?_ (hy:=by intro W HW;have q:=cell_at HW.1 0 _ rfl;go_simp;try with_reducible rfl)
 refine rtk 6 HE5.out ?_
 refine rtk 7 HE5.out ?_
 refine rests_done (by kernel_rfl) ?_
 go_wp2
 have HS3e:=jzD (HS3d.out.drewD (((cS.star kS).star kS).star cS))
 have HE6:Hid ((fun U=>U.heap[gl]?=some (.cells (yG me (some ⟨b,0,none⟩) n ca B p cb) 101 (0,0))∧U.heap[w.heap.size]?=some (.cells (yA xf xt xs xn xa xk) 32 (0,0))∧U.rangeAt b (k * 3) (sncs s)) w3.drew.drew):=⟨(Done.at_ (C:=fun X=>Star (Star (Star (X) (OwnK 103 3 (.slice (some ⟨b,0,none⟩) n ca) n (lgcs l))) (OwnK 22 1 (.slice B p cb) p (u32s cl))) (CellW w.heap.size (yA xf xt xs xn xa xk) 32)) (Fr.l (Fr.l (Fr.l Fr.id_ kS) kS) cS) HS3e.out),(Done.at_ (C:=fun X=>Star (Star (Star (CellW gl (yG me (some ⟨b,0,none⟩) n ca B p cb) 101) (OwnK 103 3 (.slice (some ⟨b,0,none⟩) n ca) n (lgcs l))) (OwnK 22 1 (.slice B p cb) p (u32s cl))) X) (Fr.r ((cS.star kS).star kS) Fr.id_) HS3e.out),(by rw [← Nat.zero_add (k * 3)];exact ((Done.get (C:=fun X=>Star (Star (Star (CellW gl (yG me (some ⟨b,0,none⟩) n ca B p cb) 101) X) (OwnK 22 1 (.slice B p cb) p (u32s cl))) (CellW w.heap.size (yA xf xt xs xn xa xk) 32)) (Fr.l (Fr.l (Fr.r cS Fr.id_) kS) cS) HS3e.out).elim fun _ h=>(h.rd).seen HK.out))⟩
 refine rests_begin (fun U=>U.heap[gl]?=some (.cells (yG me (some ⟨b,0,none⟩) n ca B p cb) 101 (0,0))∧U.heap[w.heap.size]?=some (.cells (yA xf xt xs xn xa xk) 32 (0,0))∧U.rangeAt b (k * 3) (sncs s)) (by kernel_rfl) ?_
 refine rtk 0 HE6.out ?_
 refine rtk 1 HE6.out ?_
 refine rtk 2 HE6.out ?_
 refine rtk 3 HE6.out ?_
 refine rtk 4 HE6.out ?_
 refine rtk 5 HE6.out ?_ (hy:=by intro W HW;have q:=cell_at HW.1 1 _ rfl;go_simp;try with_reducible rfl)
 refine rtk 6 HE6.out ?_
 refine rtk 7 HE6.out ?_
 refine rests_take 8 (oi:=_) (v:=.agg (sncs s).toArray) (by simp only [jzG,jzH,jzI];rfl) (by kernel_rfl) (by kernel_rfl) (by kernel_rfl) (by exact fun _ _ _ h=>h) (HE6.out) (by rfl) (fun W HW=>exec_loadMid (cs:=sncs s) rfl rfl HW.2.2 Tryz.underlying103 rfl (by kernel_rfl)) ?_
 simp only [Act.put,jzU,jzV,jzW]
 refine rests_take 9 (oi:=_) (v:=.agg #[.int .u32 xf,.int .u32 xt,.int .i64 xs,.int .i64 xn,.bool xa,.string xk]) (by simp only [jzG,jzH,jzI];rfl) (by kernel_rfl) (by kernel_rfl) (by kernel_rfl) (by exact fun _ _ _ h=>h) (HE6.out) (by rfl) (fun W HW=>exec_loadB rfl rfl HW.2.1 Tryz.underlying32 rfl (by kernel_rfl)) ?_
 simp only [Act.put,jzU,jzV,jzW]
 refine rests_call 10 (oi:=_) (by simp only [jzG,jzH,jzI];rfl) 68 #[.agg (sncs s).toArray,.agg #[.int .u32 xf,.int .u32 xt,.int .i64 xs,.int .i64 xn,.bool xa,.string xk]] _ (by kernel_rfl) (by rfl) (by go_simp) (dcalls_keep (((cS.star kS).star kS).star cS) HS3e.out (HFIT.out _)) ?_
 rintro e w20 ⟨rfl,hs⟩;have HS20:=jzD hs;have HE20:Hid ((fun U=>U.heap[gl]?=some (.cells (yG me (some ⟨b,0,none⟩) n ca B p cb) 101 (0,0))∧U.heap[w.heap.size]?=some (.cells (yA xf xt xs xn xa xk) 32 (0,0))∧U.rangeAt b (k * 3) (sncs s)) w20):=⟨(Done.at_ (C:=fun X=>Star (Star (Star (X) (OwnK 103 3 (.slice (some ⟨b,0,none⟩) n ca) n (lgcs l))) (OwnK 22 1 (.slice B p cb) p (u32s cl))) (CellW w.heap.size (yA xf xt xs xn xa xk) 32)) (Fr.l (Fr.l (Fr.l Fr.id_ kS) kS) cS) hs),(Done.at_ (C:=fun X=>Star (Star (Star (CellW gl (yG me (some ⟨b,0,none⟩) n ca B p cb) 101) (OwnK 103 3 (.slice (some ⟨b,0,none⟩) n ca) n (lgcs l))) (OwnK 22 1 (.slice B p cb) p (u32s cl))) X) (Fr.r ((cS.star kS).star kS) Fr.id_) hs),(by rw [← Nat.zero_add (k * 3)];exact ((Done.get (C:=fun X=>Star (Star (Star (CellW gl (yG me (some ⟨b,0,none⟩) n ca B p cb) 101) X) (OwnK 22 1 (.slice B p cb) p (u32s cl))) (CellW w.heap.size (yA xf xt xs xn xa xk) 32)) (Fr.l (Fr.l (Fr.r cS Fr.id_) kS) cS) hs).elim fun _ h=>(h.rd).seen HK.out))⟩;refine ⟨_,rfl,HE20.out,?_⟩;clear hs
 simp only [Act.put,jzU,jzV,jzW]
 refine rtk 11 HE20.out ?_
 refine rtk 12 HE20.out ?_
 refine rtk 13 HE20.out ?_
 refine rests_done (by kernel_rfl) ?_
 have f0:w20.cell? ⟨w.heap.size,0,none⟩=some (.int .u32 xf):=cell_at (Done.at_ (C:=fun X=>Star (Star (Star (CellW gl (yG me (some ⟨b,0,none⟩) n ca B p cb) 101) (OwnK 103 3 (.slice (some ⟨b,0,none⟩) n ca) n (lgcs l))) (OwnK 22 1 (.slice B p cb) p (u32s cl))) X) (Fr.r ((cS.star kS).star kS) Fr.id_) HS20.out) 0 _ rfl
 go_wp2_with (go_at_call 69;((with_reducible refine (dACl cS HP.out HCL.out H17.out HS20.out).mono ?_);rintro e w9 ⟨rfl,B2,c2,hs⟩;have HS9:=jzD hs;clear hs))
 go_ret
 exact ⟨rfl,B2,c2,HS9.out.drop⟩
theorem LAdd_full (gl:Nat) (A:Option Addr) (n ca:Nat) (B:Option Addr) (p cb:Nat) (me:Int) (l:List SeenM) (cl:List Int) (xf xt xs xn:Int) (xa:Bool) (xk:ByteArray) (w:World) (F:List Nat) (hn:n=l.length) (hp:p=cl.length) (hok:(⟨me,l,cl⟩:LogM).ok) (hcv:(⟨me,l,cl⟩:LogM).cov) (hm:mayX (XIn.xd (⟨xf,xt,xs,xn,xa,xk⟩:XIn))=true) (h:LogX gl A n ca B p cb me l cl w F) (hme:¬ xf=me) (hf:l.find? (fun s=>s.id == xf)=none) (hl:16≤n):Calls Tryz.prog 51 #[.pointer (some ⟨gl,0,none⟩),.agg #[.int .u32 xf,.int .u32 xt,.int .i64 xs,.int .i64 xn,.bool xa,.string xk]] w fun e w' => e=.returned (.bool false)∧Done w F (LogX gl A n ca B p cb me l cl) w' := by
 have t1:(xf == me)=false:=beq_eq_false_iff_ne.2 hme
 have HFD:=jzD hf
 have t2:decide ((16:Int)≤(n:Int))=true:=decide_eq_true (by omega)
 have t2n:decide (16≤n)=true:=decide_eq_true hl
 have hmy:∀ w,Calls Tryz.prog 57 #[.agg #[.int .u32 xf,.int .u32 xt,.int .i64 xs,.int .i64 xn,.bool xa,.string xk]] w fun e w' => e=.returned (.bool true)∧Below w.heap.size w w' := fun w=>by
  have := XMay_all (⟨xf,xt,xs,xn,xa,xk⟩:XIn) w
  rw [hm] at this
  exact this
 have HMY:=jzD hmy
 have HN:=jzD hn
 have HP:=jzD hp
 have h16:=hok.len
 simp only at h16
 have HL:Hid (n≤1000):=by show _≤_;omega
 have h17:=LogM.cov_len hok hcv
 simp only at h17
 have H17:Hid (p≤17):=by show _≤_;omega
 have HCL:Hid (cl.Pairwise (· < ·)):=hok.rise
 have hS:Done w F (Star (Star (CellW gl (yG me A n ca B p cb) 101) (OwnK 103 3 (.slice A n ca) n (lgcs l))) (OwnK 22 1 (.slice B p cb) p (u32s cl))) w:=Done.start h
 have HS1:=jzD (hS.add ((cS.star kS).star kS) (CellW.new w #[.int .u32 xf,.int .u32 xt,.int .i64 xs,.int .i64 xn,.bool xa,.string xk] 32))
 have c0:(w.alloc (.cells (yA xf xt xs xn xa xk) 32)).cell? ⟨w.heap.size,0,none⟩=some (.int .u32 xf):=cell_at (heap_alloc_new w _) 0 _ rfl
 have c1:(w.alloc (.cells (yA xf xt xs xn xa xk) 32)).cell? ⟨w.heap.size,1,none⟩=some (.int .u32 xt):=cell_at (heap_alloc_new w _) 1 _ rfl
 have c2:(w.alloc (.cells (yA xf xt xs xn xa xk) 32)).cell? ⟨w.heap.size,2,none⟩=some (.int .i64 xs):=cell_at (heap_alloc_new w _) 2 _ rfl
 have c3:(w.alloc (.cells (yA xf xt xs xn xa xk) 32)).cell? ⟨w.heap.size,3,none⟩=some (.int .i64 xn):=cell_at (heap_alloc_new w _) 3 _ rfl
 have c4:(w.alloc (.cells (yA xf xt xs xn xa xk) 32)).cell? ⟨w.heap.size,4,none⟩=some (.bool xa):=cell_at (heap_alloc_new w _) 4 _ rfl
 have c5:(w.alloc (.cells (yA xf xt xs xn xa xk) 32)).cell? ⟨w.heap.size,5,none⟩=some (.string xk):=cell_at (heap_alloc_new w _) 5 _ rfl
 clear hme hf
 clear hmy hn hp hok hcv hm h h16 h17 hS
 go_enter Tryz.func51,Tryz.ntmps51
 go_wp2_with (first
  | (go_at_call 57;((with_reducible refine (dcalls_keep (((cS.star kS).star kS).star cS) HS1.out (HMY.out _)).mono ?_);rintro e w2 ⟨rfl,hs⟩;have HS2:=jzD hs;have d0:w2.cell? ⟨w.heap.size,0,none⟩=some (.int .u32 xf):=cell_at (Done.at_ (C:=fun X=>Star (Star (Star (CellW gl (yG me A n ca B p cb) 101) (OwnK 103 3 (.slice A n ca) n (lgcs l))) (OwnK 22 1 (.slice B p cb) p (u32s cl))) X) (Fr.r ((cS.star kS).star kS) Fr.id_) hs) 0 _ rfl;clear hs))
  | (go_at_call 67;((with_reducible refine (dFind cS HN.out HL.out HS2.out).mono ?_);rintro e w3 ⟨⟨r,rfl,hr⟩,hs⟩;obtain rfl:=find_r_none hr HFD.out;clear hr;have HS3:=jzD hs;clear hs)))
 have HS3d:=jzD (HS3.out.drewD (((cS.star kS).star kS).star cS))
 have HE5:Hid ((fun U=>U.heap[gl]?=some (.cells (yG me A n ca B p cb) 101 (0,0))∧U.heap[w.heap.size]?=some (.cells (yA xf xt xs xn xa xk) 32 (0,0))) w3.drew):=⟨(Done.at_ (C:=fun X=>Star (Star (Star (X) (OwnK 103 3 (.slice A n ca) n (lgcs l))) (OwnK 22 1 (.slice B p cb) p (u32s cl))) (CellW w.heap.size (yA xf xt xs xn xa xk) 32)) (Fr.l (Fr.l (Fr.l Fr.id_ kS) kS) cS) HS3d.out),(Done.at_ (C:=fun X=>Star (Star (Star (CellW gl (yG me A n ca B p cb) 101) (OwnK 103 3 (.slice A n ca) n (lgcs l))) (OwnK 22 1 (.slice B p cb) p (u32s cl))) X) (Fr.r ((cS.star kS).star kS) Fr.id_) HS3d.out)⟩
 refine rests_begin (fun U=>U.heap[gl]?=some (.cells (yG me A n ca B p cb) 101 (0,0))∧U.heap[w.heap.size]?=some (.cells (yA xf xt xs xn xa xk) 32 (0,0))) (by kernel_rfl) ?_
 refine rtk 0 HE5.out ?_
 refine rtk 1 HE5.out ?_ (hy:=by intro W HW;have q:=cell_at HW.2 0 _ rfl;go_simp;try with_reducible rfl)
 refine rtk 2 HE5.out ?_
 refine rtk 3 HE5.out ?_
 refine rtk 4 HE5.out ?_
 refine rtk 5 HE5.out ?_ (hy:=by intro W HW;have q:=cell_at HW.1 0 _ rfl;go_simp;try with_reducible rfl)
 refine rtk 6 HE5.out ?_
 refine rtk 7 HE5.out ?_
 refine rests_done (by kernel_rfl) ?_
 go_wp2
 have HS3e:=jzD (HS3d.out.drewD (((cS.star kS).star kS).star cS))
 have HE5b:Hid ((fun U=>U.heap[gl]?=some (.cells (yG me A n ca B p cb) 101 (0,0))∧U.heap[w.heap.size]?=some (.cells (yA xf xt xs xn xa xk) 32 (0,0))) w3.drew.drew):=⟨(Done.at_ (C:=fun X=>Star (Star (Star (X) (OwnK 103 3 (.slice A n ca) n (lgcs l))) (OwnK 22 1 (.slice B p cb) p (u32s cl))) (CellW w.heap.size (yA xf xt xs xn xa xk) 32)) (Fr.l (Fr.l (Fr.l Fr.id_ kS) kS) cS) HS3e.out),(Done.at_ (C:=fun X=>Star (Star (Star (CellW gl (yG me A n ca B p cb) 101) (OwnK 103 3 (.slice A n ca) n (lgcs l))) (OwnK 22 1 (.slice B p cb) p (u32s cl))) X) (Fr.r ((cS.star kS).star kS) Fr.id_) HS3e.out)⟩
 refine rests_begin (fun U=>U.heap[gl]?=some (.cells (yG me A n ca B p cb) 101 (0,0))∧U.heap[w.heap.size]?=some (.cells (yA xf xt xs xn xa xk) 32 (0,0))) (by kernel_rfl) ?_
 refine rtk 0 HE5b.out ?_
 refine rtk 1 HE5b.out ?_
 refine rsk 2 HE5b.out ?_
 refine rsk 3 HE5b.out ?_
 refine rsk 4 HE5b.out ?_
 refine rsk 5 HE5b.out ?_
 refine rsk 6 HE5b.out ?_
 refine rsk 7 HE5b.out ?_
 refine rsk 8 HE5b.out ?_
 refine rsk 9 HE5b.out ?_
 refine rsk 10 HE5b.out ?_
 refine rsk 11 HE5b.out ?_
 refine rtk 12 HE5b.out ?_
 refine rtk 13 HE5b.out ?_
 refine rests_done (by kernel_rfl) ?_
 have f1:w3.drew.drew.cell? ⟨gl,1,none⟩=some (.slice A n ca):=cell_at (Done.at_ (C:=fun X=>Star (Star (Star (X) (OwnK 103 3 (.slice A n ca) n (lgcs l))) (OwnK 22 1 (.slice B p cb) p (u32s cl))) (CellW w.heap.size (yA xf xt xs xn xa xk) 32)) (Fr.l (Fr.l (Fr.l Fr.id_ kS) kS) cS) HS3e.out) 1 _ rfl
 go_wp2
 go_ret
 exact ⟨rfl,HS3e.out.drop⟩
theorem LAdd_new (gl:Nat) (A:Option Addr) (n ca:Nat) (B:Option Addr) (p cb:Nat) (me:Int) (l:List SeenM) (cl:List Int) (xf xt xs xn:Int) (xa:Bool) (xk:ByteArray) (w:World) (F:List Nat) (hn:n=l.length) (hp:p=cl.length) (hok:(⟨me,l,cl⟩:LogM).ok) (hcv:(⟨me,l,cl⟩:LogM).cov) (hm:mayX (XIn.xd (⟨xf,xt,xs,xn,xa,xk⟩:XIn))=true) (h:LogX gl A n ca B p cb me l cl w F) (hme:¬ xf=me) (hf:l.find? (fun s=>s.id == xf)=none) (hl:n < 16):Calls Tryz.prog 51 #[.pointer (some ⟨gl,0,none⟩),.agg #[.int .u32 xf,.int .u32 xt,.int .i64 xs,.int .i64 xn,.bool xa,.string xk]] w fun e w' => e=.returned (.bool true)∧∃ A' ca', Done w F (LogX gl A' (n + 1) ca' B p cb me (l ++ [(⟨xf,xk,xs⟩:SeenM)]) cl) w' := by
 have t1:(xf == me)=false:=beq_eq_false_iff_ne.2 hme
 have HFD:=jzD hf
 have t2:decide ((16:Int)≤(n:Int))=false:=decide_eq_false (by omega)
 have t2n:decide (16≤n)=false:=decide_eq_false (by omega)
 have HB6:Hid (n + 1≤1000000):=by show _≤_;omega
 have hkl:=LogM.nick_len hm
 have HCLN:=jzD (fun w=>SClone_any xk w (by simp only at hkl;omega))
 clear hkl
 have hmy:∀ w,Calls Tryz.prog 57 #[.agg #[.int .u32 xf,.int .u32 xt,.int .i64 xs,.int .i64 xn,.bool xa,.string xk]] w fun e w' => e=.returned (.bool true)∧Below w.heap.size w w' := fun w=>by
  have := XMay_all (⟨xf,xt,xs,xn,xa,xk⟩:XIn) w
  rw [hm] at this
  exact this
 have HMY:=jzD hmy
 have HN:=jzD hn
 have HP:=jzD hp
 have h16:=hok.len
 simp only at h16
 have HL:Hid (n≤1000):=by show _≤_;omega
 have h17:=LogM.cov_len hok hcv
 simp only at h17
 have H17:Hid (p≤17):=by show _≤_;omega
 have HCL:Hid (cl.Pairwise (· < ·)):=hok.rise
 have hS:Done w F (Star (Star (CellW gl (yG me A n ca B p cb) 101) (OwnK 103 3 (.slice A n ca) n (lgcs l))) (OwnK 22 1 (.slice B p cb) p (u32s cl))) w:=Done.start h
 have HS1:=jzD (hS.add ((cS.star kS).star kS) (CellW.new w #[.int .u32 xf,.int .u32 xt,.int .i64 xs,.int .i64 xn,.bool xa,.string xk] 32))
 have c0:(w.alloc (.cells (yA xf xt xs xn xa xk) 32)).cell? ⟨w.heap.size,0,none⟩=some (.int .u32 xf):=cell_at (heap_alloc_new w _) 0 _ rfl
 have c1:(w.alloc (.cells (yA xf xt xs xn xa xk) 32)).cell? ⟨w.heap.size,1,none⟩=some (.int .u32 xt):=cell_at (heap_alloc_new w _) 1 _ rfl
 have c2:(w.alloc (.cells (yA xf xt xs xn xa xk) 32)).cell? ⟨w.heap.size,2,none⟩=some (.int .i64 xs):=cell_at (heap_alloc_new w _) 2 _ rfl
 have c3:(w.alloc (.cells (yA xf xt xs xn xa xk) 32)).cell? ⟨w.heap.size,3,none⟩=some (.int .i64 xn):=cell_at (heap_alloc_new w _) 3 _ rfl
 have c4:(w.alloc (.cells (yA xf xt xs xn xa xk) 32)).cell? ⟨w.heap.size,4,none⟩=some (.bool xa):=cell_at (heap_alloc_new w _) 4 _ rfl
 have c5:(w.alloc (.cells (yA xf xt xs xn xa xk) 32)).cell? ⟨w.heap.size,5,none⟩=some (.string xk):=cell_at (heap_alloc_new w _) 5 _ rfl
 clear hme hf
 clear hmy hn hp hok hcv hm h h16 h17 hS
 go_enter Tryz.func51,Tryz.ntmps51
 go_wp2_with (first
  | (go_at_call 57;((with_reducible refine (dcalls_keep (((cS.star kS).star kS).star cS) HS1.out (HMY.out _)).mono ?_);rintro e w2 ⟨rfl,hs⟩;have HS2:=jzD hs;have d0:w2.cell? ⟨w.heap.size,0,none⟩=some (.int .u32 xf):=cell_at (Done.at_ (C:=fun X=>Star (Star (Star (CellW gl (yG me A n ca B p cb) 101) (OwnK 103 3 (.slice A n ca) n (lgcs l))) (OwnK 22 1 (.slice B p cb) p (u32s cl))) X) (Fr.r ((cS.star kS).star kS) Fr.id_) hs) 0 _ rfl;clear hs))
  | (go_at_call 67;((with_reducible refine (dFind cS HN.out HL.out HS2.out).mono ?_);rintro e w3 ⟨⟨r,rfl,hr⟩,hs⟩;obtain rfl:=find_r_none hr HFD.out;clear hr;have HS3:=jzD hs;clear hs)))
 have HS3d:=jzD (HS3.out.drewD (((cS.star kS).star kS).star cS))
 have HE5:Hid ((fun U=>U.heap[gl]?=some (.cells (yG me A n ca B p cb) 101 (0,0))∧U.heap[w.heap.size]?=some (.cells (yA xf xt xs xn xa xk) 32 (0,0))) w3.drew):=⟨(Done.at_ (C:=fun X=>Star (Star (Star (X) (OwnK 103 3 (.slice A n ca) n (lgcs l))) (OwnK 22 1 (.slice B p cb) p (u32s cl))) (CellW w.heap.size (yA xf xt xs xn xa xk) 32)) (Fr.l (Fr.l (Fr.l Fr.id_ kS) kS) cS) HS3d.out),(Done.at_ (C:=fun X=>Star (Star (Star (CellW gl (yG me A n ca B p cb) 101) (OwnK 103 3 (.slice A n ca) n (lgcs l))) (OwnK 22 1 (.slice B p cb) p (u32s cl))) X) (Fr.r ((cS.star kS).star kS) Fr.id_) HS3d.out)⟩
 refine rests_begin (fun U=>U.heap[gl]?=some (.cells (yG me A n ca B p cb) 101 (0,0))∧U.heap[w.heap.size]?=some (.cells (yA xf xt xs xn xa xk) 32 (0,0))) (by kernel_rfl) ?_
 refine rtk 0 HE5.out ?_
 refine rtk 1 HE5.out ?_ (hy:=by intro W HW;have q:=cell_at HW.2 0 _ rfl;go_simp;try with_reducible rfl)
 refine rtk 2 HE5.out ?_
 refine rtk 3 HE5.out ?_
 refine rtk 4 HE5.out ?_
 refine rtk 5 HE5.out ?_ (hy:=by intro W HW;have q:=cell_at HW.1 0 _ rfl;go_simp;try with_reducible rfl)
 refine rtk 6 HE5.out ?_
 refine rtk 7 HE5.out ?_
 refine rests_done (by kernel_rfl) ?_
 go_wp2
 have HS3e:=jzD (HS3d.out.drewD (((cS.star kS).star kS).star cS))
 have HE5b:Hid ((fun U=>U.heap[gl]?=some (.cells (yG me A n ca B p cb) 101 (0,0))∧U.heap[w.heap.size]?=some (.cells (yA xf xt xs xn xa xk) 32 (0,0))) w3.drew.drew):=⟨(Done.at_ (C:=fun X=>Star (Star (Star (X) (OwnK 103 3 (.slice A n ca) n (lgcs l))) (OwnK 22 1 (.slice B p cb) p (u32s cl))) (CellW w.heap.size (yA xf xt xs xn xa xk) 32)) (Fr.l (Fr.l (Fr.l Fr.id_ kS) kS) cS) HS3e.out),(Done.at_ (C:=fun X=>Star (Star (Star (CellW gl (yG me A n ca B p cb) 101) (OwnK 103 3 (.slice A n ca) n (lgcs l))) (OwnK 22 1 (.slice B p cb) p (u32s cl))) X) (Fr.r ((cS.star kS).star kS) Fr.id_) HS3e.out)⟩
 refine rests_begin (fun U=>U.heap[gl]?=some (.cells (yG me A n ca B p cb) 101 (0,0))∧U.heap[w.heap.size]?=some (.cells (yA xf xt xs xn xa xk) 32 (0,0))) (by kernel_rfl) ?_
 refine rtk 0 HE5b.out ?_
 refine rtk 1 HE5b.out ?_
 refine rsk 2 HE5b.out ?_
 refine rsk 3 HE5b.out ?_
 refine rsk 4 HE5b.out ?_
 refine rsk 5 HE5b.out ?_
 refine rsk 6 HE5b.out ?_
 refine rsk 7 HE5b.out ?_
 refine rsk 8 HE5b.out ?_
 refine rsk 9 HE5b.out ?_
 refine rsk 10 HE5b.out ?_
 refine rsk 11 HE5b.out ?_
 refine rtk 12 HE5b.out ?_
 refine rtk 13 HE5b.out ?_
 refine rests_done (by kernel_rfl) ?_
 have f1:w3.drew.drew.cell? ⟨gl,1,none⟩=some (.slice A n ca):=cell_at (Done.at_ (C:=fun X=>Star (Star (Star (X) (OwnK 103 3 (.slice A n ca) n (lgcs l))) (OwnK 22 1 (.slice B p cb) p (u32s cl))) (CellW w.heap.size (yA xf xt xs xn xa xk) 32)) (Fr.l (Fr.l (Fr.l Fr.id_ kS) kS) cS) HS3e.out) 1 _ rfl
 go_wp2
 have HS3f:=jzD (HS3e.out.drewD (((cS.star kS).star kS).star cS))
 have HE13:Hid ((fun U=>U.heap[w.heap.size]?=some (.cells (yA xf xt xs xn xa xk) 32 (0,0))) w3.drew.drew.drew):=(Done.at_ (C:=fun X=>Star (Star (Star (CellW gl (yG me A n ca B p cb) 101) (OwnK 103 3 (.slice A n ca) n (lgcs l))) (OwnK 22 1 (.slice B p cb) p (u32s cl))) X) (Fr.r ((cS.star kS).star kS) Fr.id_) HS3f.out)
 refine' region_shared1 (fun gd W=>Done w F (Star (Star (Star (Star (CellW gl (yG me A n ca B p cb) 101) (OwnK 103 3 (.slice A n ca) n (lgcs l))) (OwnK 22 1 (.slice B p cb) p (u32s cl))) (CellW w.heap.size (yA xf xt xs xn xa xk) 32)) (CellW gd (yM xf xk) 89)) W) _ ?cont ?reg
 case reg =>
  intro hK
  refine rests_begin (fun U=>U.heap[w.heap.size]?=some (.cells (yA xf xt xs xn xa xk) 32 (0,0))) (by kernel_rfl) ?_
  refine rtk 0 HE13.out ?_
  refine rtk 1 HE13.out ?_ (hy:=by intro W HW;have q:=cell_at HW 0 _ rfl;go_simp;try with_reducible rfl)
  refine rtk 2 HE13.out ?_
  refine rtk 3 HE13.out ?_ (hy:=by intro W HW;have q:=cell_at HW 5 _ rfl;go_simp;try with_reducible rfl)
  refine rests_two 4 6 (oi:=_) (oj:=_) (by simp only [jzG,jzH,jzI];rfl) (by simp only [jzG,jzH,jzI];rfl) (by kernel_rfl) (by rfl) (by rfl) ?_ ?_
  · refine wp_enter (f:=58) (args:=#[.string xk]) (by go_simp) (dcalls_keep (((cS.star kS).star kS).star cS) HS3f.out (HCLN.out _)) ?_
    rintro e w30 ⟨rfl,hs⟩;have HS30:=jzD hs;have HE30:Hid ((fun U=>U.heap[w.heap.size]?=some (.cells (yA xf xt xs xn xa xk) 32 (0,0))) w30):=(Done.at_ (C:=fun X=>Star (Star (Star (CellW gl (yG me A n ca B p cb) 101) (OwnK 103 3 (.slice A n ca) n (lgcs l))) (OwnK 22 1 (.slice B p cb) p (u32s cl))) X) (Fr.r ((cS.star kS).star kS) Fr.id_) hs);refine ⟨_,rfl,HE30.out,?_⟩;clear hs
    simp only [Act.put,jzU,jzV,jzW]
    refine rtk 5 HE30.out ?_
    obtain ⟨g31,hg31⟩:∃ g,g=(w30).heap.size:=⟨_,rfl⟩
    have hal31:=CellW.new (w30) #[.int .u32 0,.string ⟨#[]⟩] 89
    rw [← hg31] at hal31
    obtain ⟨w31,hw31⟩:∃ wz,wz=(w30).alloc (.cells (yM 0 ⟨#[]⟩) 89):=⟨_,rfl⟩
    rw [← hw31] at hal31
    have HS31:=jzD (HS30.out.add (((cS.star kS).star kS).star cS) hal31)
    have HE31:Hid ((fun U=>U.heap[w.heap.size]?=some (.cells (yA xf xt xs xn xa xk) 32 (0,0))) w31):=(Done.at_ (C:=fun X=>Star (Star (Star (Star (CellW gl (yG me A n ca B p cb) 101) (OwnK 103 3 (.slice A n ca) n (lgcs l))) (OwnK 22 1 (.slice B p cb) p (u32s cl))) X) (CellW g31 (yM 0 ⟨#[]⟩) 89)) (Fr.l (Fr.r ((cS.star kS).star kS) Fr.id_) cS) HS31.out)
    refine rests_run 6 (oi:=_) (by simp only [jzG,jzH,jzI];rfl) (by kernel_rfl) (by rfl) (.pointer (some ⟨g31,0,none⟩)) w31 (by rw [hg31,hw31];go_simp) ⟨HE31.out,?_⟩
    clear hg31 hal31 hw31
    simp only [Act.put,jzU,jzV,jzW]
    refine rests_storeB 7 (oi:=_) (by simp only [jzG,jzH,jzI];rfl) (by kernel_rfl) (by rfl) 89 (.tmp 7) (.tmp 60) rfl g31 #[.int .u32 xf,.string xk] rfl rfl 89 _ (Done.at_ (C:=fun X=>Star (Star (Star (Star (CellW gl (yG me A n ca B p cb) 101) (OwnK 103 3 (.slice A n ca) n (lgcs l))) (OwnK 22 1 (.slice B p cb) p (u32s cl))) (CellW w.heap.size (yA xf xt xs xn xa xk) 32)) X) (Fr.r (((cS.star kS).star kS).star cS) Fr.id_) HS31.out) (by kernel_rfl) rfl (by simp [Value.oneCell']) ?_
    intro w32 hg _ hh;have HS32:Hid (Done w F (Star (Star (Star (Star (CellW gl (yG me A n ca B p cb) 101) (OwnK 103 3 (.slice A n ca) n (lgcs l))) (OwnK 22 1 (.slice B p cb) p (u32s cl))) (CellW w.heap.size (yA xf xt xs xn xa xk) 32)) (CellW g31 (yM xf xk) 89)) w32):=Done.put_ (C:=fun X=>Star (Star (Star (Star (CellW gl (yG me A n ca B p cb) 101) (OwnK 103 3 (.slice A n ca) n (lgcs l))) (OwnK 22 1 (.slice B p cb) p (u32s cl))) (CellW w.heap.size (yA xf xt xs xn xa xk) 32)) X) (Fr.r (((cS.star kS).star kS).star cS) Fr.id_) HS31.out hg hh;have HE32:Hid ((fun U=>U.heap[w.heap.size]?=some (.cells (yA xf xt xs xn xa xk) 32 (0,0))) w32):=(Done.at_ (C:=fun X=>Star (Star (Star (Star (CellW gl (yG me A n ca B p cb) 101) (OwnK 103 3 (.slice A n ca) n (lgcs l))) (OwnK 22 1 (.slice B p cb) p (u32s cl))) X) (CellW g31 (yM xf xk) 89)) (Fr.l (Fr.r ((cS.star kS).star kS) Fr.id_) cS) HS32.out);refine ⟨HE32.out,?_⟩;clear hg hh
    simp only [Act.put,jzU,jzV,jzW]
    refine rests_done (by kernel_rfl) ?_
    exact hK g31 w32 HS32.out
  · obtain ⟨g30,hg30⟩:∃ g,g=(w3.drew.drew.drew).heap.size:=⟨_,rfl⟩
    have hal30:=CellW.new (w3.drew.drew.drew) #[.int .u32 0,.string ⟨#[]⟩] 89
    rw [← hg30] at hal30
    obtain ⟨w30,hw30⟩:∃ wz,wz=(w3.drew.drew.drew).alloc (.cells (yM 0 ⟨#[]⟩) 89):=⟨_,rfl⟩
    rw [← hw30] at hal30
    have HS30:=jzD (HS3f.out.add (((cS.star kS).star kS).star cS) hal30)
    have HE30:Hid ((fun U=>U.heap[w.heap.size]?=some (.cells (yA xf xt xs xn xa xk) 32 (0,0))) w30):=(Done.at_ (C:=fun X=>Star (Star (Star (Star (CellW gl (yG me A n ca B p cb) 101) (OwnK 103 3 (.slice A n ca) n (lgcs l))) (OwnK 22 1 (.slice B p cb) p (u32s cl))) X) (CellW g30 (yM 0 ⟨#[]⟩) 89)) (Fr.l (Fr.r ((cS.star kS).star kS) Fr.id_) cS) HS30.out)
    refine wp_val (v:=.pointer (some ⟨g30,0,none⟩)) (w' := w30) (by rw [hg30,hw30];go_simp) ⟨HE30.out,?_⟩
    clear hg30 hal30 hw30
    simp only [Act.put,jzU,jzV,jzW]
    refine rests_call 4 (oi:=_) (by simp only [jzG,jzH,jzI];rfl) 58 #[.string xk] _ (by kernel_rfl) (by rfl) (by go_simp) (dcalls_keep ((((cS.star kS).star kS).star cS).star cS) HS30.out (HCLN.out _)) ?_
    rintro e w31 ⟨rfl,hs⟩;have HS31:=jzD hs;have HE31:Hid ((fun U=>U.heap[w.heap.size]?=some (.cells (yA xf xt xs xn xa xk) 32 (0,0))) w31):=(Done.at_ (C:=fun X=>Star (Star (Star (Star (CellW gl (yG me A n ca B p cb) 101) (OwnK 103 3 (.slice A n ca) n (lgcs l))) (OwnK 22 1 (.slice B p cb) p (u32s cl))) X) (CellW g30 (yM 0 ⟨#[]⟩) 89)) (Fr.l (Fr.r ((cS.star kS).star kS) Fr.id_) cS) hs);refine ⟨_,rfl,HE31.out,?_⟩;clear hs
    simp only [Act.put,jzU,jzV,jzW]
    refine rtk 5 HE31.out ?_
    refine rests_storeB 7 (oi:=_) (by simp only [jzG,jzH,jzI];rfl) (by kernel_rfl) (by rfl) 89 (.tmp 7) (.tmp 60) rfl g30 #[.int .u32 xf,.string xk] rfl rfl 89 _ (Done.at_ (C:=fun X=>Star (Star (Star (Star (CellW gl (yG me A n ca B p cb) 101) (OwnK 103 3 (.slice A n ca) n (lgcs l))) (OwnK 22 1 (.slice B p cb) p (u32s cl))) (CellW w.heap.size (yA xf xt xs xn xa xk) 32)) X) (Fr.r (((cS.star kS).star kS).star cS) Fr.id_) HS31.out) (by kernel_rfl) rfl (by simp [Value.oneCell']) ?_
    intro w32 hg _ hh;have HS32:Hid (Done w F (Star (Star (Star (Star (CellW gl (yG me A n ca B p cb) 101) (OwnK 103 3 (.slice A n ca) n (lgcs l))) (OwnK 22 1 (.slice B p cb) p (u32s cl))) (CellW w.heap.size (yA xf xt xs xn xa xk) 32)) (CellW g30 (yM xf xk) 89)) w32):=Done.put_ (C:=fun X=>Star (Star (Star (Star (CellW gl (yG me A n ca B p cb) 101) (OwnK 103 3 (.slice A n ca) n (lgcs l))) (OwnK 22 1 (.slice B p cb) p (u32s cl))) (CellW w.heap.size (yA xf xt xs xn xa xk) 32)) X) (Fr.r (((cS.star kS).star kS).star cS) Fr.id_) HS31.out hg hh;have HE32:Hid ((fun U=>U.heap[w.heap.size]?=some (.cells (yA xf xt xs xn xa xk) 32 (0,0))) w32):=(Done.at_ (C:=fun X=>Star (Star (Star (Star (CellW gl (yG me A n ca B p cb) 101) (OwnK 103 3 (.slice A n ca) n (lgcs l))) (OwnK 22 1 (.slice B p cb) p (u32s cl))) X) (CellW g30 (yM xf xk) 89)) (Fr.l (Fr.r ((cS.star kS).star kS) Fr.id_) cS) HS32.out);refine ⟨HE32.out,?_⟩;clear hg hh
    simp only [Act.put,jzU,jzV,jzW]
    refine rests_done (by kernel_rfl) ?_
    exact hK g30 w32 HS32.out
 case cont =>
  clear HE5b f1 HS3 HS3d HS3e HS3f HE13
  intro gd w40 hs
  have HS40:=jzD hs
  clear hs
  go_wp2
  have HS40d:=jzD (HS40.out.drewD ((((cS.star kS).star kS).star cS).star cS))
  have HE14:Hid ((fun U=>U.heap[w.heap.size]?=some (.cells (yA xf xt xs xn xa xk) 32 (0,0))∧U.heap[gd]?=some (.cells (yM xf xk) 89 (0,0))) w40.drew):=⟨(Done.at_ (C:=fun X=>Star (Star (Star (Star (CellW gl (yG me A n ca B p cb) 101) (OwnK 103 3 (.slice A n ca) n (lgcs l))) (OwnK 22 1 (.slice B p cb) p (u32s cl))) X) (CellW gd (yM xf xk) 89)) (Fr.l (Fr.r ((cS.star kS).star kS) Fr.id_) cS) HS40d.out),(Done.at_ (C:=fun X=>Star (Star (Star (Star (CellW gl (yG me A n ca B p cb) 101) (OwnK 103 3 (.slice A n ca) n (lgcs l))) (OwnK 22 1 (.slice B p cb) p (u32s cl))) (CellW w.heap.size (yA xf xt xs xn xa xk) 32)) X) (Fr.r (((cS.star kS).star kS).star cS) Fr.id_) HS40d.out)⟩
  refine rests_begin (fun U=>U.heap[w.heap.size]?=some (.cells (yA xf xt xs xn xa xk) 32 (0,0))∧U.heap[gd]?=some (.cells (yM xf xk) 89 (0,0))) (by kernel_rfl) ?_
  refine rtk 0 HE14.out ?_
  refine rtk 1 HE14.out ?_
  refine rtk 2 HE14.out ?_
  refine rtk 3 HE14.out ?_
  refine rests_take 5 (oi:=_) (v:=.agg #[.int .u32 xf,.string xk]) (by simp only [jzG,jzH,jzI];rfl) (by kernel_rfl) (by kernel_rfl) (by kernel_rfl) (by exact fun _ _ _ h=>h) (HE14.out) (by rfl) (fun W HW=>exec_loadB rfl rfl HW.2 Tryz.underlying89 rfl (by kernel_rfl)) ?_
  simp only [Act.put,jzU,jzV,jzW]
  refine rtk 6 HE14.out ?_
  refine rtk 7 HE14.out ?_ (hy:=by intro W HW;have q:=cell_at HW.1 2 _ rfl;go_simp;try with_reducible rfl)
  refine rtk 8 HE14.out ?_
  refine rests_two 4 9 (oi:=_) (oj:=_) (by simp only [jzG,jzH,jzI];rfl) (by simp only [jzG,jzH,jzI];rfl) (by kernel_rfl) (by rfl) (by rfl) ?_ ?_
  · have cq50:(w40.drew).cell? ⟨gl,1,none⟩=some (.slice A n ca):=cell_at (Done.at_ (C:=fun X=>Star (Star (Star (Star (X) (OwnK 103 3 (.slice A n ca) n (lgcs l))) (OwnK 22 1 (.slice B p cb) p (u32s cl))) (CellW w.heap.size (yA xf xt xs xn xa xk) 32)) (CellW gd (yM xf xk) 89)) (Fr.l (Fr.l (Fr.l (Fr.l Fr.id_ kS) kS) cS) cS) HS40d.out) 1 _ rfl
    refine wp_val (v:=.slice A n ca) (w' := w40.drew) (by go_simp) ⟨HE14.out,?_⟩
    clear cq50
    simp only [Act.put,jzU,jzV,jzW]
    obtain ⟨g51,hg51⟩:∃ g,g=(w40.drew).heap.size:=⟨_,rfl⟩
    have hal51:=CellW.new (w40.drew) #[.int .u32 xf,.string xk,.int .i64 xs] 103
    rw [← hg51] at hal51
    obtain ⟨w51,hw51⟩:∃ wz,wz=(w40.drew).alloc (.cells (yJ xf xk xs) 103):=⟨_,rfl⟩
    rw [← hw51] at hal51
    have HS51:=jzD (HS40d.out.add ((((cS.star kS).star kS).star cS).star cS) hal51)
    have HE51:Hid ((fun U=>U.heap[w.heap.size]?=some (.cells (yA xf xt xs xn xa xk) 32 (0,0))∧U.heap[gd]?=some (.cells (yM xf xk) 89 (0,0))) w51):=⟨(Done.at_ (C:=fun X=>Star (Star (Star (Star (Star (CellW gl (yG me A n ca B p cb) 101) (OwnK 103 3 (.slice A n ca) n (lgcs l))) (OwnK 22 1 (.slice B p cb) p (u32s cl))) X) (CellW gd (yM xf xk) 89)) (CellW g51 (yJ xf xk xs) 103)) (Fr.l (Fr.l (Fr.r ((cS.star kS).star kS) Fr.id_) cS) cS) HS51.out),(Done.at_ (C:=fun X=>Star (Star (Star (Star (Star (CellW gl (yG me A n ca B p cb) 101) (OwnK 103 3 (.slice A n ca) n (lgcs l))) (OwnK 22 1 (.slice B p cb) p (u32s cl))) (CellW w.heap.size (yA xf xt xs xn xa xk) 32)) X) (CellW g51 (yJ xf xk xs) 103)) (Fr.l (Fr.r (((cS.star kS).star kS).star cS) Fr.id_) cS) HS51.out)⟩
    refine rests_run 9 (oi:=_) (by simp only [jzG,jzH,jzI];rfl) (by kernel_rfl) (by rfl) (.slice (some ⟨g51,0,none⟩) 1 1) w51 (by rw [hg51,hw51];go_simp) ⟨HE51.out,?_⟩
    clear hg51 hal51 hw51
    simp only [Act.put,jzU,jzV,jzW]
    refine rests_appD 10 (oi:=_) (by simp only [jzG,jzH,jzI];rfl) (by kernel_rfl) (by rfl) (C:=fun X=>Star (Star (Star (Star (Star (CellW gl (yG me A n ca B p cb) 101) X) (OwnK 22 1 (.slice B p cb) p (u32s cl))) (CellW w.heap.size (yA xf xt xs xn xa xk) 32)) (CellW gd (yM xf xk) 89)) (CellW g51 (yJ xf xk xs) 103)) (Fr.l (Fr.l (Fr.l (Fr.l (Fr.r cS Fr.id_) kS) cS) cS) cS) HS51.out (.tmp 65) (.tmp 70) 99 32 (.agg #[.int .u32 0,.string ⟨#[]⟩,.int .i64 0]) rfl Tryz.underlying99 (by kernel_rfl) rfl (by decide) (.slice (some ⟨g51,0,none⟩) 1 1) 1 (sncs (⟨xf,xk,xs⟩:SeenM)) rfl rfl ((rdG_new (Done.at_ (C:=fun X=>Star (Star (Star (Star (Star (CellW gl (yG me A n ca B p cb) 101) (OwnK 103 3 (.slice A n ca) n (lgcs l))) (OwnK 22 1 (.slice B p cb) p (u32s cl))) (CellW w.heap.size (yA xf xt xs xn xa xk) 32)) (CellW gd (yM xf xk) 89)) X) (Fr.r ((((cS.star kS).star kS).star cS).star cS) Fr.id_) HS51.out) rfl)) (sncs_one (⟨xf,xk,xs⟩:SeenM)) (n + 1) rfl HB6.out (lgcs (l ++ [(⟨xf,xk,xs⟩:SeenM)])) (by simp [lgcs]) ?_
    intro A52 c52 w52 hs hc;have HS52:=jzD hs;have HE52:Hid ((fun U=>U.heap[w.heap.size]?=some (.cells (yA xf xt xs xn xa xk) 32 (0,0))∧U.heap[gd]?=some (.cells (yM xf xk) 89 (0,0))) w52):=⟨(Done.at_ (C:=fun X=>Star (Star (Star (Star (Star (CellW gl (yG me A n ca B p cb) 101) (OwnK 103 3 (.slice A52 (n + 1) c52) (n + 1) (lgcs (l ++ [(⟨xf,xk,xs⟩:SeenM)])))) (OwnK 22 1 (.slice B p cb) p (u32s cl))) X) (CellW gd (yM xf xk) 89)) (CellW g51 (yJ xf xk xs) 103)) (Fr.l (Fr.l (Fr.r ((cS.star kS).star kS) Fr.id_) cS) cS) hs),(Done.at_ (C:=fun X=>Star (Star (Star (Star (Star (CellW gl (yG me A n ca B p cb) 101) (OwnK 103 3 (.slice A52 (n + 1) c52) (n + 1) (lgcs (l ++ [(⟨xf,xk,xs⟩:SeenM)])))) (OwnK 22 1 (.slice B p cb) p (u32s cl))) (CellW w.heap.size (yA xf xt xs xn xa xk) 32)) X) (CellW g51 (yJ xf xk xs) 103)) (Fr.l (Fr.r (((cS.star kS).star kS).star cS) Fr.id_) cS) hs)⟩;have HC52:=jzD hc;refine ⟨HE52.out,?_⟩;clear hs hc
    simp only [Act.put,jzU,jzV,jzW]
    refine rtk 11 HE52.out ?_
    refine rtk 12 HE52.out ?_
    refine rests_store1 13 (oi:=_) (by simp only [jzG,jzH,jzI];rfl) (by kernel_rfl) (by rfl) 99 (.tmp 73) (.tmp 71) rfl gl 1 (.slice A52 (n + 1) c52) rfl rfl 101 _ (Done.at_ (C:=fun X=>Star (Star (Star (Star (Star (X) (OwnK 103 3 (.slice A52 (n + 1) c52) (n + 1) (lgcs (l ++ [(⟨xf,xk,xs⟩:SeenM)])))) (OwnK 22 1 (.slice B p cb) p (u32s cl))) (CellW w.heap.size (yA xf xt xs xn xa xk) 32)) (CellW gd (yM xf xk) 89)) (CellW g51 (yJ xf xk xs) 103)) (Fr.l (Fr.l (Fr.l (Fr.l (Fr.l Fr.id_ kS) kS) cS) cS) cS) HS52.out) (by simp) (run_storeNS _ _ _ _ _) ?_
    intro w53 hg hh;have HS53:Hid (Done w F (Star (Star (Star (Star (Star (CellW gl (yG me A52 (n + 1) c52 B p cb) 101) (OwnK 103 3 (.slice A52 (n + 1) c52) (n + 1) (lgcs (l ++ [(⟨xf,xk,xs⟩:SeenM)])))) (OwnK 22 1 (.slice B p cb) p (u32s cl))) (CellW w.heap.size (yA xf xt xs xn xa xk) 32)) (CellW gd (yM xf xk) 89)) (CellW g51 (yJ xf xk xs) 103)) w53):=Done.put_ (C:=fun X=>Star (Star (Star (Star (Star (X) (OwnK 103 3 (.slice A52 (n + 1) c52) (n + 1) (lgcs (l ++ [(⟨xf,xk,xs⟩:SeenM)])))) (OwnK 22 1 (.slice B p cb) p (u32s cl))) (CellW w.heap.size (yA xf xt xs xn xa xk) 32)) (CellW gd (yM xf xk) 89)) (CellW g51 (yJ xf xk xs) 103)) (Fr.l (Fr.l (Fr.l (Fr.l (Fr.l Fr.id_ kS) kS) cS) cS) cS) HS52.out hg hh;have HE53:Hid ((fun U=>U.heap[w.heap.size]?=some (.cells (yA xf xt xs xn xa xk) 32 (0,0))∧U.heap[gd]?=some (.cells (yM xf xk) 89 (0,0))) w53):=⟨(Done.at_ (C:=fun X=>Star (Star (Star (Star (Star (CellW gl (yG me A52 (n + 1) c52 B p cb) 101) (OwnK 103 3 (.slice A52 (n + 1) c52) (n + 1) (lgcs (l ++ [(⟨xf,xk,xs⟩:SeenM)])))) (OwnK 22 1 (.slice B p cb) p (u32s cl))) X) (CellW gd (yM xf xk) 89)) (CellW g51 (yJ xf xk xs) 103)) (Fr.l (Fr.l (Fr.r ((cS.star kS).star kS) Fr.id_) cS) cS) HS53.out),(Done.at_ (C:=fun X=>Star (Star (Star (Star (Star (CellW gl (yG me A52 (n + 1) c52 B p cb) 101) (OwnK 103 3 (.slice A52 (n + 1) c52) (n + 1) (lgcs (l ++ [(⟨xf,xk,xs⟩:SeenM)])))) (OwnK 22 1 (.slice B p cb) p (u32s cl))) (CellW w.heap.size (yA xf xt xs xn xa xk) 32)) X) (CellW g51 (yJ xf xk xs) 103)) (Fr.l (Fr.r (((cS.star kS).star kS).star cS) Fr.id_) cS) HS53.out)⟩;refine ⟨HE53.out,?_⟩;clear hg hh
    simp only [Act.put,jzU,jzV,jzW]
    refine rests_done (by kernel_rfl) ?_
    go_wp2
    go_ret
    exact ⟨rfl,A52,c52,HS53.out.drop.drop.drop⟩
  · obtain ⟨g50,hg50⟩:∃ g,g=(w40.drew).heap.size:=⟨_,rfl⟩
    have hal50:=CellW.new (w40.drew) #[.int .u32 xf,.string xk,.int .i64 xs] 103
    rw [← hg50] at hal50
    obtain ⟨w50,hw50⟩:∃ wz,wz=(w40.drew).alloc (.cells (yJ xf xk xs) 103):=⟨_,rfl⟩
    rw [← hw50] at hal50
    have HS50:=jzD (HS40d.out.add ((((cS.star kS).star kS).star cS).star cS) hal50)
    have HE50:Hid ((fun U=>U.heap[w.heap.size]?=some (.cells (yA xf xt xs xn xa xk) 32 (0,0))∧U.heap[gd]?=some (.cells (yM xf xk) 89 (0,0))) w50):=⟨(Done.at_ (C:=fun X=>Star (Star (Star (Star (Star (CellW gl (yG me A n ca B p cb) 101) (OwnK 103 3 (.slice A n ca) n (lgcs l))) (OwnK 22 1 (.slice B p cb) p (u32s cl))) X) (CellW gd (yM xf xk) 89)) (CellW g50 (yJ xf xk xs) 103)) (Fr.l (Fr.l (Fr.r ((cS.star kS).star kS) Fr.id_) cS) cS) HS50.out),(Done.at_ (C:=fun X=>Star (Star (Star (Star (Star (CellW gl (yG me A n ca B p cb) 101) (OwnK 103 3 (.slice A n ca) n (lgcs l))) (OwnK 22 1 (.slice B p cb) p (u32s cl))) (CellW w.heap.size (yA xf xt xs xn xa xk) 32)) X) (CellW g50 (yJ xf xk xs) 103)) (Fr.l (Fr.r (((cS.star kS).star kS).star cS) Fr.id_) cS) HS50.out)⟩
    refine wp_val (v:=.slice (some ⟨g50,0,none⟩) 1 1) (w' := w50) (by rw [hg50,hw50];go_simp) ⟨HE50.out,?_⟩
    clear hg50 hal50 hw50
    simp only [Act.put,jzU,jzV,jzW]
    have cq51:(w50).cell? ⟨gl,1,none⟩=some (.slice A n ca):=cell_at (Done.at_ (C:=fun X=>Star (Star (Star (Star (Star (X) (OwnK 103 3 (.slice A n ca) n (lgcs l))) (OwnK 22 1 (.slice B p cb) p (u32s cl))) (CellW w.heap.size (yA xf xt xs xn xa xk) 32)) (CellW gd (yM xf xk) 89)) (CellW g50 (yJ xf xk xs) 103)) (Fr.l (Fr.l (Fr.l (Fr.l (Fr.l Fr.id_ kS) kS) cS) cS) cS) HS50.out) 1 _ rfl
    refine rests_run 4 (oi:=_) (by simp only [jzG,jzH,jzI];rfl) (by kernel_rfl) (by rfl) (.slice A n ca) (w50) (by go_simp) ⟨HE50.out,?_⟩
    clear cq51
    simp only [Act.put,jzU,jzV,jzW]
    refine rests_appD 10 (oi:=_) (by simp only [jzG,jzH,jzI];rfl) (by kernel_rfl) (by rfl) (C:=fun X=>Star (Star (Star (Star (Star (CellW gl (yG me A n ca B p cb) 101) X) (OwnK 22 1 (.slice B p cb) p (u32s cl))) (CellW w.heap.size (yA xf xt xs xn xa xk) 32)) (CellW gd (yM xf xk) 89)) (CellW g50 (yJ xf xk xs) 103)) (Fr.l (Fr.l (Fr.l (Fr.l (Fr.r cS Fr.id_) kS) cS) cS) cS) HS50.out (.tmp 65) (.tmp 70) 99 32 (.agg #[.int .u32 0,.string ⟨#[]⟩,.int .i64 0]) rfl Tryz.underlying99 (by kernel_rfl) rfl (by decide) (.slice (some ⟨g50,0,none⟩) 1 1) 1 (sncs (⟨xf,xk,xs⟩:SeenM)) rfl rfl ((rdG_new (Done.at_ (C:=fun X=>Star (Star (Star (Star (Star (CellW gl (yG me A n ca B p cb) 101) (OwnK 103 3 (.slice A n ca) n (lgcs l))) (OwnK 22 1 (.slice B p cb) p (u32s cl))) (CellW w.heap.size (yA xf xt xs xn xa xk) 32)) (CellW gd (yM xf xk) 89)) X) (Fr.r ((((cS.star kS).star kS).star cS).star cS) Fr.id_) HS50.out) rfl)) (sncs_one (⟨xf,xk,xs⟩:SeenM)) (n + 1) rfl HB6.out (lgcs (l ++ [(⟨xf,xk,xs⟩:SeenM)])) (by simp [lgcs]) ?_
    intro A52 c52 w52 hs hc;have HS52:=jzD hs;have HE52:Hid ((fun U=>U.heap[w.heap.size]?=some (.cells (yA xf xt xs xn xa xk) 32 (0,0))∧U.heap[gd]?=some (.cells (yM xf xk) 89 (0,0))) w52):=⟨(Done.at_ (C:=fun X=>Star (Star (Star (Star (Star (CellW gl (yG me A n ca B p cb) 101) (OwnK 103 3 (.slice A52 (n + 1) c52) (n + 1) (lgcs (l ++ [(⟨xf,xk,xs⟩:SeenM)])))) (OwnK 22 1 (.slice B p cb) p (u32s cl))) X) (CellW gd (yM xf xk) 89)) (CellW g50 (yJ xf xk xs) 103)) (Fr.l (Fr.l (Fr.r ((cS.star kS).star kS) Fr.id_) cS) cS) hs),(Done.at_ (C:=fun X=>Star (Star (Star (Star (Star (CellW gl (yG me A n ca B p cb) 101) (OwnK 103 3 (.slice A52 (n + 1) c52) (n + 1) (lgcs (l ++ [(⟨xf,xk,xs⟩:SeenM)])))) (OwnK 22 1 (.slice B p cb) p (u32s cl))) (CellW w.heap.size (yA xf xt xs xn xa xk) 32)) X) (CellW g50 (yJ xf xk xs) 103)) (Fr.l (Fr.r (((cS.star kS).star kS).star cS) Fr.id_) cS) hs)⟩;have HC52:=jzD hc;refine ⟨HE52.out,?_⟩;clear hs hc
    simp only [Act.put,jzU,jzV,jzW]
    refine rtk 11 HE52.out ?_
    refine rtk 12 HE52.out ?_
    refine rests_store1 13 (oi:=_) (by simp only [jzG,jzH,jzI];rfl) (by kernel_rfl) (by rfl) 99 (.tmp 73) (.tmp 71) rfl gl 1 (.slice A52 (n + 1) c52) rfl rfl 101 _ (Done.at_ (C:=fun X=>Star (Star (Star (Star (Star (X) (OwnK 103 3 (.slice A52 (n + 1) c52) (n + 1) (lgcs (l ++ [(⟨xf,xk,xs⟩:SeenM)])))) (OwnK 22 1 (.slice B p cb) p (u32s cl))) (CellW w.heap.size (yA xf xt xs xn xa xk) 32)) (CellW gd (yM xf xk) 89)) (CellW g50 (yJ xf xk xs) 103)) (Fr.l (Fr.l (Fr.l (Fr.l (Fr.l Fr.id_ kS) kS) cS) cS) cS) HS52.out) (by simp) (run_storeNS _ _ _ _ _) ?_
    intro w53 hg hh;have HS53:Hid (Done w F (Star (Star (Star (Star (Star (CellW gl (yG me A52 (n + 1) c52 B p cb) 101) (OwnK 103 3 (.slice A52 (n + 1) c52) (n + 1) (lgcs (l ++ [(⟨xf,xk,xs⟩:SeenM)])))) (OwnK 22 1 (.slice B p cb) p (u32s cl))) (CellW w.heap.size (yA xf xt xs xn xa xk) 32)) (CellW gd (yM xf xk) 89)) (CellW g50 (yJ xf xk xs) 103)) w53):=Done.put_ (C:=fun X=>Star (Star (Star (Star (Star (X) (OwnK 103 3 (.slice A52 (n + 1) c52) (n + 1) (lgcs (l ++ [(⟨xf,xk,xs⟩:SeenM)])))) (OwnK 22 1 (.slice B p cb) p (u32s cl))) (CellW w.heap.size (yA xf xt xs xn xa xk) 32)) (CellW gd (yM xf xk) 89)) (CellW g50 (yJ xf xk xs) 103)) (Fr.l (Fr.l (Fr.l (Fr.l (Fr.l Fr.id_ kS) kS) cS) cS) cS) HS52.out hg hh;have HE53:Hid ((fun U=>U.heap[w.heap.size]?=some (.cells (yA xf xt xs xn xa xk) 32 (0,0))∧U.heap[gd]?=some (.cells (yM xf xk) 89 (0,0))) w53):=⟨(Done.at_ (C:=fun X=>Star (Star (Star (Star (Star (CellW gl (yG me A52 (n + 1) c52 B p cb) 101) (OwnK 103 3 (.slice A52 (n + 1) c52) (n + 1) (lgcs (l ++ [(⟨xf,xk,xs⟩:SeenM)])))) (OwnK 22 1 (.slice B p cb) p (u32s cl))) X) (CellW gd (yM xf xk) 89)) (CellW g50 (yJ xf xk xs) 103)) (Fr.l (Fr.l (Fr.r ((cS.star kS).star kS) Fr.id_) cS) cS) HS53.out),(Done.at_ (C:=fun X=>Star (Star (Star (Star (Star (CellW gl (yG me A52 (n + 1) c52 B p cb) 101) (OwnK 103 3 (.slice A52 (n + 1) c52) (n + 1) (lgcs (l ++ [(⟨xf,xk,xs⟩:SeenM)])))) (OwnK 22 1 (.slice B p cb) p (u32s cl))) (CellW w.heap.size (yA xf xt xs xn xa xk) 32)) X) (CellW g50 (yJ xf xk xs) 103)) (Fr.l (Fr.r (((cS.star kS).star kS).star cS) Fr.id_) cS) HS53.out)⟩;refine ⟨HE53.out,?_⟩;clear hg hh
    simp only [Act.put,jzU,jzV,jzW]
    refine rests_done (by kernel_rfl) ?_
    go_wp2
    go_ret
    exact ⟨rfl,A52,c52,HS53.out.drop.drop.drop⟩
theorem LAdd_any (v:Value) (m:LogM) (F:List Nat) (x:XIn) (w:World) (h:LogW v m w F) (hx:x.ok):Calls Tryz.prog 51 #[v,x.val] w fun e w' => e=.returned (.bool (m.addB x))∧Done w F (LogW v (m.add x)) w' := by
 have hok:=h.1
 have hcv:=h.2.1
 obtain ⟨gl,A,ca,B,cb,rfl,hX⟩:=h.shape
 obtain ⟨me,l,cl⟩:=m
 obtain ⟨xf,xt,xs,xn,xa,xk⟩:=x
 simp only at hX
 have hx1:=u32_lit hx.1
 rcases hm:mayX (XIn.xd (⟨xf,xt,xs,xn,xa,xk⟩:XIn)) with _ | _
 · have e1:LogM.addB ⟨me,l,cl⟩ (⟨xf,xt,xs,xn,xa,xk⟩:XIn)=false:=by unfold LogM.addB;rw [hm];rfl
   have e2:LogM.add ⟨me,l,cl⟩ (⟨xf,xt,xs,xn,xa,xk⟩:XIn)=⟨me,l,cl⟩:=by unfold LogM.add;rw [hm];rfl
   rw [e1,e2]
   refine (LAdd_no ⟨gl,0,none⟩ xf xt xs xn xa xk w hm).mono ?_
   rintro e w' ⟨rfl,hb⟩
   exact ⟨rfl,(Done.start h).keep (LogW.stab _ _) hb⟩
 · by_cases hme:xf=me
   · have e1:LogM.addB ⟨me,l,cl⟩ (⟨xf,xt,xs,xn,xa,xk⟩:XIn)=false:=by unfold LogM.addB;rw [hm];show (true && (xf != me && _))=false;rw [hme];simp
     have e2:LogM.add ⟨me,l,cl⟩ (⟨xf,xt,xs,xn,xa,xk⟩:XIn)=⟨me,l,insC xf cl⟩:=by unfold LogM.add;rw [hm,if_pos rfl,if_pos (by exact hme)]
     rw [e1,e2]
     refine (LAdd_me gl A _ ca B _ cb me l cl xf xt xs xn xa xk w F rfl rfl hok hcv hm hX hme).mono ?_
     rintro e w' ⟨rfl,B', cb', hd⟩
     exact ⟨rfl,hd.mono fun F hF=>hF.toW rfl rfl (LogM.ok_clash hok hx1) (LogM.cov_clash hcv (.inl hme))⟩
   · rcases hf:(⟨me,l,cl⟩:LogM).who xf with _ | s
     · by_cases hl:l.length < 16
       · have e1:LogM.addB ⟨me,l,cl⟩ (⟨xf,xt,xs,xn,xa,xk⟩:XIn)=true:=by
          unfold LogM.addB
          rw [hm]
          show (true && (xf != me && (match (⟨me,l,cl⟩:LogM).who xf with | some s=>LogM.same s (⟨xf,xt,xs,xn,xa,xk⟩:XIn) | none=>decide (l.length < 16))))=true
          rw [hf]
          simp [bne,hme,hl]
         have e2:LogM.add ⟨me,l,cl⟩ (⟨xf,xt,xs,xn,xa,xk⟩:XIn)=⟨me,l ++ [⟨xf,xk,xs⟩],cl⟩:=by
          unfold LogM.add
          rw [hm,if_pos rfl,if_neg (by exact hme)]
          show (match (⟨me,l,cl⟩:LogM).who xf with | some s=>if LogM.same s (⟨xf,xt,xs,xn,xa,xk⟩:XIn) then (⟨me,l,cl⟩:LogM) else (⟨me,l,insC xf cl⟩:LogM) | none=>if l.length < 16 then (⟨me,l ++ [(⟨xf,xk,xs⟩:SeenM)],cl⟩:LogM) else (⟨me,l,cl⟩:LogM))=_
          rw [hf]
          exact if_pos hl
         rw [e1,e2]
         refine (LAdd_new gl A _ ca B _ cb me l cl xf xt xs xn xa xk w F rfl rfl hok hcv hm hX hme hf hl).mono ?_
         rintro e w' ⟨rfl,A', ca', hd⟩
         exact ⟨rfl,hd.mono fun F hF=>hF.toW (by simp) rfl (LogM.ok_note (x:=(⟨xf,xt,xs,xn,xa,xk⟩:XIn)) hok hl hx) (LogM.cov_note (x:=(⟨xf,xt,xs,xn,xa,xk⟩:XIn)) hcv)⟩
       · have e1:LogM.addB ⟨me,l,cl⟩ (⟨xf,xt,xs,xn,xa,xk⟩:XIn)=false:=by
          unfold LogM.addB
          rw [hm]
          show (true && (xf != me && (match (⟨me,l,cl⟩:LogM).who xf with | some s=>LogM.same s (⟨xf,xt,xs,xn,xa,xk⟩:XIn) | none=>decide (l.length < 16))))=false
          rw [hf]
          simp [hl]
         have e2:LogM.add ⟨me,l,cl⟩ (⟨xf,xt,xs,xn,xa,xk⟩:XIn)=⟨me,l,cl⟩:=by
          unfold LogM.add
          rw [hm,if_pos rfl,if_neg (by exact hme)]
          show (match (⟨me,l,cl⟩:LogM).who xf with | some s=>if LogM.same s (⟨xf,xt,xs,xn,xa,xk⟩:XIn) then (⟨me,l,cl⟩:LogM) else (⟨me,l,insC xf cl⟩:LogM) | none=>if l.length < 16 then (⟨me,l ++ [(⟨xf,xk,xs⟩:SeenM)],cl⟩:LogM) else (⟨me,l,cl⟩:LogM))=_
          rw [hf]
          exact if_neg hl
         rw [e1,e2]
         refine (LAdd_full gl A _ ca B _ cb me l cl xf xt xs xn xa xk w F rfl rfl hok hcv hm hX hme hf (by omega)).mono ?_
         rintro e w' ⟨rfl,hd⟩
         exact ⟨rfl,hd.mono fun F hF=>hF.toW rfl rfl hok hcv⟩
     · obtain ⟨hsm,hsi⟩:=LogM.who_mem hf
       rcases hs:LogM.same s (⟨xf,xt,xs,xn,xa,xk⟩:XIn) with _ | _
       · have e1:LogM.addB ⟨me,l,cl⟩ (⟨xf,xt,xs,xn,xa,xk⟩:XIn)=false:=by
          unfold LogM.addB
          rw [hm]
          show (true && (xf != me && (match (⟨me,l,cl⟩:LogM).who xf with | some s=>LogM.same s (⟨xf,xt,xs,xn,xa,xk⟩:XIn) | none=>decide (l.length < 16))))=false
          rw [hf]
          show (true && (xf != me && LogM.same s (⟨xf,xt,xs,xn,xa,xk⟩:XIn)))=false
          rw [hs]
          simp
         have e2:LogM.add ⟨me,l,cl⟩ (⟨xf,xt,xs,xn,xa,xk⟩:XIn)=⟨me,l,insC xf cl⟩:=by
          unfold LogM.add
          rw [hm,if_pos rfl,if_neg (by exact hme)]
          show (match (⟨me,l,cl⟩:LogM).who xf with | some s=>if LogM.same s (⟨xf,xt,xs,xn,xa,xk⟩:XIn) then (⟨me,l,cl⟩:LogM) else (⟨me,l,insC xf cl⟩:LogM) | none=>if l.length < 16 then (⟨me,l ++ [(⟨xf,xk,xs⟩:SeenM)],cl⟩:LogM) else (⟨me,l,cl⟩:LogM))=_
          rw [hf]
          exact if_neg (by rw [hs];decide)
         rw [e1,e2]
         refine (LAdd_diff gl A _ ca B _ cb me l cl xf xt xs xn xa xk w F rfl rfl hok hcv hm hX hme s hf hs).mono ?_
         rintro e w' ⟨rfl,B', cb', hd⟩
         exact ⟨rfl,hd.mono fun F hF=>hF.toW rfl rfl (LogM.ok_clash hok hx1) (LogM.cov_clash hcv (.inr ⟨s,hsm,hsi⟩))⟩
       · have e1:LogM.addB ⟨me,l,cl⟩ (⟨xf,xt,xs,xn,xa,xk⟩:XIn)=true:=by
          unfold LogM.addB
          rw [hm]
          show (true && (xf != me && (match (⟨me,l,cl⟩:LogM).who xf with | some s=>LogM.same s (⟨xf,xt,xs,xn,xa,xk⟩:XIn) | none=>decide (l.length < 16))))=true
          rw [hf]
          show (true && (xf != me && LogM.same s (⟨xf,xt,xs,xn,xa,xk⟩:XIn)))=true
          rw [hs]
          simp [bne,hme]
         have e2:LogM.add ⟨me,l,cl⟩ (⟨xf,xt,xs,xn,xa,xk⟩:XIn)=⟨me,l,cl⟩:=by
          unfold LogM.add
          rw [hm,if_pos rfl,if_neg (by exact hme)]
          show (match (⟨me,l,cl⟩:LogM).who xf with | some s=>if LogM.same s (⟨xf,xt,xs,xn,xa,xk⟩:XIn) then (⟨me,l,cl⟩:LogM) else (⟨me,l,insC xf cl⟩:LogM) | none=>if l.length < 16 then (⟨me,l ++ [(⟨xf,xk,xs⟩:SeenM)],cl⟩:LogM) else (⟨me,l,cl⟩:LogM))=_
          rw [hf]
          exact if_pos hs
         rw [e1,e2]
         refine (LAdd_same gl A _ ca B _ cb me l cl xf xt xs xn xa xk w F rfl rfl hok hcv hm hX hme s hf hs).mono ?_
         rintro e w' ⟨rfl,hd⟩
         exact ⟨rfl,hd.mono fun F hF=>hF.toW rfl rfl hok hcv⟩
end Go.Proofs.YtjddbjmcjhjpiaaGreatDoor
