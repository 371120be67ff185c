/- The reference of layer 16: one who asks, as a thing; made new; whether it is over. -/
import Derived.Test.YtjddbjmcjhjpiaaGreatDoorN16J
import Derived.Test.YtjddbjmcjhjpiaaGreatDoorN16G
import Derived.Test.YtjddbjmcjhjpiaaGreatDoorL16sxQueryAll

set_option linter.all false

namespace Go.Proofs.YtjddbjmcjhjpiaaGreatDoor
set_option maxRecDepth 100000
set_option maxHeartbeats 16000000
open Go.RowKit M

def secs (l:List SeenM):List Value:=l.flatMap fun s=>[.int .u32 s.id,.string s.nick,.int .i64 s.slot]
def clF (cl:List Int):List Int:=cl.foldl (fun a n=>insC n a) []
theorem clF_snoc (cl:List Int) (n:Int):clF (cl ++ [n])=insC n (clF cl):=by unfold clF;rw [List.foldl_append];rfl
def RLg (g:Nat) (m:LogM) (k:Nat):Obj:=fun w F=>∃ (sl sc:Value) (cl:List Int),m.clash=clF cl∧cl.length≤k∧Star (Star (CellW g #[.int .u32 m.me,sl,sc] 98) (OwnO 105 3 sl m.l.length (secs m.l))) (OwnO 22 1 sc cl.length (u32s cl)) w F
theorem RLg.stab (g:Nat) (m:LogM) (k:Nat):Stab (RLg g m k) where
 in_:=fun ⟨_,_,_,_,_,h⟩=>((cS.star oS).star oS).in_ h
 tch:=fun ⟨sl,sc,cl,h1,h2,h⟩ ht hd=>⟨sl,sc,cl,h1,h2,((cS.star oS).star oS).tch h ht hd⟩
def RQc (g gl:Nat) (q:QueryM):Obj:=CellW g (yH q.me q.nick q.slots q.calls (some ⟨gl,0,none⟩)) 42
def RQy (g gl:Nat) (q:QueryM) (k:Nat):Obj:=Star (RLg gl q.log k) (RQc g gl q)
theorem RQy.stab (g gl:Nat) (q:QueryM) (k:Nat):Stab (RQy g gl q k):=(RLg.stab _ _ _).star cS

theorem ROver_any (g gl:Nat) (q:QueryM) (w:World) (F:List Nat) (h:RQc g gl q w F) (hs:0≤q.slots∧q.slots≤8) (hc:0≤q.calls∧q.calls≤1000):Calls Tryz.prog 26 #[.pointer (some ⟨g,0,none⟩)] w fun e w' => e=.returned (.bool q.over)∧Below w.heap.size w w' := by
 obtain ⟨me,nk,n,c,lg⟩:=q
 obtain ⟨-,h0⟩:=h
 have H0:=jzD h0
 have hs' : 0≤n∧n≤8:=hs
 have hc' : 0≤c∧c≤1000:=hc
 have e1:IntKind.i64.wrap (n * 8)=n * 8:=IntWalk.i64_in _ (by omega)
 have e2:IntKind.i64.wrap (n * 8 + 1)=n * 8 + 1:=IntWalk.i64_in _ (by omega)
 clear hs hc h0
 unfold QueryM.over
 obtain ⟨b,hb⟩:∃ b,b=decide (n * 8 + 1 < c):=⟨_,rfl⟩
 have HB:=jzD hb
 have hb2:decide (n * 8 + 1 < c)=b:=hb.symm
 show Calls Tryz.prog 26 #[.pointer (some ⟨g,0,none⟩)] w fun e w' => e=.returned (.bool (decide (n * 8 + 1 < c)))∧Below w.heap.size w w'
 rw [hb2]
 clear hb hs' hc'
 go_enter Tryz.func26,Tryz.ntmps26
 go_wp2
 refine regq (fun W=>Below w.heap.size w W) (by kernel_rfl) (by kernel_rfl) ((Below.refl _ _).drew) ?_
 iterate 3 refine qtk ?_
 refine qtk ?_ (hy:=by intro W HW;have cw:W.cell? ⟨g,3,none⟩=some (.int .i64 c):=cell_at (keep_at H0.out HW) 3 _ rfl;go_simp;try with_reducible rfl)
 iterate 3 refine qtk ?_
 refine qtk ?_ (hy:=by intro W HW;have cw:W.cell? ⟨g,2,none⟩=some (.int .i64 n):=cell_at (keep_at H0.out HW) 2 _ rfl;go_simp;try with_reducible rfl)
 iterate 4 refine qtk ?_
 refine q_done ?_
 intro w1 hb
 have HB1:=jzD hb
 clear hb
 go_wp2
 go_ret
 exact ⟨by first | rfl | (rw [HB.out];simp;done) | (simp;done),HB1.out⟩
theorem mayQ (me n:Int) (nk:ByteArray):mayX (XIn.xd ⟨me,0,0,n,false,nk⟩)=QueryM.mayNew me nk n:=rfl
theorem RQy.new_ (me n:Int) (nk:ByteArray) (w:World):Done w [] (RQy (w.heap.size + 1) w.heap.size (QueryM.new me nk n) 0) ((w.alloc (.cells (yG me none 0 0 none 0 0) 98)).alloc (.cells (yH me nk n 0 (some ⟨w.heap.size,0,none⟩)) 42)):=by
 have h1:=CellW.new w #[.int .u32 me,.slice none 0 0,.slice none 0 0] 98
 have h2:=CellW.new (w.alloc (.cells (yG me none 0 0 none 0 0) 98)) #[.int .u32 me,.string nk,.int .i64 n,.int .i64 0,.pointer (some ⟨w.heap.size,0,none⟩)] 42
 rw [show (w.alloc (.cells (yG me none 0 0 none 0 0) 98)).heap.size=w.heap.size + 1 by simp only [World.alloc,Array.size_push]] at h2
 have h3:=(h1.add cS (OwnO.nilD 105 3 _)).add (cS.star oS) (OwnO.nilD 22 1 _)
 have h4:Done w [] (RLg w.heap.size (LogM.new me) 0) (w.alloc (.cells (yG me none 0 0 none 0 0) 98)):=h3.mono fun F hF=>⟨.slice none 0 0,.slice none 0 0,[],rfl,by simp,hF⟩
 exact h4.add (RLg.stab _ _ _) h2
theorem RNewQuery_any (me n:Int) (nk:ByteArray) (w:World) (hk:nk.size≤1000000) (hm:QueryM.mayNew me nk n=true):Calls Tryz.prog 21 #[.int .u32 me,.string nk,.int .i64 n] w fun e w' => ∃ g gl:Nat,e=.returned (.pointer (some ⟨g,0,none⟩))∧Done w [] (RQy g gl (QueryM.new me nk n) 0) w' := by
 have hmx:=fun w=>RMayX_any (⟨me,0,0,n,false,nk⟩:XIn) w hk
 rw [mayQ,hm] at hmx
 have HMX:=jzD hmx
 clear hmx hm hk
 go_enter Tryz.func21,Tryz.ntmps21
 go_wp2_with (go_at_call 38;((with_reducible refine (HMX.out _).mono ?_);rintro e w1 ⟨rfl,hs⟩;have HSw1:=jzD hs;clear hs))
 go_ret
 refine ⟨w1.heap.size + 1,w1.heap.size,by first | rfl | (simp;done),?_⟩
 first
  | exact (RQy.new_ me n nk w1).of_bel HSw1.out
  | (have h1:=RQy.new_ me n nk w1;obtain ⟨F,k1,k2,k3⟩:=h1;exact ⟨F,k1,(Tch.of_below [] HSw1.out).trans k2 (Sub.refl _ _),fun g hg=>(k3 g hg).imp id fun h=>Nat.le_trans HSw1.out.size h⟩)
theorem RNewQuery_none (me n:Int) (nk:ByteArray) (w:World) (hk:nk.size≤1000000) (hm:QueryM.mayNew me nk n=false):Calls Tryz.prog 21 #[.int .u32 me,.string nk,.int .i64 n] w fun e w' => e=.returned (.pointer none)∧Below w.heap.size w w' := by
 have hmx:=fun w=>RMayX_any (⟨me,0,0,n,false,nk⟩:XIn) w hk
 rw [mayQ,hm] at hmx
 have HMX:=jzD hmx
 clear hmx hm hk
 go_enter Tryz.func21,Tryz.ntmps21
 go_wp2_with (go_at_call 38;((with_reducible refine (HMX.out _).mono ?_);rintro e w1 ⟨rfl,hs⟩;have HSw1:=jzD hs;clear hs))
 go_ret
 exact ⟨by first | rfl | (simp;done),HSw1.out⟩
end Go.Proofs.YtjddbjmcjhjpiaaGreatDoor
