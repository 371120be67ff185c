/- Layer 8's begun. -/
import Derived.Test.YtjddbjmcjhjpiaaGreatDoorN16G
import Derived.Test.YtjddbjmcjhjpiaaGreatDoorBegun4
import Derived.Test.YtjddbjmcjhjpiaaGreatDoorM4H

set_option linter.all false

namespace Go.Proofs.YtjddbjmcjhjpiaaGreatDoor
set_option maxRecDepth 100000
set_option maxHeartbeats 16000000
open Go.RowKit M

theorem alloc_at {w:World} {cs:Array Value} {t:TypeId} {g:Nat} (hg:g=w.heap.size):(w.alloc (.cells cs t)).heap[g]?=some (.cells cs t (0,0)):=by
 subst hg
 exact heap_alloc_new w _
def b8o:Of5:=⟨3,1,127,15,6⟩
def b8x:XIn:=⟨7,0,-1,6,false,⟨#[110]⟩⟩
def b8s:St:=⟨7,9,2,8,⟨3,1,127,15,6⟩⟩
theorem b8o_ok:Of5.ok ⟨3,1,127,15,6⟩:=⟨by decide,by decide,by decide,by decide,by decide⟩
theorem b8x_ok:XIn.ok ⟨7,0,-1,6,false,⟨#[110]⟩⟩:=⟨by decide,by decide,by decide,by decide,by decide⟩
theorem b8s_ok:St.ok ⟨7,9,2,8,⟨3,1,127,15,6⟩⟩:=⟨by decide,by decide,by decide,by decide,b8o_ok⟩
theorem b8put (w:World):Calls Tryz.prog 83 #[.agg #[.int .i64 3,.int .i64 1,.int .i64 127,.int .i64 15,.int .i64 6]] w fun e w' => e=.returned (.tuple #[.string ⟨(bytesO b8o).toArray⟩,.bool true])∧Below w.heap.size w w' := by
 have h:=QPut_any ⟨3,1,127,15,6⟩ w b8o_ok
 unfold PutR at h
 rw [show putO ⟨3,1,127,15,6⟩=some (bytesO b8o) by decide +kernel] at h
 exact h
theorem b8get (w:World):Calls Tryz.prog 84 #[.string ⟨(bytesO b8o).toArray⟩] w fun e w' => e=.returned (.tuple #[.agg #[.int .i64 3,.int .i64 1,.int .i64 127,.int .i64 15,.int .i64 6],.bool true])∧Below w.heap.size w w' := by
 have h:=QGet_any ⟨(bytesO b8o).toArray⟩ w (by decide)
 unfold OfferR at h
 rw [show getO (⟨(bytesO b8o).toArray⟩:ByteArray).data.toList=some ⟨3,1,127,15,6⟩ by decide +kernel] at h
 exact h
theorem b8deal (w:World):Calls Tryz.prog 85 #[.agg #[.int .i64 3,.int .i64 1,.int .i64 127,.int .i64 15,.int .i64 6],.agg #[.int .i64 3,.int .i64 1,.int .i64 127,.int .i64 15,.int .i64 6]] w fun e w' => e=.returned (.tuple #[.agg #[.int .i64 64,.int .i64 200,.int .i64 7,.int .i64 64,.int .i64 1],.bool true])∧Below w.heap.size w w' := by
 have h:=MDeal_any ⟨3,1,127,15,6⟩ ⟨3,1,127,15,6⟩ w b8o_ok b8o_ok
 unfold DealR at h
 rw [show dealM ⟨3,1,127,15,6⟩ ⟨3,1,127,15,6⟩=some ⟨64,200,7,64,1⟩ by decide +kernel] at h
 exact h
theorem b8xp:putX (XIn.xd ⟨7,0,-1,6,false,⟨#[110]⟩⟩)=some (bytesX (XIn.xd b8x)):=by decide +kernel
theorem b8xput (w:World):Calls Tryz.prog 86 #[.agg #[.int .u32 7,.int .u32 0,.int .i64 (-1),.int .i64 6,.bool false,.string ⟨#[110]⟩]] w fun e w' => e=.returned (.tuple #[.string ⟨(bytesX (XIn.xd b8x)).toArray⟩,.bool true])∧Below w.heap.size w w' := by
 have h:=XPut_any ⟨7,0,-1,6,false,⟨#[110]⟩⟩ w b8x_ok
 unfold PutR at h
 rw [b8xp] at h
 exact h
theorem b8xget (w:World):Calls Tryz.prog 87 #[.string ⟨(bytesX (XIn.xd b8x)).toArray⟩] w fun e w' => e=.returned (.tuple #[.agg #[.int .u32 7,.int .u32 0,.int .i64 (-1),.int .i64 6,.bool false,.string ⟨#[110]⟩],.bool true])∧Below w.heap.size w w' := by
 have h:=XGet_any ⟨(bytesX (XIn.xd b8x)).toArray⟩ w (by decide)
 unfold XidR at h
 have hu:=XIn.u b8x_ok
 rw [show getX (⟨(bytesX (XIn.xd b8x)).toArray⟩:ByteArray).data.toList=some (XIn.xd ⟨7,0,-1,6,false,⟨#[110]⟩⟩) from getX_putX hu.1 hu.2 b8xp] at h
 exact h
theorem b8sp:putS ⟨7,9,2,8,⟨3,1,127,15,6⟩⟩=some (headS b8s ++ bytesO b8s.o):=by decide +kernel
theorem b8sput (w:World):Calls Tryz.prog 88 #[.agg #[.int .u32 7,.int .u32 9,.int .i64 2,.int .i64 8,.int .i64 3,.int .i64 1,.int .i64 127,.int .i64 15,.int .i64 6]] w fun e w' => e=.returned (.tuple #[.string ⟨(headS b8s ++ bytesO b8s.o).toArray⟩,.bool true])∧Below w.heap.size w w' := by
 have h:=SPut_any ⟨7,9,2,8,⟨3,1,127,15,6⟩⟩ w b8s_ok
 unfold PutR at h
 rw [b8sp] at h
 exact h
theorem b8sget (w:World):Calls Tryz.prog 89 #[.string ⟨(headS b8s ++ bytesO b8s.o).toArray⟩] w fun e w' => e=.returned (.tuple #[.agg #[.int .u32 7,.int .u32 9,.int .i64 2,.int .i64 8,.int .i64 3,.int .i64 1,.int .i64 127,.int .i64 15,.int .i64 6],.bool true])∧Below w.heap.size w w' := by
 have h:=SGet_any ⟨(headS b8s ++ bytesO b8s.o).toArray⟩ w (by decide)
 unfold SetupR at h
 have hu:=St.u b8s_ok
 rw [show getS (⟨(headS b8s ++ bytesO b8s.o).toArray⟩:ByteArray).data.toList=some ⟨7,9,2,8,⟨3,1,127,15,6⟩⟩ from getS_putS hu.1 hu.2 b8sp] at h
 exact h
theorem b8fresh (w:World) (g1 g2:Nat) (h1:w.heap[g1]?=some (.cells (yO 0 5 6) 22 (0,0))) (h2:w.heap[g2]?=some (.cells #[.int .u32 5] 22 (0,0))):Calls Tryz.prog 77 #[.slice (some ⟨g1,0,none⟩) 3 3,.slice (some ⟨g2,0,none⟩) 1 1] w fun e w' => e=.returned (.tuple #[.int .u32 6,.int .i64 3])∧Below w.heap.size w w' := by
 have r1:RdU w (.slice (some ⟨g1,0,none⟩) 3 3) [0,5,6]:=rdU_new (l:=[0,5,6]) h1 (by decide) (by intro n hn;simp at hn;unfold u32;omega)
 have r2:RdU w (.slice (some ⟨g2,0,none⟩) 1 1) [5]:=rdU_new (l:=[5]) h2 (by decide) (by intro n hn;simp at hn;unfold u32;omega)
 have h:=XFresh_any _ _ [0,5,6] [5] w r1 r2 (by decide) (by decide)
 unfold FreshR at h
 rw [show freshM [0,5,6] [5]=(6,3) by decide +kernel] at h
 exact h
theorem b8high (w:World):Calls Tryz.prog 91 #[.int .i64 6] w fun e w' => e=.returned (.int .i64 2)∧Below w.heap.size w w' := by
 have h:=QHigh_any 6 w (by decide)
 rw [show high 6=2 by decide +kernel] at h
 exact h
theorem b8low (w:World):Calls Tryz.prog 92 #[.int .i64 6] w fun e w' => e=.returned (.int .i64 1)∧Below w.heap.size w w' := by
 have h:=QLow_any 6 w (by decide)
 rw [show low 6=1 by decide +kernel] at h
 exact h
theorem b8ticks (w:World):Calls Tryz.prog 93 #[.int .i64 33,.int .i64 32] w fun e w' => e=.returned (.int .i64 2)∧Below w.heap.size w w' := by
 have h:=QTicks_any 33 32 w (by decide) (by decide)
 rw [show ticks 33 32=2 by decide +kernel] at h
 exact h
theorem b8frame (w:World):Calls Tryz.prog 94 #[.int .i64 8,.int .i64 32] w fun e w' => e=.returned (.int .i64 1)∧Below w.heap.size w w' := by
 have h:=MFrame_any 8 32 w (by decide) (by decide)
 rw [show frameM 8 32=1 by decide +kernel] at h
 exact h
theorem Begun4_any (w:World) (hC:Codes w):Calls Tryz.prog 90 #[] w fun e w' => e=.returned (.bool true)∧Below w.heap.size w w' := by
 have HC:=jzD hC
 clear hC
 go_enter Tryz.func90,Tryz.ntmps90
 go_wp2_with (go_at_call 116;(with_reducible refine (begun4_any _ HC.out).mono ?_);rintro e w2 ⟨rfl,hb⟩;have HB2:=jzD hb;clear hb)
 go_ret
 exact ⟨rfl,HB2.out⟩
theorem begun8_any (w:World) (hC:Codes w):Calls Tryz.prog 71 #[] w fun e w' => e=.returned (.bool true)∧Below w.heap.size w w' := by
 have HB0:Hid (Below w.heap.size w (w.alloc (.cells (yI 3 1 127 15 6) 133))):=bal (bel0 w) _
 have A0:Hid ((w.alloc (.cells (yI 3 1 127 15 6) 133)).heap[w.heap.size]?=some (.cells (yI 3 1 127 15 6) 133 (0,0))):=heap_alloc_new w _
 have HC0:=jzD (hC.below HB0.out)
 clear hC
 go_enter Tryz.func71,Tryz.ntmps71
 go_wp2_with (first
  | (with_reducible refine wpList_loadB rfl 133 (.tmp 1) rfl (w.heap.size) rfl 133 _ A0.out _ Tryz.underlying133 rfl (by kernel_rfl) ?_)
  | (with_reducible refine wpList_loadB rfl 133 (.tmp 1) rfl (w.heap.size) rfl 133 _ A2.out _ Tryz.underlying133 rfl (by kernel_rfl) ?_)
  | (with_reducible refine wpList_loadB rfl 32 (.tmp 8) rfl (w3.heap.size + 1) rfl 32 _ X3.out _ Tryz.underlying32 rfl (by kernel_rfl) ?_)
  | (with_reducible refine wpList_loadB rfl 133 (.tmp 1) rfl (w.heap.size) rfl 133 _ A5i.out _ Tryz.underlying133 rfl (by kernel_rfl) ?_)
  | (with_reducible refine wpList_loadB rfl 146 (.tmp 13) rfl (w5.heap.size + 1) rfl 146 _ S5.out _ Tryz.underlying146 rfl (by kernel_rfl) ?_)
  | (go_at_call 83;((with_reducible refine (b8put ((w.alloc (.cells (yI 3 1 127 15 6) 133)))).mono ?_);rintro e w1 ⟨rfl,hb⟩;have HB1:=jzD (bel_trans HB0.out hb);have A1:=jzD (keep_at A0.out hb);have HC1:=jzD (HC0.out.below hb);clear hb))
  | (go_at_call 84;((with_reducible refine (b8get w1).mono ?_);rintro e w2 ⟨rfl,hb⟩;have HB2:=jzD (bal ((bel_trans HB1.out hb)) (.cells (yI 3 1 127 15 6) 133));have A2:=jzD (keep_at (keep_at A1.out hb) (bal (bel0 w2) (.cells (yI 3 1 127 15 6) 133)));have HC2:=jzD ((HC1.out.below hb).below (bal (bel0 w2) (.cells (yI 3 1 127 15 6) 133)));have B2:=jzD ((heap_alloc_new w2 (.cells (yI 3 1 127 15 6) 133)));clear hb))
  | (go_at_call 85;((with_reducible refine (b8deal (w2.alloc (.cells (yI 3 1 127 15 6) 133))).mono ?_);rintro e w3 ⟨rfl,hb⟩;have HB3:=jzD (bal ((bal ((bel_trans HB2.out hb)) (.cells (yI 64 200 7 64 1) 138))) (.cells (yA 7 0 (-1) 6 false ⟨#[110]⟩) 32));have A3:=jzD (keep_at (keep_at (keep_at A2.out hb) (bal (bel0 w3) (.cells (yI 64 200 7 64 1) 138))) (bal (bel0 (w3.alloc (.cells (yI 64 200 7 64 1) 138))) (.cells (yA 7 0 (-1) 6 false ⟨#[110]⟩) 32)));have B3:=jzD (keep_at (keep_at (keep_at B2.out hb) (bal (bel0 w3) (.cells (yI 64 200 7 64 1) 138))) (bal (bel0 (w3.alloc (.cells (yI 64 200 7 64 1) 138))) (.cells (yA 7 0 (-1) 6 false ⟨#[110]⟩) 32)));have HC3:=jzD (((HC2.out.below hb).below (bal (bel0 w3) (.cells (yI 64 200 7 64 1) 138))).below (bal (bel0 (w3.alloc (.cells (yI 64 200 7 64 1) 138))) (.cells (yA 7 0 (-1) 6 false ⟨#[110]⟩) 32)));have D3:=jzD ((keep_at (heap_alloc_new w3 (.cells (yI 64 200 7 64 1) 138)) (bal (bel0 (w3.alloc (.cells (yI 64 200 7 64 1) 138))) (.cells (yA 7 0 (-1) 6 false ⟨#[110]⟩) 32))));have X3:=jzD ((alloc_at (w:=(w3.alloc (.cells (yI 64 200 7 64 1) 138))) (cs:=#[.int .u32 7,.int .u32 0,.int .i64 (-1),.int .i64 6,.bool false,.string ⟨#[110]⟩]) (t:=32) (g:=w3.heap.size + 1) (by simp)));clear hb))
  | (go_at_call 86;((with_reducible refine (b8xput ((w3.alloc (.cells (yI 64 200 7 64 1) 138)).alloc (.cells (yA 7 0 (-1) 6 false ⟨#[110]⟩) 32))).mono ?_);rintro e w4 ⟨rfl,hb⟩;have HB4:=jzD (bel_trans HB3.out hb);have A4:=jzD (keep_at A3.out hb);have B4:=jzD (keep_at B3.out hb);have D4:=jzD (keep_at D3.out hb);have X4:=jzD (keep_at X3.out hb);have HC4:=jzD (HC3.out.below hb);clear hb))
  | (go_at_call 87;((with_reducible refine (b8xget w4).mono ?_);rintro e w5 ⟨rfl,hb⟩;have A5i:=jzD (keep_at (keep_at A4.out hb) (bal (bel0 w5) (.cells (yA 7 0 (-1) 6 false ⟨#[110]⟩) 32)));have HB5:=jzD (bal ((bal ((bel_trans HB4.out hb)) (.cells (yA 7 0 (-1) 6 false ⟨#[110]⟩) 32))) (.cells (yB 7 9 2 8 3 1 127 15 6) 146));have A5:=jzD (keep_at (keep_at (keep_at A4.out hb) (bal (bel0 w5) (.cells (yA 7 0 (-1) 6 false ⟨#[110]⟩) 32))) (bal (bel0 (w5.alloc (.cells (yA 7 0 (-1) 6 false ⟨#[110]⟩) 32))) (.cells (yB 7 9 2 8 3 1 127 15 6) 146)));have B5:=jzD (keep_at (keep_at (keep_at B4.out hb) (bal (bel0 w5) (.cells (yA 7 0 (-1) 6 false ⟨#[110]⟩) 32))) (bal (bel0 (w5.alloc (.cells (yA 7 0 (-1) 6 false ⟨#[110]⟩) 32))) (.cells (yB 7 9 2 8 3 1 127 15 6) 146)));have D5:=jzD (keep_at (keep_at (keep_at D4.out hb) (bal (bel0 w5) (.cells (yA 7 0 (-1) 6 false ⟨#[110]⟩) 32))) (bal (bel0 (w5.alloc (.cells (yA 7 0 (-1) 6 false ⟨#[110]⟩) 32))) (.cells (yB 7 9 2 8 3 1 127 15 6) 146)));have X5:=jzD (keep_at (keep_at (keep_at X4.out hb) (bal (bel0 w5) (.cells (yA 7 0 (-1) 6 false ⟨#[110]⟩) 32))) (bal (bel0 (w5.alloc (.cells (yA 7 0 (-1) 6 false ⟨#[110]⟩) 32))) (.cells (yB 7 9 2 8 3 1 127 15 6) 146)));have HC5:=jzD (((HC4.out.below hb).below (bal (bel0 w5) (.cells (yA 7 0 (-1) 6 false ⟨#[110]⟩) 32))).below (bal (bel0 (w5.alloc (.cells (yA 7 0 (-1) 6 false ⟨#[110]⟩) 32))) (.cells (yB 7 9 2 8 3 1 127 15 6) 146)));have Y5:=jzD ((keep_at (heap_alloc_new w5 (.cells (yA 7 0 (-1) 6 false ⟨#[110]⟩) 32)) (bal (bel0 (w5.alloc (.cells (yA 7 0 (-1) 6 false ⟨#[110]⟩) 32))) (.cells (yB 7 9 2 8 3 1 127 15 6) 146))));have S5:=jzD ((alloc_at (w:=(w5.alloc (.cells (yA 7 0 (-1) 6 false ⟨#[110]⟩) 32))) (cs:=#[.int .u32 7,.int .u32 9,.int .i64 2,.int .i64 8,.int .i64 3,.int .i64 1,.int .i64 127,.int .i64 15,.int .i64 6]) (t:=146) (g:=w5.heap.size + 1) (by simp)));clear hb))
  | (go_at_call 88;((with_reducible refine (b8sput ((w5.alloc (.cells (yA 7 0 (-1) 6 false ⟨#[110]⟩) 32)).alloc (.cells (yB 7 9 2 8 3 1 127 15 6) 146))).mono ?_);rintro e w6 ⟨rfl,hb⟩;have HB6:=jzD (bel_trans HB5.out hb);have A6:=jzD (keep_at A5.out hb);have B6:=jzD (keep_at B5.out hb);have D6:=jzD (keep_at D5.out hb);have X6:=jzD (keep_at X5.out hb);have Y6:=jzD (keep_at Y5.out hb);have S6:=jzD (keep_at S5.out hb);have HC6:=jzD (HC5.out.below hb);clear hb))
  | (go_at_call 89;((with_reducible refine (b8sget w6).mono ?_);rintro e w7 ⟨rfl,hb⟩;have HB7:=jzD (bal ((bal ((bal ((bel_trans HB6.out hb)) (.cells (yB 7 9 2 8 3 1 127 15 6) 146))) (.cells (yO 0 5 6) 22))) (.cells #[.int .u32 5] 22));have A7:=jzD (keep_at (keep_at (keep_at (keep_at A6.out hb) (bal (bel0 w7) (.cells (yB 7 9 2 8 3 1 127 15 6) 146))) (bal (bel0 (w7.alloc (.cells (yB 7 9 2 8 3 1 127 15 6) 146))) (.cells (yO 0 5 6) 22))) (bal (bel0 ((w7.alloc (.cells (yB 7 9 2 8 3 1 127 15 6) 146)).alloc (.cells (yO 0 5 6) 22))) (.cells #[.int .u32 5] 22)));have B7:=jzD (keep_at (keep_at (keep_at (keep_at B6.out hb) (bal (bel0 w7) (.cells (yB 7 9 2 8 3 1 127 15 6) 146))) (bal (bel0 (w7.alloc (.cells (yB 7 9 2 8 3 1 127 15 6) 146))) (.cells (yO 0 5 6) 22))) (bal (bel0 ((w7.alloc (.cells (yB 7 9 2 8 3 1 127 15 6) 146)).alloc (.cells (yO 0 5 6) 22))) (.cells #[.int .u32 5] 22)));have D7:=jzD (keep_at (keep_at (keep_at (keep_at D6.out hb) (bal (bel0 w7) (.cells (yB 7 9 2 8 3 1 127 15 6) 146))) (bal (bel0 (w7.alloc (.cells (yB 7 9 2 8 3 1 127 15 6) 146))) (.cells (yO 0 5 6) 22))) (bal (bel0 ((w7.alloc (.cells (yB 7 9 2 8 3 1 127 15 6) 146)).alloc (.cells (yO 0 5 6) 22))) (.cells #[.int .u32 5] 22)));have X7:=jzD (keep_at (keep_at (keep_at (keep_at X6.out hb) (bal (bel0 w7) (.cells (yB 7 9 2 8 3 1 127 15 6) 146))) (bal (bel0 (w7.alloc (.cells (yB 7 9 2 8 3 1 127 15 6) 146))) (.cells (yO 0 5 6) 22))) (bal (bel0 ((w7.alloc (.cells (yB 7 9 2 8 3 1 127 15 6) 146)).alloc (.cells (yO 0 5 6) 22))) (.cells #[.int .u32 5] 22)));have Y7:=jzD (keep_at (keep_at (keep_at (keep_at Y6.out hb) (bal (bel0 w7) (.cells (yB 7 9 2 8 3 1 127 15 6) 146))) (bal (bel0 (w7.alloc (.cells (yB 7 9 2 8 3 1 127 15 6) 146))) (.cells (yO 0 5 6) 22))) (bal (bel0 ((w7.alloc (.cells (yB 7 9 2 8 3 1 127 15 6) 146)).alloc (.cells (yO 0 5 6) 22))) (.cells #[.int .u32 5] 22)));have S7:=jzD (keep_at (keep_at (keep_at (keep_at S6.out hb) (bal (bel0 w7) (.cells (yB 7 9 2 8 3 1 127 15 6) 146))) (bal (bel0 (w7.alloc (.cells (yB 7 9 2 8 3 1 127 15 6) 146))) (.cells (yO 0 5 6) 22))) (bal (bel0 ((w7.alloc (.cells (yB 7 9 2 8 3 1 127 15 6) 146)).alloc (.cells (yO 0 5 6) 22))) (.cells #[.int .u32 5] 22)));have HC7:=jzD ((((HC6.out.below hb).below (bal (bel0 w7) (.cells (yB 7 9 2 8 3 1 127 15 6) 146))).below (bal (bel0 (w7.alloc (.cells (yB 7 9 2 8 3 1 127 15 6) 146))) (.cells (yO 0 5 6) 22))).below (bal (bel0 ((w7.alloc (.cells (yB 7 9 2 8 3 1 127 15 6) 146)).alloc (.cells (yO 0 5 6) 22))) (.cells #[.int .u32 5] 22)));have T7:=jzD ((keep_at (keep_at (heap_alloc_new w7 (.cells (yB 7 9 2 8 3 1 127 15 6) 146)) (bal (bel0 (w7.alloc (.cells (yB 7 9 2 8 3 1 127 15 6) 146))) (.cells (yO 0 5 6) 22))) (bal (bel0 ((w7.alloc (.cells (yB 7 9 2 8 3 1 127 15 6) 146)).alloc (.cells (yO 0 5 6) 22))) (.cells #[.int .u32 5] 22))));have U17:=jzD ((keep_at (alloc_at (w:=(w7.alloc (.cells (yB 7 9 2 8 3 1 127 15 6) 146))) (cs:=#[.int .u32 0,.int .u32 5,.int .u32 6]) (t:=22) (g:=w7.heap.size + 1) (by simp)) (bal (bel0 ((w7.alloc (.cells (yB 7 9 2 8 3 1 127 15 6) 146)).alloc (.cells (yO 0 5 6) 22))) (.cells #[.int .u32 5] 22))));have U27:=jzD ((alloc_at (w:=((w7.alloc (.cells (yB 7 9 2 8 3 1 127 15 6) 146)).alloc (.cells (yO 0 5 6) 22))) (cs:=#[.int .u32 5]) (t:=22) (g:=w7.heap.size + 1 + 1) (by simp)));clear hb))
  | (go_at_call 77;((with_reducible refine (b8fresh _ _ _ U17.out U27.out).mono ?_);rintro e w8 ⟨rfl,hb⟩;have HB8:=jzD (bel_trans HB7.out hb);have A8:=jzD (keep_at A7.out hb);have B8:=jzD (keep_at B7.out hb);have D8:=jzD (keep_at D7.out hb);have X8:=jzD (keep_at X7.out hb);have Y8:=jzD (keep_at Y7.out hb);have S8:=jzD (keep_at S7.out hb);have T8:=jzD (keep_at T7.out hb);have U18:=jzD (keep_at U17.out hb);have U28:=jzD (keep_at U27.out hb);have HC8:=jzD (HC7.out.below hb);clear hb))
  | (go_at_call 90;((with_reducible refine (Begun4_any w8 HC8.out).mono ?_);rintro e w9 ⟨rfl,hb⟩;have HB9:=jzD (bel_trans HB8.out hb);have A9:=jzD (keep_at A8.out hb);have B9:=jzD (keep_at B8.out hb);have D9:=jzD (keep_at D8.out hb);have X9:=jzD (keep_at X8.out hb);have Y9:=jzD (keep_at Y8.out hb);have S9:=jzD (keep_at S8.out hb);have T9:=jzD (keep_at T8.out hb);have U19:=jzD (keep_at U18.out hb);have U29:=jzD (keep_at U28.out hb);have HC9:=jzD (HC8.out.below hb);have cB0:=cell_at B9.out 0 _ rfl;have cB1:=cell_at B9.out 1 _ rfl;have cB2:=cell_at B9.out 2 _ rfl;have cB3:=cell_at B9.out 3 _ rfl;have cB4:=cell_at B9.out 4 _ rfl;have cA0:=cell_at A9.out 0 _ rfl;have cA1:=cell_at A9.out 1 _ rfl;have cA2:=cell_at A9.out 2 _ rfl;have cA3:=cell_at A9.out 3 _ rfl;have cA4:=cell_at A9.out 4 _ rfl;have cD0:=cell_at D9.out 0 _ rfl;have cD1:=cell_at D9.out 1 _ rfl;have cD2:=cell_at D9.out 2 _ rfl;have cD3:=cell_at D9.out 3 _ rfl;have cD4:=cell_at D9.out 4 _ rfl;have cY0:=cell_at Y9.out 0 _ rfl;have cY1:=cell_at Y9.out 1 _ rfl;have cY2:=cell_at Y9.out 2 _ rfl;have cY3:=cell_at Y9.out 3 _ rfl;have cY4:=cell_at Y9.out 4 _ rfl;have cY5:=cell_at Y9.out 5 _ rfl;have cX0:=cell_at X9.out 0 _ rfl;have cX1:=cell_at X9.out 1 _ rfl;have cX2:=cell_at X9.out 2 _ rfl;have cX3:=cell_at X9.out 3 _ rfl;have cX4:=cell_at X9.out 4 _ rfl;have cX5:=cell_at X9.out 5 _ rfl;have cT0:=cell_at T9.out 0 _ rfl;have cT1:=cell_at T9.out 1 _ rfl;have cT2:=cell_at T9.out 2 _ rfl;have cT3:=cell_at T9.out 3 _ rfl;have cT4:=cell_at T9.out 4 _ rfl;have cT5:=cell_at T9.out 5 _ rfl;have cT6:=cell_at T9.out 6 _ rfl;have cT7:=cell_at T9.out 7 _ rfl;have cT8:=cell_at T9.out 8 _ rfl;have cS0:=cell_at S9.out 0 _ rfl;have cS1:=cell_at S9.out 1 _ rfl;have cS2:=cell_at S9.out 2 _ rfl;have cS3:=cell_at S9.out 3 _ rfl;have cS4:=cell_at S9.out 4 _ rfl;have cS5:=cell_at S9.out 5 _ rfl;have cS6:=cell_at S9.out 6 _ rfl;have cS7:=cell_at S9.out 7 _ rfl;have cS8:=cell_at S9.out 8 _ rfl;clear hb))
  | (go_at_call 91;((with_reducible refine (b8high w9).mono ?_);rintro e w10 ⟨rfl,hb⟩;have HB10:=jzD (bel_trans HB9.out hb);have A10:=jzD (keep_at A9.out hb);have B10:=jzD (keep_at B9.out hb);have D10:=jzD (keep_at D9.out hb);have X10:=jzD (keep_at X9.out hb);have Y10:=jzD (keep_at Y9.out hb);have S10:=jzD (keep_at S9.out hb);have T10:=jzD (keep_at T9.out hb);have U110:=jzD (keep_at U19.out hb);have U210:=jzD (keep_at U29.out hb);have HC10:=jzD (HC9.out.below hb);clear hb))
  | (go_at_call 92;((with_reducible refine (b8low w10).mono ?_);rintro e w11 ⟨rfl,hb⟩;have HB11:=jzD (bel_trans HB10.out hb);have A11:=jzD (keep_at A10.out hb);have B11:=jzD (keep_at B10.out hb);have D11:=jzD (keep_at D10.out hb);have X11:=jzD (keep_at X10.out hb);have Y11:=jzD (keep_at Y10.out hb);have S11:=jzD (keep_at S10.out hb);have T11:=jzD (keep_at T10.out hb);have U111:=jzD (keep_at U110.out hb);have U211:=jzD (keep_at U210.out hb);have HC11:=jzD (HC10.out.below hb);clear hb))
  | (go_at_call 93;((with_reducible refine (b8ticks w11).mono ?_);rintro e w12 ⟨rfl,hb⟩;have HB12:=jzD (bel_trans HB11.out hb);have A12:=jzD (keep_at A11.out hb);have B12:=jzD (keep_at B11.out hb);have D12:=jzD (keep_at D11.out hb);have X12:=jzD (keep_at X11.out hb);have Y12:=jzD (keep_at Y11.out hb);have S12:=jzD (keep_at S11.out hb);have T12:=jzD (keep_at T11.out hb);have U112:=jzD (keep_at U111.out hb);have U212:=jzD (keep_at U211.out hb);have HC12:=jzD (HC11.out.below hb);clear hb))
  | (go_at_call 94;((with_reducible refine (b8frame w12).mono ?_);rintro e w13 ⟨rfl,hb⟩;have HB13:=jzD (bel_trans HB12.out hb);have A13:=jzD (keep_at A12.out hb);have B13:=jzD (keep_at B12.out hb);have D13:=jzD (keep_at D12.out hb);have X13:=jzD (keep_at X12.out hb);have Y13:=jzD (keep_at Y12.out hb);have S13:=jzD (keep_at S12.out hb);have T13:=jzD (keep_at T12.out hb);have U113:=jzD (keep_at U112.out hb);have U213:=jzD (keep_at U212.out hb);have HC13:=jzD (HC12.out.below hb);clear hb)))
 go_ret
 exact ⟨rfl,HB13.out⟩
end Go.Proofs.YtjddbjmcjhjpiaaGreatDoor
