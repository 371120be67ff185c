/- BoxTurn, some of its ways. -/
import Derived.Test.YtjddbjmcjhjpiaaGreatDoorN16J
import Derived.Test.YtjddbjmcjhjpiaaGreatDoorL16jxBoxTurn

set_option linter.all false

namespace Go.Proofs.YtjddbjmcjhjpiaaGreatDoor
set_option maxRecDepth 100000
set_option maxHeartbeats 32000000
open Go.RowKit M

theorem BoxTurn_10e (kind n id:Int) (s s0:ByteArray) (w:World) (hk:(Lit.int .i64 kind).wf=true) (hn:(Lit.int .i64 n).wf=true) (hi:(Lit.int .u32 id).wf=true) (hs:s.size≤maxLen) (hC:Codes w) (ht:∀ w,Calls Tryz.prog 19 #[.string s0,.int .i64 70] w fun e w' => e=.returned (.string s)∧w=w')
 (e0:(n == 0)=false) (e1:(n == 1)=true) (i0:(id == 0)=true) (i1:(id != 0)=false) (im:(id != 4294967295)=true) (se:s.toList.isEmpty=true) (hw:mayA ⟨kind,n,id,s⟩=wantB true false false false kind):Calls Tryz.prog 14 #[.int .i64 kind,.int .i64 n,.int .u32 id,.string s0] w fun e w' => e=.returned (.bool true)∧Below w.heap.size w w' := by
 have HC:=jzD hC
 have HT:=jzD ht
 have HKW:=jzD hk
 have hbm:=fun w=>BMay_any ⟨kind,n,id,s⟩ w ⟨hk,hn,hi,hs⟩
 rw [hw] at hbm
 have HBM:=jzD hbm
 have HLK:=jzD (litB_at true false false false kind)
 have hmm:=@run_makeMap Tryz.prog
 have hbb:∀ b:Bool,(b == b)=true:=fun b=>by cases b <;> rfl
 generalize wantB true false false false kind=wb at HBM HLK
 have hwb:=hbb wb
 clear hbm hw ht hk hn hi hs hC hbb
 go_enter Tryz.func14,Tryz.ntmps14
 go_wp2_with (first
  | (go_at_call 18;((with_reducible refine (begun16_any _ HC.out).mono ?_);rintro e w1 ⟨rfl,hb⟩;have hm0:MapB (w1.alloc (.map #[] 0)) w1.heap.size 0 (DataW.map []):=World.ownsMap_made _ _ _ _;have hb1:Below w.heap.size w (w1.alloc (.map #[] 0)):=bal hb _;obtain ⟨m0,hr0,hm1,hg0⟩:=insB hm0 (by unfold maxLen;omega) 1 true rfl;have hb2:=bel_grown hb1 hg0 hb.size;clear hg0;obtain ⟨m1,hr1,hm2,hg1⟩:=insB hm1 (by unfold maxLen;omega) 2 false rfl;have hb3:=bel_grown hb2 hg1 hb.size;clear hg1;obtain ⟨m2,hr2,hm3,hg2⟩:=insB hm2 (by unfold maxLen;omega) 7 false rfl;have hb4:=bel_grown hb3 hg2 hb.size;clear hg2;obtain ⟨m3,hr3,hm4,hg3⟩:=insB hm3 (by unfold maxLen;omega) 3 false rfl;have hb5:=bel_grown hb4 hg3 hb.size;clear hg3;obtain ⟨m4,hr4,hm5,hg4⟩:=insB hm4 (by unfold maxLen;omega) 4 false rfl;have hb6:=bel_grown hb5 hg4 hb.size;clear hg4;obtain ⟨m5,hr5,hm6,hg5⟩:=insB hm5 (by unfold maxLen;omega) 5 false rfl;have hb7:=bel_grown hb6 hg5 hb.size;clear hg5;obtain ⟨m6,hr6,hm7,hg6⟩:=insB hm6 (by unfold maxLen;omega) 6 false rfl;have hb8:=bel_grown hb7 hg6 hb.size;clear hg6;have hrL:=lookB hm7 kind wb HKW.out HLK.out;have HB8:=jzD hb8;clear hm0 hb1 hm1 hb2 hm2 hb3 hm3 hb4 hm4 hb5 hm5 hb6 hm6 hb7 hm7 hb8;clear hb))
  | (go_at_call 19;refine (HT.out _).mono ?_;rintro e w' ⟨rfl,rfl⟩)
  | (go_at_call 46;((with_reducible refine (HBM.out _).mono ?_);rintro e w9 ⟨rfl,hb⟩;have HB9:=jzD (bel_trans HB8.out hb);clear hb)))
 go_ret
 exact ⟨by first | rfl | (simp;done),HB9.out⟩
theorem BoxTurn_10n (kind n id:Int) (s s0:ByteArray) (w:World) (hk:(Lit.int .i64 kind).wf=true) (hn:(Lit.int .i64 n).wf=true) (hi:(Lit.int .u32 id).wf=true) (hs:s.size≤maxLen) (hC:Codes w) (ht:∀ w,Calls Tryz.prog 19 #[.string s0,.int .i64 70] w fun e w' => e=.returned (.string s)∧w=w')
 (e0:(n == 0)=false) (e1:(n == 1)=true) (i0:(id == 0)=true) (i1:(id != 0)=false) (im:(id != 4294967295)=true) (se:s.toList.isEmpty=false) (hw:mayA ⟨kind,n,id,s⟩=wantB false false false false kind):Calls Tryz.prog 14 #[.int .i64 kind,.int .i64 n,.int .u32 id,.string s0] w fun e w' => e=.returned (.bool true)∧Below w.heap.size w w' := by
 have HC:=jzD hC
 have HT:=jzD ht
 have HKW:=jzD hk
 have hbm:=fun w=>BMay_any ⟨kind,n,id,s⟩ w ⟨hk,hn,hi,hs⟩
 rw [hw] at hbm
 have HBM:=jzD hbm
 have HLK:=jzD (litB_at false false false false kind)
 have hmm:=@run_makeMap Tryz.prog
 have hbb:∀ b:Bool,(b == b)=true:=fun b=>by cases b <;> rfl
 generalize wantB false false false false kind=wb at HBM HLK
 have hwb:=hbb wb
 clear hbm hw ht hk hn hi hs hC hbb
 go_enter Tryz.func14,Tryz.ntmps14
 go_wp2_with (first
  | (go_at_call 18;((with_reducible refine (begun16_any _ HC.out).mono ?_);rintro e w1 ⟨rfl,hb⟩;have hm0:MapB (w1.alloc (.map #[] 0)) w1.heap.size 0 (DataW.map []):=World.ownsMap_made _ _ _ _;have hb1:Below w.heap.size w (w1.alloc (.map #[] 0)):=bal hb _;obtain ⟨m0,hr0,hm1,hg0⟩:=insB hm0 (by unfold maxLen;omega) 1 false rfl;have hb2:=bel_grown hb1 hg0 hb.size;clear hg0;obtain ⟨m1,hr1,hm2,hg1⟩:=insB hm1 (by unfold maxLen;omega) 2 false rfl;have hb3:=bel_grown hb2 hg1 hb.size;clear hg1;obtain ⟨m2,hr2,hm3,hg2⟩:=insB hm2 (by unfold maxLen;omega) 7 false rfl;have hb4:=bel_grown hb3 hg2 hb.size;clear hg2;obtain ⟨m3,hr3,hm4,hg3⟩:=insB hm3 (by unfold maxLen;omega) 3 false rfl;have hb5:=bel_grown hb4 hg3 hb.size;clear hg3;obtain ⟨m4,hr4,hm5,hg4⟩:=insB hm4 (by unfold maxLen;omega) 4 false rfl;have hb6:=bel_grown hb5 hg4 hb.size;clear hg4;obtain ⟨m5,hr5,hm6,hg5⟩:=insB hm5 (by unfold maxLen;omega) 5 false rfl;have hb7:=bel_grown hb6 hg5 hb.size;clear hg5;obtain ⟨m6,hr6,hm7,hg6⟩:=insB hm6 (by unfold maxLen;omega) 6 false rfl;have hb8:=bel_grown hb7 hg6 hb.size;clear hg6;have hrL:=lookB hm7 kind wb HKW.out HLK.out;have HB8:=jzD hb8;clear hm0 hb1 hm1 hb2 hm2 hb3 hm3 hb4 hm4 hb5 hm5 hb6 hm6 hb7 hm7 hb8;clear hb))
  | (go_at_call 19;refine (HT.out _).mono ?_;rintro e w' ⟨rfl,rfl⟩)
  | (go_at_call 46;((with_reducible refine (HBM.out _).mono ?_);rintro e w9 ⟨rfl,hb⟩;have HB9:=jzD (bel_trans HB8.out hb);clear hb)))
 go_ret
 exact ⟨by first | rfl | (simp;done),HB9.out⟩
theorem BoxTurn_1m (kind n id:Int) (s s0:ByteArray) (w:World) (hk:(Lit.int .i64 kind).wf=true) (hn:(Lit.int .i64 n).wf=true) (hi:(Lit.int .u32 id).wf=true) (hs:s.size≤maxLen) (hC:Codes w) (ht:∀ w,Calls Tryz.prog 19 #[.string s0,.int .i64 70] w fun e w' => e=.returned (.string s)∧w=w')
 (e0:(n == 0)=false) (e1:(n == 1)=true) (i0:(id == 0)=false) (i1:(id != 0)=true) (im:(id != 4294967295)=false) (hw:mayA ⟨kind,n,id,s⟩=wantB false false false false kind):Calls Tryz.prog 14 #[.int .i64 kind,.int .i64 n,.int .u32 id,.string s0] w fun e w' => e=.returned (.bool true)∧Below w.heap.size w w' := by
 have HC:=jzD hC
 have HT:=jzD ht
 have HKW:=jzD hk
 have hbm:=fun w=>BMay_any ⟨kind,n,id,s⟩ w ⟨hk,hn,hi,hs⟩
 rw [hw] at hbm
 have HBM:=jzD hbm
 have HLK:=jzD (litB_at false false false false kind)
 have hmm:=@run_makeMap Tryz.prog
 have hbb:∀ b:Bool,(b == b)=true:=fun b=>by cases b <;> rfl
 generalize wantB false false false false kind=wb at HBM HLK
 have hwb:=hbb wb
 clear hbm hw ht hk hn hi hs hC hbb
 go_enter Tryz.func14,Tryz.ntmps14
 go_wp2_with (first
  | (go_at_call 18;((with_reducible refine (begun16_any _ HC.out).mono ?_);rintro e w1 ⟨rfl,hb⟩;have hm0:MapB (w1.alloc (.map #[] 0)) w1.heap.size 0 (DataW.map []):=World.ownsMap_made _ _ _ _;have hb1:Below w.heap.size w (w1.alloc (.map #[] 0)):=bal hb _;obtain ⟨m0,hr0,hm1,hg0⟩:=insB hm0 (by unfold maxLen;omega) 1 false rfl;have hb2:=bel_grown hb1 hg0 hb.size;clear hg0;obtain ⟨m1,hr1,hm2,hg1⟩:=insB hm1 (by unfold maxLen;omega) 2 false rfl;have hb3:=bel_grown hb2 hg1 hb.size;clear hg1;obtain ⟨m2,hr2,hm3,hg2⟩:=insB hm2 (by unfold maxLen;omega) 7 false rfl;have hb4:=bel_grown hb3 hg2 hb.size;clear hg2;obtain ⟨m3,hr3,hm4,hg3⟩:=insB hm3 (by unfold maxLen;omega) 3 false rfl;have hb5:=bel_grown hb4 hg3 hb.size;clear hg3;obtain ⟨m4,hr4,hm5,hg4⟩:=insB hm4 (by unfold maxLen;omega) 4 false rfl;have hb6:=bel_grown hb5 hg4 hb.size;clear hg4;obtain ⟨m5,hr5,hm6,hg5⟩:=insB hm5 (by unfold maxLen;omega) 5 false rfl;have hb7:=bel_grown hb6 hg5 hb.size;clear hg5;obtain ⟨m6,hr6,hm7,hg6⟩:=insB hm6 (by unfold maxLen;omega) 6 false rfl;have hb8:=bel_grown hb7 hg6 hb.size;clear hg6;have hrL:=lookB hm7 kind wb HKW.out HLK.out;have HB8:=jzD hb8;clear hm0 hb1 hm1 hb2 hm2 hb3 hm3 hb4 hm4 hb5 hm5 hb6 hm6 hb7 hm7 hb8;clear hb))
  | (go_at_call 19;refine (HT.out _).mono ?_;rintro e w' ⟨rfl,rfl⟩)
  | (go_at_call 46;((with_reducible refine (HBM.out _).mono ?_);rintro e w9 ⟨rfl,hb⟩;have HB9:=jzD (bel_trans HB8.out hb);clear hb)))
 go_ret
 exact ⟨by first | rfl | (simp;done),HB9.out⟩
theorem BoxTurn_1x (kind n id:Int) (s s0:ByteArray) (w:World) (hk:(Lit.int .i64 kind).wf=true) (hn:(Lit.int .i64 n).wf=true) (hi:(Lit.int .u32 id).wf=true) (hs:s.size≤maxLen) (hC:Codes w) (ht:∀ w,Calls Tryz.prog 19 #[.string s0,.int .i64 70] w fun e w' => e=.returned (.string s)∧w=w')
 (e0:(n == 0)=false) (e1:(n == 1)=true) (i0:(id == 0)=false) (i1:(id != 0)=true) (im:(id != 4294967295)=true) (hw:mayA ⟨kind,n,id,s⟩=wantB false false false false kind):Calls Tryz.prog 14 #[.int .i64 kind,.int .i64 n,.int .u32 id,.string s0] w fun e w' => e=.returned (.bool true)∧Below w.heap.size w w' := by
 have HC:=jzD hC
 have HT:=jzD ht
 have HKW:=jzD hk
 have hbm:=fun w=>BMay_any ⟨kind,n,id,s⟩ w ⟨hk,hn,hi,hs⟩
 rw [hw] at hbm
 have HBM:=jzD hbm
 have HLK:=jzD (litB_at false false false false kind)
 have hmm:=@run_makeMap Tryz.prog
 have hbb:∀ b:Bool,(b == b)=true:=fun b=>by cases b <;> rfl
 generalize wantB false false false false kind=wb at HBM HLK
 have hwb:=hbb wb
 clear hbm hw ht hk hn hi hs hC hbb
 go_enter Tryz.func14,Tryz.ntmps14
 go_wp2_with (first
  | (go_at_call 18;((with_reducible refine (begun16_any _ HC.out).mono ?_);rintro e w1 ⟨rfl,hb⟩;have hm0:MapB (w1.alloc (.map #[] 0)) w1.heap.size 0 (DataW.map []):=World.ownsMap_made _ _ _ _;have hb1:Below w.heap.size w (w1.alloc (.map #[] 0)):=bal hb _;obtain ⟨m0,hr0,hm1,hg0⟩:=insB hm0 (by unfold maxLen;omega) 1 false rfl;have hb2:=bel_grown hb1 hg0 hb.size;clear hg0;obtain ⟨m1,hr1,hm2,hg1⟩:=insB hm1 (by unfold maxLen;omega) 2 false rfl;have hb3:=bel_grown hb2 hg1 hb.size;clear hg1;obtain ⟨m2,hr2,hm3,hg2⟩:=insB hm2 (by unfold maxLen;omega) 7 false rfl;have hb4:=bel_grown hb3 hg2 hb.size;clear hg2;obtain ⟨m3,hr3,hm4,hg3⟩:=insB hm3 (by unfold maxLen;omega) 3 false rfl;have hb5:=bel_grown hb4 hg3 hb.size;clear hg3;obtain ⟨m4,hr4,hm5,hg4⟩:=insB hm4 (by unfold maxLen;omega) 4 false rfl;have hb6:=bel_grown hb5 hg4 hb.size;clear hg4;obtain ⟨m5,hr5,hm6,hg5⟩:=insB hm5 (by unfold maxLen;omega) 5 false rfl;have hb7:=bel_grown hb6 hg5 hb.size;clear hg5;obtain ⟨m6,hr6,hm7,hg6⟩:=insB hm6 (by unfold maxLen;omega) 6 false rfl;have hb8:=bel_grown hb7 hg6 hb.size;clear hg6;have hrL:=lookB hm7 kind wb HKW.out HLK.out;have HB8:=jzD hb8;clear hm0 hb1 hm1 hb2 hm2 hb3 hm3 hb4 hm4 hb5 hm5 hb6 hm6 hb7 hm7 hb8;clear hb))
  | (go_at_call 19;refine (HT.out _).mono ?_;rintro e w' ⟨rfl,rfl⟩)
  | (go_at_call 46;((with_reducible refine (HBM.out _).mono ?_);rintro e w9 ⟨rfl,hb⟩;have HB9:=jzD (bel_trans HB8.out hb);clear hb)))
 go_ret
 exact ⟨by first | rfl | (simp;done),HB9.out⟩
theorem BoxTurn_60e (kind n id:Int) (s s0:ByteArray) (w:World) (hk:(Lit.int .i64 kind).wf=true) (hn:(Lit.int .i64 n).wf=true) (hi:(Lit.int .u32 id).wf=true) (hs:s.size≤maxLen) (hC:Codes w) (ht:∀ w,Calls Tryz.prog 19 #[.string s0,.int .i64 70] w fun e w' => e=.returned (.string s)∧w=w')
 (e0:(n == 0)=false) (e1:(n == 1)=false) (e6:(n == 6)=true) (i0:(id == 0)=true) (i1:(id != 0)=false) (im:(id != 4294967295)=true) (se:s.toList.isEmpty=true) (hw:mayA ⟨kind,n,id,s⟩=wantB true false false false kind):Calls Tryz.prog 14 #[.int .i64 kind,.int .i64 n,.int .u32 id,.string s0] w fun e w' => e=.returned (.bool true)∧Below w.heap.size w w' := by
 have HC:=jzD hC
 have HT:=jzD ht
 have HKW:=jzD hk
 have hbm:=fun w=>BMay_any ⟨kind,n,id,s⟩ w ⟨hk,hn,hi,hs⟩
 rw [hw] at hbm
 have HBM:=jzD hbm
 have HLK:=jzD (litB_at true false false false kind)
 have hmm:=@run_makeMap Tryz.prog
 have hbb:∀ b:Bool,(b == b)=true:=fun b=>by cases b <;> rfl
 generalize wantB true false false false kind=wb at HBM HLK
 have hwb:=hbb wb
 clear hbm hw ht hk hn hi hs hC hbb
 go_enter Tryz.func14,Tryz.ntmps14
 go_wp2_with (first
  | (go_at_call 18;((with_reducible refine (begun16_any _ HC.out).mono ?_);rintro e w1 ⟨rfl,hb⟩;have hm0:MapB (w1.alloc (.map #[] 0)) w1.heap.size 0 (DataW.map []):=World.ownsMap_made _ _ _ _;have hb1:Below w.heap.size w (w1.alloc (.map #[] 0)):=bal hb _;obtain ⟨m0,hr0,hm1,hg0⟩:=insB hm0 (by unfold maxLen;omega) 1 true rfl;have hb2:=bel_grown hb1 hg0 hb.size;clear hg0;obtain ⟨m1,hr1,hm2,hg1⟩:=insB hm1 (by unfold maxLen;omega) 2 false rfl;have hb3:=bel_grown hb2 hg1 hb.size;clear hg1;obtain ⟨m2,hr2,hm3,hg2⟩:=insB hm2 (by unfold maxLen;omega) 7 false rfl;have hb4:=bel_grown hb3 hg2 hb.size;clear hg2;obtain ⟨m3,hr3,hm4,hg3⟩:=insB hm3 (by unfold maxLen;omega) 3 false rfl;have hb5:=bel_grown hb4 hg3 hb.size;clear hg3;obtain ⟨m4,hr4,hm5,hg4⟩:=insB hm4 (by unfold maxLen;omega) 4 false rfl;have hb6:=bel_grown hb5 hg4 hb.size;clear hg4;obtain ⟨m5,hr5,hm6,hg5⟩:=insB hm5 (by unfold maxLen;omega) 5 false rfl;have hb7:=bel_grown hb6 hg5 hb.size;clear hg5;obtain ⟨m6,hr6,hm7,hg6⟩:=insB hm6 (by unfold maxLen;omega) 6 false rfl;have hb8:=bel_grown hb7 hg6 hb.size;clear hg6;have hrL:=lookB hm7 kind wb HKW.out HLK.out;have HB8:=jzD hb8;clear hm0 hb1 hm1 hb2 hm2 hb3 hm3 hb4 hm4 hb5 hm5 hb6 hm6 hb7 hm7 hb8;clear hb))
  | (go_at_call 19;refine (HT.out _).mono ?_;rintro e w' ⟨rfl,rfl⟩)
  | (go_at_call 46;((with_reducible refine (HBM.out _).mono ?_);rintro e w9 ⟨rfl,hb⟩;have HB9:=jzD (bel_trans HB8.out hb);clear hb)))
 go_ret
 exact ⟨by first | rfl | (simp;done),HB9.out⟩
theorem BoxTurn_60n (kind n id:Int) (s s0:ByteArray) (w:World) (hk:(Lit.int .i64 kind).wf=true) (hn:(Lit.int .i64 n).wf=true) (hi:(Lit.int .u32 id).wf=true) (hs:s.size≤maxLen) (hC:Codes w) (ht:∀ w,Calls Tryz.prog 19 #[.string s0,.int .i64 70] w fun e w' => e=.returned (.string s)∧w=w')
 (e0:(n == 0)=false) (e1:(n == 1)=false) (e6:(n == 6)=true) (i0:(id == 0)=true) (i1:(id != 0)=false) (im:(id != 4294967295)=true) (se:s.toList.isEmpty=false) (hw:mayA ⟨kind,n,id,s⟩=wantB false false false false kind):Calls Tryz.prog 14 #[.int .i64 kind,.int .i64 n,.int .u32 id,.string s0] w fun e w' => e=.returned (.bool true)∧Below w.heap.size w w' := by
 have HC:=jzD hC
 have HT:=jzD ht
 have HKW:=jzD hk
 have hbm:=fun w=>BMay_any ⟨kind,n,id,s⟩ w ⟨hk,hn,hi,hs⟩
 rw [hw] at hbm
 have HBM:=jzD hbm
 have HLK:=jzD (litB_at false false false false kind)
 have hmm:=@run_makeMap Tryz.prog
 have hbb:∀ b:Bool,(b == b)=true:=fun b=>by cases b <;> rfl
 generalize wantB false false false false kind=wb at HBM HLK
 have hwb:=hbb wb
 clear hbm hw ht hk hn hi hs hC hbb
 go_enter Tryz.func14,Tryz.ntmps14
 go_wp2_with (first
  | (go_at_call 18;((with_reducible refine (begun16_any _ HC.out).mono ?_);rintro e w1 ⟨rfl,hb⟩;have hm0:MapB (w1.alloc (.map #[] 0)) w1.heap.size 0 (DataW.map []):=World.ownsMap_made _ _ _ _;have hb1:Below w.heap.size w (w1.alloc (.map #[] 0)):=bal hb _;obtain ⟨m0,hr0,hm1,hg0⟩:=insB hm0 (by unfold maxLen;omega) 1 false rfl;have hb2:=bel_grown hb1 hg0 hb.size;clear hg0;obtain ⟨m1,hr1,hm2,hg1⟩:=insB hm1 (by unfold maxLen;omega) 2 false rfl;have hb3:=bel_grown hb2 hg1 hb.size;clear hg1;obtain ⟨m2,hr2,hm3,hg2⟩:=insB hm2 (by unfold maxLen;omega) 7 false rfl;have hb4:=bel_grown hb3 hg2 hb.size;clear hg2;obtain ⟨m3,hr3,hm4,hg3⟩:=insB hm3 (by unfold maxLen;omega) 3 false rfl;have hb5:=bel_grown hb4 hg3 hb.size;clear hg3;obtain ⟨m4,hr4,hm5,hg4⟩:=insB hm4 (by unfold maxLen;omega) 4 false rfl;have hb6:=bel_grown hb5 hg4 hb.size;clear hg4;obtain ⟨m5,hr5,hm6,hg5⟩:=insB hm5 (by unfold maxLen;omega) 5 false rfl;have hb7:=bel_grown hb6 hg5 hb.size;clear hg5;obtain ⟨m6,hr6,hm7,hg6⟩:=insB hm6 (by unfold maxLen;omega) 6 false rfl;have hb8:=bel_grown hb7 hg6 hb.size;clear hg6;have hrL:=lookB hm7 kind wb HKW.out HLK.out;have HB8:=jzD hb8;clear hm0 hb1 hm1 hb2 hm2 hb3 hm3 hb4 hm4 hb5 hm5 hb6 hm6 hb7 hm7 hb8;clear hb))
  | (go_at_call 19;refine (HT.out _).mono ?_;rintro e w' ⟨rfl,rfl⟩)
  | (go_at_call 46;((with_reducible refine (HBM.out _).mono ?_);rintro e w9 ⟨rfl,hb⟩;have HB9:=jzD (bel_trans HB8.out hb);clear hb)))
 go_ret
 exact ⟨by first | rfl | (simp;done),HB9.out⟩
theorem BoxTurn_6m (kind n id:Int) (s s0:ByteArray) (w:World) (hk:(Lit.int .i64 kind).wf=true) (hn:(Lit.int .i64 n).wf=true) (hi:(Lit.int .u32 id).wf=true) (hs:s.size≤maxLen) (hC:Codes w) (ht:∀ w,Calls Tryz.prog 19 #[.string s0,.int .i64 70] w fun e w' => e=.returned (.string s)∧w=w')
 (e0:(n == 0)=false) (e1:(n == 1)=false) (e6:(n == 6)=true) (i0:(id == 0)=false) (i1:(id != 0)=true) (im:(id != 4294967295)=false) (hw:mayA ⟨kind,n,id,s⟩=wantB false false false false kind):Calls Tryz.prog 14 #[.int .i64 kind,.int .i64 n,.int .u32 id,.string s0] w fun e w' => e=.returned (.bool true)∧Below w.heap.size w w' := by
 have HC:=jzD hC
 have HT:=jzD ht
 have HKW:=jzD hk
 have hbm:=fun w=>BMay_any ⟨kind,n,id,s⟩ w ⟨hk,hn,hi,hs⟩
 rw [hw] at hbm
 have HBM:=jzD hbm
 have HLK:=jzD (litB_at false false false false kind)
 have hmm:=@run_makeMap Tryz.prog
 have hbb:∀ b:Bool,(b == b)=true:=fun b=>by cases b <;> rfl
 generalize wantB false false false false kind=wb at HBM HLK
 have hwb:=hbb wb
 clear hbm hw ht hk hn hi hs hC hbb
 go_enter Tryz.func14,Tryz.ntmps14
 go_wp2_with (first
  | (go_at_call 18;((with_reducible refine (begun16_any _ HC.out).mono ?_);rintro e w1 ⟨rfl,hb⟩;have hm0:MapB (w1.alloc (.map #[] 0)) w1.heap.size 0 (DataW.map []):=World.ownsMap_made _ _ _ _;have hb1:Below w.heap.size w (w1.alloc (.map #[] 0)):=bal hb _;obtain ⟨m0,hr0,hm1,hg0⟩:=insB hm0 (by unfold maxLen;omega) 1 false rfl;have hb2:=bel_grown hb1 hg0 hb.size;clear hg0;obtain ⟨m1,hr1,hm2,hg1⟩:=insB hm1 (by unfold maxLen;omega) 2 false rfl;have hb3:=bel_grown hb2 hg1 hb.size;clear hg1;obtain ⟨m2,hr2,hm3,hg2⟩:=insB hm2 (by unfold maxLen;omega) 7 false rfl;have hb4:=bel_grown hb3 hg2 hb.size;clear hg2;obtain ⟨m3,hr3,hm4,hg3⟩:=insB hm3 (by unfold maxLen;omega) 3 false rfl;have hb5:=bel_grown hb4 hg3 hb.size;clear hg3;obtain ⟨m4,hr4,hm5,hg4⟩:=insB hm4 (by unfold maxLen;omega) 4 false rfl;have hb6:=bel_grown hb5 hg4 hb.size;clear hg4;obtain ⟨m5,hr5,hm6,hg5⟩:=insB hm5 (by unfold maxLen;omega) 5 false rfl;have hb7:=bel_grown hb6 hg5 hb.size;clear hg5;obtain ⟨m6,hr6,hm7,hg6⟩:=insB hm6 (by unfold maxLen;omega) 6 false rfl;have hb8:=bel_grown hb7 hg6 hb.size;clear hg6;have hrL:=lookB hm7 kind wb HKW.out HLK.out;have HB8:=jzD hb8;clear hm0 hb1 hm1 hb2 hm2 hb3 hm3 hb4 hm4 hb5 hm5 hb6 hm6 hb7 hm7 hb8;clear hb))
  | (go_at_call 19;refine (HT.out _).mono ?_;rintro e w' ⟨rfl,rfl⟩)
  | (go_at_call 46;((with_reducible refine (HBM.out _).mono ?_);rintro e w9 ⟨rfl,hb⟩;have HB9:=jzD (bel_trans HB8.out hb);clear hb)))
 go_ret
 exact ⟨by first | rfl | (simp;done),HB9.out⟩
end Go.Proofs.YtjddbjmcjhjpiaaGreatDoor
