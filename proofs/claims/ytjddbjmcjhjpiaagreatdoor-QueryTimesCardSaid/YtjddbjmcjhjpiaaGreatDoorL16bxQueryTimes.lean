/- The law QueryTimes. -/
import Derived.Test.YtjddbjmcjhjpiaaGreatDoorN16J
import Derived.Test.YtjddbjmcjhjpiaaGreatDoorBegun16
import Derived.Test.YtjddbjmcjhjpiaaGreatDoorN16I
import Derived.Test.YtjddbjmcjhjpiaaGreatDoorN16C
import Derived.Test.YtjddbjmcjhjpiaaGreatDoorN16G
import Derived.Test.YtjddbjmcjhjpiaaGreatDoorN16H

set_option linter.all false

namespace Go.Proofs.YtjddbjmcjhjpiaaGreatDoor
set_option maxRecDepth 100000
set_option maxHeartbeats 32000000
open Go.RowKit M

theorem qT_asks {me S:Int} {i:Nat} (_hS:0≤S):(qT me S i).asks=decide (i % 8=0∧(i:Int)≤S * 8):=by
 unfold QueryM.asks qT
 simp only
 congr 1
 rw [eq_iff_iff]
 omega
theorem qT_over {me S:Int} {i:Nat} (_hS:0≤S):(qT me S (i + 1)).over=decide (S * 8 < (i:Int)):=by
 unfold QueryM.over qT
 simp only
 congr 1
 rw [eq_iff_iff]
 omega
theorem qT_xid {me S:Int} {i:Nat} (hS:0≤S) (h8:i % 8=0) (hi:(i:Int)≤S * 8) {k:Int} (hk:k=if ((i / 8:Nat):Int)=S then -1 else ((i / 8:Nat):Int)):(⟨me,0,k,S,false,⟨#[110]⟩⟩:XIn)=(qT me S i).xid:=by
 have ha:(qT me S i).asks=true:=by rw [qT_asks hS];exact decide_eq_true ⟨h8,hi⟩
 unfold QueryM.xid
 rw [ha,if_pos rfl]
 have e:(qT me S i).calls / 8=((i / 8:Nat):Int):=by
  unfold qT
  simp only
  omega
 rw [e,hk]
 rfl
theorem qT_xz {me S:Int} {i:Nat} (ha:(qT me S i).asks=false):(⟨0,0,0,0,false,⟨#[]⟩⟩:XIn)=(qT me S i).xid:=by
 unfold QueryM.xid
 rw [ha]
 rfl
def cntT (S i:Nat):Nat:=min ((i + 7) / 8) (S + 1)
theorem QueryTimes_law (me slots:Int) (w:World) (hme:(Lit.int .u32 me).wf=true) (hC:Codes w):Calls Tryz.prog 9 #[.int .u32 me,.int .i64 slots] w fun e w' => e=.returned (.bool true)∧Below w.heap.size w w' := by
 have HC:=jzD hC
 have HME:=jzD hme
 clear hC hme
 have a1_q:=Int.lt_tmod_of_pos slots (show (0:Int) < 3 by decide)
 have a2_q:=Int.tmod_lt_of_pos slots (show (0:Int) < 3 by decide)
 obtain ⟨t_q,ht_q⟩:∃ t,slots.tmod 3=t:=⟨_,rfl⟩
 rw [ht_q] at a1_q a2_q
 have e1_q:IntKind.i64.wrap t_q=t_q:=IntWalk.i64_in _ (by omega)
 have e2_q:IntKind.i64.wrap (t_q + 3)=t_q + 3:=IntWalk.i64_in _ (by omega)
 obtain ⟨q,h_q⟩:∃ q:Nat,t_q % 3=(q:Int):=⟨(t_q % 3).toNat,by omega⟩
 have e3_q:(t_q + 3).tmod 3=(q:Int):=by rw [Int.tmod_eq_emod_of_nonneg (by omega)];omega
 have e4_q:IntKind.i64.wrap (q:Int)=(q:Int):=IntWalk.i64_in _ (by omega)
 have b_q:q < 3:=by omega
 clear a1_q a2_q
 have hq:q=0 ∨ q=1 ∨ q=2:=by omega
 clear b_q
 rcases hq with rfl | rfl | rfl
 · have z0:((0:Nat):Int)=0:=rfl
   rw [z0] at h_q e3_q e4_q
   by_cases ho:ownN me=true
   · have hm:=mayNew_n (me:=me) (S:=1) (s:=⟨#[110]⟩) (by decide) (by kernel_rfl)
     rw [ho] at hm
     have HM:=jzD hm
     clear hm ho
     go_enter Tryz.func9,Tryz.ntmps9
     go_wp2_with (first
      | (go_at_call 18;((with_reducible refine (dcalls_keep Emp.stab (Done.emp w) (begun16_any _ HC.out)).mono ?_);rintro e w1 ⟨rfl,hs⟩;have HT1:Hid (Done w [] (Star Emp (CellW w1.heap.size (yK 1 6 8) 3)) (w1.alloc (.cells (yK 1 6 8) 3))):=hs.add Emp.stab (CellW.new w1 #[.int .i64 1,.int .i64 6,.int .i64 8] 3);clear hs))
      | (go_at_call 20;((with_reducible refine (dQ_new HME.out (by decide) (by decide) HM.out (Emp.stab.star cS) HT1.out).mono ?_);rintro e w3 ⟨a1,b1,rfl,hs⟩;have HS3:Hid (Done w [] (QueryW (.pointer (some a1)) (.pointer (some b1)) (qT me 1 0)) w3):=(by show Done _ _ _ _;rw [← qT_new me 1 (by decide)];exact hs.drop_mid.unemp);clear hs)))
     go_loopw [7,8] (fun nv iv wr=>∃ i:Nat,i≤100∧iv=.int .i64 (i:Int)∧nv=.int .i64 (cntT 1 i:Int)∧Done w [] (QueryW (.pointer (some a1)) (.pointer (some b1)) (qT me 1 i)) wr) (fun _ iv _=>(100 - intOf iv).toNat)
     case atStart=>exact ⟨0,by omega,rfl,rfl,HS3.out⟩
     case round =>
      clear HS3 HT1
      obtain ⟨i,hi,rfl,rfl,hs⟩:=hrel
      have HS3:=jzD hs
      clear hs
      by_cases hlt:i < 100
      · have t1:decide ((i:Int) < 100)=true:=decide_eq_true (by omega)
        have t1b:decide (i < 100)=true:=decide_eq_true hlt
        by_cases h8:i % 8=0
        · by_cases hS:i < 8
          · skip
            have hxx:=qT_xid (me:=me) (S:=1) (i:=i) (by decide) (by omega) (by omega) (k:=((i / 8:Nat):Int)) (by rw [if_neg (by omega)])
            have hov:decide ((1:Int) * 8 < (i:Int))=false:=decide_eq_false (by omega)
            have ha:(qT me 1 i).asks=true:=by rw [qT_asks (by decide)];exact decide_eq_true ⟨by omega,by omega⟩
            have hovv:=hov
            have HX1:=jzD hxx
            have HX2:Hid (true=(qT me 1 i).asks):=ha.symm
            have HX3:=jzD (qT_tick me 1 i)
            have HOV:Hid (false=(qT me 1 (i + 1)).over):=by show _=_;rw [qT_over (by decide),hov]
            have g2:decide ((8:Int) < (i:Int))=false:=hov
            have r1:((i:Int)).tmod 8=((i % 8:Nat):Int):=by rw [Int.tmod_eq_emod_of_nonneg (by omega)];omega
            have r2:IntKind.i64.wrap (((i % 8:Nat):Int))=((i % 8:Nat):Int):=IntWalk.i64_in _ (by omega)
            have r3:i % 8=0:=by omega
            rw [r3] at r1 r2
            have r4:decide ((i:Int)≤8)=true:=decide_eq_true (by omega)
            have d1:((i:Int)).tdiv 8=((i / 8:Nat):Int):=by rw [Int.tdiv_eq_ediv_of_nonneg (by omega)];omega
            have d2:IntKind.i64.wrap (((i / 8:Nat):Int))=((i / 8:Nat):Int):=IntWalk.i64_in _ (by omega)
            have d3:((((i / 8:Nat):Int)) == 1)=false:=beq_eq_false_iff_ne.2 (by omega)
            have HNE:Hid (∀ W,(binOp .neq 32 (XIn.val (⟨me,0,((i / 8:Nat):Int),1,false,⟨#[110]⟩⟩:XIn)) (XIn.val (⟨me,0,((i / 8:Nat):Int),1,false,⟨#[110]⟩⟩:XIn))).run Tryz.prog W=.ok (.bool false) W):=by show ∀ _,_;intro W;have h:=eql_xin (⟨me,0,((i / 8:Nat):Int),1,false,⟨#[110]⟩⟩:XIn) (⟨me,0,((i / 8:Nat):Int),1,false,⟨#[110]⟩⟩:XIn) W;rw [decide_eq_true rfl] at h;exact neq_agg h
            have e6:IntKind.i64.wrap ((cntT 1 i:Int) + 1)=(cntT 1 i:Int) + 1:=IntWalk.i64_in _ (by unfold cntT;omega)
            have HN:Hid (cntT 1 (i + 1)=cntT 1 i + 1):=by show _=_;unfold cntT;omega
            have e5:IntKind.i64.wrap ((i:Int) + 1)=(i:Int) + 1:=IntWalk.i64_in _ (by omega)
            clear hxx ha hov hovv
            generalize cntT 1 i=n at HN e6 ⊢
            go_wp2_with (first
             | ((with_reducible refine wpList_storeBD (C:=fun X=>Star (QueryW (.pointer (some a1)) (.pointer (some b1)) (qT me 1 (i + 1))) X) (Fr.r (QueryW.stab _ _ _) Fr.id_) HT4.out rfl 32 (.tmp 9) (.tmp 37) rfl #[.int .u32 me,.int .u32 0,.int .i64 ((i / 8:Nat):Int),.int .i64 1,.bool false,.string ⟨#[110]⟩] rfl rfl (by kernel_rfl) rfl (by kernel_rfl) ?_);intro w5 hs;have HS5:Hid (Done w [] (Star (QueryW (.pointer (some a1)) (.pointer (some b1)) (qT me 1 (i + 1))) (CellW w4.heap.size (yA me 0 ((i / 8:Nat):Int) 1 false ⟨#[110]⟩) 32)) w5):=(by show Done _ _ _ _;exact hs);clear hs)
             | (with_reducible refine wpList_loadD (C:=fun X=>Star (QueryW (.pointer (some a1)) (.pointer (some b1)) (qT me 1 (i + 1))) X) (Fr.r (QueryW.stab _ _ _) Fr.id_) HS5.out rfl 32 (.tmp 9) rfl rfl _ Tryz.underlying32 rfl (by kernel_rfl) ?_)
             | (with_reducible refine wpList_ne (by kernel_rfl) 32 (.tmp 56) (.tmp 60) #[.int .u32 me,.int .u32 0,.int .i64 ((i / 8:Nat):Int),.int .i64 1,.bool false,.string ⟨#[110]⟩] #[.int .u32 me,.int .u32 0,.int .i64 ((i / 8:Nat):Int),.int .i64 1,.bool false,.string ⟨#[110]⟩] false rfl rfl rfl (fun _ _ _ _=>guard_X _ _ _ _ _ _) (HNE.out) ?_)
             | (go_at_call 34;((with_reducible refine (dQ_tick (x:=(⟨me,0,((i / 8:Nat):Int),1,false,⟨#[110]⟩⟩:XIn)) (b:=true) (m' := qT me 1 (i + 1)) HX1.out HX2.out HX3.out (C:=fun X=>X) Fr.id_ HS3.out).mono ?_);rintro e w4 ⟨rfl,hs⟩;have HS4:Hid (Done w [] (QueryW (.pointer (some a1)) (.pointer (some b1)) (qT me 1 (i + 1))) w4):=(by show Done _ _ _ _;exact hs);clear hs;have HT4:Hid (Done w [] (Star (QueryW (.pointer (some a1)) (.pointer (some b1)) (qT me 1 (i + 1))) (CellW w4.heap.size (yA 0 0 0 0 false ⟨#[]⟩) 32)) (w4.alloc (.cells (yA 0 0 0 0 false ⟨#[]⟩) 32))):=HS4.out.add (QueryW.stab _ _ _) (CellW.new w4 #[.int .u32 0,.int .u32 0,.int .i64 0,.int .i64 0,.bool false,.string ⟨#[]⟩] 32)))
             | (go_at_call 25;((with_reducible refine (dQ_over (b:=false) HOV.out (C:=fun X=>Star (X) (CellW w4.heap.size (yA me 0 ((i / 8:Nat):Int) 1 false ⟨#[110]⟩) 32)) (Fr.l Fr.id_ cS) ((QueryW.stab _ _ _).star cS) HS5.out).mono ?_);rintro e w6 ⟨rfl,hs⟩;have HS6:Hid (Done w [] (Star (QueryW (.pointer (some a1)) (.pointer (some b1)) (qT me 1 (i + 1))) (CellW w4.heap.size (yA me 0 ((i / 8:Nat):Int) 1 false ⟨#[110]⟩) 32)) w6):=(by show Done _ _ _ _;exact hs);clear hs)))
            go_roundw
            case rel=>exact ⟨i + 1,by omega,by go_num,by rw [HN.out];go_num,HS6.out.drop⟩
            case measure=>simp [intOf] <;> omega
          · by_cases hS2:i=8
            · have hS3:i≤8:=by omega
              have hS4:8≤i:=by omega
              clear hS2
              have hxx:=qT_xid (me:=me) (S:=1) (i:=i) (by decide) (by omega) (by omega) (k:=-1) (by rw [if_pos (by omega)])
              have hov:decide ((1:Int) * 8 < (i:Int))=false:=decide_eq_false (by omega)
              have ha:(qT me 1 i).asks=true:=by rw [qT_asks (by decide)];exact decide_eq_true ⟨by omega,by omega⟩
              have hovv:=hov
              have HX1:=jzD hxx
              have HX2:Hid (true=(qT me 1 i).asks):=ha.symm
              have HX3:=jzD (qT_tick me 1 i)
              have HOV:Hid (false=(qT me 1 (i + 1)).over):=by show _=_;rw [qT_over (by decide),hov]
              have g2:decide ((8:Int) < (i:Int))=false:=hov
              have r1:((i:Int)).tmod 8=((i % 8:Nat):Int):=by rw [Int.tmod_eq_emod_of_nonneg (by omega)];omega
              have r2:IntKind.i64.wrap (((i % 8:Nat):Int))=((i % 8:Nat):Int):=IntWalk.i64_in _ (by omega)
              have r3:i % 8=0:=by omega
              rw [r3] at r1 r2
              have r4:decide ((i:Int)≤8)=true:=decide_eq_true (by omega)
              have d1:((i:Int)).tdiv 8=((i / 8:Nat):Int):=by rw [Int.tdiv_eq_ediv_of_nonneg (by omega)];omega
              have d2:IntKind.i64.wrap (((i / 8:Nat):Int))=((i / 8:Nat):Int):=IntWalk.i64_in _ (by omega)
              have d3:i / 8=1:=by omega
              rw [d3] at d1 d2
              have HNE:Hid (∀ W,(binOp .neq 32 (XIn.val (⟨me,0,(-1),1,false,⟨#[110]⟩⟩:XIn)) (XIn.val (⟨me,0,(-1),1,false,⟨#[110]⟩⟩:XIn))).run Tryz.prog W=.ok (.bool false) W):=by show ∀ _,_;intro W;have h:=eql_xin (⟨me,0,(-1),1,false,⟨#[110]⟩⟩:XIn) (⟨me,0,(-1),1,false,⟨#[110]⟩⟩:XIn) W;rw [decide_eq_true rfl] at h;exact neq_agg h
              have e6:IntKind.i64.wrap ((cntT 1 i:Int) + 1)=(cntT 1 i:Int) + 1:=IntWalk.i64_in _ (by unfold cntT;omega)
              have HN:Hid (cntT 1 (i + 1)=cntT 1 i + 1):=by show _=_;unfold cntT;omega
              have e5:IntKind.i64.wrap ((i:Int) + 1)=(i:Int) + 1:=IntWalk.i64_in _ (by omega)
              clear hxx ha hov hovv
              generalize cntT 1 i=n at HN e6 ⊢
              go_wp2_with (first
               | ((with_reducible refine wpList_storeBD (C:=fun X=>Star (QueryW (.pointer (some a1)) (.pointer (some b1)) (qT me 1 (i + 1))) X) (Fr.r (QueryW.stab _ _ _) Fr.id_) HT4.out rfl 32 (.tmp 9) (.tmp 37) rfl #[.int .u32 me,.int .u32 0,.int .i64 (-1),.int .i64 1,.bool false,.string ⟨#[110]⟩] rfl rfl (by kernel_rfl) rfl (by kernel_rfl) ?_);intro w5 hs;have HS5:Hid (Done w [] (Star (QueryW (.pointer (some a1)) (.pointer (some b1)) (qT me 1 (i + 1))) (CellW w4.heap.size (yA me 0 (-1) 1 false ⟨#[110]⟩) 32)) w5):=(by show Done _ _ _ _;exact hs);clear hs)
               | (with_reducible refine wpList_loadD (C:=fun X=>Star (QueryW (.pointer (some a1)) (.pointer (some b1)) (qT me 1 (i + 1))) X) (Fr.r (QueryW.stab _ _ _) Fr.id_) HS5.out rfl 32 (.tmp 9) rfl rfl _ Tryz.underlying32 rfl (by kernel_rfl) ?_)
               | (with_reducible refine wpList_ne (by kernel_rfl) 32 (.tmp 56) (.tmp 60) #[.int .u32 me,.int .u32 0,.int .i64 (-1),.int .i64 1,.bool false,.string ⟨#[110]⟩] #[.int .u32 me,.int .u32 0,.int .i64 (-1),.int .i64 1,.bool false,.string ⟨#[110]⟩] false rfl rfl rfl (fun _ _ _ _=>guard_X _ _ _ _ _ _) (HNE.out) ?_)
               | (go_at_call 34;((with_reducible refine (dQ_tick (x:=(⟨me,0,(-1),1,false,⟨#[110]⟩⟩:XIn)) (b:=true) (m' := qT me 1 (i + 1)) HX1.out HX2.out HX3.out (C:=fun X=>X) Fr.id_ HS3.out).mono ?_);rintro e w4 ⟨rfl,hs⟩;have HS4:Hid (Done w [] (QueryW (.pointer (some a1)) (.pointer (some b1)) (qT me 1 (i + 1))) w4):=(by show Done _ _ _ _;exact hs);clear hs;have HT4:Hid (Done w [] (Star (QueryW (.pointer (some a1)) (.pointer (some b1)) (qT me 1 (i + 1))) (CellW w4.heap.size (yA 0 0 0 0 false ⟨#[]⟩) 32)) (w4.alloc (.cells (yA 0 0 0 0 false ⟨#[]⟩) 32))):=HS4.out.add (QueryW.stab _ _ _) (CellW.new w4 #[.int .u32 0,.int .u32 0,.int .i64 0,.int .i64 0,.bool false,.string ⟨#[]⟩] 32)))
               | (go_at_call 25;((with_reducible refine (dQ_over (b:=false) HOV.out (C:=fun X=>Star (X) (CellW w4.heap.size (yA me 0 (-1) 1 false ⟨#[110]⟩) 32)) (Fr.l Fr.id_ cS) ((QueryW.stab _ _ _).star cS) HS5.out).mono ?_);rintro e w6 ⟨rfl,hs⟩;have HS6:Hid (Done w [] (Star (QueryW (.pointer (some a1)) (.pointer (some b1)) (qT me 1 (i + 1))) (CellW w4.heap.size (yA me 0 (-1) 1 false ⟨#[110]⟩) 32)) w6):=(by show Done _ _ _ _;exact hs);clear hs)))
              go_roundw
              case rel=>exact ⟨i + 1,by omega,by go_num,by rw [HN.out];go_num,HS6.out.drop⟩
              case measure=>simp [intOf] <;> omega
            · skip
              have ha:(qT me 1 i).asks=false:=by rw [qT_asks (by decide)];exact decide_eq_false (by omega)
              have hxx:=qT_xz ha
              have hov:decide ((1:Int) * 8 < (i:Int))=true:=decide_eq_true (by omega)
              have hovv:=hov
              have HX1:=jzD hxx
              have HX2:Hid (false=(qT me 1 i).asks):=ha.symm
              have HX3:=jzD (qT_tick me 1 i)
              have HOV:Hid (true=(qT me 1 (i + 1)).over):=by show _=_;rw [qT_over (by decide),hov]
              have g2:decide ((8:Int) < (i:Int))=true:=hov
              have r1:((i:Int)).tmod 8=((i % 8:Nat):Int):=by rw [Int.tmod_eq_emod_of_nonneg (by omega)];omega
              have r2:IntKind.i64.wrap (((i % 8:Nat):Int))=((i % 8:Nat):Int):=IntWalk.i64_in _ (by omega)
              have r3:i % 8=0:=by omega
              rw [r3] at r1 r2
              have r4:decide ((i:Int)≤8)=false:=decide_eq_false (by omega)
              have HN:Hid (cntT 1 (i + 1)=cntT 1 i):=by show _=_;unfold cntT;omega
              have e5:IntKind.i64.wrap ((i:Int) + 1)=(i:Int) + 1:=IntWalk.i64_in _ (by omega)
              clear hxx ha hov hovv
              generalize cntT 1 i=n at HN ⊢
              go_wp2_with (first
               | ((with_reducible refine wpList_storeBD (C:=fun X=>Star (QueryW (.pointer (some a1)) (.pointer (some b1)) (qT me 1 (i + 1))) X) (Fr.r (QueryW.stab _ _ _) Fr.id_) HT4.out rfl 32 (.tmp 9) (.tmp 37) rfl #[.int .u32 0,.int .u32 0,.int .i64 0,.int .i64 0,.bool false,.string ⟨#[]⟩] rfl rfl (by kernel_rfl) rfl (by kernel_rfl) ?_);intro w5 hs;have HS5:Hid (Done w [] (Star (QueryW (.pointer (some a1)) (.pointer (some b1)) (qT me 1 (i + 1))) (CellW w4.heap.size (yA 0 0 0 0 false ⟨#[]⟩) 32)) w5):=(by show Done _ _ _ _;exact hs);clear hs)
               | (go_at_call 34;((with_reducible refine (dQ_tick (x:=(⟨0,0,0,0,false,⟨#[]⟩⟩:XIn)) (b:=false) (m' := qT me 1 (i + 1)) HX1.out HX2.out HX3.out (C:=fun X=>X) Fr.id_ HS3.out).mono ?_);rintro e w4 ⟨rfl,hs⟩;have HS4:Hid (Done w [] (QueryW (.pointer (some a1)) (.pointer (some b1)) (qT me 1 (i + 1))) w4):=(by show Done _ _ _ _;exact hs);clear hs;have HT4:Hid (Done w [] (Star (QueryW (.pointer (some a1)) (.pointer (some b1)) (qT me 1 (i + 1))) (CellW w4.heap.size (yA 0 0 0 0 false ⟨#[]⟩) 32)) (w4.alloc (.cells (yA 0 0 0 0 false ⟨#[]⟩) 32))):=HS4.out.add (QueryW.stab _ _ _) (CellW.new w4 #[.int .u32 0,.int .u32 0,.int .i64 0,.int .i64 0,.bool false,.string ⟨#[]⟩] 32)))
               | (go_at_call 25;((with_reducible refine (dQ_over (b:=true) HOV.out (C:=fun X=>Star (X) (CellW w4.heap.size (yA 0 0 0 0 false ⟨#[]⟩) 32)) (Fr.l Fr.id_ cS) ((QueryW.stab _ _ _).star cS) HS5.out).mono ?_);rintro e w6 ⟨rfl,hs⟩;have HS6:Hid (Done w [] (Star (QueryW (.pointer (some a1)) (.pointer (some b1)) (qT me 1 (i + 1))) (CellW w4.heap.size (yA 0 0 0 0 false ⟨#[]⟩) 32)) w6):=(by show Done _ _ _ _;exact hs);clear hs)))
              go_roundw
              case rel=>exact ⟨i + 1,by omega,by go_num,by rw [HN.out],HS6.out.drop⟩
              case measure=>simp [intOf] <;> omega
        · skip
          have ha:(qT me 1 i).asks=false:=by rw [qT_asks (by decide)];exact decide_eq_false (by omega)
          have hxx:=qT_xz ha
          obtain ⟨ov,hov⟩:∃ b,decide ((1:Int) * 8 < (i:Int))=b:=⟨_,rfl⟩
          have HX1:=jzD hxx
          have HX2:Hid (false=(qT me 1 i).asks):=ha.symm
          have HX3:=jzD (qT_tick me 1 i)
          have HOV:Hid (ov=(qT me 1 (i + 1)).over):=by show _=_;rw [qT_over (by decide),hov]
          have g1:decide ((i:Int) > 8)=ov:=hov
          have g2:decide ((8:Int) < (i:Int))=ov:=hov
          have r1:((i:Int)).tmod 8=((i % 8:Nat):Int):=by rw [Int.tmod_eq_emod_of_nonneg (by omega)];omega
          have r2:IntKind.i64.wrap (((i % 8:Nat):Int))=((i % 8:Nat):Int):=IntWalk.i64_in _ (by omega)
          have r3:((((i % 8:Nat):Int)) == 0)=false:=beq_eq_false_iff_ne.2 (by omega)
          have HN:Hid (cntT 1 (i + 1)=cntT 1 i):=by show _=_;unfold cntT;omega
          have e5:IntKind.i64.wrap ((i:Int) + 1)=(i:Int) + 1:=IntWalk.i64_in _ (by omega)
          clear hxx ha hov
          generalize cntT 1 i=n at HN ⊢
          go_wp2_with (first
           | ((with_reducible refine wpList_storeBD (C:=fun X=>Star (QueryW (.pointer (some a1)) (.pointer (some b1)) (qT me 1 (i + 1))) X) (Fr.r (QueryW.stab _ _ _) Fr.id_) HT4.out rfl 32 (.tmp 9) (.tmp 37) rfl #[.int .u32 0,.int .u32 0,.int .i64 0,.int .i64 0,.bool false,.string ⟨#[]⟩] rfl rfl (by kernel_rfl) rfl (by kernel_rfl) ?_);intro w5 hs;have HS5:Hid (Done w [] (Star (QueryW (.pointer (some a1)) (.pointer (some b1)) (qT me 1 (i + 1))) (CellW w4.heap.size (yA 0 0 0 0 false ⟨#[]⟩) 32)) w5):=(by show Done _ _ _ _;exact hs);clear hs)
           | (go_at_call 34;((with_reducible refine (dQ_tick (x:=(⟨0,0,0,0,false,⟨#[]⟩⟩:XIn)) (b:=false) (m' := qT me 1 (i + 1)) HX1.out HX2.out HX3.out (C:=fun X=>X) Fr.id_ HS3.out).mono ?_);rintro e w4 ⟨rfl,hs⟩;have HS4:Hid (Done w [] (QueryW (.pointer (some a1)) (.pointer (some b1)) (qT me 1 (i + 1))) w4):=(by show Done _ _ _ _;exact hs);clear hs;have HT4:Hid (Done w [] (Star (QueryW (.pointer (some a1)) (.pointer (some b1)) (qT me 1 (i + 1))) (CellW w4.heap.size (yA 0 0 0 0 false ⟨#[]⟩) 32)) (w4.alloc (.cells (yA 0 0 0 0 false ⟨#[]⟩) 32))):=HS4.out.add (QueryW.stab _ _ _) (CellW.new w4 #[.int .u32 0,.int .u32 0,.int .i64 0,.int .i64 0,.bool false,.string ⟨#[]⟩] 32)))
           | (go_at_call 25;((with_reducible refine (dQ_over (b:=ov) HOV.out (C:=fun X=>Star (X) (CellW w4.heap.size (yA 0 0 0 0 false ⟨#[]⟩) 32)) (Fr.l Fr.id_ cS) ((QueryW.stab _ _ _).star cS) HS5.out).mono ?_);rintro e w6 ⟨rfl,hs⟩;have HS6:Hid (Done w [] (Star (QueryW (.pointer (some a1)) (.pointer (some b1)) (qT me 1 (i + 1))) (CellW w4.heap.size (yA 0 0 0 0 false ⟨#[]⟩) 32)) w6):=(by show Done _ _ _ _;exact hs);clear hs)))
          go_roundw
          case rel=>exact ⟨i + 1,by omega,by go_num,by rw [HN.out],HS6.out.drop⟩
          case measure=>simp [intOf] <;> omega
      · have t1:decide ((i:Int) < 100)=false:=decide_eq_false (by omega)
        have t1b:decide (i < 100)=false:=decide_eq_false hlt
        have hn:cntT 1 i=1 + 1:=by unfold cntT;omega
        rw [hn]
        clear hn
        go_wp2
        go_ret
        exact ⟨rfl,HS3.out.bel⟩
   · have hof:ownN me=false:=by cases h:ownN me <;> simp_all
     have hm:=mayNew_n (me:=me) (S:=1) (s:=⟨#[110]⟩) (by decide) (by kernel_rfl)
     rw [hof] at hm
     have HM:=jzD hm
     have how:=fun w=>ROwn_any me w
     rw [hof] at how
     have HOW:=jzD how
     clear hm how ho hof
     go_enter Tryz.func9,Tryz.ntmps9
     go_wp2_with (first
      | (go_at_call 18;((with_reducible refine (dcalls_keep Emp.stab (Done.emp w) (begun16_any _ HC.out)).mono ?_);rintro e w1 ⟨rfl,hs⟩;have HT1:Hid (Done w [] (Star Emp (CellW w1.heap.size (yK 1 6 8) 3)) (w1.alloc (.cells (yK 1 6 8) 3))):=hs.add Emp.stab (CellW.new w1 #[.int .i64 1,.int .i64 6,.int .i64 8] 3);clear hs))
      | (go_at_call 20;((with_reducible refine (dcalls_keep (Emp.stab.star cS) HT1.out (QNew_none me ⟨#[110]⟩ 1 _ HME.out (by decide) (by decide) HM.out)).mono ?_);rintro e w3 ⟨rfl,hs⟩;have HS3:=jzD hs;clear hs))
      | (go_at_call 37;((with_reducible refine (HOW.out _).mono ?_);rintro e w' ⟨rfl,hw'⟩;rw [hw'];clear hw')))
     go_ret
     exact ⟨rfl,HS3.out.bel⟩
 · have z0:((1:Nat):Int)=1:=rfl
   rw [z0] at h_q e3_q e4_q
   by_cases ho:ownN me=true
   · have hm:=mayNew_n (me:=me) (S:=6) (s:=⟨#[110]⟩) (by decide) (by kernel_rfl)
     rw [ho] at hm
     have HM:=jzD hm
     clear hm ho
     go_enter Tryz.func9,Tryz.ntmps9
     go_wp2_with (first
      | (go_at_call 18;((with_reducible refine (dcalls_keep Emp.stab (Done.emp w) (begun16_any _ HC.out)).mono ?_);rintro e w1 ⟨rfl,hs⟩;have HT1:Hid (Done w [] (Star Emp (CellW w1.heap.size (yK 1 6 8) 3)) (w1.alloc (.cells (yK 1 6 8) 3))):=hs.add Emp.stab (CellW.new w1 #[.int .i64 1,.int .i64 6,.int .i64 8] 3);clear hs))
      | (go_at_call 20;((with_reducible refine (dQ_new HME.out (by decide) (by decide) HM.out (Emp.stab.star cS) HT1.out).mono ?_);rintro e w3 ⟨a1,b1,rfl,hs⟩;have HS3:Hid (Done w [] (QueryW (.pointer (some a1)) (.pointer (some b1)) (qT me 6 0)) w3):=(by show Done _ _ _ _;rw [← qT_new me 6 (by decide)];exact hs.drop_mid.unemp);clear hs)))
     go_loopw [7,8] (fun nv iv wr=>∃ i:Nat,i≤100∧iv=.int .i64 (i:Int)∧nv=.int .i64 (cntT 6 i:Int)∧Done w [] (QueryW (.pointer (some a1)) (.pointer (some b1)) (qT me 6 i)) wr) (fun _ iv _=>(100 - intOf iv).toNat)
     case atStart=>exact ⟨0,by omega,rfl,rfl,HS3.out⟩
     case round =>
      clear HS3 HT1
      obtain ⟨i,hi,rfl,rfl,hs⟩:=hrel
      have HS3:=jzD hs
      clear hs
      by_cases hlt:i < 100
      · have t1:decide ((i:Int) < 100)=true:=decide_eq_true (by omega)
        have t1b:decide (i < 100)=true:=decide_eq_true hlt
        by_cases h8:i % 8=0
        · by_cases hS:i < 48
          · skip
            have hxx:=qT_xid (me:=me) (S:=6) (i:=i) (by decide) (by omega) (by omega) (k:=((i / 8:Nat):Int)) (by rw [if_neg (by omega)])
            have hov:decide ((6:Int) * 8 < (i:Int))=false:=decide_eq_false (by omega)
            have ha:(qT me 6 i).asks=true:=by rw [qT_asks (by decide)];exact decide_eq_true ⟨by omega,by omega⟩
            have hovv:=hov
            have HX1:=jzD hxx
            have HX2:Hid (true=(qT me 6 i).asks):=ha.symm
            have HX3:=jzD (qT_tick me 6 i)
            have HOV:Hid (false=(qT me 6 (i + 1)).over):=by show _=_;rw [qT_over (by decide),hov]
            have g2:decide ((48:Int) < (i:Int))=false:=hov
            have r1:((i:Int)).tmod 8=((i % 8:Nat):Int):=by rw [Int.tmod_eq_emod_of_nonneg (by omega)];omega
            have r2:IntKind.i64.wrap (((i % 8:Nat):Int))=((i % 8:Nat):Int):=IntWalk.i64_in _ (by omega)
            have r3:i % 8=0:=by omega
            rw [r3] at r1 r2
            have r4:decide ((i:Int)≤48)=true:=decide_eq_true (by omega)
            have d1:((i:Int)).tdiv 8=((i / 8:Nat):Int):=by rw [Int.tdiv_eq_ediv_of_nonneg (by omega)];omega
            have d2:IntKind.i64.wrap (((i / 8:Nat):Int))=((i / 8:Nat):Int):=IntWalk.i64_in _ (by omega)
            have d3:((((i / 8:Nat):Int)) == 6)=false:=beq_eq_false_iff_ne.2 (by omega)
            have HNE:Hid (∀ W,(binOp .neq 32 (XIn.val (⟨me,0,((i / 8:Nat):Int),6,false,⟨#[110]⟩⟩:XIn)) (XIn.val (⟨me,0,((i / 8:Nat):Int),6,false,⟨#[110]⟩⟩:XIn))).run Tryz.prog W=.ok (.bool false) W):=by show ∀ _,_;intro W;have h:=eql_xin (⟨me,0,((i / 8:Nat):Int),6,false,⟨#[110]⟩⟩:XIn) (⟨me,0,((i / 8:Nat):Int),6,false,⟨#[110]⟩⟩:XIn) W;rw [decide_eq_true rfl] at h;exact neq_agg h
            have e6:IntKind.i64.wrap ((cntT 6 i:Int) + 1)=(cntT 6 i:Int) + 1:=IntWalk.i64_in _ (by unfold cntT;omega)
            have HN:Hid (cntT 6 (i + 1)=cntT 6 i + 1):=by show _=_;unfold cntT;omega
            have e5:IntKind.i64.wrap ((i:Int) + 1)=(i:Int) + 1:=IntWalk.i64_in _ (by omega)
            clear hxx ha hov hovv
            generalize cntT 6 i=n at HN e6 ⊢
            go_wp2_with (first
             | ((with_reducible refine wpList_storeBD (C:=fun X=>Star (QueryW (.pointer (some a1)) (.pointer (some b1)) (qT me 6 (i + 1))) X) (Fr.r (QueryW.stab _ _ _) Fr.id_) HT4.out rfl 32 (.tmp 9) (.tmp 37) rfl #[.int .u32 me,.int .u32 0,.int .i64 ((i / 8:Nat):Int),.int .i64 6,.bool false,.string ⟨#[110]⟩] rfl rfl (by kernel_rfl) rfl (by kernel_rfl) ?_);intro w5 hs;have HS5:Hid (Done w [] (Star (QueryW (.pointer (some a1)) (.pointer (some b1)) (qT me 6 (i + 1))) (CellW w4.heap.size (yA me 0 ((i / 8:Nat):Int) 6 false ⟨#[110]⟩) 32)) w5):=(by show Done _ _ _ _;exact hs);clear hs)
             | (with_reducible refine wpList_loadD (C:=fun X=>Star (QueryW (.pointer (some a1)) (.pointer (some b1)) (qT me 6 (i + 1))) X) (Fr.r (QueryW.stab _ _ _) Fr.id_) HS5.out rfl 32 (.tmp 9) rfl rfl _ Tryz.underlying32 rfl (by kernel_rfl) ?_)
             | (with_reducible refine wpList_ne (by kernel_rfl) 32 (.tmp 56) (.tmp 60) #[.int .u32 me,.int .u32 0,.int .i64 ((i / 8:Nat):Int),.int .i64 6,.bool false,.string ⟨#[110]⟩] #[.int .u32 me,.int .u32 0,.int .i64 ((i / 8:Nat):Int),.int .i64 6,.bool false,.string ⟨#[110]⟩] false rfl rfl rfl (fun _ _ _ _=>guard_X _ _ _ _ _ _) (HNE.out) ?_)
             | (go_at_call 34;((with_reducible refine (dQ_tick (x:=(⟨me,0,((i / 8:Nat):Int),6,false,⟨#[110]⟩⟩:XIn)) (b:=true) (m' := qT me 6 (i + 1)) HX1.out HX2.out HX3.out (C:=fun X=>X) Fr.id_ HS3.out).mono ?_);rintro e w4 ⟨rfl,hs⟩;have HS4:Hid (Done w [] (QueryW (.pointer (some a1)) (.pointer (some b1)) (qT me 6 (i + 1))) w4):=(by show Done _ _ _ _;exact hs);clear hs;have HT4:Hid (Done w [] (Star (QueryW (.pointer (some a1)) (.pointer (some b1)) (qT me 6 (i + 1))) (CellW w4.heap.size (yA 0 0 0 0 false ⟨#[]⟩) 32)) (w4.alloc (.cells (yA 0 0 0 0 false ⟨#[]⟩) 32))):=HS4.out.add (QueryW.stab _ _ _) (CellW.new w4 #[.int .u32 0,.int .u32 0,.int .i64 0,.int .i64 0,.bool false,.string ⟨#[]⟩] 32)))
             | (go_at_call 25;((with_reducible refine (dQ_over (b:=false) HOV.out (C:=fun X=>Star (X) (CellW w4.heap.size (yA me 0 ((i / 8:Nat):Int) 6 false ⟨#[110]⟩) 32)) (Fr.l Fr.id_ cS) ((QueryW.stab _ _ _).star cS) HS5.out).mono ?_);rintro e w6 ⟨rfl,hs⟩;have HS6:Hid (Done w [] (Star (QueryW (.pointer (some a1)) (.pointer (some b1)) (qT me 6 (i + 1))) (CellW w4.heap.size (yA me 0 ((i / 8:Nat):Int) 6 false ⟨#[110]⟩) 32)) w6):=(by show Done _ _ _ _;exact hs);clear hs)))
            go_roundw
            case rel=>exact ⟨i + 1,by omega,by go_num,by rw [HN.out];go_num,HS6.out.drop⟩
            case measure=>simp [intOf] <;> omega
          · by_cases hS2:i=48
            · have hS3:i≤48:=by omega
              have hS4:48≤i:=by omega
              clear hS2
              have hxx:=qT_xid (me:=me) (S:=6) (i:=i) (by decide) (by omega) (by omega) (k:=-1) (by rw [if_pos (by omega)])
              have hov:decide ((6:Int) * 8 < (i:Int))=false:=decide_eq_false (by omega)
              have ha:(qT me 6 i).asks=true:=by rw [qT_asks (by decide)];exact decide_eq_true ⟨by omega,by omega⟩
              have hovv:=hov
              have HX1:=jzD hxx
              have HX2:Hid (true=(qT me 6 i).asks):=ha.symm
              have HX3:=jzD (qT_tick me 6 i)
              have HOV:Hid (false=(qT me 6 (i + 1)).over):=by show _=_;rw [qT_over (by decide),hov]
              have g2:decide ((48:Int) < (i:Int))=false:=hov
              have r1:((i:Int)).tmod 8=((i % 8:Nat):Int):=by rw [Int.tmod_eq_emod_of_nonneg (by omega)];omega
              have r2:IntKind.i64.wrap (((i % 8:Nat):Int))=((i % 8:Nat):Int):=IntWalk.i64_in _ (by omega)
              have r3:i % 8=0:=by omega
              rw [r3] at r1 r2
              have r4:decide ((i:Int)≤48)=true:=decide_eq_true (by omega)
              have d1:((i:Int)).tdiv 8=((i / 8:Nat):Int):=by rw [Int.tdiv_eq_ediv_of_nonneg (by omega)];omega
              have d2:IntKind.i64.wrap (((i / 8:Nat):Int))=((i / 8:Nat):Int):=IntWalk.i64_in _ (by omega)
              have d3:i / 8=6:=by omega
              rw [d3] at d1 d2
              have HNE:Hid (∀ W,(binOp .neq 32 (XIn.val (⟨me,0,(-1),6,false,⟨#[110]⟩⟩:XIn)) (XIn.val (⟨me,0,(-1),6,false,⟨#[110]⟩⟩:XIn))).run Tryz.prog W=.ok (.bool false) W):=by show ∀ _,_;intro W;have h:=eql_xin (⟨me,0,(-1),6,false,⟨#[110]⟩⟩:XIn) (⟨me,0,(-1),6,false,⟨#[110]⟩⟩:XIn) W;rw [decide_eq_true rfl] at h;exact neq_agg h
              have e6:IntKind.i64.wrap ((cntT 6 i:Int) + 1)=(cntT 6 i:Int) + 1:=IntWalk.i64_in _ (by unfold cntT;omega)
              have HN:Hid (cntT 6 (i + 1)=cntT 6 i + 1):=by show _=_;unfold cntT;omega
              have e5:IntKind.i64.wrap ((i:Int) + 1)=(i:Int) + 1:=IntWalk.i64_in _ (by omega)
              clear hxx ha hov hovv
              generalize cntT 6 i=n at HN e6 ⊢
              go_wp2_with (first
               | ((with_reducible refine wpList_storeBD (C:=fun X=>Star (QueryW (.pointer (some a1)) (.pointer (some b1)) (qT me 6 (i + 1))) X) (Fr.r (QueryW.stab _ _ _) Fr.id_) HT4.out rfl 32 (.tmp 9) (.tmp 37) rfl #[.int .u32 me,.int .u32 0,.int .i64 (-1),.int .i64 6,.bool false,.string ⟨#[110]⟩] rfl rfl (by kernel_rfl) rfl (by kernel_rfl) ?_);intro w5 hs;have HS5:Hid (Done w [] (Star (QueryW (.pointer (some a1)) (.pointer (some b1)) (qT me 6 (i + 1))) (CellW w4.heap.size (yA me 0 (-1) 6 false ⟨#[110]⟩) 32)) w5):=(by show Done _ _ _ _;exact hs);clear hs)
               | (with_reducible refine wpList_loadD (C:=fun X=>Star (QueryW (.pointer (some a1)) (.pointer (some b1)) (qT me 6 (i + 1))) X) (Fr.r (QueryW.stab _ _ _) Fr.id_) HS5.out rfl 32 (.tmp 9) rfl rfl _ Tryz.underlying32 rfl (by kernel_rfl) ?_)
               | (with_reducible refine wpList_ne (by kernel_rfl) 32 (.tmp 56) (.tmp 60) #[.int .u32 me,.int .u32 0,.int .i64 (-1),.int .i64 6,.bool false,.string ⟨#[110]⟩] #[.int .u32 me,.int .u32 0,.int .i64 (-1),.int .i64 6,.bool false,.string ⟨#[110]⟩] false rfl rfl rfl (fun _ _ _ _=>guard_X _ _ _ _ _ _) (HNE.out) ?_)
               | (go_at_call 34;((with_reducible refine (dQ_tick (x:=(⟨me,0,(-1),6,false,⟨#[110]⟩⟩:XIn)) (b:=true) (m' := qT me 6 (i + 1)) HX1.out HX2.out HX3.out (C:=fun X=>X) Fr.id_ HS3.out).mono ?_);rintro e w4 ⟨rfl,hs⟩;have HS4:Hid (Done w [] (QueryW (.pointer (some a1)) (.pointer (some b1)) (qT me 6 (i + 1))) w4):=(by show Done _ _ _ _;exact hs);clear hs;have HT4:Hid (Done w [] (Star (QueryW (.pointer (some a1)) (.pointer (some b1)) (qT me 6 (i + 1))) (CellW w4.heap.size (yA 0 0 0 0 false ⟨#[]⟩) 32)) (w4.alloc (.cells (yA 0 0 0 0 false ⟨#[]⟩) 32))):=HS4.out.add (QueryW.stab _ _ _) (CellW.new w4 #[.int .u32 0,.int .u32 0,.int .i64 0,.int .i64 0,.bool false,.string ⟨#[]⟩] 32)))
               | (go_at_call 25;((with_reducible refine (dQ_over (b:=false) HOV.out (C:=fun X=>Star (X) (CellW w4.heap.size (yA me 0 (-1) 6 false ⟨#[110]⟩) 32)) (Fr.l Fr.id_ cS) ((QueryW.stab _ _ _).star cS) HS5.out).mono ?_);rintro e w6 ⟨rfl,hs⟩;have HS6:Hid (Done w [] (Star (QueryW (.pointer (some a1)) (.pointer (some b1)) (qT me 6 (i + 1))) (CellW w4.heap.size (yA me 0 (-1) 6 false ⟨#[110]⟩) 32)) w6):=(by show Done _ _ _ _;exact hs);clear hs)))
              go_roundw
              case rel=>exact ⟨i + 1,by omega,by go_num,by rw [HN.out];go_num,HS6.out.drop⟩
              case measure=>simp [intOf] <;> omega
            · skip
              have ha:(qT me 6 i).asks=false:=by rw [qT_asks (by decide)];exact decide_eq_false (by omega)
              have hxx:=qT_xz ha
              have hov:decide ((6:Int) * 8 < (i:Int))=true:=decide_eq_true (by omega)
              have hovv:=hov
              have HX1:=jzD hxx
              have HX2:Hid (false=(qT me 6 i).asks):=ha.symm
              have HX3:=jzD (qT_tick me 6 i)
              have HOV:Hid (true=(qT me 6 (i + 1)).over):=by show _=_;rw [qT_over (by decide),hov]
              have g2:decide ((48:Int) < (i:Int))=true:=hov
              have r1:((i:Int)).tmod 8=((i % 8:Nat):Int):=by rw [Int.tmod_eq_emod_of_nonneg (by omega)];omega
              have r2:IntKind.i64.wrap (((i % 8:Nat):Int))=((i % 8:Nat):Int):=IntWalk.i64_in _ (by omega)
              have r3:i % 8=0:=by omega
              rw [r3] at r1 r2
              have r4:decide ((i:Int)≤48)=false:=decide_eq_false (by omega)
              have HN:Hid (cntT 6 (i + 1)=cntT 6 i):=by show _=_;unfold cntT;omega
              have e5:IntKind.i64.wrap ((i:Int) + 1)=(i:Int) + 1:=IntWalk.i64_in _ (by omega)
              clear hxx ha hov hovv
              generalize cntT 6 i=n at HN ⊢
              go_wp2_with (first
               | ((with_reducible refine wpList_storeBD (C:=fun X=>Star (QueryW (.pointer (some a1)) (.pointer (some b1)) (qT me 6 (i + 1))) X) (Fr.r (QueryW.stab _ _ _) Fr.id_) HT4.out rfl 32 (.tmp 9) (.tmp 37) rfl #[.int .u32 0,.int .u32 0,.int .i64 0,.int .i64 0,.bool false,.string ⟨#[]⟩] rfl rfl (by kernel_rfl) rfl (by kernel_rfl) ?_);intro w5 hs;have HS5:Hid (Done w [] (Star (QueryW (.pointer (some a1)) (.pointer (some b1)) (qT me 6 (i + 1))) (CellW w4.heap.size (yA 0 0 0 0 false ⟨#[]⟩) 32)) w5):=(by show Done _ _ _ _;exact hs);clear hs)
               | (go_at_call 34;((with_reducible refine (dQ_tick (x:=(⟨0,0,0,0,false,⟨#[]⟩⟩:XIn)) (b:=false) (m' := qT me 6 (i + 1)) HX1.out HX2.out HX3.out (C:=fun X=>X) Fr.id_ HS3.out).mono ?_);rintro e w4 ⟨rfl,hs⟩;have HS4:Hid (Done w [] (QueryW (.pointer (some a1)) (.pointer (some b1)) (qT me 6 (i + 1))) w4):=(by show Done _ _ _ _;exact hs);clear hs;have HT4:Hid (Done w [] (Star (QueryW (.pointer (some a1)) (.pointer (some b1)) (qT me 6 (i + 1))) (CellW w4.heap.size (yA 0 0 0 0 false ⟨#[]⟩) 32)) (w4.alloc (.cells (yA 0 0 0 0 false ⟨#[]⟩) 32))):=HS4.out.add (QueryW.stab _ _ _) (CellW.new w4 #[.int .u32 0,.int .u32 0,.int .i64 0,.int .i64 0,.bool false,.string ⟨#[]⟩] 32)))
               | (go_at_call 25;((with_reducible refine (dQ_over (b:=true) HOV.out (C:=fun X=>Star (X) (CellW w4.heap.size (yA 0 0 0 0 false ⟨#[]⟩) 32)) (Fr.l Fr.id_ cS) ((QueryW.stab _ _ _).star cS) HS5.out).mono ?_);rintro e w6 ⟨rfl,hs⟩;have HS6:Hid (Done w [] (Star (QueryW (.pointer (some a1)) (.pointer (some b1)) (qT me 6 (i + 1))) (CellW w4.heap.size (yA 0 0 0 0 false ⟨#[]⟩) 32)) w6):=(by show Done _ _ _ _;exact hs);clear hs)))
              go_roundw
              case rel=>exact ⟨i + 1,by omega,by go_num,by rw [HN.out],HS6.out.drop⟩
              case measure=>simp [intOf] <;> omega
        · skip
          have ha:(qT me 6 i).asks=false:=by rw [qT_asks (by decide)];exact decide_eq_false (by omega)
          have hxx:=qT_xz ha
          obtain ⟨ov,hov⟩:∃ b,decide ((6:Int) * 8 < (i:Int))=b:=⟨_,rfl⟩
          have HX1:=jzD hxx
          have HX2:Hid (false=(qT me 6 i).asks):=ha.symm
          have HX3:=jzD (qT_tick me 6 i)
          have HOV:Hid (ov=(qT me 6 (i + 1)).over):=by show _=_;rw [qT_over (by decide),hov]
          have g1:decide ((i:Int) > 48)=ov:=hov
          have g2:decide ((48:Int) < (i:Int))=ov:=hov
          have r1:((i:Int)).tmod 8=((i % 8:Nat):Int):=by rw [Int.tmod_eq_emod_of_nonneg (by omega)];omega
          have r2:IntKind.i64.wrap (((i % 8:Nat):Int))=((i % 8:Nat):Int):=IntWalk.i64_in _ (by omega)
          have r3:((((i % 8:Nat):Int)) == 0)=false:=beq_eq_false_iff_ne.2 (by omega)
          have HN:Hid (cntT 6 (i + 1)=cntT 6 i):=by show _=_;unfold cntT;omega
          have e5:IntKind.i64.wrap ((i:Int) + 1)=(i:Int) + 1:=IntWalk.i64_in _ (by omega)
          clear hxx ha hov
          generalize cntT 6 i=n at HN ⊢
          go_wp2_with (first
           | ((with_reducible refine wpList_storeBD (C:=fun X=>Star (QueryW (.pointer (some a1)) (.pointer (some b1)) (qT me 6 (i + 1))) X) (Fr.r (QueryW.stab _ _ _) Fr.id_) HT4.out rfl 32 (.tmp 9) (.tmp 37) rfl #[.int .u32 0,.int .u32 0,.int .i64 0,.int .i64 0,.bool false,.string ⟨#[]⟩] rfl rfl (by kernel_rfl) rfl (by kernel_rfl) ?_);intro w5 hs;have HS5:Hid (Done w [] (Star (QueryW (.pointer (some a1)) (.pointer (some b1)) (qT me 6 (i + 1))) (CellW w4.heap.size (yA 0 0 0 0 false ⟨#[]⟩) 32)) w5):=(by show Done _ _ _ _;exact hs);clear hs)
           | (go_at_call 34;((with_reducible refine (dQ_tick (x:=(⟨0,0,0,0,false,⟨#[]⟩⟩:XIn)) (b:=false) (m' := qT me 6 (i + 1)) HX1.out HX2.out HX3.out (C:=fun X=>X) Fr.id_ HS3.out).mono ?_);rintro e w4 ⟨rfl,hs⟩;have HS4:Hid (Done w [] (QueryW (.pointer (some a1)) (.pointer (some b1)) (qT me 6 (i + 1))) w4):=(by show Done _ _ _ _;exact hs);clear hs;have HT4:Hid (Done w [] (Star (QueryW (.pointer (some a1)) (.pointer (some b1)) (qT me 6 (i + 1))) (CellW w4.heap.size (yA 0 0 0 0 false ⟨#[]⟩) 32)) (w4.alloc (.cells (yA 0 0 0 0 false ⟨#[]⟩) 32))):=HS4.out.add (QueryW.stab _ _ _) (CellW.new w4 #[.int .u32 0,.int .u32 0,.int .i64 0,.int .i64 0,.bool false,.string ⟨#[]⟩] 32)))
           | (go_at_call 25;((with_reducible refine (dQ_over (b:=ov) HOV.out (C:=fun X=>Star (X) (CellW w4.heap.size (yA 0 0 0 0 false ⟨#[]⟩) 32)) (Fr.l Fr.id_ cS) ((QueryW.stab _ _ _).star cS) HS5.out).mono ?_);rintro e w6 ⟨rfl,hs⟩;have HS6:Hid (Done w [] (Star (QueryW (.pointer (some a1)) (.pointer (some b1)) (qT me 6 (i + 1))) (CellW w4.heap.size (yA 0 0 0 0 false ⟨#[]⟩) 32)) w6):=(by show Done _ _ _ _;exact hs);clear hs)))
          go_roundw
          case rel=>exact ⟨i + 1,by omega,by go_num,by rw [HN.out],HS6.out.drop⟩
          case measure=>simp [intOf] <;> omega
      · have t1:decide ((i:Int) < 100)=false:=decide_eq_false (by omega)
        have t1b:decide (i < 100)=false:=decide_eq_false hlt
        have hn:cntT 6 i=6 + 1:=by unfold cntT;omega
        rw [hn]
        clear hn
        go_wp2
        go_ret
        exact ⟨rfl,HS3.out.bel⟩
   · have hof:ownN me=false:=by cases h:ownN me <;> simp_all
     have hm:=mayNew_n (me:=me) (S:=6) (s:=⟨#[110]⟩) (by decide) (by kernel_rfl)
     rw [hof] at hm
     have HM:=jzD hm
     have how:=fun w=>ROwn_any me w
     rw [hof] at how
     have HOW:=jzD how
     clear hm how ho hof
     go_enter Tryz.func9,Tryz.ntmps9
     go_wp2_with (first
      | (go_at_call 18;((with_reducible refine (dcalls_keep Emp.stab (Done.emp w) (begun16_any _ HC.out)).mono ?_);rintro e w1 ⟨rfl,hs⟩;have HT1:Hid (Done w [] (Star Emp (CellW w1.heap.size (yK 1 6 8) 3)) (w1.alloc (.cells (yK 1 6 8) 3))):=hs.add Emp.stab (CellW.new w1 #[.int .i64 1,.int .i64 6,.int .i64 8] 3);clear hs))
      | (go_at_call 20;((with_reducible refine (dcalls_keep (Emp.stab.star cS) HT1.out (QNew_none me ⟨#[110]⟩ 6 _ HME.out (by decide) (by decide) HM.out)).mono ?_);rintro e w3 ⟨rfl,hs⟩;have HS3:=jzD hs;clear hs))
      | (go_at_call 37;((with_reducible refine (HOW.out _).mono ?_);rintro e w' ⟨rfl,hw'⟩;rw [hw'];clear hw')))
     go_ret
     exact ⟨rfl,HS3.out.bel⟩
 · have z0:((2:Nat):Int)=2:=rfl
   rw [z0] at h_q e3_q e4_q
   by_cases ho:ownN me=true
   · have hm:=mayNew_n (me:=me) (S:=8) (s:=⟨#[110]⟩) (by decide) (by kernel_rfl)
     rw [ho] at hm
     have HM:=jzD hm
     clear hm ho
     go_enter Tryz.func9,Tryz.ntmps9
     go_wp2_with (first
      | (go_at_call 18;((with_reducible refine (dcalls_keep Emp.stab (Done.emp w) (begun16_any _ HC.out)).mono ?_);rintro e w1 ⟨rfl,hs⟩;have HT1:Hid (Done w [] (Star Emp (CellW w1.heap.size (yK 1 6 8) 3)) (w1.alloc (.cells (yK 1 6 8) 3))):=hs.add Emp.stab (CellW.new w1 #[.int .i64 1,.int .i64 6,.int .i64 8] 3);clear hs))
      | (go_at_call 20;((with_reducible refine (dQ_new HME.out (by decide) (by decide) HM.out (Emp.stab.star cS) HT1.out).mono ?_);rintro e w3 ⟨a1,b1,rfl,hs⟩;have HS3:Hid (Done w [] (QueryW (.pointer (some a1)) (.pointer (some b1)) (qT me 8 0)) w3):=(by show Done _ _ _ _;rw [← qT_new me 8 (by decide)];exact hs.drop_mid.unemp);clear hs)))
     go_loopw [7,8] (fun nv iv wr=>∃ i:Nat,i≤100∧iv=.int .i64 (i:Int)∧nv=.int .i64 (cntT 8 i:Int)∧Done w [] (QueryW (.pointer (some a1)) (.pointer (some b1)) (qT me 8 i)) wr) (fun _ iv _=>(100 - intOf iv).toNat)
     case atStart=>exact ⟨0,by omega,rfl,rfl,HS3.out⟩
     case round =>
      clear HS3 HT1
      obtain ⟨i,hi,rfl,rfl,hs⟩:=hrel
      have HS3:=jzD hs
      clear hs
      by_cases hlt:i < 100
      · have t1:decide ((i:Int) < 100)=true:=decide_eq_true (by omega)
        have t1b:decide (i < 100)=true:=decide_eq_true hlt
        by_cases h8:i % 8=0
        · by_cases hS:i < 64
          · skip
            have hxx:=qT_xid (me:=me) (S:=8) (i:=i) (by decide) (by omega) (by omega) (k:=((i / 8:Nat):Int)) (by rw [if_neg (by omega)])
            have hov:decide ((8:Int) * 8 < (i:Int))=false:=decide_eq_false (by omega)
            have ha:(qT me 8 i).asks=true:=by rw [qT_asks (by decide)];exact decide_eq_true ⟨by omega,by omega⟩
            have hovv:=hov
            have HX1:=jzD hxx
            have HX2:Hid (true=(qT me 8 i).asks):=ha.symm
            have HX3:=jzD (qT_tick me 8 i)
            have HOV:Hid (false=(qT me 8 (i + 1)).over):=by show _=_;rw [qT_over (by decide),hov]
            have g2:decide ((64:Int) < (i:Int))=false:=hov
            have r1:((i:Int)).tmod 8=((i % 8:Nat):Int):=by rw [Int.tmod_eq_emod_of_nonneg (by omega)];omega
            have r2:IntKind.i64.wrap (((i % 8:Nat):Int))=((i % 8:Nat):Int):=IntWalk.i64_in _ (by omega)
            have r3:i % 8=0:=by omega
            rw [r3] at r1 r2
            have r4:decide ((i:Int)≤64)=true:=decide_eq_true (by omega)
            have d1:((i:Int)).tdiv 8=((i / 8:Nat):Int):=by rw [Int.tdiv_eq_ediv_of_nonneg (by omega)];omega
            have d2:IntKind.i64.wrap (((i / 8:Nat):Int))=((i / 8:Nat):Int):=IntWalk.i64_in _ (by omega)
            have d3:((((i / 8:Nat):Int)) == 8)=false:=beq_eq_false_iff_ne.2 (by omega)
            have HNE:Hid (∀ W,(binOp .neq 32 (XIn.val (⟨me,0,((i / 8:Nat):Int),8,false,⟨#[110]⟩⟩:XIn)) (XIn.val (⟨me,0,((i / 8:Nat):Int),8,false,⟨#[110]⟩⟩:XIn))).run Tryz.prog W=.ok (.bool false) W):=by show ∀ _,_;intro W;have h:=eql_xin (⟨me,0,((i / 8:Nat):Int),8,false,⟨#[110]⟩⟩:XIn) (⟨me,0,((i / 8:Nat):Int),8,false,⟨#[110]⟩⟩:XIn) W;rw [decide_eq_true rfl] at h;exact neq_agg h
            have e6:IntKind.i64.wrap ((cntT 8 i:Int) + 1)=(cntT 8 i:Int) + 1:=IntWalk.i64_in _ (by unfold cntT;omega)
            have HN:Hid (cntT 8 (i + 1)=cntT 8 i + 1):=by show _=_;unfold cntT;omega
            have e5:IntKind.i64.wrap ((i:Int) + 1)=(i:Int) + 1:=IntWalk.i64_in _ (by omega)
            clear hxx ha hov hovv
            generalize cntT 8 i=n at HN e6 ⊢
            go_wp2_with (first
             | ((with_reducible refine wpList_storeBD (C:=fun X=>Star (QueryW (.pointer (some a1)) (.pointer (some b1)) (qT me 8 (i + 1))) X) (Fr.r (QueryW.stab _ _ _) Fr.id_) HT4.out rfl 32 (.tmp 9) (.tmp 37) rfl #[.int .u32 me,.int .u32 0,.int .i64 ((i / 8:Nat):Int),.int .i64 8,.bool false,.string ⟨#[110]⟩] rfl rfl (by kernel_rfl) rfl (by kernel_rfl) ?_);intro w5 hs;have HS5:Hid (Done w [] (Star (QueryW (.pointer (some a1)) (.pointer (some b1)) (qT me 8 (i + 1))) (CellW w4.heap.size (yA me 0 ((i / 8:Nat):Int) 8 false ⟨#[110]⟩) 32)) w5):=(by show Done _ _ _ _;exact hs);clear hs)
             | (with_reducible refine wpList_loadD (C:=fun X=>Star (QueryW (.pointer (some a1)) (.pointer (some b1)) (qT me 8 (i + 1))) X) (Fr.r (QueryW.stab _ _ _) Fr.id_) HS5.out rfl 32 (.tmp 9) rfl rfl _ Tryz.underlying32 rfl (by kernel_rfl) ?_)
             | (with_reducible refine wpList_ne (by kernel_rfl) 32 (.tmp 56) (.tmp 60) #[.int .u32 me,.int .u32 0,.int .i64 ((i / 8:Nat):Int),.int .i64 8,.bool false,.string ⟨#[110]⟩] #[.int .u32 me,.int .u32 0,.int .i64 ((i / 8:Nat):Int),.int .i64 8,.bool false,.string ⟨#[110]⟩] false rfl rfl rfl (fun _ _ _ _=>guard_X _ _ _ _ _ _) (HNE.out) ?_)
             | (go_at_call 34;((with_reducible refine (dQ_tick (x:=(⟨me,0,((i / 8:Nat):Int),8,false,⟨#[110]⟩⟩:XIn)) (b:=true) (m' := qT me 8 (i + 1)) HX1.out HX2.out HX3.out (C:=fun X=>X) Fr.id_ HS3.out).mono ?_);rintro e w4 ⟨rfl,hs⟩;have HS4:Hid (Done w [] (QueryW (.pointer (some a1)) (.pointer (some b1)) (qT me 8 (i + 1))) w4):=(by show Done _ _ _ _;exact hs);clear hs;have HT4:Hid (Done w [] (Star (QueryW (.pointer (some a1)) (.pointer (some b1)) (qT me 8 (i + 1))) (CellW w4.heap.size (yA 0 0 0 0 false ⟨#[]⟩) 32)) (w4.alloc (.cells (yA 0 0 0 0 false ⟨#[]⟩) 32))):=HS4.out.add (QueryW.stab _ _ _) (CellW.new w4 #[.int .u32 0,.int .u32 0,.int .i64 0,.int .i64 0,.bool false,.string ⟨#[]⟩] 32)))
             | (go_at_call 25;((with_reducible refine (dQ_over (b:=false) HOV.out (C:=fun X=>Star (X) (CellW w4.heap.size (yA me 0 ((i / 8:Nat):Int) 8 false ⟨#[110]⟩) 32)) (Fr.l Fr.id_ cS) ((QueryW.stab _ _ _).star cS) HS5.out).mono ?_);rintro e w6 ⟨rfl,hs⟩;have HS6:Hid (Done w [] (Star (QueryW (.pointer (some a1)) (.pointer (some b1)) (qT me 8 (i + 1))) (CellW w4.heap.size (yA me 0 ((i / 8:Nat):Int) 8 false ⟨#[110]⟩) 32)) w6):=(by show Done _ _ _ _;exact hs);clear hs)))
            go_roundw
            case rel=>exact ⟨i + 1,by omega,by go_num,by rw [HN.out];go_num,HS6.out.drop⟩
            case measure=>simp [intOf] <;> omega
          · by_cases hS2:i=64
            · have hS3:i≤64:=by omega
              have hS4:64≤i:=by omega
              clear hS2
              have hxx:=qT_xid (me:=me) (S:=8) (i:=i) (by decide) (by omega) (by omega) (k:=-1) (by rw [if_pos (by omega)])
              have hov:decide ((8:Int) * 8 < (i:Int))=false:=decide_eq_false (by omega)
              have ha:(qT me 8 i).asks=true:=by rw [qT_asks (by decide)];exact decide_eq_true ⟨by omega,by omega⟩
              have hovv:=hov
              have HX1:=jzD hxx
              have HX2:Hid (true=(qT me 8 i).asks):=ha.symm
              have HX3:=jzD (qT_tick me 8 i)
              have HOV:Hid (false=(qT me 8 (i + 1)).over):=by show _=_;rw [qT_over (by decide),hov]
              have g2:decide ((64:Int) < (i:Int))=false:=hov
              have r1:((i:Int)).tmod 8=((i % 8:Nat):Int):=by rw [Int.tmod_eq_emod_of_nonneg (by omega)];omega
              have r2:IntKind.i64.wrap (((i % 8:Nat):Int))=((i % 8:Nat):Int):=IntWalk.i64_in _ (by omega)
              have r3:i % 8=0:=by omega
              rw [r3] at r1 r2
              have r4:decide ((i:Int)≤64)=true:=decide_eq_true (by omega)
              have d1:((i:Int)).tdiv 8=((i / 8:Nat):Int):=by rw [Int.tdiv_eq_ediv_of_nonneg (by omega)];omega
              have d2:IntKind.i64.wrap (((i / 8:Nat):Int))=((i / 8:Nat):Int):=IntWalk.i64_in _ (by omega)
              have d3:i / 8=8:=by omega
              rw [d3] at d1 d2
              have HNE:Hid (∀ W,(binOp .neq 32 (XIn.val (⟨me,0,(-1),8,false,⟨#[110]⟩⟩:XIn)) (XIn.val (⟨me,0,(-1),8,false,⟨#[110]⟩⟩:XIn))).run Tryz.prog W=.ok (.bool false) W):=by show ∀ _,_;intro W;have h:=eql_xin (⟨me,0,(-1),8,false,⟨#[110]⟩⟩:XIn) (⟨me,0,(-1),8,false,⟨#[110]⟩⟩:XIn) W;rw [decide_eq_true rfl] at h;exact neq_agg h
              have e6:IntKind.i64.wrap ((cntT 8 i:Int) + 1)=(cntT 8 i:Int) + 1:=IntWalk.i64_in _ (by unfold cntT;omega)
              have HN:Hid (cntT 8 (i + 1)=cntT 8 i + 1):=by show _=_;unfold cntT;omega
              have e5:IntKind.i64.wrap ((i:Int) + 1)=(i:Int) + 1:=IntWalk.i64_in _ (by omega)
              clear hxx ha hov hovv
              generalize cntT 8 i=n at HN e6 ⊢
              go_wp2_with (first
               | ((with_reducible refine wpList_storeBD (C:=fun X=>Star (QueryW (.pointer (some a1)) (.pointer (some b1)) (qT me 8 (i + 1))) X) (Fr.r (QueryW.stab _ _ _) Fr.id_) HT4.out rfl 32 (.tmp 9) (.tmp 37) rfl #[.int .u32 me,.int .u32 0,.int .i64 (-1),.int .i64 8,.bool false,.string ⟨#[110]⟩] rfl rfl (by kernel_rfl) rfl (by kernel_rfl) ?_);intro w5 hs;have HS5:Hid (Done w [] (Star (QueryW (.pointer (some a1)) (.pointer (some b1)) (qT me 8 (i + 1))) (CellW w4.heap.size (yA me 0 (-1) 8 false ⟨#[110]⟩) 32)) w5):=(by show Done _ _ _ _;exact hs);clear hs)
               | (with_reducible refine wpList_loadD (C:=fun X=>Star (QueryW (.pointer (some a1)) (.pointer (some b1)) (qT me 8 (i + 1))) X) (Fr.r (QueryW.stab _ _ _) Fr.id_) HS5.out rfl 32 (.tmp 9) rfl rfl _ Tryz.underlying32 rfl (by kernel_rfl) ?_)
               | (with_reducible refine wpList_ne (by kernel_rfl) 32 (.tmp 56) (.tmp 60) #[.int .u32 me,.int .u32 0,.int .i64 (-1),.int .i64 8,.bool false,.string ⟨#[110]⟩] #[.int .u32 me,.int .u32 0,.int .i64 (-1),.int .i64 8,.bool false,.string ⟨#[110]⟩] false rfl rfl rfl (fun _ _ _ _=>guard_X _ _ _ _ _ _) (HNE.out) ?_)
               | (go_at_call 34;((with_reducible refine (dQ_tick (x:=(⟨me,0,(-1),8,false,⟨#[110]⟩⟩:XIn)) (b:=true) (m' := qT me 8 (i + 1)) HX1.out HX2.out HX3.out (C:=fun X=>X) Fr.id_ HS3.out).mono ?_);rintro e w4 ⟨rfl,hs⟩;have HS4:Hid (Done w [] (QueryW (.pointer (some a1)) (.pointer (some b1)) (qT me 8 (i + 1))) w4):=(by show Done _ _ _ _;exact hs);clear hs;have HT4:Hid (Done w [] (Star (QueryW (.pointer (some a1)) (.pointer (some b1)) (qT me 8 (i + 1))) (CellW w4.heap.size (yA 0 0 0 0 false ⟨#[]⟩) 32)) (w4.alloc (.cells (yA 0 0 0 0 false ⟨#[]⟩) 32))):=HS4.out.add (QueryW.stab _ _ _) (CellW.new w4 #[.int .u32 0,.int .u32 0,.int .i64 0,.int .i64 0,.bool false,.string ⟨#[]⟩] 32)))
               | (go_at_call 25;((with_reducible refine (dQ_over (b:=false) HOV.out (C:=fun X=>Star (X) (CellW w4.heap.size (yA me 0 (-1) 8 false ⟨#[110]⟩) 32)) (Fr.l Fr.id_ cS) ((QueryW.stab _ _ _).star cS) HS5.out).mono ?_);rintro e w6 ⟨rfl,hs⟩;have HS6:Hid (Done w [] (Star (QueryW (.pointer (some a1)) (.pointer (some b1)) (qT me 8 (i + 1))) (CellW w4.heap.size (yA me 0 (-1) 8 false ⟨#[110]⟩) 32)) w6):=(by show Done _ _ _ _;exact hs);clear hs)))
              go_roundw
              case rel=>exact ⟨i + 1,by omega,by go_num,by rw [HN.out];go_num,HS6.out.drop⟩
              case measure=>simp [intOf] <;> omega
            · skip
              have ha:(qT me 8 i).asks=false:=by rw [qT_asks (by decide)];exact decide_eq_false (by omega)
              have hxx:=qT_xz ha
              have hov:decide ((8:Int) * 8 < (i:Int))=true:=decide_eq_true (by omega)
              have hovv:=hov
              have HX1:=jzD hxx
              have HX2:Hid (false=(qT me 8 i).asks):=ha.symm
              have HX3:=jzD (qT_tick me 8 i)
              have HOV:Hid (true=(qT me 8 (i + 1)).over):=by show _=_;rw [qT_over (by decide),hov]
              have g2:decide ((64:Int) < (i:Int))=true:=hov
              have r1:((i:Int)).tmod 8=((i % 8:Nat):Int):=by rw [Int.tmod_eq_emod_of_nonneg (by omega)];omega
              have r2:IntKind.i64.wrap (((i % 8:Nat):Int))=((i % 8:Nat):Int):=IntWalk.i64_in _ (by omega)
              have r3:i % 8=0:=by omega
              rw [r3] at r1 r2
              have r4:decide ((i:Int)≤64)=false:=decide_eq_false (by omega)
              have HN:Hid (cntT 8 (i + 1)=cntT 8 i):=by show _=_;unfold cntT;omega
              have e5:IntKind.i64.wrap ((i:Int) + 1)=(i:Int) + 1:=IntWalk.i64_in _ (by omega)
              clear hxx ha hov hovv
              generalize cntT 8 i=n at HN ⊢
              go_wp2_with (first
               | ((with_reducible refine wpList_storeBD (C:=fun X=>Star (QueryW (.pointer (some a1)) (.pointer (some b1)) (qT me 8 (i + 1))) X) (Fr.r (QueryW.stab _ _ _) Fr.id_) HT4.out rfl 32 (.tmp 9) (.tmp 37) rfl #[.int .u32 0,.int .u32 0,.int .i64 0,.int .i64 0,.bool false,.string ⟨#[]⟩] rfl rfl (by kernel_rfl) rfl (by kernel_rfl) ?_);intro w5 hs;have HS5:Hid (Done w [] (Star (QueryW (.pointer (some a1)) (.pointer (some b1)) (qT me 8 (i + 1))) (CellW w4.heap.size (yA 0 0 0 0 false ⟨#[]⟩) 32)) w5):=(by show Done _ _ _ _;exact hs);clear hs)
               | (go_at_call 34;((with_reducible refine (dQ_tick (x:=(⟨0,0,0,0,false,⟨#[]⟩⟩:XIn)) (b:=false) (m' := qT me 8 (i + 1)) HX1.out HX2.out HX3.out (C:=fun X=>X) Fr.id_ HS3.out).mono ?_);rintro e w4 ⟨rfl,hs⟩;have HS4:Hid (Done w [] (QueryW (.pointer (some a1)) (.pointer (some b1)) (qT me 8 (i + 1))) w4):=(by show Done _ _ _ _;exact hs);clear hs;have HT4:Hid (Done w [] (Star (QueryW (.pointer (some a1)) (.pointer (some b1)) (qT me 8 (i + 1))) (CellW w4.heap.size (yA 0 0 0 0 false ⟨#[]⟩) 32)) (w4.alloc (.cells (yA 0 0 0 0 false ⟨#[]⟩) 32))):=HS4.out.add (QueryW.stab _ _ _) (CellW.new w4 #[.int .u32 0,.int .u32 0,.int .i64 0,.int .i64 0,.bool false,.string ⟨#[]⟩] 32)))
               | (go_at_call 25;((with_reducible refine (dQ_over (b:=true) HOV.out (C:=fun X=>Star (X) (CellW w4.heap.size (yA 0 0 0 0 false ⟨#[]⟩) 32)) (Fr.l Fr.id_ cS) ((QueryW.stab _ _ _).star cS) HS5.out).mono ?_);rintro e w6 ⟨rfl,hs⟩;have HS6:Hid (Done w [] (Star (QueryW (.pointer (some a1)) (.pointer (some b1)) (qT me 8 (i + 1))) (CellW w4.heap.size (yA 0 0 0 0 false ⟨#[]⟩) 32)) w6):=(by show Done _ _ _ _;exact hs);clear hs)))
              go_roundw
              case rel=>exact ⟨i + 1,by omega,by go_num,by rw [HN.out],HS6.out.drop⟩
              case measure=>simp [intOf] <;> omega
        · skip
          have ha:(qT me 8 i).asks=false:=by rw [qT_asks (by decide)];exact decide_eq_false (by omega)
          have hxx:=qT_xz ha
          obtain ⟨ov,hov⟩:∃ b,decide ((8:Int) * 8 < (i:Int))=b:=⟨_,rfl⟩
          have HX1:=jzD hxx
          have HX2:Hid (false=(qT me 8 i).asks):=ha.symm
          have HX3:=jzD (qT_tick me 8 i)
          have HOV:Hid (ov=(qT me 8 (i + 1)).over):=by show _=_;rw [qT_over (by decide),hov]
          have g1:decide ((i:Int) > 64)=ov:=hov
          have g2:decide ((64:Int) < (i:Int))=ov:=hov
          have r1:((i:Int)).tmod 8=((i % 8:Nat):Int):=by rw [Int.tmod_eq_emod_of_nonneg (by omega)];omega
          have r2:IntKind.i64.wrap (((i % 8:Nat):Int))=((i % 8:Nat):Int):=IntWalk.i64_in _ (by omega)
          have r3:((((i % 8:Nat):Int)) == 0)=false:=beq_eq_false_iff_ne.2 (by omega)
          have HN:Hid (cntT 8 (i + 1)=cntT 8 i):=by show _=_;unfold cntT;omega
          have e5:IntKind.i64.wrap ((i:Int) + 1)=(i:Int) + 1:=IntWalk.i64_in _ (by omega)
          clear hxx ha hov
          generalize cntT 8 i=n at HN ⊢
          go_wp2_with (first
           | ((with_reducible refine wpList_storeBD (C:=fun X=>Star (QueryW (.pointer (some a1)) (.pointer (some b1)) (qT me 8 (i + 1))) X) (Fr.r (QueryW.stab _ _ _) Fr.id_) HT4.out rfl 32 (.tmp 9) (.tmp 37) rfl #[.int .u32 0,.int .u32 0,.int .i64 0,.int .i64 0,.bool false,.string ⟨#[]⟩] rfl rfl (by kernel_rfl) rfl (by kernel_rfl) ?_);intro w5 hs;have HS5:Hid (Done w [] (Star (QueryW (.pointer (some a1)) (.pointer (some b1)) (qT me 8 (i + 1))) (CellW w4.heap.size (yA 0 0 0 0 false ⟨#[]⟩) 32)) w5):=(by show Done _ _ _ _;exact hs);clear hs)
           | (go_at_call 34;((with_reducible refine (dQ_tick (x:=(⟨0,0,0,0,false,⟨#[]⟩⟩:XIn)) (b:=false) (m' := qT me 8 (i + 1)) HX1.out HX2.out HX3.out (C:=fun X=>X) Fr.id_ HS3.out).mono ?_);rintro e w4 ⟨rfl,hs⟩;have HS4:Hid (Done w [] (QueryW (.pointer (some a1)) (.pointer (some b1)) (qT me 8 (i + 1))) w4):=(by show Done _ _ _ _;exact hs);clear hs;have HT4:Hid (Done w [] (Star (QueryW (.pointer (some a1)) (.pointer (some b1)) (qT me 8 (i + 1))) (CellW w4.heap.size (yA 0 0 0 0 false ⟨#[]⟩) 32)) (w4.alloc (.cells (yA 0 0 0 0 false ⟨#[]⟩) 32))):=HS4.out.add (QueryW.stab _ _ _) (CellW.new w4 #[.int .u32 0,.int .u32 0,.int .i64 0,.int .i64 0,.bool false,.string ⟨#[]⟩] 32)))
           | (go_at_call 25;((with_reducible refine (dQ_over (b:=ov) HOV.out (C:=fun X=>Star (X) (CellW w4.heap.size (yA 0 0 0 0 false ⟨#[]⟩) 32)) (Fr.l Fr.id_ cS) ((QueryW.stab _ _ _).star cS) HS5.out).mono ?_);rintro e w6 ⟨rfl,hs⟩;have HS6:Hid (Done w [] (Star (QueryW (.pointer (some a1)) (.pointer (some b1)) (qT me 8 (i + 1))) (CellW w4.heap.size (yA 0 0 0 0 false ⟨#[]⟩) 32)) w6):=(by show Done _ _ _ _;exact hs);clear hs)))
          go_roundw
          case rel=>exact ⟨i + 1,by omega,by go_num,by rw [HN.out],HS6.out.drop⟩
          case measure=>simp [intOf] <;> omega
      · have t1:decide ((i:Int) < 100)=false:=decide_eq_false (by omega)
        have t1b:decide (i < 100)=false:=decide_eq_false hlt
        have hn:cntT 8 i=8 + 1:=by unfold cntT;omega
        rw [hn]
        clear hn
        go_wp2
        go_ret
        exact ⟨rfl,HS3.out.bel⟩
   · have hof:ownN me=false:=by cases h:ownN me <;> simp_all
     have hm:=mayNew_n (me:=me) (S:=8) (s:=⟨#[110]⟩) (by decide) (by kernel_rfl)
     rw [hof] at hm
     have HM:=jzD hm
     have how:=fun w=>ROwn_any me w
     rw [hof] at how
     have HOW:=jzD how
     clear hm how ho hof
     go_enter Tryz.func9,Tryz.ntmps9
     go_wp2_with (first
      | (go_at_call 18;((with_reducible refine (dcalls_keep Emp.stab (Done.emp w) (begun16_any _ HC.out)).mono ?_);rintro e w1 ⟨rfl,hs⟩;have HT1:Hid (Done w [] (Star Emp (CellW w1.heap.size (yK 1 6 8) 3)) (w1.alloc (.cells (yK 1 6 8) 3))):=hs.add Emp.stab (CellW.new w1 #[.int .i64 1,.int .i64 6,.int .i64 8] 3);clear hs))
      | (go_at_call 20;((with_reducible refine (dcalls_keep (Emp.stab.star cS) HT1.out (QNew_none me ⟨#[110]⟩ 8 _ HME.out (by decide) (by decide) HM.out)).mono ?_);rintro e w3 ⟨rfl,hs⟩;have HS3:=jzD hs;clear hs))
      | (go_at_call 37;((with_reducible refine (HOW.out _).mono ?_);rintro e w' ⟨rfl,hw'⟩;rw [hw'];clear hw')))
     go_ret
     exact ⟨rfl,HS3.out.bel⟩
end Go.Proofs.YtjddbjmcjhjpiaaGreatDoor
