/- The law BoxAll. -/
import Derived.Test.YtjddbjmcjhjpiaaGreatDoorN16J
import Derived.Test.YtjddbjmcjhjpiaaGreatDoorN16G
import Derived.Test.YtjddbjmcjhjpiaaGreatDoorN16D
import Derived.Test.YtjddbjmcjhjpiaaGreatDoorN16H
import Derived.Test.YtjddbjmcjhjpiaaGreatDoorL16nxBoxAll
import Derived.Deep.MidRow
import Derived.Deep.CutBlock
import Derived.Deep.DeepCutAuto

set_option linter.all false

namespace Go.Proofs.YtjddbjmcjhjpiaaGreatDoor
set_option maxRecDepth 100000
set_option maxHeartbeats 32000000
open Go.RowKit M

theorem exec_loadM {P:Program} {a:Act} {oi:Oper} {w:World} {ty:TypeId} {x:Operand} {b o:Nat} {cs:List Value} {d:TypeDesc} (ho:oi.op=.load ty x) (hx:a.eval x=.pointer (some ⟨b,o,none⟩)) (hc:w.rangeAt b o cs)
 (hu:P.underlying ty=some d) (hd:d.isRow=true) (hi:(P.info? ty).map (·.size)=some cs.length):(execOp a.eval oi).run P w=.ok (.value (.agg cs.toArray)) w:=by
 simp only [execOp,ho,hx,Instr.loadAt,Instr.sureAddr,Sem.run_bind,Sem.run_pure,Result.andThen_ok,run_loadVar_mid w b o ty cs d hc hu hd hi]
theorem box_put_l (l:List AIn) (a:AIn):(BoxM.put ⟨l⟩ a).l=if mayA a then (if 8≤l.length then l else l ++ [a]) else l:=by
 unfold BoxM.put
 split
 · split <;> rfl
 · rfl
theorem BoxAll_law (a0 t0:Value) (al:List AIn) (tl:List Bool) (w:World) (ha:RdG 4 w a0 al.length (askcs al)) (hok:∀ a ∈ al,a.ok) (ht:RdG 1 w t0 tl.length (tl.map Value.bool)) (hC:Codes w):Calls Tryz.prog 6 #[a0,t0] w fun e w' => e=.returned (.bool true)∧Below w.heap.size w w' := by
 have HC:=jzD hC
 obtain ⟨FA,cap,rfl,hcap,hmax⟩:=ha.shape
 obtain ⟨TA,tcap,rfl,htcap,htmax⟩:=ht.shape
 have HA:=jzD ha
 have HTL:=jzD ht
 have HOK:=jzD hok
 obtain ⟨L,hL⟩:∃ L,L=al.length:=⟨_,rfl⟩
 obtain ⟨T,hT⟩:∃ T,T=tl.length:=⟨_,rfl⟩
 rw [← hL] at hcap HA ⊢
 rw [← hT] at htcap HTL ⊢
 have HL:=jzD hL
 have HT:=jzD hT
 clear ha ht hok hC hL hT hmax htmax
 go_enter Tryz.func6,Tryz.ntmps6
 go_wp2_with (first
  | (go_at_call 18;((with_reducible refine (dcalls_keep Emp.stab (Done.emp w) (begun16_any _ HC.out)).mono ?_);rintro e w1 ⟨rfl,hs⟩;have HS1:=jzD hs;clear hs))
  | (go_at_call 44;((with_reducible refine (dB_new Emp.stab HS1.out).mono ?_);rintro e w2 ⟨a1,rfl,hs⟩;have HS2:Hid (Done w [] (BoxW (.pointer (some a1)) BoxM.new) w2):=(by show Done _ _ _ _;exact hs.unemp);clear hs)))
 go_loopw [7,8] (fun lv iv wr=>∃ (i n c:Nat) (l:List AIn) (A:Option Addr),i≤60∧i≤L∧iv=.int .i64 (i:Int)∧lv=.slice A n c∧n=l.length∧n≤8∧(∀ a ∈ l,a.ok)∧Done w [] (Star (BoxW (.pointer (some a1)) (⟨l⟩:BoxM)) (OwnO 68 4 (.slice A n c) n (askcs l))) wr) (fun _ iv _=>(70 - intOf iv).toNat)
 case atStart=>exact ⟨0,0,0,[],none,by omega,by omega,rfl,rfl,rfl,by omega,(by intro a ha;cases ha),HS2.out.add (BoxW.stab _ _) (OwnO.nilD 68 4 _)⟩
 case round =>
  clear HS2 HS1
  obtain ⟨i,n,c,l,A,hi60,hiL,rfl,rfl,hml,hn8,hlok,hs⟩:=hrel
  have HS3:=jzD hs
  have HML:=jzD hml
  have HLO:=jzD hlok
  clear hs hml hlok
  by_cases hlt:i < L
  · have t1:decide ((i:Int) < (L:Int))=true:=decide_eq_true (by omega)
    by_cases h60:i < 60
    · have t2:decide ((i:Int) < 60)=true:=decide_eq_true (by omega)
      have e5:IntKind.i64.wrap ((i:Int) + 1)=(i:Int) + 1:=IntWalk.i64_in _ (by omega)
      have hia:i < al.length:=by rw [← HL.out];exact hlt
      obtain ⟨⟨ak,an,ai,as0⟩,hai⟩:∃ a,al[i]?=some a:=⟨al[i],List.getElem?_eq_getElem hia⟩
      have haok:=HOK.out _ (List.mem_of_getElem? hai)
      obtain ⟨fb,fo,hfa,-,-⟩:=HA.out.at_ (i:=i) hlt
      subst hfa
      have HRG:Hid (∀ (j:Nat) (v:Value),[Value.int .i64 ak,.int .i64 an,.int .u32 ai,.string as0][j]?=some v→w.cell? ⟨fb,fo + i * 4 + j,none⟩=some v):=by
       show ∀ (j:Nat) (v:Value),_→_
       intro j v hv
       obtain ⟨b,o,e,-,hc⟩:=HA.out.at_ (i:=i) hlt
       injection e with e
       injection e with e1 e2
       subst e1;subst e2
       exact hc j v (List.getElem?_eq_some_iff.1 hv).1 (askcs_get hai hv)
      have HRW:Hid (wr.rangeAt fb (fo + i * 4) [.int .i64 ak,.int .i64 an,.int .u32 ai,.string as0]):=fun j v hv=>((HS3.out).bel.cell (p:=⟨fb,fo + i * 4 + j,none⟩) (World.block_lt_of_cell? _ _ (HRG.out j v hv))).trans (HRG.out j v hv)
      have htx:=fun w=>Text_any as0 70 w haok.2.2.2 (by omega)
      have hts:(as0.extract 0 (min as0.size 70)).size≤maxLen:=by rw [ByteArray.size_extract];have : (70:Nat)≤maxLen:=(by unfold maxLen;decide);omega
      generalize as0.extract 0 (min as0.size 70)=ab at htx hts
      have HTX:=jzD htx
      have HAO:Hid (AIn.ok (⟨ak,an,ai,ab⟩:AIn)):=⟨haok.1,haok.2.1,haok.2.2.1,hts⟩
      obtain ⟨mb,hmb⟩:∃ b,b=mayA (⟨ak,an,ai,ab⟩:AIn):=⟨_,rfl⟩
      have HMB:=jzD hmb
      have hra:=fun w=>RMayAsk_any (⟨ak,an,ai,ab⟩:AIn) w
      rw [← hmb] at hra
      have HRA:=jzD hra
      have hba:=fun w=>BMay_any (⟨ak,an,ai,ab⟩:AIn) w HAO.out
      rw [← hmb] at hba
      have HBM:=jzD hba
      have HT4:Hid (Done w [] (Star (Star (BoxW (.pointer (some a1)) (⟨l⟩:BoxM)) (OwnO 68 4 (.slice A n c) n (askcs l))) (CellW wr.heap.size (yC 0 0 0 ⟨#[]⟩) 68)) (wr.alloc (.cells (yC 0 0 0 ⟨#[]⟩) 68))):=HS3.out.add ((BoxW.stab _ _).star oS) (CellW.new wr #[.int .i64 0,.int .i64 0,.int .u32 0,.string ⟨#[]⟩] 68)
      have b1:(i:Int) < (L:Int):=by omega
      clear hia hai haok htx hts hmb hra hba HRG
      go_upto_block 2 with (first
       | (with_reducible refine wpList_load_mid rfl 68 (.tmp 32) rfl fb (fo + i * 4) rfl [.int .i64 ak,.int .i64 an,.int .u32 ai,.string as0] _ HRW.out Tryz.underlying68 rfl (by kernel_rfl) ?_)
       | ((with_reducible refine wpList_storeBD (C:=fun X=>Star (Star (BoxW (.pointer (some a1)) (⟨l⟩:BoxM)) (OwnO 68 4 (.slice A n c) n (askcs l))) X) (Fr.r ((BoxW.stab _ _).star oS) Fr.id_) HT4.out rfl 68 (.tmp 9) (.tmp 33) rfl #[.int .i64 ak,.int .i64 an,.int .u32 ai,.string as0] rfl rfl (by kernel_rfl) rfl (by simp [Value.oneCell']) ?_);intro w5 hs;have HS5:Hid (Done w [] (Star (Star (BoxW (.pointer (some a1)) (⟨l⟩:BoxM)) (OwnO 68 4 (.slice A n c) n (askcs l))) (CellW wr.heap.size (yC ak an ai as0) 68)) w5):=(by show Done _ _ _ _;exact hs);have cb:w5.cell? ⟨wr.heap.size,3,none⟩=some (.string as0):=cell_at (Done.at_ (C:=fun X=>Star (Star (BoxW (.pointer (some a1)) (⟨l⟩:BoxM)) (OwnO 68 4 (.slice A n c) n (askcs l))) X) (Fr.r ((BoxW.stab _ _).star oS) Fr.id_) hs) 3 _ rfl;clear hs)
       | (go_at_call 19;refine (HTX.out _).mono ?_;rintro e w' ⟨rfl,rfl⟩)
       | ((with_reducible refine wpList_storeD (C:=fun X=>Star (Star (BoxW (.pointer (some a1)) (⟨l⟩:BoxM)) (OwnO 68 4 (.slice A n c) n (askcs l))) X) (Fr.r ((BoxW.stab _ _).star oS) Fr.id_) HS5.out rfl 9 (.tmp 37) (.tmp 36) rfl 3 (.string ab) rfl rfl (by simp) (run_storeSg _ _ _) ?_);intro w6 hs;have HS6:Hid (Done w [] (Star (Star (BoxW (.pointer (some a1)) (⟨l⟩:BoxM)) (OwnO 68 4 (.slice A n c) n (askcs l))) (CellW wr.heap.size (yC ak an ai ab) 68)) w6):=(by show Done _ _ _ _;exact hs);clear hs)
       | (with_reducible refine wpList_loadD (C:=fun X=>Star (Star (BoxW (.pointer (some a1)) (⟨l⟩:BoxM)) (OwnO 68 4 (.slice A n c) n (askcs l))) X) (Fr.r ((BoxW.stab _ _).star oS) Fr.id_) HS6.out rfl 68 (.tmp 9) rfl rfl _ Tryz.underlying68 rfl (by kernel_rfl) ?_)
       | (go_at_call 45;((with_reducible refine (dcalls_keep (((BoxW.stab _ _).star oS).star cS) HS6.out (HRA.out _)).mono ?_);rintro e w8 ⟨rfl,hs⟩;have HS8:=jzD hs;clear hs)))
      obtain ⟨gx,hgx⟩:∃ g,g=wr.heap.size:=⟨_,rfl⟩
      rw [← hgx] at HS8
      rw [← hgx]
      clear hgx HT4 HS5 HS6 HRW HS3
      go_cut [7,11] (fun lv ev wx=>∃ (n2 c2:Nat) (l2:List AIn) (A2:Option Addr),lv=.slice A2 n2 c2∧n2=l2.length∧l2=(BoxM.put ⟨l⟩ (⟨ak,an,ai,ab⟩:AIn)).l∧ev=.int .i64 (BoxM.putE ⟨l⟩ (⟨ak,an,ai,ab⟩:AIn))∧Done w [] (Star (Star (BoxW (.pointer (some a1)) (⟨l⟩:BoxM)) (OwnO 68 4 (.slice A2 n2 c2) n2 (askcs l2))) (CellW gx (yC ak an ai ab) 68)) wx)
      case first =>
       cases mb
       · skip
         have HPL:Hid ((BoxM.put ⟨l⟩ (⟨ak,an,ai,ab⟩:AIn)).l=l):=by show _=_;rw [box_put_l,← HMB.out];rfl
         have HPE:Hid ((BoxM.putE ⟨l⟩ (⟨ak,an,ai,ab⟩:AIn))=1):=by show _=_;unfold BoxM.putE;rw [← HMB.out];rfl
         go_wp2_with fail
         go_meet
         exact ⟨n,c,l,A,rfl,HML.out,HPL.out.symm,by rw [HPE.out],HS8.out⟩
       · by_cases h8:8≤n
         · skip
           have HPL:Hid ((BoxM.put ⟨l⟩ (⟨ak,an,ai,ab⟩:AIn)).l=l):=by show _=_;rw [box_put_l,← HMB.out,if_pos rfl,if_pos (by have := HML.out;omega)]
           have HPE:Hid ((BoxM.putE ⟨l⟩ (⟨ak,an,ai,ab⟩:AIn))=3):=by show _=_;unfold BoxM.putE;rw [← HMB.out,if_pos rfl,if_pos (by have := HML.out;show 8≤l.length;omega)]
           have t8:decide ((8:Int)≤(n:Int))=true:=decide_eq_true (by omega)
           go_wp2_with fail
           go_meet
           exact ⟨n,c,l,A,rfl,HML.out,HPL.out.symm,by rw [HPE.out],HS8.out⟩
         · skip
           have HPL:Hid ((BoxM.put ⟨l⟩ (⟨ak,an,ai,ab⟩:AIn)).l=l ++ [(⟨ak,an,ai,ab⟩:AIn)]):=by show _=_;rw [box_put_l,← HMB.out,if_pos rfl,if_neg (by have := HML.out;omega)]
           have HPE:Hid ((BoxM.putE ⟨l⟩ (⟨ak,an,ai,ab⟩:AIn))=0):=by show _=_;unfold BoxM.putE;rw [← HMB.out,if_pos rfl,if_neg (by have := HML.out;show ¬ 8≤l.length;omega)]
           have t8:decide ((8:Int)≤(n:Int))=false:=decide_eq_false (by omega)
           have HT9:=jzD (HS8.out.add (((BoxW.stab _ _).star oS).star cS) (CellW.new w8 #[.int .i64 ak,.int .i64 an,.int .u32 ai,.string ab] 68))
           have HNB:Hid (n + 1≤1000000):=by show _≤_;omega
           have HAP:Hid (askcs (l ++ [(⟨ak,an,ai,ab⟩:AIn)])=askcs l ++ [.int .i64 ak,.int .i64 an,.int .u32 ai,.string ab]):=by show _=_;rw [askcs_app];rfl
           go_wp2_with (first
            | (with_reducible refine wpList_loadD (C:=fun X=>Star (Star (BoxW (.pointer (some a1)) (⟨l⟩:BoxM)) (OwnO 68 4 (.slice A n c) n (askcs l))) X) (Fr.r ((BoxW.stab _ _).star oS) Fr.id_) HS8.out rfl 68 (.tmp 9) rfl rfl _ Tryz.underlying68 rfl (by kernel_rfl) ?_)
            | (at_builtin;(with_reducible refine wpList_appO (C:=fun X=>Star (Star (Star (BoxW (.pointer (some a1)) (⟨l⟩:BoxM)) X) (CellW gx (yC ak an ai ab) 68)) (CellW w8.heap.size (yC ak an ai ab) 68)) (Fr.l (Fr.l (Fr.r (BoxW.stab _ _) Fr.id_) cS) cS) HT9.out rfl _ _ 63 40 (.agg #[.int .i64 0,.int .i64 0,.int .u32 0,.string ⟨#[]⟩]) rfl Tryz.underlying63 (by kernel_rfl) rfl (by decide) (.slice (some ⟨w8.heap.size,0,none⟩) 1 1) 1 [.int .i64 ak,.int .i64 an,.int .u32 ai,.string ab] rfl rfl (rdG_new (Done.at_ (C:=fun X=>Star (Star (Star (BoxW (.pointer (some a1)) (⟨l⟩:BoxM)) (OwnO 68 4 (.slice A n c) n (askcs l))) (CellW gx (yC ak an ai ab) 68)) X) (Fr.r (((BoxW.stab _ _).star oS).star cS) Fr.id_) HT9.out) rfl) (by decide) (by simp [Value.oneCell']) (n + 1) rfl HNB.out (askcs (l ++ [(⟨ak,an,ai,ab⟩:AIn)])) HAP.out ?_);intro A9 c9 w9 hs hc;have HS9:=jzD hs;clear hs hc))
           go_meet
           exact ⟨n + 1,c9,l ++ [(⟨ak,an,ai,ab⟩:AIn)],A9,rfl,by rw [List.length_append,HML.out];rfl,HPL.out.symm,by rw [HPE.out],HS9.out.drop⟩
      case rest =>
       clear HS8
       obtain ⟨n2,c2,l2,A2,rfl,hn2,hl2,rfl,hs⟩:=hcut
       have HS10:=jzD hs
       have hok2:=BoxM.ok.put (b:=⟨l⟩) ⟨by show l.length≤8;have := HML.out;omega,HLO.out⟩ HAO.out
       have hpm:(⟨l2⟩:BoxM)=BoxM.put ⟨l⟩ (⟨ak,an,ai,ab⟩:AIn):=by rw [hl2]
       rw [← hpm] at hok2
       obtain ⟨pe,hpe⟩:∃ e,e=BoxM.putE ⟨l⟩ (⟨ak,an,ai,ab⟩:AIn):=⟨_,rfl⟩
       rw [← hpe]
       have HPE:=jzD hpe
       have hmbb:(mb != mb)=false:=by simp
       have hpee:(pe != pe)=false:=by simp
       have HPM:=jzD hpm
       have HN2:=jzD hn2
       have HN8:Hid (n2≤8):=by show _≤_;rw [hn2];exact hok2.1
       have HOK2:Hid (∀ a ∈ l2,a.ok):=hok2.2
       have HLN:Hid ((n2:Int)=((⟨l2⟩:BoxM).l.length:Int)):=by show _=_;rw [hn2]
       clear hs hok2 hpm hpe hl2 hn2
       by_cases hiT:i < T
       · have t3:decide ((i:Int) < (T:Int))=true:=decide_eq_true (by omega)
         have hit:i < tl.length:=by rw [← HT.out];exact hiT
         obtain ⟨tv,htv⟩:∃ b,tl[i]?=some b:=⟨tl[i],List.getElem?_eq_getElem hit⟩
         obtain ⟨tb,to_,hta,hct⟩:=HTL.out.one (i:=i) (u:=.bool tv) (by rw [List.getElem?_map,htv];rfl) hiT
         subst hta
         have b2:(i:Int) < (T:Int):=by omega
         clear hit htv
         cases tv
         · have HTC:=jzD hct
           clear hct
           go_wp2_with (first
            | (with_reducible refine wpList_loadD (C:=fun X=>Star (Star (BoxW (.pointer (some a1)) (⟨l⟩:BoxM)) (OwnO 68 4 (.slice A2 n2 c2) n2 (askcs l2))) X) (Fr.r ((BoxW.stab _ _).star oS) Fr.id_) HS10.out rfl 68 (.tmp 9) rfl rfl _ Tryz.underlying68 rfl (by kernel_rfl) ?_)
            | (go_at_call 46;((with_reducible refine (dcalls_keep (((BoxW.stab _ _).star oS).star cS) HS10.out (HBM.out _)).mono ?_);rintro e w11 ⟨rfl,hs⟩;have HS11:Hid (Done w [] (Star (Star (BoxW (.pointer (some a1)) (⟨l⟩:BoxM)) (OwnO 68 4 (.slice A2 n2 c2) n2 (askcs l2))) (CellW gx (yC ak an ai ab) 68)) w11):=(by show Done _ _ _ _;exact hs);have x0_11:w11.cell? ⟨gx,0,none⟩=some (.int .i64 ak):=cell_at (Done.at_ (C:=fun X=>Star (Star (BoxW (.pointer (some a1)) (⟨l⟩:BoxM)) (OwnO 68 4 (.slice A2 n2 c2) n2 (askcs l2))) X) (Fr.r ((BoxW.stab _ _).star oS) Fr.id_) HS11.out) 0 _ rfl;have x1_11:w11.cell? ⟨gx,1,none⟩=some (.int .i64 an):=cell_at (Done.at_ (C:=fun X=>Star (Star (BoxW (.pointer (some a1)) (⟨l⟩:BoxM)) (OwnO 68 4 (.slice A2 n2 c2) n2 (askcs l2))) X) (Fr.r ((BoxW.stab _ _).star oS) Fr.id_) HS11.out) 1 _ rfl;have x2_11:w11.cell? ⟨gx,2,none⟩=some (.int .u32 ai):=cell_at (Done.at_ (C:=fun X=>Star (Star (BoxW (.pointer (some a1)) (⟨l⟩:BoxM)) (OwnO 68 4 (.slice A2 n2 c2) n2 (askcs l2))) X) (Fr.r ((BoxW.stab _ _).star oS) Fr.id_) HS11.out) 2 _ rfl;have x3_11:w11.cell? ⟨gx,3,none⟩=some (.string ab):=cell_at (Done.at_ (C:=fun X=>Star (Star (BoxW (.pointer (some a1)) (⟨l⟩:BoxM)) (OwnO 68 4 (.slice A2 n2 c2) n2 (askcs l2))) X) (Fr.r ((BoxW.stab _ _).star oS) Fr.id_) HS11.out) 3 _ rfl;clear hs))
            | (go_at_call 47;((with_reducible refine (dB_put (a:=(⟨ak,an,ai,ab⟩:AIn)) (n:=pe) (m' := (⟨l2⟩:BoxM)) HAO.out HPE.out HPM.out (C:=fun X=>Star (Star (X) (OwnO 68 4 (.slice A2 n2 c2) n2 (askcs l2))) (CellW gx (yC ak an ai ab) 68)) (Fr.l (Fr.l Fr.id_ oS) cS) HS11.out).mono ?_);rintro e w12 ⟨rfl,hs⟩;have HS12:Hid (Done w [] (Star (Star (BoxW (.pointer (some a1)) (⟨l2⟩:BoxM)) (OwnO 68 4 (.slice A2 n2 c2) n2 (askcs l2))) (CellW gx (yC ak an ai ab) 68)) w12):=(by show Done _ _ _ _;exact hs);have ct_12:w12.cell? ⟨tb,to_ + i,none⟩=some (.bool false):=((HS12.out).bel.cell (p:=⟨tb,to_ + i,none⟩) (World.block_lt_of_cell? _ _ HTC.out)).trans HTC.out;clear hs))
            | (go_at_call 50;((with_reducible refine (dB_len (m:=(⟨l2⟩:BoxM)) (n:=(n2:Int)) HLN.out (C:=fun X=>Star (Star (X) (OwnO 68 4 (.slice A2 n2 c2) n2 (askcs l2))) (CellW gx (yC ak an ai ab) 68)) (Fr.l (Fr.l Fr.id_ oS) cS) (((BoxW.stab _ _).star oS).star cS) HS12.out).mono ?_);rintro e w13 ⟨rfl,hs⟩;have HS13:Hid (Done w [] (Star (Star (BoxW (.pointer (some a1)) (⟨l2⟩:BoxM)) (OwnO 68 4 (.slice A2 n2 c2) n2 (askcs l2))) (CellW gx (yC ak an ai ab) 68)) w13):=(by show Done _ _ _ _;exact hs);clear hs)))
           go_roundw
           case rel=>exact ⟨i + 1,n2,c2,l2,A2,by omega,by omega,by go_num,rfl,HN2.out,HN8.out,HOK2.out,HS13.out.drop⟩
           case measure=>simp [intOf] <;> omega
         · have HTC:=jzD hct
           clear hct
           cases l2 with
           | nil =>
            obtain rfl:n2=0:=HN2.out
            go_wp2_with (first
             | (with_reducible refine wpList_loadD (C:=fun X=>Star (Star (BoxW (.pointer (some a1)) (⟨l⟩:BoxM)) (OwnO 68 4 (.slice A2 0 c2) 0 (askcs []))) X) (Fr.r ((BoxW.stab _ _).star oS) Fr.id_) HS10.out rfl 68 (.tmp 9) rfl rfl _ Tryz.underlying68 rfl (by kernel_rfl) ?_)
             | ((with_reducible refine wpList_storeBD (C:=fun X=>Star (Star (Star (BoxW (.pointer (some a1)) (⟨[]⟩:BoxM)) (OwnO 68 4 (.slice A2 0 c2) 0 (askcs []))) (CellW gx (yC ak an ai ab) 68)) X) (Fr.r (((BoxW.stab _ _).star oS).star cS) Fr.id_) HT13.out rfl 68 (.tmp 12) (.tmp 75) rfl #[.int .i64 0,.int .i64 0,.int .u32 0,.string ⟨#[]⟩] rfl rfl (by kernel_rfl) rfl (by kernel_rfl) ?_);intro w14 hs;have HS14:Hid (Done w [] (Star (Star (Star (BoxW (.pointer (some a1)) (⟨[]⟩:BoxM)) (OwnO 68 4 (.slice A2 0 c2) 0 (askcs []))) (CellW gx (yC ak an ai ab) 68)) (CellW w13.heap.size (yC 0 0 0 ⟨#[]⟩) 68)) w14):=(by show Done _ _ _ _;exact hs);clear hs)
             | ((with_reducible refine wpList_storeBD (C:=fun X=>Star (Star (Star (Star (BoxW (.pointer (some a1)) (⟨[]⟩:BoxM)) (OwnO 68 4 (.slice A2 0 c2) 0 (askcs []))) (CellW gx (yC ak an ai ab) 68)) (CellW w13.heap.size (yC 0 0 0 ⟨#[]⟩) 68)) X) (Fr.r ((((BoxW.stab _ _).star oS).star cS).star cS) Fr.id_) HT15.out rfl 68 (.tmp 14) (.tmp 80) rfl #[.int .i64 0,.int .i64 0,.int .u32 0,.string ⟨#[]⟩] rfl rfl (by kernel_rfl) rfl (by kernel_rfl) ?_);intro w16 hs;have HS16:Hid (Done w [] (Star (Star (Star (Star (BoxW (.pointer (some a1)) (⟨[]⟩:BoxM)) (OwnO 68 4 (.slice A2 0 c2) 0 (askcs []))) (CellW gx (yC ak an ai ab) 68)) (CellW w13.heap.size (yC 0 0 0 ⟨#[]⟩) 68)) (CellW w15.heap.size (yC 0 0 0 ⟨#[]⟩) 68)) w16):=(by show Done _ _ _ _;exact hs);clear hs)
             | (go_at_call 46;((with_reducible refine (dcalls_keep (((BoxW.stab _ _).star oS).star cS) HS10.out (HBM.out _)).mono ?_);rintro e w11 ⟨rfl,hs⟩;have HS11:Hid (Done w [] (Star (Star (BoxW (.pointer (some a1)) (⟨l⟩:BoxM)) (OwnO 68 4 (.slice A2 0 c2) 0 (askcs []))) (CellW gx (yC ak an ai ab) 68)) w11):=(by show Done _ _ _ _;exact hs);have x0_11:w11.cell? ⟨gx,0,none⟩=some (.int .i64 ak):=cell_at (Done.at_ (C:=fun X=>Star (Star (BoxW (.pointer (some a1)) (⟨l⟩:BoxM)) (OwnO 68 4 (.slice A2 0 c2) 0 (askcs []))) X) (Fr.r ((BoxW.stab _ _).star oS) Fr.id_) HS11.out) 0 _ rfl;have x1_11:w11.cell? ⟨gx,1,none⟩=some (.int .i64 an):=cell_at (Done.at_ (C:=fun X=>Star (Star (BoxW (.pointer (some a1)) (⟨l⟩:BoxM)) (OwnO 68 4 (.slice A2 0 c2) 0 (askcs []))) X) (Fr.r ((BoxW.stab _ _).star oS) Fr.id_) HS11.out) 1 _ rfl;have x2_11:w11.cell? ⟨gx,2,none⟩=some (.int .u32 ai):=cell_at (Done.at_ (C:=fun X=>Star (Star (BoxW (.pointer (some a1)) (⟨l⟩:BoxM)) (OwnO 68 4 (.slice A2 0 c2) 0 (askcs []))) X) (Fr.r ((BoxW.stab _ _).star oS) Fr.id_) HS11.out) 2 _ rfl;have x3_11:w11.cell? ⟨gx,3,none⟩=some (.string ab):=cell_at (Done.at_ (C:=fun X=>Star (Star (BoxW (.pointer (some a1)) (⟨l⟩:BoxM)) (OwnO 68 4 (.slice A2 0 c2) 0 (askcs []))) X) (Fr.r ((BoxW.stab _ _).star oS) Fr.id_) HS11.out) 3 _ rfl;clear hs))
             | (go_at_call 47;((with_reducible refine (dB_put (a:=(⟨ak,an,ai,ab⟩:AIn)) (n:=pe) (m' := (⟨[]⟩:BoxM)) HAO.out HPE.out HPM.out (C:=fun X=>Star (Star (X) (OwnO 68 4 (.slice A2 0 c2) 0 (askcs []))) (CellW gx (yC ak an ai ab) 68)) (Fr.l (Fr.l Fr.id_ oS) cS) HS11.out).mono ?_);rintro e w12 ⟨rfl,hs⟩;have HS12:Hid (Done w [] (Star (Star (BoxW (.pointer (some a1)) (⟨[]⟩:BoxM)) (OwnO 68 4 (.slice A2 0 c2) 0 (askcs []))) (CellW gx (yC ak an ai ab) 68)) w12):=(by show Done _ _ _ _;exact hs);have ct_12:w12.cell? ⟨tb,to_ + i,none⟩=some (.bool true):=((HS12.out).bel.cell (p:=⟨tb,to_ + i,none⟩) (World.block_lt_of_cell? _ _ HTC.out)).trans HTC.out;clear hs))
             | (go_at_call 48;((with_reducible refine (dB_first (m:=(⟨[]⟩:BoxM)) (a:=AIn.z) (b:=false) rfl rfl (C:=fun X=>Star (Star (X) (OwnO 68 4 (.slice A2 0 c2) 0 (askcs []))) (CellW gx (yC ak an ai ab) 68)) (Fr.l (Fr.l Fr.id_ oS) cS) (((BoxW.stab _ _).star oS).star cS) HS12.out).mono ?_);rintro e w13 ⟨rfl,hs⟩;have HS13:Hid (Done w [] (Star (Star (BoxW (.pointer (some a1)) (⟨[]⟩:BoxM)) (OwnO 68 4 (.slice A2 0 c2) 0 (askcs []))) (CellW gx (yC ak an ai ab) 68)) w13):=(by show Done _ _ _ _;exact hs);clear hs;have HT13:Hid (Done w [] (Star (Star (Star (BoxW (.pointer (some a1)) (⟨[]⟩:BoxM)) (OwnO 68 4 (.slice A2 0 c2) 0 (askcs []))) (CellW gx (yC ak an ai ab) 68)) (CellW w13.heap.size (yC 0 0 0 ⟨#[]⟩) 68)) (w13.alloc (.cells (yC 0 0 0 ⟨#[]⟩) 68))):=HS13.out.add (((BoxW.stab _ _).star oS).star cS) (CellW.new w13 #[.int .i64 0,.int .i64 0,.int .u32 0,.string ⟨#[]⟩] 68)))
             | (go_at_call 49;((with_reducible refine (dB_take (m:=(⟨[]⟩:BoxM)) (m' := (⟨[]⟩:BoxM)) (a:=AIn.z) (b:=false) rfl rfl rfl (C:=fun X=>Star (Star (Star (X) (OwnO 68 4 (.slice A2 0 c2) 0 (askcs []))) (CellW gx (yC ak an ai ab) 68)) (CellW w13.heap.size (yC 0 0 0 ⟨#[]⟩) 68)) (Fr.l (Fr.l (Fr.l Fr.id_ oS) cS) cS) HS14.out).mono ?_);rintro e w15 ⟨rfl,hs⟩;have HS15:Hid (Done w [] (Star (Star (Star (BoxW (.pointer (some a1)) (⟨[]⟩:BoxM)) (OwnO 68 4 (.slice A2 0 c2) 0 (askcs []))) (CellW gx (yC ak an ai ab) 68)) (CellW w13.heap.size (yC 0 0 0 ⟨#[]⟩) 68)) w15):=(by show Done _ _ _ _;exact hs);clear hs;have HT15:Hid (Done w [] (Star (Star (Star (Star (BoxW (.pointer (some a1)) (⟨[]⟩:BoxM)) (OwnO 68 4 (.slice A2 0 c2) 0 (askcs []))) (CellW gx (yC ak an ai ab) 68)) (CellW w13.heap.size (yC 0 0 0 ⟨#[]⟩) 68)) (CellW w15.heap.size (yC 0 0 0 ⟨#[]⟩) 68)) (w15.alloc (.cells (yC 0 0 0 ⟨#[]⟩) 68))):=HS15.out.add ((((BoxW.stab _ _).star oS).star cS).star cS) (CellW.new w15 #[.int .i64 0,.int .i64 0,.int .u32 0,.string ⟨#[]⟩] 68))))
            refine regq (fun W=>Below w16.heap.size w16 W) (by kernel_rfl) (by kernel_rfl) ((Below.refl _ _).drew) ?_
            iterate 11 refine qtk ?_
            refine q_take (v:=.agg #[.int .i64 0,.int .i64 0,.int .u32 0,.string ⟨#[]⟩]) (by rfl) (fun W HW=>exec_loadB rfl rfl (keep_at (Done.at_ (C:=fun X=>Star (Star (Star (Star (BoxW (.pointer (some a1)) (⟨[]⟩:BoxM)) (OwnO 68 4 (.slice A2 0 c2) 0 (askcs []))) (CellW gx (yC ak an ai ab) 68)) X) (CellW w15.heap.size (yC 0 0 0 ⟨#[]⟩) 68)) (Fr.l (Fr.r (((BoxW.stab _ _).star oS).star cS) Fr.id_) cS) HS16.out) HW) Tryz.underlying68 rfl (by kernel_rfl)) ?_
            simp only [Act.put,jzU,jzV,jzW]
            refine q_take (v:=.agg #[.int .i64 0,.int .i64 0,.int .u32 0,.string ⟨#[]⟩]) (by rfl) (fun W HW=>exec_loadB rfl rfl (keep_at (Done.at_ (C:=fun X=>Star (Star (Star (Star (BoxW (.pointer (some a1)) (⟨[]⟩:BoxM)) (OwnO 68 4 (.slice A2 0 c2) 0 (askcs []))) (CellW gx (yC ak an ai ab) 68)) (CellW w13.heap.size (yC 0 0 0 ⟨#[]⟩) 68)) X) (Fr.r ((((BoxW.stab _ _).star oS).star cS).star cS) Fr.id_) HS16.out) HW) Tryz.underlying68 rfl (by kernel_rfl)) ?_
            simp only [Act.put,jzU,jzV,jzW]
            refine q_take (v:=.bool false) (by rfl) (fun W HW=>exec_cmp rfl rfl rfl (guard_A _ _ _ _ _ _) (neq_ask AIn.z _)) ?_
            simp only [Act.put,jzU,jzV,jzW]
            iterate 4 refine qtk ?_
            iterate 5 refine qsk ?_
            iterate 2 refine qtk ?_
            refine q_done ?_
            intro w17 hb
            have HS18:=jzD (HS16.out.keep (((((BoxW.stab _ _).star oS).star cS).star cS).star cS) hb)
            clear hb
            go_wp2_with (first
             | (go_at_call 50;((with_reducible refine (dB_len (m:=(⟨[]⟩:BoxM)) (n:=0) rfl (C:=fun X=>Star (Star (Star (Star (X) (OwnO 68 4 (.slice A2 0 c2) 0 (askcs []))) (CellW gx (yC ak an ai ab) 68)) (CellW w13.heap.size (yC 0 0 0 ⟨#[]⟩) 68)) (CellW w15.heap.size (yC 0 0 0 ⟨#[]⟩) 68)) (Fr.l (Fr.l (Fr.l (Fr.l Fr.id_ oS) cS) cS) cS) (((((BoxW.stab _ _).star oS).star cS).star cS).star cS) HS18.out).mono ?_);rintro e w19 ⟨rfl,hs⟩;have HS19:Hid (Done w [] (Star (Star (Star (Star (BoxW (.pointer (some a1)) (⟨[]⟩:BoxM)) (OwnO 68 4 (.slice A2 0 c2) 0 (askcs []))) (CellW gx (yC ak an ai ab) 68)) (CellW w13.heap.size (yC 0 0 0 ⟨#[]⟩) 68)) (CellW w15.heap.size (yC 0 0 0 ⟨#[]⟩) 68)) w19):=(by show Done _ _ _ _;exact hs);clear hs)))
            go_roundw
            case rel=>exact ⟨i + 1,0,c2,[],A2,by omega,by omega,by go_num,rfl,rfl,by omega,(fun a ha=>by cases ha),HS19.out.drop.drop.drop⟩
            case measure=>simp [intOf] <;> omega
           | cons h r =>
            obtain ⟨m,rfl⟩:∃ m,n2=m + 1:=⟨r.length,HN2.out⟩
            have HMR:Hid (m=r.length):=by show _=_;have := HN2.out;simp only [List.length_cons] at this;omega
            have HLR:Hid ((m:Int)=((⟨r⟩:BoxM).l.length:Int)):=by show _=_;rw [HMR.out]
            obtain ⟨gl,ol,rfl⟩:∃ g o,A2=some ⟨g,o,none⟩:=by
             obtain ⟨_,hw⟩:=Done.get (C:=fun X=>Star (Star (BoxW (.pointer (some a1)) (⟨l⟩:BoxM)) X) (CellW gx (yC ak an ai ab) 68)) (Fr.l (Fr.r (BoxW.stab _ _) Fr.id_) cS) HS10.out
             exact hw.addr (by omega)
            have hcc:m + 1≤c2:=by
             obtain ⟨_,hw⟩:=Done.get (C:=fun X=>Star (Star (BoxW (.pointer (some a1)) (⟨l⟩:BoxM)) X) (CellW gx (yC ak an ai ab) 68)) (Fr.l (Fr.r (BoxW.stab _ _) Fr.id_) cS) HS10.out
             obtain ⟨A', c', e,h1,_⟩:=hw.shape
             injection e with _ _ e3
             subst e3
             exact h1
            have t4:decide ((0:Int) < ((m + 1:Nat):Int))=true:=decide_eq_true (by omega)
            have t5:decide (0 < m + 1)=true:=decide_eq_true (by omega)
            have b4:(0:Int) < ((m + 1:Nat):Int):=by omega
            have b5:(1:Int)≤((m + 1:Nat):Int):=by omega
            have b6:(1:Int)≤(c2:Int):=by omega
            have b7:((m + 1:Nat):Int)≤(c2:Int):=by omega
            go_wp2_with (first
             | (with_reducible refine wpList_loadD (C:=fun X=>Star (Star (BoxW (.pointer (some a1)) (⟨l⟩:BoxM)) (OwnO 68 4 (.slice (some ⟨gl,ol,none⟩) (m + 1) c2) (m + 1) (askcs (h :: r)))) X) (Fr.r ((BoxW.stab _ _).star oS) Fr.id_) HS10.out rfl 68 (.tmp 9) rfl rfl _ Tryz.underlying68 rfl (by kernel_rfl) ?_)
             | ((with_reducible refine wpList_storeBD (C:=fun X=>Star (Star (Star (BoxW (.pointer (some a1)) (⟨(h :: r)⟩:BoxM)) (OwnO 68 4 (.slice (some ⟨gl,ol,none⟩) (m + 1) c2) (m + 1) (askcs (h :: r)))) (CellW gx (yC ak an ai ab) 68)) X) (Fr.r (((BoxW.stab _ _).star oS).star cS) Fr.id_) HT13.out rfl 68 (.tmp 12) (.tmp 75) rfl #[.int .i64 h.kind,.int .i64 h.n,.int .u32 h.id,.string h.body] rfl rfl (by kernel_rfl) rfl (by simp [Value.oneCell']) ?_);intro w14 hs;have HS14:Hid (Done w [] (Star (Star (Star (BoxW (.pointer (some a1)) (⟨(h :: r)⟩:BoxM)) (OwnO 68 4 (.slice (some ⟨gl,ol,none⟩) (m + 1) c2) (m + 1) (askcs (h :: r)))) (CellW gx (yC ak an ai ab) 68)) (CellW w13.heap.size (yC h.kind h.n h.id h.body) 68)) w14):=(by show Done _ _ _ _;exact hs);clear hs)
             | ((with_reducible refine wpList_storeBD (C:=fun X=>Star (Star (Star (Star (BoxW (.pointer (some a1)) (⟨r⟩:BoxM)) (OwnO 68 4 (.slice (some ⟨gl,ol,none⟩) (m + 1) c2) (m + 1) (askcs (h :: r)))) (CellW gx (yC ak an ai ab) 68)) (CellW w13.heap.size (yC h.kind h.n h.id h.body) 68)) X) (Fr.r ((((BoxW.stab _ _).star oS).star cS).star cS) Fr.id_) HT15.out rfl 68 (.tmp 14) (.tmp 80) rfl #[.int .i64 h.kind,.int .i64 h.n,.int .u32 h.id,.string h.body] rfl rfl (by kernel_rfl) rfl (by simp [Value.oneCell']) ?_);intro w16 hs;have HS16:Hid (Done w [] (Star (Star (Star (Star (BoxW (.pointer (some a1)) (⟨r⟩:BoxM)) (OwnO 68 4 (.slice (some ⟨gl,ol,none⟩) (m + 1) c2) (m + 1) (askcs (h :: r)))) (CellW gx (yC ak an ai ab) 68)) (CellW w13.heap.size (yC h.kind h.n h.id h.body) 68)) (CellW w15.heap.size (yC h.kind h.n h.id h.body) 68)) w16):=(by show Done _ _ _ _;exact hs);clear hs)
             | (go_at_call 46;((with_reducible refine (dcalls_keep (((BoxW.stab _ _).star oS).star cS) HS10.out (HBM.out _)).mono ?_);rintro e w11 ⟨rfl,hs⟩;have HS11:Hid (Done w [] (Star (Star (BoxW (.pointer (some a1)) (⟨l⟩:BoxM)) (OwnO 68 4 (.slice (some ⟨gl,ol,none⟩) (m + 1) c2) (m + 1) (askcs (h :: r)))) (CellW gx (yC ak an ai ab) 68)) w11):=(by show Done _ _ _ _;exact hs);have x0_11:w11.cell? ⟨gx,0,none⟩=some (.int .i64 ak):=cell_at (Done.at_ (C:=fun X=>Star (Star (BoxW (.pointer (some a1)) (⟨l⟩:BoxM)) (OwnO 68 4 (.slice (some ⟨gl,ol,none⟩) (m + 1) c2) (m + 1) (askcs (h :: r)))) X) (Fr.r ((BoxW.stab _ _).star oS) Fr.id_) HS11.out) 0 _ rfl;have x1_11:w11.cell? ⟨gx,1,none⟩=some (.int .i64 an):=cell_at (Done.at_ (C:=fun X=>Star (Star (BoxW (.pointer (some a1)) (⟨l⟩:BoxM)) (OwnO 68 4 (.slice (some ⟨gl,ol,none⟩) (m + 1) c2) (m + 1) (askcs (h :: r)))) X) (Fr.r ((BoxW.stab _ _).star oS) Fr.id_) HS11.out) 1 _ rfl;have x2_11:w11.cell? ⟨gx,2,none⟩=some (.int .u32 ai):=cell_at (Done.at_ (C:=fun X=>Star (Star (BoxW (.pointer (some a1)) (⟨l⟩:BoxM)) (OwnO 68 4 (.slice (some ⟨gl,ol,none⟩) (m + 1) c2) (m + 1) (askcs (h :: r)))) X) (Fr.r ((BoxW.stab _ _).star oS) Fr.id_) HS11.out) 2 _ rfl;have x3_11:w11.cell? ⟨gx,3,none⟩=some (.string ab):=cell_at (Done.at_ (C:=fun X=>Star (Star (BoxW (.pointer (some a1)) (⟨l⟩:BoxM)) (OwnO 68 4 (.slice (some ⟨gl,ol,none⟩) (m + 1) c2) (m + 1) (askcs (h :: r)))) X) (Fr.r ((BoxW.stab _ _).star oS) Fr.id_) HS11.out) 3 _ rfl;clear hs))
             | (go_at_call 47;((with_reducible refine (dB_put (a:=(⟨ak,an,ai,ab⟩:AIn)) (n:=pe) (m' := (⟨(h :: r)⟩:BoxM)) HAO.out HPE.out HPM.out (C:=fun X=>Star (Star (X) (OwnO 68 4 (.slice (some ⟨gl,ol,none⟩) (m + 1) c2) (m + 1) (askcs (h :: r)))) (CellW gx (yC ak an ai ab) 68)) (Fr.l (Fr.l Fr.id_ oS) cS) HS11.out).mono ?_);rintro e w12 ⟨rfl,hs⟩;have HS12:Hid (Done w [] (Star (Star (BoxW (.pointer (some a1)) (⟨(h :: r)⟩:BoxM)) (OwnO 68 4 (.slice (some ⟨gl,ol,none⟩) (m + 1) c2) (m + 1) (askcs (h :: r)))) (CellW gx (yC ak an ai ab) 68)) w12):=(by show Done _ _ _ _;exact hs);have ct_12:w12.cell? ⟨tb,to_ + i,none⟩=some (.bool true):=((HS12.out).bel.cell (p:=⟨tb,to_ + i,none⟩) (World.block_lt_of_cell? _ _ HTC.out)).trans HTC.out;clear hs))
             | (go_at_call 48;((with_reducible refine (dB_first (m:=(⟨(h :: r)⟩:BoxM)) (a:=h) (b:=true) rfl rfl (C:=fun X=>Star (Star (X) (OwnO 68 4 (.slice (some ⟨gl,ol,none⟩) (m + 1) c2) (m + 1) (askcs (h :: r)))) (CellW gx (yC ak an ai ab) 68)) (Fr.l (Fr.l Fr.id_ oS) cS) (((BoxW.stab _ _).star oS).star cS) HS12.out).mono ?_);rintro e w13 ⟨rfl,hs⟩;have HS13:Hid (Done w [] (Star (Star (BoxW (.pointer (some a1)) (⟨(h :: r)⟩:BoxM)) (OwnO 68 4 (.slice (some ⟨gl,ol,none⟩) (m + 1) c2) (m + 1) (askcs (h :: r)))) (CellW gx (yC ak an ai ab) 68)) w13):=(by show Done _ _ _ _;exact hs);clear hs;have HT13:Hid (Done w [] (Star (Star (Star (BoxW (.pointer (some a1)) (⟨(h :: r)⟩:BoxM)) (OwnO 68 4 (.slice (some ⟨gl,ol,none⟩) (m + 1) c2) (m + 1) (askcs (h :: r)))) (CellW gx (yC ak an ai ab) 68)) (CellW w13.heap.size (yC 0 0 0 ⟨#[]⟩) 68)) (w13.alloc (.cells (yC 0 0 0 ⟨#[]⟩) 68))):=HS13.out.add (((BoxW.stab _ _).star oS).star cS) (CellW.new w13 #[.int .i64 0,.int .i64 0,.int .u32 0,.string ⟨#[]⟩] 68)))
             | (go_at_call 49;((with_reducible refine (dB_take (m:=(⟨(h :: r)⟩:BoxM)) (m' := (⟨r⟩:BoxM)) (a:=h) (b:=true) rfl rfl rfl (C:=fun X=>Star (Star (Star (X) (OwnO 68 4 (.slice (some ⟨gl,ol,none⟩) (m + 1) c2) (m + 1) (askcs (h :: r)))) (CellW gx (yC ak an ai ab) 68)) (CellW w13.heap.size (yC h.kind h.n h.id h.body) 68)) (Fr.l (Fr.l (Fr.l Fr.id_ oS) cS) cS) HS14.out).mono ?_);rintro e w15 ⟨rfl,hs⟩;have HS15:Hid (Done w [] (Star (Star (Star (BoxW (.pointer (some a1)) (⟨r⟩:BoxM)) (OwnO 68 4 (.slice (some ⟨gl,ol,none⟩) (m + 1) c2) (m + 1) (askcs (h :: r)))) (CellW gx (yC ak an ai ab) 68)) (CellW w13.heap.size (yC h.kind h.n h.id h.body) 68)) w15):=(by show Done _ _ _ _;exact hs);clear hs;have HT15:Hid (Done w [] (Star (Star (Star (Star (BoxW (.pointer (some a1)) (⟨r⟩:BoxM)) (OwnO 68 4 (.slice (some ⟨gl,ol,none⟩) (m + 1) c2) (m + 1) (askcs (h :: r)))) (CellW gx (yC ak an ai ab) 68)) (CellW w13.heap.size (yC h.kind h.n h.id h.body) 68)) (CellW w15.heap.size (yC 0 0 0 ⟨#[]⟩) 68)) (w15.alloc (.cells (yC 0 0 0 ⟨#[]⟩) 68))):=HS15.out.add ((((BoxW.stab _ _).star oS).star cS).star cS) (CellW.new w15 #[.int .i64 0,.int .i64 0,.int .u32 0,.string ⟨#[]⟩] 68))))
            have HHD:Hid (∀ (j:Nat) (v:Value),[Value.int .i64 h.kind,.int .i64 h.n,.int .u32 h.id,.string h.body][j]?=some v→w16.cell? ⟨gl,ol + j,none⟩=some v):=(Done.get (C:=fun X=>Star (Star (Star (Star (BoxW (.pointer (some a1)) (⟨r⟩:BoxM)) X) (CellW gx (yC ak an ai ab) 68)) (CellW w13.heap.size (yC h.kind h.n h.id h.body) 68)) (CellW w15.heap.size (yC h.kind h.n h.id h.body) 68)) (Fr.l (Fr.l (Fr.l (Fr.r (BoxW.stab _ _) Fr.id_) cS) cS) cS) HS16.out).elim fun _ hh j v hv=>hh.cell (by have := askcs_get (l:=h :: r) (i:=0) rfl hv;rwa [Nat.zero_mul,Nat.zero_add] at this)
            refine regq (fun W=>Below w16.heap.size w16 W) (by kernel_rfl) (by kernel_rfl) ((Below.refl _ _).drew) ?_
            iterate 11 refine qtk ?_
            refine q_take (v:=.agg #[.int .i64 h.kind,.int .i64 h.n,.int .u32 h.id,.string h.body]) (by rfl) (fun W HW=>exec_loadB rfl rfl (keep_at (Done.at_ (C:=fun X=>Star (Star (Star (Star (BoxW (.pointer (some a1)) (⟨r⟩:BoxM)) (OwnO 68 4 (.slice (some ⟨gl,ol,none⟩) (m + 1) c2) (m + 1) (askcs (h :: r)))) (CellW gx (yC ak an ai ab) 68)) X) (CellW w15.heap.size (yC h.kind h.n h.id h.body) 68)) (Fr.l (Fr.r (((BoxW.stab _ _).star oS).star cS) Fr.id_) cS) HS16.out) HW) Tryz.underlying68 rfl (by kernel_rfl)) ?_
            simp only [Act.put,jzU,jzV,jzW]
            refine q_take (v:=.agg #[.int .i64 h.kind,.int .i64 h.n,.int .u32 h.id,.string h.body]) (by rfl) (fun W HW=>exec_loadB rfl rfl (keep_at (Done.at_ (C:=fun X=>Star (Star (Star (Star (BoxW (.pointer (some a1)) (⟨r⟩:BoxM)) (OwnO 68 4 (.slice (some ⟨gl,ol,none⟩) (m + 1) c2) (m + 1) (askcs (h :: r)))) (CellW gx (yC ak an ai ab) 68)) (CellW w13.heap.size (yC h.kind h.n h.id h.body) 68)) X) (Fr.r ((((BoxW.stab _ _).star oS).star cS).star cS) Fr.id_) HS16.out) HW) Tryz.underlying68 rfl (by kernel_rfl)) ?_
            simp only [Act.put,jzU,jzV,jzW]
            refine q_take (v:=.bool false) (by rfl) (fun W HW=>exec_cmp rfl rfl rfl (guard_A _ _ _ _ _ _) (neq_ask h _)) ?_
            simp only [Act.put,jzU,jzV,jzW]
            iterate 4 refine qtk ?_
            refine q_take (v:=.agg #[.int .i64 h.kind,.int .i64 h.n,.int .u32 h.id,.string h.body]) (by rfl) (fun W HW=>exec_loadB rfl rfl (keep_at (Done.at_ (C:=fun X=>Star (Star (Star (Star (BoxW (.pointer (some a1)) (⟨r⟩:BoxM)) (OwnO 68 4 (.slice (some ⟨gl,ol,none⟩) (m + 1) c2) (m + 1) (askcs (h :: r)))) (CellW gx (yC ak an ai ab) 68)) X) (CellW w15.heap.size (yC h.kind h.n h.id h.body) 68)) (Fr.l (Fr.r (((BoxW.stab _ _).star oS).star cS) Fr.id_) cS) HS16.out) HW) Tryz.underlying68 rfl (by kernel_rfl)) ?_
            simp only [Act.put,jzU,jzV,jzW]
            iterate 2 refine qtk ?_
            refine q_take (v:=.agg #[.int .i64 h.kind,.int .i64 h.n,.int .u32 h.id,.string h.body]) (by rfl) (fun W HW=>exec_loadM (cs:=[.int .i64 h.kind,.int .i64 h.n,.int .u32 h.id,.string h.body]) rfl rfl (fun j v hv=>(HW.cell (p:=⟨gl,ol + j,none⟩) (World.block_lt_of_cell? _ _ (HHD.out j v hv))).trans (HHD.out j v hv)) Tryz.underlying68 rfl (by kernel_rfl)) ?_
            simp only [Act.put,jzU,jzV,jzW]
            refine q_take (v:=.bool false) (by rfl) (fun W HW=>exec_cmp rfl rfl rfl (guard_A _ _ _ _ _ _) (neq_ask h _)) ?_
            simp only [Act.put,jzU,jzV,jzW]
            iterate 2 refine qtk ?_
            refine q_done ?_
            intro w17 hb
            have HS18:=jzD (HS16.out.keep (((((BoxW.stab _ _).star oS).star cS).star cS).star cS) hb)
            clear hb
            go_wp2_with (first
             | (go_at_call 50;((with_reducible refine (dB_len (m:=(⟨r⟩:BoxM)) (n:=(m:Int)) HLR.out (C:=fun X=>Star (Star (Star (Star (X) (OwnO 68 4 (.slice (some ⟨gl,ol,none⟩) (m + 1) c2) (m + 1) (askcs (h :: r)))) (CellW gx (yC ak an ai ab) 68)) (CellW w13.heap.size (yC h.kind h.n h.id h.body) 68)) (CellW w15.heap.size (yC h.kind h.n h.id h.body) 68)) (Fr.l (Fr.l (Fr.l (Fr.l Fr.id_ oS) cS) cS) cS) (((((BoxW.stab _ _).star oS).star cS).star cS).star cS) HS18.out).mono ?_);rintro e w19 ⟨rfl,hs⟩;have HS19:Hid (Done w [] (Star (Star (Star (Star (BoxW (.pointer (some a1)) (⟨r⟩:BoxM)) (OwnO 68 4 (.slice (some ⟨gl,ol,none⟩) (m + 1) c2) (m + 1) (askcs (h :: r)))) (CellW gx (yC ak an ai ab) 68)) (CellW w13.heap.size (yC h.kind h.n h.id h.body) 68)) (CellW w15.heap.size (yC h.kind h.n h.id h.body) 68)) w19):=(by show Done _ _ _ _;exact hs);clear hs)))
            go_roundw
            case rel=>exact ⟨i + 1,m,c2 - 1,r,_,by omega,by omega,by go_num,rfl,HMR.out,by have := HN8.out;omega,fun a ha=>HOK2.out a (List.mem_cons_of_mem _ ha),Done.mono_at (C:=fun X=>Star (BoxW (.pointer (some a1)) (⟨r⟩:BoxM)) X) (Fr.r (BoxW.stab _ _) Fr.id_) HS19.out.drop.drop.drop (fun F hF=>hF.rest (by omega) rfl)⟩
            case measure=>simp [intOf] <;> omega
       · have t3:decide ((i:Int) < (T:Int))=false:=decide_eq_false (by omega)
         go_wp2_with (first
          | (with_reducible refine wpList_loadD (C:=fun X=>Star (Star (BoxW (.pointer (some a1)) (⟨l⟩:BoxM)) (OwnO 68 4 (.slice A2 n2 c2) n2 (askcs l2))) X) (Fr.r ((BoxW.stab _ _).star oS) Fr.id_) HS10.out rfl 68 (.tmp 9) rfl rfl _ Tryz.underlying68 rfl (by kernel_rfl) ?_)
          | (go_at_call 46;((with_reducible refine (dcalls_keep (((BoxW.stab _ _).star oS).star cS) HS10.out (HBM.out _)).mono ?_);rintro e w11 ⟨rfl,hs⟩;have HS11:Hid (Done w [] (Star (Star (BoxW (.pointer (some a1)) (⟨l⟩:BoxM)) (OwnO 68 4 (.slice A2 n2 c2) n2 (askcs l2))) (CellW gx (yC ak an ai ab) 68)) w11):=(by show Done _ _ _ _;exact hs);have x0_11:w11.cell? ⟨gx,0,none⟩=some (.int .i64 ak):=cell_at (Done.at_ (C:=fun X=>Star (Star (BoxW (.pointer (some a1)) (⟨l⟩:BoxM)) (OwnO 68 4 (.slice A2 n2 c2) n2 (askcs l2))) X) (Fr.r ((BoxW.stab _ _).star oS) Fr.id_) HS11.out) 0 _ rfl;have x1_11:w11.cell? ⟨gx,1,none⟩=some (.int .i64 an):=cell_at (Done.at_ (C:=fun X=>Star (Star (BoxW (.pointer (some a1)) (⟨l⟩:BoxM)) (OwnO 68 4 (.slice A2 n2 c2) n2 (askcs l2))) X) (Fr.r ((BoxW.stab _ _).star oS) Fr.id_) HS11.out) 1 _ rfl;have x2_11:w11.cell? ⟨gx,2,none⟩=some (.int .u32 ai):=cell_at (Done.at_ (C:=fun X=>Star (Star (BoxW (.pointer (some a1)) (⟨l⟩:BoxM)) (OwnO 68 4 (.slice A2 n2 c2) n2 (askcs l2))) X) (Fr.r ((BoxW.stab _ _).star oS) Fr.id_) HS11.out) 2 _ rfl;have x3_11:w11.cell? ⟨gx,3,none⟩=some (.string ab):=cell_at (Done.at_ (C:=fun X=>Star (Star (BoxW (.pointer (some a1)) (⟨l⟩:BoxM)) (OwnO 68 4 (.slice A2 n2 c2) n2 (askcs l2))) X) (Fr.r ((BoxW.stab _ _).star oS) Fr.id_) HS11.out) 3 _ rfl;clear hs))
          | (go_at_call 47;((with_reducible refine (dB_put (a:=(⟨ak,an,ai,ab⟩:AIn)) (n:=pe) (m' := (⟨l2⟩:BoxM)) HAO.out HPE.out HPM.out (C:=fun X=>Star (Star (X) (OwnO 68 4 (.slice A2 n2 c2) n2 (askcs l2))) (CellW gx (yC ak an ai ab) 68)) (Fr.l (Fr.l Fr.id_ oS) cS) HS11.out).mono ?_);rintro e w12 ⟨rfl,hs⟩;have HS12:Hid (Done w [] (Star (Star (BoxW (.pointer (some a1)) (⟨l2⟩:BoxM)) (OwnO 68 4 (.slice A2 n2 c2) n2 (askcs l2))) (CellW gx (yC ak an ai ab) 68)) w12):=(by show Done _ _ _ _;exact hs);clear hs))
          | (go_at_call 50;((with_reducible refine (dB_len (m:=(⟨l2⟩:BoxM)) (n:=(n2:Int)) HLN.out (C:=fun X=>Star (Star (X) (OwnO 68 4 (.slice A2 n2 c2) n2 (askcs l2))) (CellW gx (yC ak an ai ab) 68)) (Fr.l (Fr.l Fr.id_ oS) cS) (((BoxW.stab _ _).star oS).star cS) HS12.out).mono ?_);rintro e w13 ⟨rfl,hs⟩;have HS13:Hid (Done w [] (Star (Star (BoxW (.pointer (some a1)) (⟨l2⟩:BoxM)) (OwnO 68 4 (.slice A2 n2 c2) n2 (askcs l2))) (CellW gx (yC ak an ai ab) 68)) w13):=(by show Done _ _ _ _;exact hs);clear hs)))
         go_roundw
         case rel=>exact ⟨i + 1,n2,c2,l2,A2,by omega,by omega,by go_num,rfl,HN2.out,HN8.out,HOK2.out,HS13.out.drop⟩
         case measure=>simp [intOf] <;> omega
    · have t2:decide ((i:Int) < 60)=false:=decide_eq_false (by omega)
      go_wp2
      go_ret
      exact ⟨rfl,HS3.out.bel⟩
  · have t1:decide ((i:Int) < (L:Int))=false:=decide_eq_false (by omega)
    go_wp2
    go_ret
    exact ⟨rfl,HS3.out.bel⟩
end Go.Proofs.YtjddbjmcjhjpiaaGreatDoor
