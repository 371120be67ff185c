/- The law LogOrder. -/
import Derived.Test.YtjddbjmcjhjpiaaGreatDoorN16J

set_option linter.all false

namespace Go.Proofs.YtjddbjmcjhjpiaaGreatDoor
set_option maxRecDepth 100000
set_option maxHeartbeats 32000000
open Go.RowKit M

def ordM (l:List Int):LogM:=⟨0,l.map fun n=>⟨n,⟨#[100]⟩,2⟩,[]⟩
theorem ord_who (l:List Int) (n:Int):(ordM l).who n=if l.contains n then some ⟨n,⟨#[100]⟩,2⟩ else none:=by
 unfold LogM.who ordM
 induction l with
 | nil=>rfl
 | cons a r ih =>
  simp only [List.map_cons,List.find?_cons,List.contains_cons]
  by_cases h:a=n
  · subst h;simp
  · have h1:(a == n)=false:=beq_eq_false_iff_ne.2 h
    have h2:(n == a)=false:=beq_eq_false_iff_ne.2 (fun e=>h e.symm)
    rw [h1,h2,Bool.false_or]
    exact ih
theorem ord_may (n:Int):mayX (XIn.xd (⟨n,0,2,6,false,⟨#[100]⟩⟩:XIn))=ownN n:=by
 unfold mayX XIn.xd
 simp only
 rw [show M.mayL ((⟨#[100]⟩:ByteArray).data.toList)=true by kernel_rfl]
 simp
theorem ord_add {l:List Int} {n:Int} (hl:l.length < 16):ownN n=(ordM l).addB (⟨n,0,2,6,false,⟨#[100]⟩⟩:XIn)∧ordM (if ownN n && !l.contains n then l ++ [n] else l)=(ordM l).add (⟨n,0,2,6,false,⟨#[100]⟩⟩:XIn):=by
 have hne:ownN n=true→(n != 0)=true∧¬ n=0:=fun h=>by
  unfold ownN at h
  simp at h
  exact ⟨bne_iff_ne.2 h.1,h.1⟩
 have hs:LogM.same ⟨n,⟨#[100]⟩,2⟩ (⟨n,0,2,6,false,⟨#[100]⟩⟩:XIn)=true:=rfl
 refine ⟨?_,?_⟩
 · unfold LogM.addB
   rw [ord_may,ord_who]
   cases h:ownN n
   · rfl
   · show true=(true && (n != 0 && _))
     rw [(hne h).1]
     cases hc:l.contains n
     · show true=(true && (true && decide (((ordM l).l).length < 16)))
       rw [decide_eq_true (by simp [ordM];exact hl)];rfl
     · rfl
 · unfold LogM.add
   rw [ord_may,ord_who]
   cases h:ownN n
   · rfl
   · show _=(if true=true then (if n=0 then _ else _) else _)
     rw [if_pos rfl,if_neg (hne h).2]
     cases hc:l.contains n
     · show ordM (l ++ [n])=(if ((ordM l).l).length < 16 then _ else _)
       rw [if_pos (by simp [ordM];exact hl)]
       simp [ordM]
     · rfl
theorem contains_take_succ {l:List Int} {k:Nat} {n y:Int} (h:l[k]?=some y):(l.take (k + 1)).contains n=((l.take k).contains n || (y == n)):=by
 rw [List.take_succ,h]
 simp only [Option.toList_some]
 rw [Bool.eq_iff_iff]
 simp
 constructor
 · rintro (h | h)
   · exact .inl h
   · exact .inr h.symm
 · rintro (h | h)
   · exact .inl h
   · exact .inr h.symm
theorem ord_ids {l:List Int} {k:Nat} {y:Int} (h:l[k]?=some y):(dvcs (ordM l).l)[k * 2]?=some (.int .u32 y):=by
 unfold ordM dvcs
 induction l generalizing k with
 | nil=>simp at h
 | cons a r ih =>
  cases k with
  | zero=>simp at h;subst h;rfl
  | succ k =>
   have h' : r[k]?=some y:=by simpa using h
   have := ih h'
   simp only [List.map_cons,List.flatMap_cons]
   rw [show (k + 1) * 2=k * 2 + 1 + 1 by omega]
   simpa using this
theorem u32_wf {n:Int} (h:u32 n):(Lit.int .u32 n).wf=true:=by
 have h1:IntKind.u32.min=0:=by decide
 have h2:IntKind.u32.max=4294967295:=by decide
 show (decide (IntKind.u32.min≤n) && decide (n≤IntKind.u32.max))=true
 unfold u32 at h
 rw [h1,h2,decide_eq_true h.1,decide_eq_true (by omega)];rfl
theorem LogOrder_law (v:Value) (fl:List Int) (w:World) (hv:RdU w v fl) (hC:Codes w):Calls Tryz.prog 15 #[v] w fun e w' => e=.returned (.bool true)∧Below w.heap.size w w' := by
 have HC:=jzD hC
 have hv0:=hv
 obtain ⟨FA,cap,rfl,hcap,hmax,hu,-⟩:=hv0
 obtain ⟨L,hL⟩:∃ L,L=fl.length:=⟨_,rfl⟩
 rw [← hL] at hcap hv ⊢
 have HV:=jzD hv
 have HL:=jzD hL
 have HU:=jzD hu
 have HCAP:=jzD hcap
 clear hC hv hL hu hcap hmax
 go_enter Tryz.func15,Tryz.ntmps15
 go_wp2_with (first
  | (go_at_call 18;((with_reducible refine (dcalls_keep Emp.stab (Done.emp w) (begun16_any _ HC.out)).mono ?_);rintro e w1 ⟨rfl,hs⟩;have HS1:=jzD hs;clear hs))
  | (go_at_call 53;((with_reducible refine (dL_new (n:=0) (by decide) Emp.stab HS1.out).mono ?_);rintro e w2 ⟨a1,rfl,hs⟩;have HS2:Hid (Done w [] (LogW (.pointer (some a1)) (LogM.new 0)) w2):=(by show Done _ _ _ _;exact hs.unemp);clear hs)))
 go_loopw [5,6] (fun wv iv wr=>∃ (i m c:Nat) (l:List Int) (A:Option Addr),i≤12∧i≤L∧iv=.int .i64 (i:Int)∧wv=.slice A m c∧m=l.length∧m≤i∧Done w [] (Star (LogW (.pointer (some a1)) (ordM l)) (OwnK 22 1 (.slice A m c) m (u32s l))) wr) (fun _ iv _=>(20 - intOf iv).toNat)
 case atStart=>exact ⟨0,0,0,[],none,by omega,by omega,rfl,rfl,rfl,by omega,HS2.out.add (LogW.stab _ _) (OwnK.nilD 22 1 _)⟩
 case round =>
  clear HS2 HS1
  obtain ⟨i,m,c,l,A,hi12,hiL,rfl,rfl,hml,hmi,hs⟩:=hrel
  have HS3:=jzD hs
  have HML:=jzD hml
  clear hs hml
  by_cases hlt:i < L
  · have t1:decide ((i:Int) < (L:Int))=true:=decide_eq_true (by omega)
    by_cases h12:i < 12
    · have t2:decide ((i:Int) < 12)=true:=decide_eq_true (by omega)
      have e5:IntKind.i64.wrap ((i:Int) + 1)=(i:Int) + 1:=IntWalk.i64_in _ (by omega)
      have hiF:i < fl.length:=by rw [← HL.out];exact hlt
      obtain ⟨n,hn⟩:∃ n,n=fl[i]:=⟨_,rfl⟩
      have hn32:=HU.out _ (List.getElem_mem hiF)
      rw [← hn] at hn32
      obtain ⟨fb,fo,hfa,-,hfc⟩:=HV.out.at_ (i:=i) hiF
      subst hfa
      rw [← hn] at hfc
      have HF0:Hid (w.cell? ⟨fb,fo + i,none⟩=some (.int .u32 n)):=hfc
      have c3:wr.cell? ⟨fb,fo + i,none⟩=some (.int .u32 n):=((HS3.out).bel.cell (p:=⟨fb,fo + i,none⟩) (World.block_lt_of_cell? _ _ HF0.out)).trans HF0.out
      have b1:(i:Int) < (L:Int):=by omega
      have hw32:=u32_wf hn32
      have HXO:Hid (XIn.ok (⟨n,0,2,6,false,⟨#[100]⟩⟩:XIn)):=by show XIn.ok _;exact ⟨hw32,show (Lit.int .u32 0).wf=true by decide,show (Lit.int .i64 2).wf=true by decide,show (Lit.int .i64 6).wf=true by decide,show (1:Nat)≤maxLen by decide⟩
      have how:=fun w=>ROwn_any n w
      have HT4:Hid (Done w [] (Star (Star (LogW (.pointer (some a1)) (ordM l)) (OwnK 22 1 (.slice A m c) m (u32s l))) (CellW wr.heap.size (yA 0 0 0 0 false ⟨#[]⟩) 32)) (wr.alloc (.cells (yA 0 0 0 0 false ⟨#[]⟩) 32))):=HS3.out.add ((LogW.stab _ _).star kS) (CellW.new wr #[.int .u32 0,.int .u32 0,.int .i64 0,.int .i64 0,.bool false,.string ⟨#[]⟩] 32)
      have HMB:Hid (m + 1≤1000000):=by show _≤_;omega
      clear hfc hw32 hn32 hn
      go_wp2_with ((with_reducible refine wpList_storeBD (C:=fun X=>Star (Star (LogW (.pointer (some a1)) (ordM l)) (OwnK 22 1 (.slice A m c) m (u32s l))) X) (Fr.r ((LogW.stab _ _).star kS) Fr.id_) HT4.out rfl 32 (.tmp 7) (.tmp 31) rfl #[.int .u32 n,.int .u32 0,.int .i64 2,.int .i64 6,.bool false,.string ⟨#[100]⟩] rfl rfl (by kernel_rfl) rfl (by simp [Value.oneCell']) ?_);intro w5 hs;have HS5:Hid (Done w [] (Star (Star (LogW (.pointer (some a1)) (ordM l)) (OwnK 22 1 (.slice A m c) m (u32s l))) (CellW wr.heap.size (yA n 0 2 6 false ⟨#[100]⟩) 32)) w5):=(by show Done _ _ _ _;exact hs);clear hs)
      obtain ⟨gx,hgx⟩:∃ g,g=wr.heap.size:=⟨_,rfl⟩
      rw [← hgx] at HS5
      rw [← hgx]
      clear hgx HT4 c3 HS3
      have c5:w5.cell? ⟨fb,fo + i,none⟩=some (.int .u32 n):=((HS5.out).bel.cell (p:=⟨fb,fo + i,none⟩) (World.block_lt_of_cell? _ _ HF0.out)).trans HF0.out
      go_loopw [8,34] (fun tv kv wr=>wr=w5∧∃ k:Nat,k≤m∧kv=.int .i64 (k:Int)∧tv=.bool ((l.take k).contains n)) (fun _ kv _=>(20 - intOf kv).toNat)
      case atStart=>exact ⟨rfl,0,by omega,rfl,by simp⟩
      case round =>
       obtain ⟨rfl,k,hkm,rfl,rfl⟩:=hrel
       by_cases hk:k < m
       · have t3:decide ((k:Int) < (m:Int))=true:=decide_eq_true (by omega)
         have e6:IntKind.i64.wrap ((k:Int) + 1)=(k:Int) + 1:=IntWalk.i64_in _ (by omega)
         have hkl:k < l.length:=by have := HML.out;omega
         obtain ⟨y,hy⟩:∃ y,l[k]?=some y:=⟨l[k],List.getElem?_eq_getElem hkl⟩
         have HCT:=jzD (contains_take_succ (n:=n) hy)
         obtain ⟨gw,rfl⟩:∃ g,A=some ⟨g,0,none⟩:=by
          obtain ⟨_,hw⟩:=Done.get (C:=fun X=>Star (Star (LogW (.pointer (some a1)) (ordM l)) X) (CellW gx (yA n 0 2 6 false ⟨#[100]⟩) 32)) (Fr.l (Fr.r (LogW.stab _ _) Fr.id_) cS) HS5.out
          obtain ⟨g,e,_⟩:=hw.whole (by omega)
          exact ⟨g,e⟩
         have c6:wr.cell? ⟨gw,k,none⟩=some (.int .u32 y):=(Done.get (C:=fun X=>Star (Star (LogW (.pointer (some a1)) (ordM l)) X) (CellW gx (yA n 0 2 6 false ⟨#[100]⟩) 32)) (Fr.l (Fr.r (LogW.stab _ _) Fr.id_) cS) HS5.out).elim fun _ h=>h.cell (u32s_get hy)
         have b2:(k:Int) < (m:Int):=by omega
         clear hy
         rcases hct:(l.take k).contains n with _ | _
         · rw [hct] at HCT
           have HCT2:=jzD (HCT.out.trans (Bool.false_or _))
           clear HCT
           go_wp2
           go_roundw
           case rel=>exact ⟨trivial,k + 1,by omega,by go_num,by rw [HCT2.out]⟩
           case measure=>simp [intOf] <;> omega
         · rw [hct] at HCT
           have HCT2:=jzD (HCT.out.trans (Bool.true_or _))
           clear HCT
           go_wp2
           go_roundw
           case rel=>exact ⟨trivial,k + 1,by omega,by go_num,by rw [HCT2.out]⟩
           case measure=>simp [intOf] <;> omega
       · have t3:decide ((k:Int) < (m:Int))=false:=decide_eq_false (by omega)
         have hkl:(l.take k).contains n=l.contains n:=by rw [List.take_of_length_le (by have := HML.out;omega)]
         rw [hkl]
         clear hkl
         have HSd:=jzD (HS5.out.drewD (((LogW.stab _ _).star kS).star cS))
         have HEd:Hid ((fun U=>U.heap[gx]?=some (.cells (yA n 0 2 6 false ⟨#[100]⟩) 32 (0,0))∧U.cell? ⟨fb,fo + i,none⟩=some (.int .u32 n)) wr.drew):=⟨(Done.at_ (C:=fun X=>Star (Star (LogW (.pointer (some a1)) (ordM l)) (OwnK 22 1 (.slice A m c) m (u32s l))) X) (Fr.r ((LogW.stab _ _).star kS) Fr.id_) HSd.out),((HSd.out).bel.cell (p:=⟨fb,fo + i,none⟩) (World.block_lt_of_cell? _ _ HF0.out)).trans HF0.out⟩
         rcases hown:ownN n with _ | _
         · rw [hown] at how
           have HOWN:=jzD how
           clear how
           have htw0:∃ tw,tw=l.contains n:=⟨_,rfl⟩
           obtain ⟨tw,htw0⟩:=htw0
           rw [← htw0]
           have hadb:=(ord_add (l:=l) (n:=n) (by have := HML.out;omega))
           rw [hown] at hadb
           have HADB:Hid (false=(ordM l).addB (⟨n,0,2,6,false,⟨#[100]⟩⟩:XIn)):=hadb.1
           have HADM:Hid ((ordM l)=(ordM l).add (⟨n,0,2,6,false,⟨#[100]⟩⟩:XIn)):=hadb.2
           clear hadb
           go_wp2
           refine rests_begin (fun U=>U.heap[gx]?=some (.cells (yA n 0 2 6 false ⟨#[100]⟩) 32 (0,0))∧U.cell? ⟨fb,fo + i,none⟩=some (.int .u32 n)) (by kernel_rfl) ?_
           refine rtk 0 HEd.out ?_
           refine rests_take 1 (oi:=_) (v:=.agg #[.int .u32 n,.int .u32 0,.int .i64 2,.int .i64 6,.bool false,.string ⟨#[100]⟩]) (by simp only [jzG,jzH,jzI];rfl) (by kernel_rfl) (by kernel_rfl) (by kernel_rfl) (by exact fun _ _ _ h=>h) (HEd.out) (by rfl) (fun W HW=>exec_loadB rfl rfl HW.1 Tryz.underlying32 rfl (by kernel_rfl)) ?_
           simp only [Act.put,jzU,jzV,jzW]
           refine rtk 3 HEd.out ?_
           refine rtk 4 HEd.out ?_
           refine rtk 5 HEd.out ?_
           refine rtk 6 HEd.out ?_ (hy:=by intro W HW;have hn0:=HW.2;go_simp;try with_reducible rfl)
           refine rests_call 2 (oi:=_) (by simp only [jzG,jzH,jzI];rfl) 51 #[.pointer (some a1),.agg #[.int .u32 n,.int .u32 0,.int .i64 2,.int .i64 6,.bool false,.string ⟨#[100]⟩]] _ (by kernel_rfl) (by rfl) (by go_simp) (dL_add (x:=(⟨n,0,2,6,false,⟨#[100]⟩⟩:XIn)) (b:=false) (m' := (ordM l)) HXO.out HADB.out HADM.out (C:=fun X=>Star (Star (X) (OwnK 22 1 (.slice A m c) m (u32s l))) (CellW gx (yA n 0 2 6 false ⟨#[100]⟩) 32)) (Fr.l (Fr.l Fr.id_ kS) cS) HSd.out) ?_
           rintro e w6 ⟨rfl,hs⟩;have HS6:=jzD hs;have HE6:Hid ((fun U=>U.heap[gx]?=some (.cells (yA n 0 2 6 false ⟨#[100]⟩) 32 (0,0))∧U.cell? ⟨fb,fo + i,none⟩=some (.int .u32 n)) w6):=⟨(Done.at_ (C:=fun X=>Star (Star (LogW (.pointer (some a1)) (ordM l)) (OwnK 22 1 (.slice A m c) m (u32s l))) X) (Fr.r ((LogW.stab _ _).star kS) Fr.id_) hs),((hs).bel.cell (p:=⟨fb,fo + i,none⟩) (World.block_lt_of_cell? _ _ HF0.out)).trans HF0.out⟩;refine ⟨_,rfl,HE6.out,?_⟩;clear hs
           simp only [Act.put,jzU,jzV,jzW]
           refine rests_call 7 (oi:=_) (by simp only [jzG,jzH,jzI];rfl) 37 #[.int .u32 n] _ (by kernel_rfl) (by rfl) (by go_simp) (HOWN.out _) ?_
           rintro e w' ⟨rfl,hw'⟩;rw [hw'];clear hw'; refine ⟨_,rfl,HE6.out,?_⟩
           simp only [Act.put,jzU,jzV,jzW]
           refine rtk 8 HE6.out ?_
           refine rests_done (by kernel_rfl) ?_
           have c6:w6.cell? ⟨fb,fo + i,none⟩=some (.int .u32 n):=((HS6.out).bel.cell (p:=⟨fb,fo + i,none⟩) (World.block_lt_of_cell? _ _ HF0.out)).trans HF0.out
           go_wp2_with (go_at_call 37;((with_reducible refine (HOWN.out _).mono ?_);rintro e w' ⟨rfl,hw'⟩;rw [hw'];clear hw'))
           go_roundw
           case rel=>exact ⟨i + 1,m,c,l,A,by omega,by omega,by go_num,rfl,HML.out,by omega,HS6.out.drop⟩
           case measure=>simp [intOf] <;> omega
         · rw [hown] at how
           have HOWN:=jzD how
           clear how
           rcases htw:l.contains n with _ | _
           · skip
             have hadb:=(ord_add (l:=l) (n:=n) (by have := HML.out;omega))
             rw [hown,htw] at hadb
             have HADB:Hid (true=(ordM l).addB (⟨n,0,2,6,false,⟨#[100]⟩⟩:XIn)):=hadb.1
             have HADM:Hid ((ordM (l ++ [n]))=(ordM l).add (⟨n,0,2,6,false,⟨#[100]⟩⟩:XIn)):=hadb.2
             clear hadb
             go_wp2
             refine rests_begin (fun U=>U.heap[gx]?=some (.cells (yA n 0 2 6 false ⟨#[100]⟩) 32 (0,0))∧U.cell? ⟨fb,fo + i,none⟩=some (.int .u32 n)) (by kernel_rfl) ?_
             refine rtk 0 HEd.out ?_
             refine rests_take 1 (oi:=_) (v:=.agg #[.int .u32 n,.int .u32 0,.int .i64 2,.int .i64 6,.bool false,.string ⟨#[100]⟩]) (by simp only [jzG,jzH,jzI];rfl) (by kernel_rfl) (by kernel_rfl) (by kernel_rfl) (by exact fun _ _ _ h=>h) (HEd.out) (by rfl) (fun W HW=>exec_loadB rfl rfl HW.1 Tryz.underlying32 rfl (by kernel_rfl)) ?_
             simp only [Act.put,jzU,jzV,jzW]
             refine rtk 3 HEd.out ?_
             refine rtk 4 HEd.out ?_
             refine rtk 5 HEd.out ?_
             refine rtk 6 HEd.out ?_ (hy:=by intro W HW;have hn0:=HW.2;go_simp;try with_reducible rfl)
             refine rests_call 2 (oi:=_) (by simp only [jzG,jzH,jzI];rfl) 51 #[.pointer (some a1),.agg #[.int .u32 n,.int .u32 0,.int .i64 2,.int .i64 6,.bool false,.string ⟨#[100]⟩]] _ (by kernel_rfl) (by rfl) (by go_simp) (dL_add (x:=(⟨n,0,2,6,false,⟨#[100]⟩⟩:XIn)) (b:=true) (m' := (ordM (l ++ [n]))) HXO.out HADB.out HADM.out (C:=fun X=>Star (Star (X) (OwnK 22 1 (.slice A m c) m (u32s l))) (CellW gx (yA n 0 2 6 false ⟨#[100]⟩) 32)) (Fr.l (Fr.l Fr.id_ kS) cS) HSd.out) ?_
             rintro e w6 ⟨rfl,hs⟩;have HS6:=jzD hs;have HE6:Hid ((fun U=>U.heap[gx]?=some (.cells (yA n 0 2 6 false ⟨#[100]⟩) 32 (0,0))∧U.cell? ⟨fb,fo + i,none⟩=some (.int .u32 n)) w6):=⟨(Done.at_ (C:=fun X=>Star (Star (LogW (.pointer (some a1)) (ordM (l ++ [n]))) (OwnK 22 1 (.slice A m c) m (u32s l))) X) (Fr.r ((LogW.stab _ _).star kS) Fr.id_) hs),((hs).bel.cell (p:=⟨fb,fo + i,none⟩) (World.block_lt_of_cell? _ _ HF0.out)).trans HF0.out⟩;refine ⟨_,rfl,HE6.out,?_⟩;clear hs
             simp only [Act.put,jzU,jzV,jzW]
             refine rests_call 7 (oi:=_) (by simp only [jzG,jzH,jzI];rfl) 37 #[.int .u32 n] _ (by kernel_rfl) (by rfl) (by go_simp) (HOWN.out _) ?_
             rintro e w' ⟨rfl,hw'⟩;rw [hw'];clear hw'; refine ⟨_,rfl,HE6.out,?_⟩
             simp only [Act.put,jzU,jzV,jzW]
             refine rtk 8 HE6.out ?_
             refine rests_done (by kernel_rfl) ?_
             have c6:w6.cell? ⟨fb,fo + i,none⟩=some (.int .u32 n):=((HS6.out).bel.cell (p:=⟨fb,fo + i,none⟩) (World.block_lt_of_cell? _ _ HF0.out)).trans HF0.out
             have HT7:=jzD (HS6.out.add (((LogW.stab _ _).star kS).star cS) (CellW.new w6 #[.int .u32 n] 22))
             go_wp2_with (first | (go_at_call 37;((with_reducible refine (HOWN.out _).mono ?_);rintro e w' ⟨rfl,hw'⟩;rw [hw'];clear hw')) | (at_builtin;(with_reducible refine wpList_appD (C:=fun X=>Star (Star (Star (LogW (.pointer (some a1)) (ordM (l ++ [n]))) X) (CellW gx (yA n 0 2 6 false ⟨#[100]⟩) 32)) (CellW w6.heap.size #[.int .u32 n] 22)) (Fr.l (Fr.l (Fr.r (LogW.stab _ _) Fr.id_) cS) cS) HT7.out rfl _ _ 44 4 (.int .u32 0) rfl Tryz.underlying44 (by kernel_rfl) rfl (by decide) (.slice (some ⟨w6.heap.size,0,none⟩) 1 1) 1 [.int .u32 n] rfl rfl (rdG_new (Done.at_ (C:=fun X=>Star (Star (Star (LogW (.pointer (some a1)) (ordM (l ++ [n]))) (OwnK 22 1 (.slice A m c) m (u32s l))) (CellW gx (yA n 0 2 6 false ⟨#[100]⟩) 32)) X) (Fr.r (((LogW.stab _ _).star kS).star cS) Fr.id_) HT7.out) rfl) (by simp [Value.oneCell']) (m + 1) rfl HMB.out (u32s (l ++ [n])) (by simp [u32s]) ?_);intro A8 c8 w8 hs hc;have HS8:=jzD hs;clear hs hc))
             go_roundw
             case rel=>exact ⟨i + 1,m + 1,c8,l ++ [n],A8,by omega,by omega,by go_num,rfl,by simp [HML.out],by omega,HS8.out.drop.drop⟩
             case measure=>simp [intOf] <;> omega
           · skip
             have hadb:=(ord_add (l:=l) (n:=n) (by have := HML.out;omega))
             rw [hown,htw] at hadb
             have HADB:Hid (true=(ordM l).addB (⟨n,0,2,6,false,⟨#[100]⟩⟩:XIn)):=hadb.1
             have HADM:Hid ((ordM l)=(ordM l).add (⟨n,0,2,6,false,⟨#[100]⟩⟩:XIn)):=hadb.2
             clear hadb
             go_wp2
             refine rests_begin (fun U=>U.heap[gx]?=some (.cells (yA n 0 2 6 false ⟨#[100]⟩) 32 (0,0))∧U.cell? ⟨fb,fo + i,none⟩=some (.int .u32 n)) (by kernel_rfl) ?_
             refine rtk 0 HEd.out ?_
             refine rests_take 1 (oi:=_) (v:=.agg #[.int .u32 n,.int .u32 0,.int .i64 2,.int .i64 6,.bool false,.string ⟨#[100]⟩]) (by simp only [jzG,jzH,jzI];rfl) (by kernel_rfl) (by kernel_rfl) (by kernel_rfl) (by exact fun _ _ _ h=>h) (HEd.out) (by rfl) (fun W HW=>exec_loadB rfl rfl HW.1 Tryz.underlying32 rfl (by kernel_rfl)) ?_
             simp only [Act.put,jzU,jzV,jzW]
             refine rtk 3 HEd.out ?_
             refine rtk 4 HEd.out ?_
             refine rtk 5 HEd.out ?_
             refine rtk 6 HEd.out ?_ (hy:=by intro W HW;have hn0:=HW.2;go_simp;try with_reducible rfl)
             refine rests_call 2 (oi:=_) (by simp only [jzG,jzH,jzI];rfl) 51 #[.pointer (some a1),.agg #[.int .u32 n,.int .u32 0,.int .i64 2,.int .i64 6,.bool false,.string ⟨#[100]⟩]] _ (by kernel_rfl) (by rfl) (by go_simp) (dL_add (x:=(⟨n,0,2,6,false,⟨#[100]⟩⟩:XIn)) (b:=true) (m' := (ordM l)) HXO.out HADB.out HADM.out (C:=fun X=>Star (Star (X) (OwnK 22 1 (.slice A m c) m (u32s l))) (CellW gx (yA n 0 2 6 false ⟨#[100]⟩) 32)) (Fr.l (Fr.l Fr.id_ kS) cS) HSd.out) ?_
             rintro e w6 ⟨rfl,hs⟩;have HS6:=jzD hs;have HE6:Hid ((fun U=>U.heap[gx]?=some (.cells (yA n 0 2 6 false ⟨#[100]⟩) 32 (0,0))∧U.cell? ⟨fb,fo + i,none⟩=some (.int .u32 n)) w6):=⟨(Done.at_ (C:=fun X=>Star (Star (LogW (.pointer (some a1)) (ordM l)) (OwnK 22 1 (.slice A m c) m (u32s l))) X) (Fr.r ((LogW.stab _ _).star kS) Fr.id_) hs),((hs).bel.cell (p:=⟨fb,fo + i,none⟩) (World.block_lt_of_cell? _ _ HF0.out)).trans HF0.out⟩;refine ⟨_,rfl,HE6.out,?_⟩;clear hs
             simp only [Act.put,jzU,jzV,jzW]
             refine rests_call 7 (oi:=_) (by simp only [jzG,jzH,jzI];rfl) 37 #[.int .u32 n] _ (by kernel_rfl) (by rfl) (by go_simp) (HOWN.out _) ?_
             rintro e w' ⟨rfl,hw'⟩;rw [hw'];clear hw'; refine ⟨_,rfl,HE6.out,?_⟩
             simp only [Act.put,jzU,jzV,jzW]
             refine rtk 8 HE6.out ?_
             refine rests_done (by kernel_rfl) ?_
             have c6:w6.cell? ⟨fb,fo + i,none⟩=some (.int .u32 n):=((HS6.out).bel.cell (p:=⟨fb,fo + i,none⟩) (World.block_lt_of_cell? _ _ HF0.out)).trans HF0.out
             go_wp2_with (go_at_call 37;((with_reducible refine (HOWN.out _).mono ?_);rintro e w' ⟨rfl,hw'⟩;rw [hw'];clear hw'))
             go_roundw
             case rel=>exact ⟨i + 1,m,c,l,A,by omega,by omega,by go_num,rfl,HML.out,by omega,HS6.out.drop⟩
             case measure=>simp [intOf] <;> omega
    · have t2:decide ((i:Int) < 12)=false:=decide_eq_false (by omega)
      clear HV HU
      have HNC:Hid (0=(ordM l).clash.length):=rfl
      have HNL:Hid (m=(ordM l).l.length):=by show _=_;rw [HML.out];simp [ordM]
      go_wp2_with (go_at_call 29;((with_reducible refine (dL_all (m:=ordM l) (n:=m) (xs:=dvcs (ordM l).l) HNL.out rfl (C:=fun X=>Star (X) (OwnK 22 1 (.slice A m c) m (u32s l))) (Fr.l Fr.id_ kS) HS3.out).mono ?_);rintro e w9 ⟨A2,c2,rfl,hc,hs⟩;have HS9:Hid (Done w [] (Star (Star (LogW (.pointer (some a1)) (ordM l)) (SlW 2 (.slice A2 m c2) m (dvcs (ordM l).l))) (OwnK 22 1 (.slice A m c) m (u32s l))) w9):=(by show Done _ _ _ _;exact hs);clear hs hc))
      go_loopw [82] (fun kv wr=>Below w9.heap.size w9 wr∧∃ k:Nat,k≤m∧kv=.int .i64 (k:Int)) (fun kv _=>(20 - intOf kv).toNat)
      case atStart=>exact ⟨Below.refl _ _,0,by omega,rfl⟩
      case round =>
       obtain ⟨hbw,k,hkm,rfl⟩:=hrel
       have HBW:=jzD hbw
       clear hbw
       by_cases hk:k < m
       · have t3:decide ((k:Int) < (m:Int))=true:=decide_eq_true (by omega)
         have e6:IntKind.i64.wrap ((k:Int) + 1)=(k:Int) + 1:=IntWalk.i64_in _ (by omega)
         have hkl:k < l.length:=by have := HML.out;omega
         obtain ⟨y,hy⟩:∃ y,l[k]?=some y:=⟨l[k],List.getElem?_eq_getElem hkl⟩
         obtain ⟨gw,rfl⟩:∃ g,A=some ⟨g,0,none⟩:=by
          obtain ⟨_,hw⟩:=Done.get (C:=fun X=>Star (Star (LogW (.pointer (some a1)) (ordM l)) (SlW 2 (.slice A2 m c2) m (dvcs (ordM l).l))) X) (Fr.r ((LogW.stab _ _).star (SlW.stab _ _ _ _)) Fr.id_) HS9.out
          obtain ⟨g,e,_⟩:=hw.whole (by omega)
          exact ⟨g,e⟩
         obtain ⟨gd,go,rfl⟩:∃ g o,A2=some ⟨g,o,none⟩:=by
          obtain ⟨_,hw⟩:=Done.get (C:=fun X=>Star (Star (LogW (.pointer (some a1)) (ordM l)) X) (OwnK 22 1 (.slice (some ⟨gw,0,none⟩) m c) m (u32s l))) (Fr.l (Fr.r (LogW.stab _ _) Fr.id_) kS) HS9.out
          obtain ⟨b,o,cp,e,_⟩:=hw.addr (by omega)
          injection e with e
          exact ⟨b,o,e⟩
         have C1:Hid (w9.cell? ⟨gw,k,none⟩=some (.int .u32 y)):=(Done.get (C:=fun X=>Star (Star (LogW (.pointer (some a1)) (ordM l)) (SlW 2 (.slice (some ⟨gd,go,none⟩) m c2) m (dvcs (ordM l).l))) X) (Fr.r ((LogW.stab _ _).star (SlW.stab _ _ _ _)) Fr.id_) HS9.out).elim fun _ h=>h.cell (u32s_get hy)
         have C2:Hid (w9.cell? ⟨gd,go + k * 2,none⟩=some (.int .u32 y)):=(Done.get (C:=fun X=>Star (Star (LogW (.pointer (some a1)) (ordM l)) X) (OwnK 22 1 (.slice (some ⟨gw,0,none⟩) m c) m (u32s l))) (Fr.l (Fr.r (LogW.stab _ _) Fr.id_) kS) HS9.out).elim fun _ h=>h.cell (ord_ids hy)
         have b2:(k:Int) < (m:Int):=by omega
         clear hy
         go_wp2
         refine regq (fun W=>Below wr.heap.size wr W) (by kernel_rfl) (by kernel_rfl) ((Below.refl _ _).drew) ?_
         iterate 4 refine qtk ?_
         refine qtk ?_ (hy:=by intro W HW;have c1w:W.cell? ⟨gd,go + k * 2,none⟩=some (.int .u32 y):=((HBW.out.trans (HW.mono HBW.out.size)).cell (p:=⟨gd,go + k * 2,none⟩) (World.block_lt_of_cell? _ _ C2.out)).trans C2.out;go_simp;try with_reducible rfl)
         iterate 3 refine qtk ?_
         refine qtk ?_ (hy:=by intro W HW;have c2w:W.cell? ⟨gw,k,none⟩=some (.int .u32 y):=((HBW.out.trans (HW.mono HBW.out.size)).cell (p:=⟨gw,k,none⟩) (World.block_lt_of_cell? _ _ C1.out)).trans C1.out;go_simp;try with_reducible rfl)
         refine qtk ?_
         refine q_done ?_
         intro w10 hb
         have HB10:=jzD (HBW.out.trans (hb.mono HBW.out.size))
         clear hb
         go_wp2
         go_roundw
         case rel=>exact ⟨HB10.out,k + 1,by omega,by go_num⟩
         case measure=>simp [intOf] <;> omega
       · have t3:decide ((k:Int) < (m:Int))=false:=decide_eq_false (by omega)
         have HS10:=jzD (HS9.out.keep (((LogW.stab _ _).star (SlW.stab _ _ _ _)).star kS) HBW.out)
         go_wp2_with (go_at_call 32;((with_reducible refine (dL_clash (m:=ordM l) (n:=0) (xs:=u32s (ordM l).clash) HNC.out rfl (C:=fun X=>Star (Star X (SlW 2 (.slice A2 m c2) m (dvcs (ordM l).l))) (OwnK 22 1 (.slice A m c) m (u32s l))) (Fr.l (Fr.l Fr.id_ (SlW.stab _ _ _ _)) kS) HS10.out).mono ?_);rintro e w11 ⟨A3,c3,rfl,hc,hs⟩;have HS11:=jzD hs;clear hs hc))
         go_ret
         exact ⟨by first | rfl | (simp;done),HS11.out.bel⟩
  · have t1:decide ((i:Int) < (L:Int))=false:=decide_eq_false (by omega)
    clear HV HU
    have HNC:Hid (0=(ordM l).clash.length):=rfl
    have HNL:Hid (m=(ordM l).l.length):=by show _=_;rw [HML.out];simp [ordM]
    go_wp2_with (go_at_call 29;((with_reducible refine (dL_all (m:=ordM l) (n:=m) (xs:=dvcs (ordM l).l) HNL.out rfl (C:=fun X=>Star (X) (OwnK 22 1 (.slice A m c) m (u32s l))) (Fr.l Fr.id_ kS) HS3.out).mono ?_);rintro e w9 ⟨A2,c2,rfl,hc,hs⟩;have HS9:Hid (Done w [] (Star (Star (LogW (.pointer (some a1)) (ordM l)) (SlW 2 (.slice A2 m c2) m (dvcs (ordM l).l))) (OwnK 22 1 (.slice A m c) m (u32s l))) w9):=(by show Done _ _ _ _;exact hs);clear hs hc))
    go_loopw [82] (fun kv wr=>Below w9.heap.size w9 wr∧∃ k:Nat,k≤m∧kv=.int .i64 (k:Int)) (fun kv _=>(20 - intOf kv).toNat)
    case atStart=>exact ⟨Below.refl _ _,0,by omega,rfl⟩
    case round =>
     obtain ⟨hbw,k,hkm,rfl⟩:=hrel
     have HBW:=jzD hbw
     clear hbw
     by_cases hk:k < m
     · have t3:decide ((k:Int) < (m:Int))=true:=decide_eq_true (by omega)
       have e6:IntKind.i64.wrap ((k:Int) + 1)=(k:Int) + 1:=IntWalk.i64_in _ (by omega)
       have hkl:k < l.length:=by have := HML.out;omega
       obtain ⟨y,hy⟩:∃ y,l[k]?=some y:=⟨l[k],List.getElem?_eq_getElem hkl⟩
       obtain ⟨gw,rfl⟩:∃ g,A=some ⟨g,0,none⟩:=by
        obtain ⟨_,hw⟩:=Done.get (C:=fun X=>Star (Star (LogW (.pointer (some a1)) (ordM l)) (SlW 2 (.slice A2 m c2) m (dvcs (ordM l).l))) X) (Fr.r ((LogW.stab _ _).star (SlW.stab _ _ _ _)) Fr.id_) HS9.out
        obtain ⟨g,e,_⟩:=hw.whole (by omega)
        exact ⟨g,e⟩
       obtain ⟨gd,go,rfl⟩:∃ g o,A2=some ⟨g,o,none⟩:=by
        obtain ⟨_,hw⟩:=Done.get (C:=fun X=>Star (Star (LogW (.pointer (some a1)) (ordM l)) X) (OwnK 22 1 (.slice (some ⟨gw,0,none⟩) m c) m (u32s l))) (Fr.l (Fr.r (LogW.stab _ _) Fr.id_) kS) HS9.out
        obtain ⟨b,o,cp,e,_⟩:=hw.addr (by omega)
        injection e with e
        exact ⟨b,o,e⟩
       have C1:Hid (w9.cell? ⟨gw,k,none⟩=some (.int .u32 y)):=(Done.get (C:=fun X=>Star (Star (LogW (.pointer (some a1)) (ordM l)) (SlW 2 (.slice (some ⟨gd,go,none⟩) m c2) m (dvcs (ordM l).l))) X) (Fr.r ((LogW.stab _ _).star (SlW.stab _ _ _ _)) Fr.id_) HS9.out).elim fun _ h=>h.cell (u32s_get hy)
       have C2:Hid (w9.cell? ⟨gd,go + k * 2,none⟩=some (.int .u32 y)):=(Done.get (C:=fun X=>Star (Star (LogW (.pointer (some a1)) (ordM l)) X) (OwnK 22 1 (.slice (some ⟨gw,0,none⟩) m c) m (u32s l))) (Fr.l (Fr.r (LogW.stab _ _) Fr.id_) kS) HS9.out).elim fun _ h=>h.cell (ord_ids hy)
       have b2:(k:Int) < (m:Int):=by omega
       clear hy
       go_wp2
       refine regq (fun W=>Below wr.heap.size wr W) (by kernel_rfl) (by kernel_rfl) ((Below.refl _ _).drew) ?_
       iterate 4 refine qtk ?_
       refine qtk ?_ (hy:=by intro W HW;have c1w:W.cell? ⟨gd,go + k * 2,none⟩=some (.int .u32 y):=((HBW.out.trans (HW.mono HBW.out.size)).cell (p:=⟨gd,go + k * 2,none⟩) (World.block_lt_of_cell? _ _ C2.out)).trans C2.out;go_simp;try with_reducible rfl)
       iterate 3 refine qtk ?_
       refine qtk ?_ (hy:=by intro W HW;have c2w:W.cell? ⟨gw,k,none⟩=some (.int .u32 y):=((HBW.out.trans (HW.mono HBW.out.size)).cell (p:=⟨gw,k,none⟩) (World.block_lt_of_cell? _ _ C1.out)).trans C1.out;go_simp;try with_reducible rfl)
       refine qtk ?_
       refine q_done ?_
       intro w10 hb
       have HB10:=jzD (HBW.out.trans (hb.mono HBW.out.size))
       clear hb
       go_wp2
       go_roundw
       case rel=>exact ⟨HB10.out,k + 1,by omega,by go_num⟩
       case measure=>simp [intOf] <;> omega
     · have t3:decide ((k:Int) < (m:Int))=false:=decide_eq_false (by omega)
       have HS10:=jzD (HS9.out.keep (((LogW.stab _ _).star (SlW.stab _ _ _ _)).star kS) HBW.out)
       go_wp2_with (go_at_call 32;((with_reducible refine (dL_clash (m:=ordM l) (n:=0) (xs:=u32s (ordM l).clash) HNC.out rfl (C:=fun X=>Star (Star X (SlW 2 (.slice A2 m c2) m (dvcs (ordM l).l))) (OwnK 22 1 (.slice A m c) m (u32s l))) (Fr.l (Fr.l Fr.id_ (SlW.stab _ _ _ _)) kS) HS10.out).mono ?_);rintro e w11 ⟨A3,c3,rfl,hc,hs⟩;have HS11:=jzD hs;clear hs hc))
       go_ret
       exact ⟨by first | rfl | (simp;done),HS11.out.bel⟩
end Go.Proofs.YtjddbjmcjhjpiaaGreatDoor
