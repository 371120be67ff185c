/- The law BoxOrder. -/
import Derived.Test.YtjddbjmcjhjpiaaGreatDoorN16J
import Derived.Test.YtjddbjmcjhjpiaaGreatDoorBegun16
import Derived.Test.YtjddbjmcjhjpiaaGreatDoorN16I
import Derived.Test.YtjddbjmcjhjpiaaGreatDoorN16D
import Derived.Test.YtjddbjmcjhjpiaaGreatDoorM4D
import Derived.Test.YtjddbjmcjhjpiaaGreatDoorN16H
import Derived.Test.YtjddbjmcjhjpiaaGreatDoorN16B
import Derived.Deep.CutBlock
import Derived.Deep.DeepCutAuto

set_option linter.all false

namespace Go.Proofs.YtjddbjmcjhjpiaaGreatDoor
set_option maxRecDepth 100000
set_option maxHeartbeats 32000000
open Go.RowKit M

def ct64 (s:ByteArray):ByteArray:=s.extract 0 (min s.size 64)
theorem ct64_size (s:ByteArray):(ct64 s).size≤64:=by unfold ct64;rw [ByteArray.size_extract];omega
abbrev askB (s:ByteArray):AIn:=⟨3,0,0,s⟩
theorem askB_ok {s:ByteArray} (h:s.size≤64):(askB s).ok:=⟨show (Lit.int .i64 3).wf=true by decide,show (Lit.int .i64 0).wf=true by decide,show (Lit.int .u32 0).wf=true by decide,Nat.le_trans h (by decide)⟩
theorem askB_may {s:ByteArray} (h:s.size≤64):mayA (askB s)=true:=by
 unfold mayA
 simp [h]
def boxX (l:List ByteArray) (a b:Nat):BoxM:=⟨(((l.map ct64).take b).drop a).map askB⟩
theorem boxX_len {l:List ByteArray} {a b:Nat} (hb:b≤l.length):(boxX l a b).l.length=b - a:=by simp [boxX];omega
theorem boxX_put {l:List ByteArray} {i:Nat} {s:ByteArray} (hs:l[i]?=some s) (h8:i < 8):boxX l 0 (i + 1)=(boxX l 0 i).put (askB (ct64 s))∧(0:Int)=(boxX l 0 i).putE (askB (ct64 s)):=by
 obtain ⟨hi,rfl⟩:=List.getElem?_eq_some_iff.1 hs
 have hm:=askB_may (ct64_size l[i])
 have hl:¬ 8≤(boxX l 0 i).l.length:=by rw [boxX_len (by omega)];omega
 unfold BoxM.put BoxM.putE
 rw [hm,if_pos rfl,if_pos rfl,if_neg hl,if_neg hl]
 refine ⟨?_,rfl⟩
 unfold boxX
 simp only [List.drop_zero]
 rw [List.take_succ_eq_append_getElem (by simpa using hi),List.map_append,List.getElem_map]
 rfl
theorem boxX_full {l:List ByteArray} {s:ByteArray} (h8:8≤l.length):boxX l 0 8=(boxX l 0 8).put (askB (ct64 s))∧(3:Int)=(boxX l 0 8).putE (askB (ct64 s)):=by
 have hm:=askB_may (ct64_size s)
 have hl:8≤(boxX l 0 8).l.length:=by rw [boxX_len h8];omega
 unfold BoxM.put BoxM.putE
 rw [hm,if_pos rfl,if_pos rfl,if_pos hl,if_pos hl]
 exact ⟨rfl,rfl⟩
theorem boxX_take {l:List ByteArray} {a b:Nat} {s:ByteArray} (hs:l[a]?=some s) (ha:a < b) (hb:b≤l.length):askB (ct64 s)=(boxX l a b).first∧true=(boxX l a b).some_∧boxX l (a + 1) b=(boxX l a b).take:=by
 obtain ⟨hi,rfl⟩:=List.getElem?_eq_some_iff.1 hs
 have hlt:a < ((l.map ct64).take b).length:=by simp;omega
 have e:(boxX l a b).l=askB (ct64 l[a]) :: (boxX l (a + 1) b).l:=by
  unfold boxX
  simp only
  rw [List.drop_eq_getElem_cons hlt,List.map_cons]
  simp
 refine ⟨?_,?_,?_⟩
 · unfold BoxM.first;rw [e];rfl
 · unfold BoxM.some_;rw [e];simp
 · unfold BoxM.take;rw [e];rfl
theorem BoxOrder_law (a0:Value) (l:List ByteArray) (w:World) (ha:RdG 1 w a0 l.length (strg l)) (hl:∀ s ∈ l,s.size≤maxLen) (hC:Codes w):Calls Tryz.prog 13 #[a0] w fun e w' => e=.returned (.bool true)∧Below w.heap.size w w' := by
 obtain ⟨A,cap,rfl,hcap,hmax⟩:=ha.shape
 have HA:=jzD ha
 have HC:=jzD hC
 have HOK:=jzD hl
 obtain ⟨L,hL⟩:∃ L,L=l.length:=⟨_,rfl⟩
 rw [← hL] at hcap ⊢
 have HL:=jzD hL
 have HCAP:=jzD hcap
 clear ha hC hl hL hcap hmax
 go_enter Tryz.func13,Tryz.ntmps13
 go_upto_block 0 with (first
  | (go_at_call 18;((with_reducible refine (dcalls_keep Emp.stab (Done.emp w) (begun16_any _ HC.out)).mono ?_);rintro e w1 ⟨rfl,hs⟩;have HS1:=jzD hs;clear hs))
  | (go_at_call 44;((with_reducible refine (dB_new Emp.stab HS1.out).mono ?_);rintro e w2 ⟨a1,rfl,hs⟩;have HS2:=jzD hs.unemp;clear hs)))
 go_cut [5] (fun nv wx=>(8 < L∧nv=.int .i64 8∧Done w [] (BoxW (.pointer (some a1)) (boxX l 0 8)) wx) ∨ (L≤8∧nv=.int .i64 (L:Int)∧Done w [] (BoxW (.pointer (some a1)) (boxX l 0 L)) wx))
 case first =>
  go_wp2_with fail
  go_loopw [5,6] (fun nv iv wr=>∃ i:Nat,i≤12∧i≤L∧iv=.int .i64 (i:Int)∧nv=.int .i64 ((min i 8:Nat):Int)∧Done w [] (BoxW (.pointer (some a1)) (boxX l 0 (min i 8))) wr) (fun _ iv _=>(12 - intOf iv).toNat)
  case atStart=>exact ⟨0,by omega,by omega,rfl,rfl,HS2.out⟩
  case round =>
   clear HS1 HS2
   obtain ⟨i,hi12,hiL,rfl,rfl,hs⟩:=hrel
   obtain ⟨N,hN⟩:∃ N,min i 8=N:=⟨_,rfl⟩
   rw [hN] at hs ⊢
   have HN:=jzD hN
   have HS2:=jzD hs
   clear hs hN
   by_cases hlt:i < L
   · have t1:decide ((i:Int) < (L:Int))=true:=decide_eq_true (by omega)
     by_cases h12:i < 12
     · have t2:decide ((i:Int) < 12)=true:=decide_eq_true (by omega)
       have t2b:decide (i < 12)=true:=decide_eq_true h12
       have t3:(i:Int) < (L:Int):=by omega
       have tc:(L:Int)≤(cap:Int):=by have := HCAP.out;omega
       have e4:IntKind.i64.wrap ((i:Int) + 1)=(i:Int) + 1:=IntWalk.i64_in _ (by omega)
       have hil:i < l.length:=by rw [← HL.out];exact hlt
       obtain ⟨x,hx⟩:∃ x,l[i]?=some x:=⟨l[i],List.getElem?_eq_getElem hil⟩
       have hxs:x.size≤maxLen:=HOK.out x (List.mem_of_getElem? hx)
       obtain ⟨b,off,rfl,hcell⟩:=HA.out.one (u:=.string x) (by unfold strg;rw [List.getElem?_map,hx];rfl) hil
       have hlt2:=World.block_lt_of_cell? w _ hcell
       have cx:wr.cell? ⟨b,off + i,none⟩=some (.string x):=(HS2.out.bel.cell (p:=⟨b,off + i,none⟩) hlt2).trans hcell
       have htt:=fun w=>Text_any x 64 w hxs (by omega)
       have HTX:Hid (∀ w,Calls Tryz.prog 19 #[.string x,.int .i64 64] w fun e w' => e=.returned (.string (ct64 x))∧w=w'):=htt
       have hsz:=ct64_size x
       by_cases h8:i < 8
       · have hNi:N=i:=by have := HN.out;omega
         obtain ⟨hp1,hp2⟩:=boxX_put hx h8
         rw [hNi] at HS2 ⊢
         have HP1:=jzD hp1
         have HP2:=jzD hp2
         have HAK:=jzD (askB_ok hsz)
         have e5:IntKind.i64.wrap ((i:Int) + 1)=(i:Int) + 1:=e4
         have HM:Hid (min (i + 1) 8=i + 1):=by show _=_;omega
         clear hp1 hp2 hNi hx hxs hcell hlt2 htt hil
         generalize ct64 x=tx at HTX HP1 HP2 HAK hsz
         go_wp2_with (first
          | (go_at_call 19;((with_reducible refine (HTX.out _).mono ?_);rintro e w' ⟨rfl,hw'⟩;rw [← hw'];clear hw'))
          | (go_at_call 47;((with_reducible refine (dB_put (a:=askB tx) HAK.out HP2.out HP1.out Fr.id_ (C:=fun X=>X) HS2.out).mono ?_);rintro e w3 ⟨rfl,hs⟩;have HS3:=jzD hs;clear hs)))
         go_roundw
         case rel=>exact ⟨i + 1,by omega,by omega,by go_num,by rw [HM.out];go_num,by rw [HM.out];exact HS3.out⟩
         case measure=>simp [intOf] <;> omega
       · have hNi:N=8:=by have := HN.out;omega
         obtain ⟨hp1,hp2⟩:=boxX_full (l:=l) (s:=x) (by omega)
         rw [hNi] at HS2 ⊢
         have HP1:=jzD hp1
         have HP2:=jzD hp2
         have HAK:=jzD (askB_ok hsz)
         have HM:Hid (min (i + 1) 8=8):=by show _=_;omega
         clear hp1 hp2 hNi hx hxs hcell hlt2 htt hil
         generalize ct64 x=tx at HTX HP1 HP2 HAK hsz
         go_wp2_with (first
          | (go_at_call 19;((with_reducible refine (HTX.out _).mono ?_);rintro e w' ⟨rfl,hw'⟩;rw [← hw'];clear hw'))
          | (go_at_call 47;((with_reducible refine (dB_put (a:=askB tx) HAK.out HP2.out HP1.out Fr.id_ (C:=fun X=>X) HS2.out).mono ?_);rintro e w3 ⟨rfl,hs⟩;have HS3:=jzD hs;clear hs)))
         go_roundw
         case rel=>exact ⟨i + 1,by omega,by omega,by go_num,by rw [HM.out];rfl,by rw [HM.out];exact HS3.out⟩
         case measure=>simp [intOf] <;> omega
     · have t2:decide ((i:Int) < 12)=false:=decide_eq_false (by omega)
       have t2b:decide (i < 12)=false:=decide_eq_false h12
       have hN8:N=8:=by have := HN.out;omega
       rw [hN8] at HS2 ⊢
       clear hN8
       go_wp2_with fail
       go_meet
       exact .inl ⟨by omega,rfl,HS2.out⟩
   · have t1:decide ((i:Int) < (L:Int))=false:=decide_eq_false (by omega)
     have hiL2:i=L:=by omega
     by_cases hL8:8 < L
     · have hN8:N=8:=by have := HN.out;omega
       rw [hN8] at HS2 ⊢
       clear hN8 hiL2
       go_wp2_with fail
       go_meet
       exact .inl ⟨by omega,rfl,HS2.out⟩
     · have hN8:N=L:=by have := HN.out;omega
       rw [hN8] at HS2 ⊢
       clear hN8 hiL2
       go_wp2_with fail
       go_meet
       exact .inr ⟨by omega,rfl,HS2.out⟩
 case rest =>
  clear HS1 HS2
  rcases hcut with ⟨hL8,rfl,hs⟩ | ⟨hL8,rfl,hs⟩
  · have HS2:=jzD hs
    clear hs
    have m1:(8:Int) < (L:Int):=by omega
    have m2:decide ((8:Int) < (L:Int))=true:=decide_eq_true m1
    have m4:min (L:Int) 8=8:=by omega
    go_wp2
    go_loopw [7] (fun jv wr=>∃ j:Nat,j≤8∧jv=.int .i64 (j:Int)∧Done w [] (BoxW (.pointer (some a1)) (boxX l j 8)) wr) (fun jv _=>(9 - intOf jv).toNat)
    case atStart=>exact ⟨0,by omega,rfl,HS2.out⟩
    case round =>
     clear HS2
     obtain ⟨j,hjN,rfl,hs⟩:=hrel
     have HS3:=jzD hs
     clear hs
     by_cases hjn:j < 8
     · have t1:decide ((j:Int) < 8)=true:=decide_eq_true (by omega)
       have t1b:decide (j < 8)=true:=decide_eq_true hjn
       have t3:(j:Int) < (L:Int):=by omega
       have tc:(L:Int)≤(cap:Int):=by have := HCAP.out;omega
       have e4:IntKind.i64.wrap ((j:Int) + 1)=(j:Int) + 1:=IntWalk.i64_in _ (by omega)
       have hjl:j < l.length:=by rw [← HL.out];omega
       obtain ⟨x,hx⟩:∃ x,l[j]?=some x:=⟨l[j],List.getElem?_eq_getElem hjl⟩
       have hxs:x.size≤maxLen:=HOK.out x (List.mem_of_getElem? hx)
       obtain ⟨b,off,rfl,hcell⟩:=HA.out.one (u:=.string x) (by unfold strg;rw [List.getElem?_map,hx];rfl) hjl
       have HLT:=jzD (World.block_lt_of_cell? w _ hcell)
       have HCX:=jzD hcell
       have htt:=fun w=>Text_any x 64 w hxs (by omega)
       have HTX:Hid (∀ w,Calls Tryz.prog 19 #[.string x,.int .i64 64] w fun e w' => e=.returned (.string (ct64 x))∧w=w'):=htt
       obtain ⟨hf1,hf2,hf3⟩:=boxX_take hx hjn (b:=8) (by have := HL.out;omega)
       have HF1:=jzD hf1
       have HF2:=jzD hf2
       have HF3:=jzD hf3
       clear hf1 hf2 hf3 hx hxs hcell htt hjl
       generalize ct64 x=tx at HTX HF1
       go_wp2_with (first
        | ((with_reducible refine wpList_storeBD (C:=fun X=>Star (BoxW (.pointer (some a1)) (boxX l j 8)) X) (Fr.r (BoxW.stab _ _) Fr.id_) HT4.out rfl 68 (.tmp 8) (.tmp 50) rfl #[.int .i64 3,.int .i64 0,.int .u32 0,.string tx] rfl rfl (by kernel_rfl) rfl (by kernel_rfl) ?_);intro w5 hs;have HS5:Hid (Done w [] (Star (BoxW (.pointer (some a1)) (boxX l j 8)) (CellW w4.heap.size (yC 3 0 0 tx) 68)) w5):=(by show Done _ _ _ _;exact hs);clear hs)
        | ((with_reducible refine wpList_storeBD (C:=fun X=>Star (Star (BoxW (.pointer (some a1)) (boxX l (j + 1) 8)) (CellW w4.heap.size (yC 3 0 0 tx) 68)) X) (Fr.r ((BoxW.stab _ _).star cS) Fr.id_) HT6.out rfl 68 (.tmp 10) (.tmp 55) rfl #[.int .i64 3,.int .i64 0,.int .u32 0,.string tx] rfl rfl (by kernel_rfl) rfl (by kernel_rfl) ?_);intro w7 hs;have HS7:Hid (Done w [] (Star (Star (BoxW (.pointer (some a1)) (boxX l (j + 1) 8)) (CellW w4.heap.size (yC 3 0 0 tx) 68)) (CellW w6.heap.size (yC 3 0 0 tx) 68)) w7):=(by show Done _ _ _ _;exact hs);clear hs)
        | (go_at_call 48;((with_reducible refine (dB_first (a:=askB tx) (b:=true) HF1.out HF2.out (C:=fun X=>X) Fr.id_ (BoxW.stab _ _) HS3.out).mono ?_);rintro e w4 ⟨rfl,hs⟩;have HS4:Hid (Done w [] (BoxW (.pointer (some a1)) (boxX l j 8)) w4):=(by show Done _ _ _ _;exact hs);clear hs;have HT4:Hid (Done w [] (Star (BoxW (.pointer (some a1)) (boxX l j 8)) (CellW w4.heap.size (yC 0 0 0 ⟨#[]⟩) 68)) (w4.alloc (.cells (yC 0 0 0 ⟨#[]⟩) 68))):=HS4.out.add (BoxW.stab _ _) (CellW.new w4 #[.int .i64 0,.int .i64 0,.int .u32 0,.string ⟨#[]⟩] 68)))
        | (go_at_call 49;((with_reducible refine (dB_take (a:=askB tx) (b:=true) (m' := boxX l (j + 1) 8) HF1.out HF2.out HF3.out (C:=fun X=>Star (X) (CellW w4.heap.size (yC 3 0 0 tx) 68)) (Fr.l Fr.id_ cS) HS5.out).mono ?_);rintro e w6 ⟨rfl,hs⟩;have HS6:Hid (Done w [] (Star (BoxW (.pointer (some a1)) (boxX l (j + 1) 8)) (CellW w4.heap.size (yC 3 0 0 tx) 68)) w6):=(by show Done _ _ _ _;exact hs);clear hs;have HT6:Hid (Done w [] (Star (Star (BoxW (.pointer (some a1)) (boxX l (j + 1) 8)) (CellW w4.heap.size (yC 3 0 0 tx) 68)) (CellW w6.heap.size (yC 0 0 0 ⟨#[]⟩) 68)) (w6.alloc (.cells (yC 0 0 0 ⟨#[]⟩) 68))):=HS6.out.add ((BoxW.stab _ _).star cS) (CellW.new w6 #[.int .i64 0,.int .i64 0,.int .u32 0,.string ⟨#[]⟩] 68))))
       refine regq (fun W=>Done w [] (Star (Star (BoxW (.pointer (some a1)) (boxX l (j + 1) 8)) (CellW w4.heap.size (yC 3 0 0 tx) 68)) (CellW w6.heap.size (yC 3 0 0 tx) 68)) W) (by kernel_rfl) (by kernel_rfl) (HS7.out.drewD (((BoxW.stab _ _).star cS).star cS)) ?_
       iterate 7 refine qtk ?_
       refine q_take (v:=.agg #[.int .i64 3,.int .i64 0,.int .u32 0,.string tx]) (by rfl) (fun W HW=>exec_load_mid 68 (.tmp 8) rfl w4.heap.size 0 rfl [.int .i64 3,.int .i64 0,.int .u32 0,.string tx] _ (row_rng (Done.at_ (C:=fun X=>Star (Star (BoxW (.pointer (some a1)) (boxX l (j + 1) 8)) X) (CellW w6.heap.size (yC 3 0 0 tx) 68)) (Fr.l (Fr.r (BoxW.stab _ _) Fr.id_) cS) HW)) Tryz.underlying68 rfl (by kernel_rfl)) ?_
       simp only [Act.put,jzU,jzV,jzW]
       refine q_take (v:=.agg #[.int .i64 3,.int .i64 0,.int .u32 0,.string tx]) (by rfl) (fun W HW=>exec_load_mid 68 (.tmp 10) rfl w6.heap.size 0 rfl [.int .i64 3,.int .i64 0,.int .u32 0,.string tx] _ (row_rng (Done.at_ (C:=fun X=>Star (Star (BoxW (.pointer (some a1)) (boxX l (j + 1) 8)) (CellW w4.heap.size (yC 3 0 0 tx) 68)) X) (Fr.r ((BoxW.stab _ _).star cS) Fr.id_) HW)) Tryz.underlying68 rfl (by kernel_rfl)) ?_
       simp only [Act.put,jzU,jzV,jzW]
       refine q_take (v:=.bool false) (by rfl) (fun W HW=>exec_cmp rfl rfl rfl (guard_A _ _ _ _ _ _) (neq_ask (askB tx) W)) ?_
       simp only [Act.put,jzU,jzV,jzW]
       iterate 3 refine qtk ?_
       refine qtk ?_ (hy:=by intro W HW;have z:=cell_at (Done.at_ (C:=fun X=>Star (Star (BoxW (.pointer (some a1)) (boxX l (j + 1) 8)) X) (CellW w6.heap.size (yC 3 0 0 tx) 68)) (Fr.l (Fr.r (BoxW.stab _ _) Fr.id_) cS) HW) 3 (.string tx) rfl;go_simp;try with_reducible rfl)
       iterate 3 refine qtk ?_
       refine qtk ?_ (hy:=by intro W HW;have z:W.cell? ⟨b,off + j,none⟩=some (.string x):=(HW.bel.cell (p:=⟨b,off + j,none⟩) HLT.out).trans HCX.out;go_simp;try with_reducible rfl)
       refine q_call 19 #[.string x,.int .i64 64] (by rfl) (by intro W HW;go_simp) (fun U HU=>(HTX.out U).mono fun _ _ ⟨h1,h2⟩=>⟨h1,h2 ▸ HU⟩) ?_
       simp only [Act.put,jzU,jzV,jzW]
       iterate 2 refine qtk ?_
       refine q_done ?_
       intro w9 hs9
       have HS9:=jzD hs9.drop.drop
       clear hs9
       go_wp2
       go_roundw
       case rel=>first | exact ⟨j + 1,by omega,by go_num,HS9.out⟩ | exact ⟨_,_,_,_,_,_,_,_,_,_,_,_,⟨j + 1,by omega,by go_num,HS9.out⟩,rfl⟩ | exact ⟨_,_,_,_,_,_,_,_,_,_,_,_,_,⟨j + 1,by omega,by go_num,HS9.out⟩,rfl⟩ | exact ⟨_,_,_,_,_,_,_,_,_,_,_,_,_,_,⟨j + 1,by omega,by go_num,HS9.out⟩,rfl⟩ | exact ⟨_,_,_,_,_,_,_,_,_,_,_,_,_,_,_,⟨j + 1,by omega,by go_num,HS9.out⟩,rfl⟩ | exact ⟨_,_,_,_,_,_,_,_,_,_,_,_,_,_,_,_,⟨j + 1,by omega,by go_num,HS9.out⟩,rfl⟩ | exact ⟨_,_,_,_,_,_,_,_,_,_,_,_,_,_,_,_,_,⟨j + 1,by omega,by go_num,HS9.out⟩,rfl⟩ | exact ⟨_,_,_,_,_,_,_,_,_,_,_,_,_,_,_,_,_,_,⟨j + 1,by omega,by go_num,HS9.out⟩,rfl⟩ | exact ⟨_,_,_,_,_,_,_,_,_,_,_,_,_,_,_,_,_,_,_,⟨j + 1,by omega,by go_num,HS9.out⟩,rfl⟩ | exact ⟨_,_,_,_,_,_,_,_,_,_,_,_,_,_,_,_,_,_,_,_,⟨j + 1,by omega,by go_num,HS9.out⟩,rfl⟩ | exact ⟨_,_,_,_,_,_,_,_,_,_,_,_,_,_,_,_,_,_,_,_,_,⟨j + 1,by omega,by go_num,HS9.out⟩,rfl⟩ | exact ⟨_,_,_,_,_,_,_,_,_,_,_,_,_,_,_,_,_,_,_,_,_,_,⟨j + 1,by omega,by go_num,HS9.out⟩,rfl⟩ | exact ⟨_,_,_,_,_,_,_,_,_,_,_,_,_,_,_,_,_,_,_,_,_,_,_,⟨j + 1,by omega,by go_num,HS9.out⟩,rfl⟩ | exact ⟨_,_,_,_,_,_,_,_,_,_,_,_,_,_,_,_,_,_,_,_,_,_,_,_,⟨j + 1,by omega,by go_num,HS9.out⟩,rfl⟩ | exact ⟨_,_,_,_,_,_,_,_,_,_,_,_,_,_,_,_,_,_,_,_,_,_,_,_,_,⟨j + 1,by omega,by go_num,HS9.out⟩,rfl⟩ | exact ⟨_,_,_,_,_,_,_,_,_,_,_,_,_,_,_,_,_,_,_,_,_,_,_,_,_,_,⟨j + 1,by omega,by go_num,HS9.out⟩,rfl⟩ | exact ⟨_,_,_,_,_,_,_,_,_,_,_,_,_,_,_,_,_,_,_,_,_,_,_,_,_,_,_,⟨j + 1,by omega,by go_num,HS9.out⟩,rfl⟩ | exact ⟨_,_,_,_,_,_,_,_,_,_,_,_,_,_,_,_,_,_,_,_,_,_,_,_,_,_,_,_,⟨j + 1,by omega,by go_num,HS9.out⟩,rfl⟩ | exact ⟨_,_,_,_,_,_,_,_,_,_,_,_,_,_,_,_,_,_,_,_,_,_,_,_,_,_,_,_,_,⟨j + 1,by omega,by go_num,HS9.out⟩,rfl⟩ | exact ⟨_,_,_,_,_,_,_,_,_,_,_,_,_,_,_,_,_,_,_,_,_,_,_,_,_,_,_,_,_,_,⟨j + 1,by omega,by go_num,HS9.out⟩,rfl⟩ | exact ⟨_,_,_,_,_,_,_,_,_,_,_,_,_,_,_,_,_,_,_,_,_,_,_,_,_,_,_,_,_,_,_,⟨j + 1,by omega,by go_num,HS9.out⟩,rfl⟩ | exact ⟨_,_,_,_,_,_,_,_,_,_,_,_,_,_,_,_,_,_,_,_,_,_,_,_,_,_,_,_,_,_,_,_,⟨j + 1,by omega,by go_num,HS9.out⟩,rfl⟩ | exact ⟨_,_,_,_,_,_,_,_,_,_,_,_,_,_,_,_,_,_,_,_,_,_,_,_,_,_,_,_,_,_,_,_,_,⟨j + 1,by omega,by go_num,HS9.out⟩,rfl⟩ | exact ⟨_,_,_,_,_,_,_,_,_,_,_,_,_,_,_,_,_,_,_,_,_,_,_,_,_,_,_,_,_,_,_,_,_,_,⟨j + 1,by omega,by go_num,HS9.out⟩,rfl⟩ | exact ⟨_,_,_,_,_,_,_,_,_,_,_,_,_,_,_,_,_,_,_,_,_,_,_,_,_,_,_,_,_,_,_,_,_,_,_,⟨j + 1,by omega,by go_num,HS9.out⟩,rfl⟩ | exact ⟨_,_,_,_,_,_,_,_,_,_,_,_,_,_,_,_,_,_,_,_,_,_,_,_,_,_,_,_,_,_,_,_,_,_,_,_,⟨j + 1,by omega,by go_num,HS9.out⟩,rfl⟩ | exact ⟨_,_,_,_,_,_,_,_,_,_,_,_,_,_,_,_,_,_,_,_,_,_,_,_,_,_,_,_,_,_,_,_,_,_,_,_,_,⟨j + 1,by omega,by go_num,HS9.out⟩,rfl⟩ | exact ⟨_,_,_,_,_,_,_,_,_,_,_,_,_,_,_,_,_,_,_,_,_,_,_,_,_,_,_,_,_,_,_,_,_,_,_,_,_,_,⟨j + 1,by omega,by go_num,HS9.out⟩,rfl⟩ | exact ⟨_,_,_,_,_,_,_,_,_,_,_,_,_,_,_,_,_,_,_,_,_,_,_,_,_,_,_,_,_,_,_,_,_,_,_,_,_,_,_,⟨j + 1,by omega,by go_num,HS9.out⟩,rfl⟩ | exact ⟨_,_,_,_,_,_,_,_,_,_,_,_,_,_,_,_,_,_,_,_,_,_,_,_,_,_,_,_,_,_,_,_,_,_,_,_,_,_,_,_,⟨j + 1,by omega,by go_num,HS9.out⟩,rfl⟩ | exact ⟨_,_,_,_,_,_,_,_,_,_,_,_,_,_,_,_,_,_,_,_,_,_,_,_,_,_,_,_,_,_,_,_,_,_,_,_,_,_,_,_,_,⟨j + 1,by omega,by go_num,HS9.out⟩,rfl⟩ | exact ⟨_,_,_,_,_,_,_,_,_,_,_,_,_,_,_,_,_,_,_,_,_,_,_,_,_,_,_,_,_,_,_,_,_,_,_,_,_,_,_,_,_,_,⟨j + 1,by omega,by go_num,HS9.out⟩,rfl⟩ | exact ⟨_,_,_,_,_,_,_,_,_,_,_,_,_,_,_,_,_,_,_,_,_,_,_,_,_,_,_,_,_,_,_,_,_,_,_,_,_,_,_,_,_,_,_,⟨j + 1,by omega,by go_num,HS9.out⟩,rfl⟩ | exact ⟨_,_,_,_,_,_,_,_,_,_,_,_,_,_,_,_,_,_,_,_,_,_,_,_,_,_,_,_,_,_,_,_,_,_,_,_,_,_,_,_,_,_,_,_,⟨j + 1,by omega,by go_num,HS9.out⟩,rfl⟩ | exact ⟨_,_,_,_,_,_,_,_,_,_,_,_,_,_,_,_,_,_,_,_,_,_,_,_,_,_,_,_,_,_,_,_,_,_,_,_,_,_,_,_,_,_,_,_,_,⟨j + 1,by omega,by go_num,HS9.out⟩,rfl⟩ | exact ⟨_,_,_,_,_,_,_,_,_,_,_,_,_,_,_,_,_,_,_,_,_,_,_,_,_,_,_,_,_,_,_,_,_,_,_,_,_,_,_,_,_,_,_,_,_,_,⟨j + 1,by omega,by go_num,HS9.out⟩,rfl⟩ | exact ⟨_,_,_,_,_,_,_,_,_,_,_,_,_,_,_,_,_,_,_,_,_,_,_,_,_,_,_,_,_,_,_,_,_,_,_,_,_,_,_,_,_,_,_,_,_,_,_,⟨j + 1,by omega,by go_num,HS9.out⟩,rfl⟩
       case measure=>simp [intOf] <;> omega
     · have t1:decide ((j:Int) < 8)=false:=decide_eq_false (by omega)
       have t1b:decide (j < 8)=false:=decide_eq_false hjn
       have hj:j=8:=by omega
       rw [hj] at HS3
       have HZ:Hid ((0:Int)=((boxX l 8 8).l.length:Int)):=by show _=_;rw [boxX_len (by have := HL.out;omega)];omega
       clear hj
       go_wp2_with (go_at_call 50;((with_reducible refine (dB_len (C:=fun X=>X) HZ.out Fr.id_ (BoxW.stab _ _) HS3.out).mono ?_);rintro e w4 ⟨rfl,hs⟩;have HS4:=jzD hs;clear hs))
       go_ret
       exact ⟨rfl,HS4.out.bel⟩
  · have HS2:=jzD hs
    clear hs
    have m0:¬ 8 < L:=by omega
    have m1:¬ (8:Int) < (L:Int):=by omega
    have m2:decide ((8:Int) < (L:Int))=false:=decide_eq_false m1
    have m3:decide (8 < L)=false:=decide_eq_false m0
    have m4:min (L:Int) 8=(L:Int):=by omega
    go_wp2
    go_loopw [7] (fun jv wr=>∃ j:Nat,j≤L∧jv=.int .i64 (j:Int)∧Done w [] (BoxW (.pointer (some a1)) (boxX l j L)) wr) (fun jv _=>(9 - intOf jv).toNat)
    case atStart=>exact ⟨0,by omega,rfl,HS2.out⟩
    case round =>
     clear HS2
     obtain ⟨j,hjN,rfl,hs⟩:=hrel
     have HS3:=jzD hs
     clear hs
     by_cases hjn:j < L
     · have t1:decide ((j:Int) < (L:Int))=true:=decide_eq_true (by omega)
       have t1b:decide (j < L)=true:=decide_eq_true hjn
       have t3:(j:Int) < (L:Int):=by omega
       have tc:(L:Int)≤(cap:Int):=by have := HCAP.out;omega
       have e4:IntKind.i64.wrap ((j:Int) + 1)=(j:Int) + 1:=IntWalk.i64_in _ (by omega)
       have hjl:j < l.length:=by rw [← HL.out];omega
       obtain ⟨x,hx⟩:∃ x,l[j]?=some x:=⟨l[j],List.getElem?_eq_getElem hjl⟩
       have hxs:x.size≤maxLen:=HOK.out x (List.mem_of_getElem? hx)
       obtain ⟨b,off,rfl,hcell⟩:=HA.out.one (u:=.string x) (by unfold strg;rw [List.getElem?_map,hx];rfl) hjl
       have HLT:=jzD (World.block_lt_of_cell? w _ hcell)
       have HCX:=jzD hcell
       have htt:=fun w=>Text_any x 64 w hxs (by omega)
       have HTX:Hid (∀ w,Calls Tryz.prog 19 #[.string x,.int .i64 64] w fun e w' => e=.returned (.string (ct64 x))∧w=w'):=htt
       obtain ⟨hf1,hf2,hf3⟩:=boxX_take hx hjn (b:=L) (by have := HL.out;omega)
       have HF1:=jzD hf1
       have HF2:=jzD hf2
       have HF3:=jzD hf3
       clear hf1 hf2 hf3 hx hxs hcell htt hjl
       generalize ct64 x=tx at HTX HF1
       go_wp2_with (first
        | ((with_reducible refine wpList_storeBD (C:=fun X=>Star (BoxW (.pointer (some a1)) (boxX l j L)) X) (Fr.r (BoxW.stab _ _) Fr.id_) HT4.out rfl 68 (.tmp 8) (.tmp 50) rfl #[.int .i64 3,.int .i64 0,.int .u32 0,.string tx] rfl rfl (by kernel_rfl) rfl (by kernel_rfl) ?_);intro w5 hs;have HS5:Hid (Done w [] (Star (BoxW (.pointer (some a1)) (boxX l j L)) (CellW w4.heap.size (yC 3 0 0 tx) 68)) w5):=(by show Done _ _ _ _;exact hs);clear hs)
        | ((with_reducible refine wpList_storeBD (C:=fun X=>Star (Star (BoxW (.pointer (some a1)) (boxX l (j + 1) L)) (CellW w4.heap.size (yC 3 0 0 tx) 68)) X) (Fr.r ((BoxW.stab _ _).star cS) Fr.id_) HT6.out rfl 68 (.tmp 10) (.tmp 55) rfl #[.int .i64 3,.int .i64 0,.int .u32 0,.string tx] rfl rfl (by kernel_rfl) rfl (by kernel_rfl) ?_);intro w7 hs;have HS7:Hid (Done w [] (Star (Star (BoxW (.pointer (some a1)) (boxX l (j + 1) L)) (CellW w4.heap.size (yC 3 0 0 tx) 68)) (CellW w6.heap.size (yC 3 0 0 tx) 68)) w7):=(by show Done _ _ _ _;exact hs);clear hs)
        | (go_at_call 48;((with_reducible refine (dB_first (a:=askB tx) (b:=true) HF1.out HF2.out (C:=fun X=>X) Fr.id_ (BoxW.stab _ _) HS3.out).mono ?_);rintro e w4 ⟨rfl,hs⟩;have HS4:Hid (Done w [] (BoxW (.pointer (some a1)) (boxX l j L)) w4):=(by show Done _ _ _ _;exact hs);clear hs;have HT4:Hid (Done w [] (Star (BoxW (.pointer (some a1)) (boxX l j L)) (CellW w4.heap.size (yC 0 0 0 ⟨#[]⟩) 68)) (w4.alloc (.cells (yC 0 0 0 ⟨#[]⟩) 68))):=HS4.out.add (BoxW.stab _ _) (CellW.new w4 #[.int .i64 0,.int .i64 0,.int .u32 0,.string ⟨#[]⟩] 68)))
        | (go_at_call 49;((with_reducible refine (dB_take (a:=askB tx) (b:=true) (m' := boxX l (j + 1) L) HF1.out HF2.out HF3.out (C:=fun X=>Star (X) (CellW w4.heap.size (yC 3 0 0 tx) 68)) (Fr.l Fr.id_ cS) HS5.out).mono ?_);rintro e w6 ⟨rfl,hs⟩;have HS6:Hid (Done w [] (Star (BoxW (.pointer (some a1)) (boxX l (j + 1) L)) (CellW w4.heap.size (yC 3 0 0 tx) 68)) w6):=(by show Done _ _ _ _;exact hs);clear hs;have HT6:Hid (Done w [] (Star (Star (BoxW (.pointer (some a1)) (boxX l (j + 1) L)) (CellW w4.heap.size (yC 3 0 0 tx) 68)) (CellW w6.heap.size (yC 0 0 0 ⟨#[]⟩) 68)) (w6.alloc (.cells (yC 0 0 0 ⟨#[]⟩) 68))):=HS6.out.add ((BoxW.stab _ _).star cS) (CellW.new w6 #[.int .i64 0,.int .i64 0,.int .u32 0,.string ⟨#[]⟩] 68))))
       refine regq (fun W=>Done w [] (Star (Star (BoxW (.pointer (some a1)) (boxX l (j + 1) L)) (CellW w4.heap.size (yC 3 0 0 tx) 68)) (CellW w6.heap.size (yC 3 0 0 tx) 68)) W) (by kernel_rfl) (by kernel_rfl) (HS7.out.drewD (((BoxW.stab _ _).star cS).star cS)) ?_
       iterate 7 refine qtk ?_
       refine q_take (v:=.agg #[.int .i64 3,.int .i64 0,.int .u32 0,.string tx]) (by rfl) (fun W HW=>exec_load_mid 68 (.tmp 8) rfl w4.heap.size 0 rfl [.int .i64 3,.int .i64 0,.int .u32 0,.string tx] _ (row_rng (Done.at_ (C:=fun X=>Star (Star (BoxW (.pointer (some a1)) (boxX l (j + 1) L)) X) (CellW w6.heap.size (yC 3 0 0 tx) 68)) (Fr.l (Fr.r (BoxW.stab _ _) Fr.id_) cS) HW)) Tryz.underlying68 rfl (by kernel_rfl)) ?_
       simp only [Act.put,jzU,jzV,jzW]
       refine q_take (v:=.agg #[.int .i64 3,.int .i64 0,.int .u32 0,.string tx]) (by rfl) (fun W HW=>exec_load_mid 68 (.tmp 10) rfl w6.heap.size 0 rfl [.int .i64 3,.int .i64 0,.int .u32 0,.string tx] _ (row_rng (Done.at_ (C:=fun X=>Star (Star (BoxW (.pointer (some a1)) (boxX l (j + 1) L)) (CellW w4.heap.size (yC 3 0 0 tx) 68)) X) (Fr.r ((BoxW.stab _ _).star cS) Fr.id_) HW)) Tryz.underlying68 rfl (by kernel_rfl)) ?_
       simp only [Act.put,jzU,jzV,jzW]
       refine q_take (v:=.bool false) (by rfl) (fun W HW=>exec_cmp rfl rfl rfl (guard_A _ _ _ _ _ _) (neq_ask (askB tx) W)) ?_
       simp only [Act.put,jzU,jzV,jzW]
       iterate 3 refine qtk ?_
       refine qtk ?_ (hy:=by intro W HW;have z:=cell_at (Done.at_ (C:=fun X=>Star (Star (BoxW (.pointer (some a1)) (boxX l (j + 1) L)) X) (CellW w6.heap.size (yC 3 0 0 tx) 68)) (Fr.l (Fr.r (BoxW.stab _ _) Fr.id_) cS) HW) 3 (.string tx) rfl;go_simp;try with_reducible rfl)
       iterate 3 refine qtk ?_
       refine qtk ?_ (hy:=by intro W HW;have z:W.cell? ⟨b,off + j,none⟩=some (.string x):=(HW.bel.cell (p:=⟨b,off + j,none⟩) HLT.out).trans HCX.out;go_simp;try with_reducible rfl)
       refine q_call 19 #[.string x,.int .i64 64] (by rfl) (by intro W HW;go_simp) (fun U HU=>(HTX.out U).mono fun _ _ ⟨h1,h2⟩=>⟨h1,h2 ▸ HU⟩) ?_
       simp only [Act.put,jzU,jzV,jzW]
       iterate 2 refine qtk ?_
       refine q_done ?_
       intro w9 hs9
       have HS9:=jzD hs9.drop.drop
       clear hs9
       go_wp2
       go_roundw
       case rel=>first | exact ⟨j + 1,by omega,by go_num,HS9.out⟩ | exact ⟨_,_,_,_,_,_,_,_,_,_,_,_,⟨j + 1,by omega,by go_num,HS9.out⟩,rfl⟩ | exact ⟨_,_,_,_,_,_,_,_,_,_,_,_,_,⟨j + 1,by omega,by go_num,HS9.out⟩,rfl⟩ | exact ⟨_,_,_,_,_,_,_,_,_,_,_,_,_,_,⟨j + 1,by omega,by go_num,HS9.out⟩,rfl⟩ | exact ⟨_,_,_,_,_,_,_,_,_,_,_,_,_,_,_,⟨j + 1,by omega,by go_num,HS9.out⟩,rfl⟩ | exact ⟨_,_,_,_,_,_,_,_,_,_,_,_,_,_,_,_,⟨j + 1,by omega,by go_num,HS9.out⟩,rfl⟩ | exact ⟨_,_,_,_,_,_,_,_,_,_,_,_,_,_,_,_,_,⟨j + 1,by omega,by go_num,HS9.out⟩,rfl⟩ | exact ⟨_,_,_,_,_,_,_,_,_,_,_,_,_,_,_,_,_,_,⟨j + 1,by omega,by go_num,HS9.out⟩,rfl⟩ | exact ⟨_,_,_,_,_,_,_,_,_,_,_,_,_,_,_,_,_,_,_,⟨j + 1,by omega,by go_num,HS9.out⟩,rfl⟩ | exact ⟨_,_,_,_,_,_,_,_,_,_,_,_,_,_,_,_,_,_,_,_,⟨j + 1,by omega,by go_num,HS9.out⟩,rfl⟩ | exact ⟨_,_,_,_,_,_,_,_,_,_,_,_,_,_,_,_,_,_,_,_,_,⟨j + 1,by omega,by go_num,HS9.out⟩,rfl⟩ | exact ⟨_,_,_,_,_,_,_,_,_,_,_,_,_,_,_,_,_,_,_,_,_,_,⟨j + 1,by omega,by go_num,HS9.out⟩,rfl⟩ | exact ⟨_,_,_,_,_,_,_,_,_,_,_,_,_,_,_,_,_,_,_,_,_,_,_,⟨j + 1,by omega,by go_num,HS9.out⟩,rfl⟩ | exact ⟨_,_,_,_,_,_,_,_,_,_,_,_,_,_,_,_,_,_,_,_,_,_,_,_,⟨j + 1,by omega,by go_num,HS9.out⟩,rfl⟩ | exact ⟨_,_,_,_,_,_,_,_,_,_,_,_,_,_,_,_,_,_,_,_,_,_,_,_,_,⟨j + 1,by omega,by go_num,HS9.out⟩,rfl⟩ | exact ⟨_,_,_,_,_,_,_,_,_,_,_,_,_,_,_,_,_,_,_,_,_,_,_,_,_,_,⟨j + 1,by omega,by go_num,HS9.out⟩,rfl⟩ | exact ⟨_,_,_,_,_,_,_,_,_,_,_,_,_,_,_,_,_,_,_,_,_,_,_,_,_,_,_,⟨j + 1,by omega,by go_num,HS9.out⟩,rfl⟩ | exact ⟨_,_,_,_,_,_,_,_,_,_,_,_,_,_,_,_,_,_,_,_,_,_,_,_,_,_,_,_,⟨j + 1,by omega,by go_num,HS9.out⟩,rfl⟩ | exact ⟨_,_,_,_,_,_,_,_,_,_,_,_,_,_,_,_,_,_,_,_,_,_,_,_,_,_,_,_,_,⟨j + 1,by omega,by go_num,HS9.out⟩,rfl⟩ | exact ⟨_,_,_,_,_,_,_,_,_,_,_,_,_,_,_,_,_,_,_,_,_,_,_,_,_,_,_,_,_,_,⟨j + 1,by omega,by go_num,HS9.out⟩,rfl⟩ | exact ⟨_,_,_,_,_,_,_,_,_,_,_,_,_,_,_,_,_,_,_,_,_,_,_,_,_,_,_,_,_,_,_,⟨j + 1,by omega,by go_num,HS9.out⟩,rfl⟩ | exact ⟨_,_,_,_,_,_,_,_,_,_,_,_,_,_,_,_,_,_,_,_,_,_,_,_,_,_,_,_,_,_,_,_,⟨j + 1,by omega,by go_num,HS9.out⟩,rfl⟩ | exact ⟨_,_,_,_,_,_,_,_,_,_,_,_,_,_,_,_,_,_,_,_,_,_,_,_,_,_,_,_,_,_,_,_,_,⟨j + 1,by omega,by go_num,HS9.out⟩,rfl⟩ | exact ⟨_,_,_,_,_,_,_,_,_,_,_,_,_,_,_,_,_,_,_,_,_,_,_,_,_,_,_,_,_,_,_,_,_,_,⟨j + 1,by omega,by go_num,HS9.out⟩,rfl⟩ | exact ⟨_,_,_,_,_,_,_,_,_,_,_,_,_,_,_,_,_,_,_,_,_,_,_,_,_,_,_,_,_,_,_,_,_,_,_,⟨j + 1,by omega,by go_num,HS9.out⟩,rfl⟩ | exact ⟨_,_,_,_,_,_,_,_,_,_,_,_,_,_,_,_,_,_,_,_,_,_,_,_,_,_,_,_,_,_,_,_,_,_,_,_,⟨j + 1,by omega,by go_num,HS9.out⟩,rfl⟩ | exact ⟨_,_,_,_,_,_,_,_,_,_,_,_,_,_,_,_,_,_,_,_,_,_,_,_,_,_,_,_,_,_,_,_,_,_,_,_,_,⟨j + 1,by omega,by go_num,HS9.out⟩,rfl⟩ | exact ⟨_,_,_,_,_,_,_,_,_,_,_,_,_,_,_,_,_,_,_,_,_,_,_,_,_,_,_,_,_,_,_,_,_,_,_,_,_,_,⟨j + 1,by omega,by go_num,HS9.out⟩,rfl⟩ | exact ⟨_,_,_,_,_,_,_,_,_,_,_,_,_,_,_,_,_,_,_,_,_,_,_,_,_,_,_,_,_,_,_,_,_,_,_,_,_,_,_,⟨j + 1,by omega,by go_num,HS9.out⟩,rfl⟩ | exact ⟨_,_,_,_,_,_,_,_,_,_,_,_,_,_,_,_,_,_,_,_,_,_,_,_,_,_,_,_,_,_,_,_,_,_,_,_,_,_,_,_,⟨j + 1,by omega,by go_num,HS9.out⟩,rfl⟩ | exact ⟨_,_,_,_,_,_,_,_,_,_,_,_,_,_,_,_,_,_,_,_,_,_,_,_,_,_,_,_,_,_,_,_,_,_,_,_,_,_,_,_,_,⟨j + 1,by omega,by go_num,HS9.out⟩,rfl⟩ | exact ⟨_,_,_,_,_,_,_,_,_,_,_,_,_,_,_,_,_,_,_,_,_,_,_,_,_,_,_,_,_,_,_,_,_,_,_,_,_,_,_,_,_,_,⟨j + 1,by omega,by go_num,HS9.out⟩,rfl⟩ | exact ⟨_,_,_,_,_,_,_,_,_,_,_,_,_,_,_,_,_,_,_,_,_,_,_,_,_,_,_,_,_,_,_,_,_,_,_,_,_,_,_,_,_,_,_,⟨j + 1,by omega,by go_num,HS9.out⟩,rfl⟩ | exact ⟨_,_,_,_,_,_,_,_,_,_,_,_,_,_,_,_,_,_,_,_,_,_,_,_,_,_,_,_,_,_,_,_,_,_,_,_,_,_,_,_,_,_,_,_,⟨j + 1,by omega,by go_num,HS9.out⟩,rfl⟩ | exact ⟨_,_,_,_,_,_,_,_,_,_,_,_,_,_,_,_,_,_,_,_,_,_,_,_,_,_,_,_,_,_,_,_,_,_,_,_,_,_,_,_,_,_,_,_,_,⟨j + 1,by omega,by go_num,HS9.out⟩,rfl⟩ | exact ⟨_,_,_,_,_,_,_,_,_,_,_,_,_,_,_,_,_,_,_,_,_,_,_,_,_,_,_,_,_,_,_,_,_,_,_,_,_,_,_,_,_,_,_,_,_,_,⟨j + 1,by omega,by go_num,HS9.out⟩,rfl⟩ | exact ⟨_,_,_,_,_,_,_,_,_,_,_,_,_,_,_,_,_,_,_,_,_,_,_,_,_,_,_,_,_,_,_,_,_,_,_,_,_,_,_,_,_,_,_,_,_,_,_,⟨j + 1,by omega,by go_num,HS9.out⟩,rfl⟩
       case measure=>simp [intOf] <;> omega
     · have t1:decide ((j:Int) < (L:Int))=false:=decide_eq_false (by omega)
       have t1b:decide (j < L)=false:=decide_eq_false hjn
       have hj:j=L:=by omega
       rw [hj] at HS3
       have HZ:Hid ((0:Int)=((boxX l L L).l.length:Int)):=by show _=_;rw [boxX_len (by have := HL.out;omega)];omega
       clear hj
       go_wp2_with (go_at_call 50;((with_reducible refine (dB_len (C:=fun X=>X) HZ.out Fr.id_ (BoxW.stab _ _) HS3.out).mono ?_);rintro e w4 ⟨rfl,hs⟩;have HS4:=jzD hs;clear hs))
       go_ret
       exact ⟨rfl,HS4.out.bel⟩
end Go.Proofs.YtjddbjmcjhjpiaaGreatDoor
