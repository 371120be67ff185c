/- The reference of layer 16: whose numbers clash. -/
import Derived.Test.YtjddbjmcjhjpiaaGreatDoorN16J
import Derived.Test.YtjddbjmcjhjpiaaGreatDoorL16vxQueryAll
import Derived.Test.YtjddbjmcjhjpiaaGreatDoorL16sxQueryAll
import Derived.Test.YtjddbjmcjhjpiaaGreatDoorL16txQueryAll
import Derived.Test.YtjddbjmcjhjpiaaGreatDoorL16uxQueryAll

set_option linter.all false

namespace Go.Proofs.YtjddbjmcjhjpiaaGreatDoor
set_option maxRecDepth 100000
set_option maxHeartbeats 16000000
open Go.RowKit M

theorem insC_cut (n:Int):∀ (l:List Int) (k:Nat),(∀ y ∈ l.take k,y < n)→(k=l.length ∨ ∃ y,l[k]?=some y∧¬ y < n)→insC n l=if l[k]?=some n then l else l.take k ++ n :: l.drop k
 | [],k,_,h=>by
  rcases h with rfl | ⟨y,hy,_⟩
  · simp [insC]
  · simp at hy
 | x :: r,0,_,h=>by
  rcases h with h | ⟨y,hy,hn⟩
  · simp at h
  · have hxy:x=y:=by simpa using hy
    subst hxy
    unfold insC
    by_cases h1:n < x
    · rw [if_pos h1,if_neg (by simp;omega)];rfl
    · have h2:n=x:=by omega
      rw [if_neg h1,if_pos h2,if_pos (by simp [h2])]
 | x :: r,k + 1,hk,h=>by
  have hx:x < n:=hk x (by simp)
  have ih:=insC_cut n r k (fun y hy=>hk y (by simp [hy])) (by
   rcases h with h | ⟨y,hy,hn⟩
   · left;simpa using h
   · right;exact ⟨y,by simpa using hy,hn⟩)
  unfold insC
  rw [if_neg (by omega),if_neg (by omega),ih]
  simp only [List.getElem?_cons_succ,List.take_succ_cons,List.drop_succ_cons,List.cons_append]
  split <;> rfl
theorem clF_take {cl:List Int} {i:Nat} {q:Int} (h:cl[i]?=some q):clF (cl.take (i + 1))=insC q (clF (cl.take i)):=by
 have hi:=List.getElem?_eq_some_iff.1 h
 rw [List.take_succ_eq_append_getElem hi.1,hi.2,clF_snoc]
theorem clF_len:∀ cl:List Int,(clF cl).length≤cl.length:=by
 have h:∀ (cl acc:List Int),(cl.foldl (fun a n=>insC n a) acc).length≤acc.length + cl.length:=by
  intro cl
  induction cl with
  | nil=>intro acc;simp
  | cons n cl ih =>
   intro acc
   have h1:=ih (insC n acc)
   have h2:=insC_len n acc
   simp only [List.foldl_cons,List.length_cons]
   omega
 intro cl
 have := h cl []
 simpa [clF] using this
theorem ins_new {Zs:List Int} {k:Nat} {q:Int} (h1:∀ y ∈ Zs.take k,y < q) (h2:k=Zs.length ∨ ∃ y,Zs[k]?=some y∧¬ y < q) (h3:Zs[k]? ≠ some q):u32s (insC q Zs)=(u32s Zs).take (k * 1) ++ [.int .u32 q] ++ (u32s Zs).drop (k * 1):=by
 rw [insC_cut q Zs k h1 h2,if_neg h3,Nat.mul_one]
 unfold u32s
 simp [List.map_take,List.map_drop]
theorem ins_len {Zs:List Int} {k:Nat} {q:Int} (h1:∀ y ∈ Zs.take k,y < q) (h2:k=Zs.length ∨ ∃ y,Zs[k]?=some y∧¬ y < q) (h3:Zs[k]? ≠ some q) (hk:k≤Zs.length):(insC q Zs).length=Zs.length + 1:=by
 rw [insC_cut q Zs k h1 h2,if_neg h3,List.length_append,List.length_cons,List.length_take,List.length_drop]
 omega
theorem ins_old {Zs:List Int} {k:Nat} {q:Int} (h1:∀ y ∈ Zs.take k,y < q) (h2:∃ y,Zs[k]?=some y∧¬ y < q) (h3:Zs[k]?=some q):insC q Zs=Zs:=by
 rw [insC_cut q Zs k h1 (.inr h2),if_pos h3]
abbrev qA (g:Nat) (me:Int) (sl:Value) (cb co L cc:Nat):Obj:=CellW g #[.int .u32 me,sl,.slice (some ⟨cb,co,none⟩) L cc] 98
abbrev qB (sl:Value) (l:List SeenM):Obj:=OwnO 105 3 sl l.length (secs l)
abbrev qC (cb co L cc:Nat) (cl:List Int):Obj:=OwnO 22 1 (.slice (some ⟨cb,co,none⟩) L cc) L (u32s cl)
abbrev qD (b n c:Nat) (Zs:List Int):Obj:=OwnK 22 1 (.slice (some ⟨b,0,none⟩) n c) n (u32s Zs)
abbrev qS (g cb co L cc i:Nat) (q:Int):World→Prop:=fun U=>U.cell? ⟨g,2,none⟩=some (.slice (some ⟨cb,co,none⟩) L cc)∧U.cell? ⟨cb,co + i,none⟩=some (.int .u32 q)
theorem RLClash_any (g k:Nat) (m:LogM) (F:List Nat) (w:World) (h:RLg g m k w F) (hk:k≤900):Calls Tryz.prog 33 #[.pointer (some ⟨g,0,none⟩)] w fun e w' => ∃ A c,e=.returned (.slice A m.clash.length c)∧(m.clash.length≤c∧c≤maxLen)∧Done w F (Star (RLg g m k) (OwnK 22 1 (.slice A m.clash.length c) m.clash.length (u32s m.clash))) w' := by
 obtain ⟨me,l,cs⟩:=m
 obtain ⟨sl,sc,cl,hcl,hck,h⟩:=h
 have hcl:cs=clF cl:=hcl
 subst hcl
 show Calls Tryz.prog 33 #[.pointer (some ⟨g,0,none⟩)] w fun e w' => ∃ A c,e=.returned (.slice A (clF cl).length c)∧((clF cl).length≤c∧c≤maxLen)∧Done w F (Star (RLg g ⟨me,l,clF cl⟩ k) (OwnK 22 1 (.slice A (clF cl).length c) (clF cl).length (u32s (clF cl)))) w'
 replace h:Done w F (Star (Star (CellW g #[.int .u32 me,sl,sc] 98) (qB sl l)) (OwnO 22 1 sc cl.length (u32s cl))) w:=Done.start h
 obtain ⟨L,hL⟩:∃ L,L=cl.length:=⟨_,rfl⟩
 rw [← hL] at h hck
 have HL:=jzD hL
 obtain ⟨Fs,hFs⟩:=Done.get (C:=fun X=>Star (Star (CellW g #[.int .u32 me,sl,sc] 98) (qB sl l)) X) (Fr.r (cS.star oS) Fr.id_) h
 obtain ⟨C0,cc,rfl,hcap,hmax⟩:=hFs.shape
 have HS0:=jzD h
 have HCK:=jzD hck
 have HCP:=jzD hcap
 have HK:=jzD hk
 clear h hL hck hFs hcap hmax hk
 go_enter Tryz.func33,Tryz.ntmps33
 go_wp2
 go_loopw [3,4] (fun qv iv wr=>∃ (i:Nat) (A:Option Addr) (c:Nat) (Zs:List Int) (n:Nat),i≤L∧iv=.int .i64 (i:Int)∧clF (cl.take i)=Zs∧n=Zs.length∧qv=.slice A n c∧(n≤c∧c≤maxLen)∧Done w F (Star (Star (Star (CellW g #[.int .u32 me,sl,.slice C0 L cc] 98) (qB sl l)) (OwnO 22 1 (.slice C0 L cc) L (u32s cl))) (OwnK 22 1 (.slice A n c) n (u32s Zs))) wr) (fun _ iv _=>(2000 - intOf iv).toNat)
 case atStart=>exact ⟨0,none,0,[],0,by omega,rfl,rfl,rfl,rfl,⟨by omega,by simp [maxLen]⟩,HS0.out.add ((cS.star oS).star oS) (OwnK.nilD 22 1 _)⟩
 case round =>
  obtain ⟨i,A,c,Zs,n,hi,rfl,hX,hn,rfl,hc,hs⟩:=hrel
  have HSr:=jzD hs
  have HCr:=jzD hc
  have HXE:=jzD hX
  have HNX:=jzD hn
  have q1:wr.cell? ⟨g,2,none⟩=some (.slice C0 L cc):=cell_at (Done.at_ (C:=fun X=>Star (Star (Star (X) (qB sl l)) (OwnO 22 1 (.slice C0 L cc) L (u32s cl))) (OwnK 22 1 (.slice A n c) n (u32s Zs))) (Fr.l (Fr.l (Fr.l Fr.id_ oS) oS) kS) hs) 2 _ rfl
  have hnl:n≤900:=by
   have h1:=clF_len (cl.take i)
   rw [hX,List.length_take] at h1
   have := HL.out;have := HCK.out;have := HK.out
   omega
  have HNL:=jzD hnl
  clear hs hc hX hn hnl
  by_cases hlt:i < L
  · have t1:decide ((i:Int) < (L:Int))=true:=decide_eq_true (by omega)
    have t2:(i:Int) < (L:Int):=by omega
    have tc1:(L:Int)≤(cc:Int):=by have := HCP.out;omega
    have e1:IntKind.i64.wrap ((i:Int) + 1)=(i:Int) + 1:=IntWalk.i64_in _ (by have := HCK.out;have := HK.out;omega)
    have hil:i < cl.length:=by have := HL.out;omega
    obtain ⟨q,hq⟩:∃ q,cl[i]?=some q:=⟨cl[i],List.getElem?_eq_getElem hil⟩
    have HQC:=jzD (u32s_get hq)
    have HXC:Hid (clF (cl.take (i + 1))=insC q Zs):=by show _=_;rw [clF_take hq,HXE.out]
    obtain ⟨F1,hF1⟩:=Done.get (C:=fun X=>Star (Star (Star (CellW g #[.int .u32 me,sl,.slice C0 L cc] 98) (qB sl l)) X) (OwnK 22 1 (.slice A n c) n (u32s Zs))) (Fr.l (Fr.r (cS.star oS) Fr.id_) kS) HSr.out
    obtain ⟨cb,co,rfl⟩:=hF1.addr (by omega)
    obtain ⟨F2,hF2⟩:=Done.get (C:=fun X=>Star (Star (Star (qA g me sl cb co L cc) (qB sl l)) (qC cb co L cc cl)) X) (Fr.r ((cS.star oS).star oS) Fr.id_) HSr.out
    have hi9:i≤900:=by have := HCK.out;have := HK.out;omega
    clear hil hq hF1
    rcases own_form hF2.2 with ⟨rfl,rfl,rfl⟩ | ⟨b,rfl⟩
    · have HX0:Hid (Zs=[]):=List.eq_nil_of_length_eq_zero HNX.out.symm
      clear hF2
      go_wp2
      go_loopw [5] (fun kv wr=>∃ kk:Nat,kk≤0∧kv=.int .i64 (kk:Int)∧(∀ y ∈ Zs.take kk,y < q)∧Done w F (Star (Star (Star (qA g me sl cb co L cc) (qB sl l)) (qC cb co L cc cl)) (OwnK 22 1 (.slice none 0 0) 0 (u32s Zs))) wr) (fun kv _=>(2000 - intOf kv).toNat)
      case atStart=>exact ⟨0,by omega,rfl,by simp,HSr.out⟩
      case round =>
       obtain ⟨kk,hkk,rfl,hlow,hs⟩:=hrel
       have HSk:=jzD hs
       have HLOW:=jzD hlow
       clear hs hlow
       have t3:decide ((kk:Int) < (0:Int))=false:=decide_eq_false (by omega)
       obtain rfl:kk=0:=by omega
       have h3:Zs[0]? ≠ some q:=by rw [List.getElem?_eq_none (by have := HNX.out;omega)];simp
       have hk2:0=Zs.length ∨ ∃ y,Zs[0]?=some y∧¬ y < q:=.inl (by have := HNX.out;omega)
       have HIN:=jzD (ins_new HLOW.out hk2 h3)
       have HLN:Hid (0 + 1=(insC q Zs).length):=by show _=_;rw [ins_len HLOW.out hk2 h3 (by have := HNX.out;omega)];have := HNX.out;omega
       have t4:(((0:Nat):Int) == ((0:Nat):Int))=true:=beq_iff_eq.2 (by omega)
       have HKN:Hid (0≤0):=by show _≤_;omega
       have HB0:Hid (0≤1000000):=by show _≤_;have := HNL.out;omega
       have HB1:Hid (0 + 1≤1000000):=by show _≤_;have := HNL.out;omega
       have HB2:Hid (0 + 1≤1000000):=by show _≤_;have := HNL.out;omega
       clear h3 hk2
       go_wp2
       refine regq (fun W=>Below (wr).heap.size (wr) W) (by kernel_rfl) (by kernel_rfl) ((Below.refl _ _).drew) ?_
       iterate 5 refine qtk ?_
       iterate 12 refine qsk ?_
       refine qtk ?_
       refine q_done ?_
       intro w50 hb
       have HS50:=jzD (HSk.out.keep (((cS.star oS).star oS).star kS) hb)
       clear hb
       go_wp2
       refine regq (fun W=>Below (w50).heap.size (w50) W) (by kernel_rfl) (by kernel_rfl) ((Below.refl _ _).drew) ?_
       iterate 5 refine qtk ?_
       iterate 12 refine qsk ?_
       refine qtk ?_
       refine q_done ?_
       intro w51 hb
       have HS51:=jzD (HS50.out.keep (((cS.star oS).star oS).star kS) hb)
       clear hb
       go_wp2
       have HSn:=jzD (HS51.out.add (((cS.star oS).star oS).star kS) (OwnK.nilD 22 1 _))
       have HSd:=jzD (HSn.out.drewD ((((cS.star oS).star oS).star kS).star kS))
       have HEd:Hid ((qS g cb co L cc i q) (w51).drew):=⟨cell_at (Done.at_ (C:=fun X=>Star (Star (Star (Star (X) (qB sl l)) (qC cb co L cc cl)) (OwnK 22 1 (.slice none 0 0) 0 (u32s Zs))) (OwnK 22 1 (.slice none 0 0) 0 [])) (Fr.l (Fr.l (Fr.l (Fr.l Fr.id_ oS) oS) kS) kS) HSd.out) 2 _ rfl,(Done.get (C:=fun X=>Star (Star (Star (Star (qA g me sl cb co L cc) (qB sl l)) X) (OwnK 22 1 (.slice none 0 0) 0 (u32s Zs))) (OwnK 22 1 (.slice none 0 0) 0 [])) (Fr.l (Fr.l (Fr.r (cS.star oS) Fr.id_) kS) kS) HSd.out).elim fun _ h=>OwnO.cell h HQC.out⟩
       refine rests_begin (qS g cb co L cc i q) (by kernel_rfl) ?_
       refine rtk 0 HEd.out ?_
       refine rtk 1 HEd.out ?_
       refine rtk 2 HEd.out ?_
       refine rtk 4 HEd.out ?_
       refine rtk 5 HEd.out ?_
       refine rtk 6 HEd.out ?_
       refine rtk 7 HEd.out ?_ (hy:=by intro W HW;obtain ⟨z1,z2⟩:=HW;go_simp;try with_reducible rfl)
       refine rtk 8 HEd.out ?_
       refine rtk 9 HEd.out ?_
       refine rtk 10 HEd.out ?_ (hy:=by intro W HW;obtain ⟨z1,z2⟩:=HW;go_simp;try with_reducible rfl)
       refine rtk 13 HEd.out ?_
       refine rtk 14 HEd.out ?_
       refine rtk 15 HEd.out ?_
       refine rests_two 3 11 (oi:=_) (oj:=_) (by simp only [jzG,jzH,jzI];rfl) (by simp only [jzG,jzH,jzI];rfl) (by kernel_rfl) (by rfl) (by rfl) ?_ ?_
       · refine wp_appD (C:=fun X=>Star (Star (Star (Star (qA g me sl cb co L cc) (qB sl l)) (qC cb co L cc cl)) (OwnK 22 1 (.slice none 0 0) 0 (u32s Zs))) X) (Fr.r (((cS.star oS).star oS).star kS) Fr.id_) HSd.out (.const (.slice none 0 0)) (.tmp 55) 44 4 (.int .u32 0) rfl Tryz.underlying44 (by kernel_rfl) rfl (by decide) (.slice none 0 0) 0 [] rfl rfl ((RdG.nil_ 1 _)) (by intro y hy;simp at hy) 0 (by omega) HB0.out ((u32s Zs).take (0 * 1)) (by simp [HX0.out,u32s]) ?_
         intro A60 c60 w60 hs hc;have HS60:=jzD hs;have HE60:Hid ((qS g cb co L cc i q) w60):=⟨cell_at (Done.at_ (C:=fun X=>Star (Star (Star (Star (X) (qB sl l)) (qC cb co L cc cl)) (OwnK 22 1 (.slice none 0 0) 0 (u32s Zs))) (OwnK 22 1 (.slice A60 0 c60) 0 ((u32s Zs).take (0 * 1)))) (Fr.l (Fr.l (Fr.l (Fr.l Fr.id_ oS) oS) kS) kS) hs) 2 _ rfl,(Done.get (C:=fun X=>Star (Star (Star (Star (qA g me sl cb co L cc) (qB sl l)) X) (OwnK 22 1 (.slice none 0 0) 0 (u32s Zs))) (OwnK 22 1 (.slice A60 0 c60) 0 ((u32s Zs).take (0 * 1)))) (Fr.l (Fr.l (Fr.r (cS.star oS) Fr.id_) kS) kS) hs).elim fun _ h=>OwnO.cell h HQC.out⟩;have HC60:=jzD hc;refine ⟨HE60.out,?_⟩;clear hs hc
         simp only [Act.put,jzU,jzV,jzW]
         obtain ⟨g61,hg61⟩:∃ g,g=(w60).heap.size:=⟨_,rfl⟩
         have hal61:=CellW.new (w60) #[.int .u32 q] 22
         rw [← hg61] at hal61
         obtain ⟨w61,hw61⟩:∃ wz,wz=(w60).alloc (.cells #[.int .u32 q] 22):=⟨_,rfl⟩
         rw [← hw61] at hal61
         have HS61:=jzD (HS60.out.add ((((cS.star oS).star oS).star kS).star kS) hal61)
         have HE61:Hid ((qS g cb co L cc i q) w61):=⟨cell_at (Done.at_ (C:=fun X=>Star (Star (Star (Star (Star (X) (qB sl l)) (qC cb co L cc cl)) (OwnK 22 1 (.slice none 0 0) 0 (u32s Zs))) (OwnK 22 1 (.slice A60 0 c60) 0 ((u32s Zs).take (0 * 1)))) (CellW g61 #[.int .u32 q] 22)) (Fr.l (Fr.l (Fr.l (Fr.l (Fr.l Fr.id_ oS) oS) kS) kS) cS) HS61.out) 2 _ rfl,(Done.get (C:=fun X=>Star (Star (Star (Star (Star (qA g me sl cb co L cc) (qB sl l)) X) (OwnK 22 1 (.slice none 0 0) 0 (u32s Zs))) (OwnK 22 1 (.slice A60 0 c60) 0 ((u32s Zs).take (0 * 1)))) (CellW g61 #[.int .u32 q] 22)) (Fr.l (Fr.l (Fr.l (Fr.r (cS.star oS) Fr.id_) kS) kS) cS) HS61.out).elim fun _ h=>OwnO.cell h HQC.out⟩
         refine rests_run 11 (oi:=_) (by simp only [jzG,jzH,jzI];rfl) (by kernel_rfl) (by rfl) ((.slice (some ⟨g61,0,none⟩) 1 1)) w61 (by rw [hg61,hw61];go_simp) ⟨HE61.out,?_⟩
         clear hg61 hal61 hw61
         simp only [Act.put,jzU,jzV,jzW]
         refine rests_appD 12 (oi:=_) (by simp only [jzG,jzH,jzI];rfl) (by kernel_rfl) (by rfl) (C:=fun X=>Star (Star (Star (Star (Star (qA g me sl cb co L cc) (qB sl l)) (qC cb co L cc cl)) (OwnK 22 1 (.slice none 0 0) 0 (u32s Zs))) X) (CellW g61 #[.int .u32 q] 22)) (Fr.l (Fr.r (((cS.star oS).star oS).star kS) Fr.id_) cS) HS61.out (.tmp 56) (.tmp 64) 44 4 (.int .u32 0) rfl Tryz.underlying44 (by kernel_rfl) rfl (by decide) (.slice (some ⟨g61,0,none⟩) 1 1) 1 [.int .u32 q] rfl rfl ((rdG_new (Done.at_ (C:=fun X=>Star (Star (Star (Star (Star (qA g me sl cb co L cc) (qB sl l)) (qC cb co L cc cl)) (OwnK 22 1 (.slice none 0 0) 0 (u32s Zs))) (OwnK 22 1 (.slice A60 0 c60) 0 ((u32s Zs).take (0 * 1)))) X) (Fr.r ((((cS.star oS).star oS).star kS).star kS) Fr.id_) HS61.out) rfl)) (by simp [Value.oneCell']) (0 + 1) rfl HB1.out ((u32s Zs).take (0 * 1) ++ [.int .u32 q]) rfl ?_
         intro A62 c62 w62 hs hc;have HS62:=jzD hs;have HE62:Hid ((qS g cb co L cc i q) w62):=⟨cell_at (Done.at_ (C:=fun X=>Star (Star (Star (Star (Star (X) (qB sl l)) (qC cb co L cc cl)) (OwnK 22 1 (.slice none 0 0) 0 (u32s Zs))) (OwnK 22 1 (.slice A62 (0 + 1) c62) (0 + 1) ((u32s Zs).take (0 * 1) ++ [.int .u32 q]))) (CellW g61 #[.int .u32 q] 22)) (Fr.l (Fr.l (Fr.l (Fr.l (Fr.l Fr.id_ oS) oS) kS) kS) cS) hs) 2 _ rfl,(Done.get (C:=fun X=>Star (Star (Star (Star (Star (qA g me sl cb co L cc) (qB sl l)) X) (OwnK 22 1 (.slice none 0 0) 0 (u32s Zs))) (OwnK 22 1 (.slice A62 (0 + 1) c62) (0 + 1) ((u32s Zs).take (0 * 1) ++ [.int .u32 q]))) (CellW g61 #[.int .u32 q] 22)) (Fr.l (Fr.l (Fr.l (Fr.r (cS.star oS) Fr.id_) kS) kS) cS) hs).elim fun _ h=>OwnO.cell h HQC.out⟩;have HC62:=jzD hc;refine ⟨HE62.out,?_⟩;clear hs hc
         simp only [Act.put,jzU,jzV,jzW]
         refine rests_appD 16 (oi:=_) (by simp only [jzG,jzH,jzI];rfl) (by kernel_rfl) (by rfl) (C:=fun X=>Star (Star (Star (Star (Star (qA g me sl cb co L cc) (qB sl l)) (qC cb co L cc cl)) (OwnK 22 1 (.slice none 0 0) 0 (u32s Zs))) X) (CellW g61 #[.int .u32 q] 22)) (Fr.l (Fr.r (((cS.star oS).star oS).star kS) Fr.id_) cS) HS62.out (.tmp 65) (.tmp 68) 44 4 (.int .u32 0) rfl Tryz.underlying44 (by kernel_rfl) rfl (by decide) (.slice none 0 0) 0 [] rfl rfl ((RdG.nil_ 1 _)) (by intro y hy;simp at hy) (0 + 1) (by omega) HB2.out (u32s (insC q Zs)) (by rw [HIN.out,HX0.out];simp [u32s]) ?_
         intro A63 c63 w63 hs hc;have HS63:=jzD hs;have HE63:Hid ((qS g cb co L cc i q) w63):=⟨cell_at (Done.at_ (C:=fun X=>Star (Star (Star (Star (Star (X) (qB sl l)) (qC cb co L cc cl)) (OwnK 22 1 (.slice none 0 0) 0 (u32s Zs))) (OwnK 22 1 (.slice A63 (0 + 1) c63) (0 + 1) (u32s (insC q Zs)))) (CellW g61 #[.int .u32 q] 22)) (Fr.l (Fr.l (Fr.l (Fr.l (Fr.l Fr.id_ oS) oS) kS) kS) cS) hs) 2 _ rfl,(Done.get (C:=fun X=>Star (Star (Star (Star (Star (qA g me sl cb co L cc) (qB sl l)) X) (OwnK 22 1 (.slice none 0 0) 0 (u32s Zs))) (OwnK 22 1 (.slice A63 (0 + 1) c63) (0 + 1) (u32s (insC q Zs)))) (CellW g61 #[.int .u32 q] 22)) (Fr.l (Fr.l (Fr.l (Fr.r (cS.star oS) Fr.id_) kS) kS) cS) hs).elim fun _ h=>OwnO.cell h HQC.out⟩;have HC63:=jzD hc;refine ⟨HE63.out,?_⟩;clear hs hc
         simp only [Act.put,jzU,jzV,jzW]
         refine rtk 17 HE63.out ?_
         refine rests_done (by kernel_rfl) ?_
         go_wp2
         go_roundw
         case rel=>exact ⟨i + 1,A63,c63,insC q Zs,0 + 1,by omega,by go_num,HXC.out,HLN.out,rfl,HC63.out,HS63.out.drop.drop_mid⟩
         case measure=>simp [intOf] <;> omega
       · obtain ⟨g60,hg60⟩:∃ g,g=((w51).drew).heap.size:=⟨_,rfl⟩
         have hal60:=CellW.new ((w51).drew) #[.int .u32 q] 22
         rw [← hg60] at hal60
         obtain ⟨w60,hw60⟩:∃ wz,wz=((w51).drew).alloc (.cells #[.int .u32 q] 22):=⟨_,rfl⟩
         rw [← hw60] at hal60
         have HS60:=jzD (HSd.out.add ((((cS.star oS).star oS).star kS).star kS) hal60)
         have HE60:Hid ((qS g cb co L cc i q) w60):=⟨cell_at (Done.at_ (C:=fun X=>Star (Star (Star (Star (Star (X) (qB sl l)) (qC cb co L cc cl)) (OwnK 22 1 (.slice none 0 0) 0 (u32s Zs))) (OwnK 22 1 (.slice none 0 0) 0 [])) (CellW g60 #[.int .u32 q] 22)) (Fr.l (Fr.l (Fr.l (Fr.l (Fr.l Fr.id_ oS) oS) kS) kS) cS) HS60.out) 2 _ rfl,(Done.get (C:=fun X=>Star (Star (Star (Star (Star (qA g me sl cb co L cc) (qB sl l)) X) (OwnK 22 1 (.slice none 0 0) 0 (u32s Zs))) (OwnK 22 1 (.slice none 0 0) 0 [])) (CellW g60 #[.int .u32 q] 22)) (Fr.l (Fr.l (Fr.l (Fr.r (cS.star oS) Fr.id_) kS) kS) cS) HS60.out).elim fun _ h=>OwnO.cell h HQC.out⟩
         refine wp_val (v:=(.slice (some ⟨g60,0,none⟩) 1 1)) (w' := w60) (by rw [hg60,hw60];go_simp) ⟨HE60.out,?_⟩
         clear hg60 hal60 hw60
         simp only [Act.put,jzU,jzV,jzW]
         refine rests_appD 3 (oi:=_) (by simp only [jzG,jzH,jzI];rfl) (by kernel_rfl) (by rfl) (C:=fun X=>Star (Star (Star (Star (Star (qA g me sl cb co L cc) (qB sl l)) (qC cb co L cc cl)) (OwnK 22 1 (.slice none 0 0) 0 (u32s Zs))) X) (CellW g60 #[.int .u32 q] 22)) (Fr.l (Fr.r (((cS.star oS).star oS).star kS) Fr.id_) cS) HS60.out (.const (.slice none 0 0)) (.tmp 55) 44 4 (.int .u32 0) rfl Tryz.underlying44 (by kernel_rfl) rfl (by decide) (.slice none 0 0) 0 [] rfl rfl ((RdG.nil_ 1 _)) (by intro y hy;simp at hy) 0 (by omega) HB0.out ((u32s Zs).take (0 * 1)) (by simp [HX0.out,u32s]) ?_
         intro A61 c61 w61 hs hc;have HS61:=jzD hs;have HE61:Hid ((qS g cb co L cc i q) w61):=⟨cell_at (Done.at_ (C:=fun X=>Star (Star (Star (Star (Star (X) (qB sl l)) (qC cb co L cc cl)) (OwnK 22 1 (.slice none 0 0) 0 (u32s Zs))) (OwnK 22 1 (.slice A61 0 c61) 0 ((u32s Zs).take (0 * 1)))) (CellW g60 #[.int .u32 q] 22)) (Fr.l (Fr.l (Fr.l (Fr.l (Fr.l Fr.id_ oS) oS) kS) kS) cS) hs) 2 _ rfl,(Done.get (C:=fun X=>Star (Star (Star (Star (Star (qA g me sl cb co L cc) (qB sl l)) X) (OwnK 22 1 (.slice none 0 0) 0 (u32s Zs))) (OwnK 22 1 (.slice A61 0 c61) 0 ((u32s Zs).take (0 * 1)))) (CellW g60 #[.int .u32 q] 22)) (Fr.l (Fr.l (Fr.l (Fr.r (cS.star oS) Fr.id_) kS) kS) cS) hs).elim fun _ h=>OwnO.cell h HQC.out⟩;have HC61:=jzD hc;refine ⟨HE61.out,?_⟩;clear hs hc
         simp only [Act.put,jzU,jzV,jzW]
         refine rests_appD 12 (oi:=_) (by simp only [jzG,jzH,jzI];rfl) (by kernel_rfl) (by rfl) (C:=fun X=>Star (Star (Star (Star (Star (qA g me sl cb co L cc) (qB sl l)) (qC cb co L cc cl)) (OwnK 22 1 (.slice none 0 0) 0 (u32s Zs))) X) (CellW g60 #[.int .u32 q] 22)) (Fr.l (Fr.r (((cS.star oS).star oS).star kS) Fr.id_) cS) HS61.out (.tmp 56) (.tmp 64) 44 4 (.int .u32 0) rfl Tryz.underlying44 (by kernel_rfl) rfl (by decide) (.slice (some ⟨g60,0,none⟩) 1 1) 1 [.int .u32 q] rfl rfl ((rdG_new (Done.at_ (C:=fun X=>Star (Star (Star (Star (Star (qA g me sl cb co L cc) (qB sl l)) (qC cb co L cc cl)) (OwnK 22 1 (.slice none 0 0) 0 (u32s Zs))) (OwnK 22 1 (.slice A61 0 c61) 0 ((u32s Zs).take (0 * 1)))) X) (Fr.r ((((cS.star oS).star oS).star kS).star kS) Fr.id_) HS61.out) rfl)) (by simp [Value.oneCell']) (0 + 1) rfl HB1.out ((u32s Zs).take (0 * 1) ++ [.int .u32 q]) rfl ?_
         intro A62 c62 w62 hs hc;have HS62:=jzD hs;have HE62:Hid ((qS g cb co L cc i q) w62):=⟨cell_at (Done.at_ (C:=fun X=>Star (Star (Star (Star (Star (X) (qB sl l)) (qC cb co L cc cl)) (OwnK 22 1 (.slice none 0 0) 0 (u32s Zs))) (OwnK 22 1 (.slice A62 (0 + 1) c62) (0 + 1) ((u32s Zs).take (0 * 1) ++ [.int .u32 q]))) (CellW g60 #[.int .u32 q] 22)) (Fr.l (Fr.l (Fr.l (Fr.l (Fr.l Fr.id_ oS) oS) kS) kS) cS) hs) 2 _ rfl,(Done.get (C:=fun X=>Star (Star (Star (Star (Star (qA g me sl cb co L cc) (qB sl l)) X) (OwnK 22 1 (.slice none 0 0) 0 (u32s Zs))) (OwnK 22 1 (.slice A62 (0 + 1) c62) (0 + 1) ((u32s Zs).take (0 * 1) ++ [.int .u32 q]))) (CellW g60 #[.int .u32 q] 22)) (Fr.l (Fr.l (Fr.l (Fr.r (cS.star oS) Fr.id_) kS) kS) cS) hs).elim fun _ h=>OwnO.cell h HQC.out⟩;have HC62:=jzD hc;refine ⟨HE62.out,?_⟩;clear hs hc
         simp only [Act.put,jzU,jzV,jzW]
         refine rests_appD 16 (oi:=_) (by simp only [jzG,jzH,jzI];rfl) (by kernel_rfl) (by rfl) (C:=fun X=>Star (Star (Star (Star (Star (qA g me sl cb co L cc) (qB sl l)) (qC cb co L cc cl)) (OwnK 22 1 (.slice none 0 0) 0 (u32s Zs))) X) (CellW g60 #[.int .u32 q] 22)) (Fr.l (Fr.r (((cS.star oS).star oS).star kS) Fr.id_) cS) HS62.out (.tmp 65) (.tmp 68) 44 4 (.int .u32 0) rfl Tryz.underlying44 (by kernel_rfl) rfl (by decide) (.slice none 0 0) 0 [] rfl rfl ((RdG.nil_ 1 _)) (by intro y hy;simp at hy) (0 + 1) (by omega) HB2.out (u32s (insC q Zs)) (by rw [HIN.out,HX0.out];simp [u32s]) ?_
         intro A63 c63 w63 hs hc;have HS63:=jzD hs;have HE63:Hid ((qS g cb co L cc i q) w63):=⟨cell_at (Done.at_ (C:=fun X=>Star (Star (Star (Star (Star (X) (qB sl l)) (qC cb co L cc cl)) (OwnK 22 1 (.slice none 0 0) 0 (u32s Zs))) (OwnK 22 1 (.slice A63 (0 + 1) c63) (0 + 1) (u32s (insC q Zs)))) (CellW g60 #[.int .u32 q] 22)) (Fr.l (Fr.l (Fr.l (Fr.l (Fr.l Fr.id_ oS) oS) kS) kS) cS) hs) 2 _ rfl,(Done.get (C:=fun X=>Star (Star (Star (Star (Star (qA g me sl cb co L cc) (qB sl l)) X) (OwnK 22 1 (.slice none 0 0) 0 (u32s Zs))) (OwnK 22 1 (.slice A63 (0 + 1) c63) (0 + 1) (u32s (insC q Zs)))) (CellW g60 #[.int .u32 q] 22)) (Fr.l (Fr.l (Fr.l (Fr.r (cS.star oS) Fr.id_) kS) kS) cS) hs).elim fun _ h=>OwnO.cell h HQC.out⟩;have HC63:=jzD hc;refine ⟨HE63.out,?_⟩;clear hs hc
         simp only [Act.put,jzU,jzV,jzW]
         refine rtk 17 HE63.out ?_
         refine rests_done (by kernel_rfl) ?_
         go_wp2
         go_roundw
         case rel=>exact ⟨i + 1,A63,c63,insC q Zs,0 + 1,by omega,by go_num,HXC.out,HLN.out,rfl,HC63.out,HS63.out.drop.drop_mid⟩
         case measure=>simp [intOf] <;> omega
    · clear hF2
      go_wp2
      go_loopw [5] (fun kv wr=>∃ kk:Nat,kk≤n∧kv=.int .i64 (kk:Int)∧(∀ y ∈ Zs.take kk,y < q)∧Done w F (Star (Star (Star (qA g me sl cb co L cc) (qB sl l)) (qC cb co L cc cl)) (qD b n c Zs)) wr) (fun kv _=>(2000 - intOf kv).toNat)
      case atStart=>exact ⟨0,by omega,rfl,by simp,HSr.out⟩
      case round =>
       obtain ⟨kk,hkk,rfl,hlow,hs⟩:=hrel
       have HSk:=jzD hs
       have HLOW:=jzD hlow
       clear hs hlow
       by_cases hlk:kk < n
       · have t3:decide ((kk:Int) < (n:Int))=true:=decide_eq_true (by omega)
         have t3' : (kk:Int) < (n:Int):=by omega
         have hkl:kk < Zs.length:=by have := HNX.out;omega
         obtain ⟨y,hy⟩:∃ y,Zs[kk]?=some y:=⟨Zs[kk],List.getElem?_eq_getElem hkl⟩
         have HXK:=jzD hy
         have tcn:(n:Int)≤(c:Int):=by have := HCr.out.1;omega
         have sk1:kk≤c:=by have := HCr.out.1;omega
         have ek:IntKind.i64.wrap ((kk:Int) + 1)=(kk:Int) + 1:=IntWalk.i64_in _ (by have := HNL.out;omega)
         have hki:kk≤1000:=by have := HNL.out;omega
         by_cases hyq:y < q
         · have t5:decide (y < q)=true:=decide_eq_true hyq
           have HLW2:Hid (∀ z ∈ Zs.take (kk + 1),z < q):=by
            show ∀ z ∈ Zs.take (kk + 1),z < q
            rw [List.take_succ_eq_append_getElem hkl]
            intro z hz
            rcases List.mem_append.1 hz with h | h
            · exact HLOW.out z h
            · rw [List.mem_singleton.1 h,(List.getElem?_eq_some_iff.1 hy).2];exact hyq
           clear hy hyq hkl
           go_wp2
           refine regq (fun W=>Below (wr).heap.size (wr) W) (by kernel_rfl) (by kernel_rfl) ((Below.refl _ _).drew) ?_
           iterate 8 refine qtk ?_
           refine qtk ?_ (hy:=by intro W HW;have cw:W.cell? ⟨b,kk,none⟩=some (.int .u32 y):=(HW.cell (p:=⟨b,kk,none⟩) (World.block_lt_of_cell? _ _ ((Done.get (C:=fun X=>Star (Star (Star (qA g me sl cb co L cc) (qB sl l)) (qC cb co L cc cl)) X) (Fr.r ((cS.star oS).star oS) Fr.id_) HSk.out).elim fun _ h=>OwnK.cell h (u32s_get HXK.out)))).trans ((Done.get (C:=fun X=>Star (Star (Star (qA g me sl cb co L cc) (qB sl l)) (qC cb co L cc cl)) X) (Fr.r ((cS.star oS).star oS) Fr.id_) HSk.out).elim fun _ h=>OwnK.cell h (u32s_get HXK.out));go_simp;try with_reducible rfl)
           iterate 3 refine qtk ?_
           refine qtk ?_ (hy:=by intro W HW;have cw:W.cell? ⟨g,2,none⟩=some (.slice (some ⟨cb,co,none⟩) L cc):=cell_at (keep_at (Done.at_ (C:=fun X=>Star (Star (Star (X) (qB sl l)) (qC cb co L cc cl)) (qD b n c Zs)) (Fr.l (Fr.l (Fr.l Fr.id_ oS) oS) kS) HSk.out) HW) 2 _ rfl;go_simp;try with_reducible rfl)
           iterate 2 refine qtk ?_
           refine qtk ?_ (hy:=by intro W HW;have cw:W.cell? ⟨cb,co + i,none⟩=some (.int .u32 q):=(HW.cell (p:=⟨cb,co + i,none⟩) (World.block_lt_of_cell? _ _ ((Done.get (C:=fun X=>Star (Star (Star (qA g me sl cb co L cc) (qB sl l)) X) (qD b n c Zs)) (Fr.l (Fr.r (cS.star oS) Fr.id_) kS) HSk.out).elim fun _ h=>OwnO.cell h HQC.out))).trans ((Done.get (C:=fun X=>Star (Star (Star (qA g me sl cb co L cc) (qB sl l)) X) (qD b n c Zs)) (Fr.l (Fr.r (cS.star oS) Fr.id_) kS) HSk.out).elim fun _ h=>OwnO.cell h HQC.out);go_simp;try with_reducible rfl)
           iterate 2 refine qtk ?_
           refine q_done ?_
           intro w50 hb
           have HS50:=jzD (HSk.out.keep (((cS.star oS).star oS).star kS) hb)
           clear hb
           go_wp2
           go_roundw
           case rel=>exact ⟨kk + 1,by omega,by go_num,HLW2.out,HS50.out⟩
           case measure=>simp [intOf] <;> omega
         · have t5:decide (y < q)=false:=decide_eq_false hyq
           by_cases hyE:y=q
           · have t6:(y != q)=false:=by simp [hyE]
             have HOLD:Hid (insC q Zs=Zs):=ins_old HLOW.out ⟨y,hy,hyq⟩ (by rw [hy,hyE])
             have t4:((kk:Int) == (n:Int))=false:=beq_eq_false_iff_ne.2 (by omega)
             clear hy hyq hkl hyE
             go_wp2
             refine regq (fun W=>Below (wr).heap.size (wr) W) (by kernel_rfl) (by kernel_rfl) ((Below.refl _ _).drew) ?_
             iterate 8 refine qtk ?_
             refine qtk ?_ (hy:=by intro W HW;have cw:W.cell? ⟨b,kk,none⟩=some (.int .u32 y):=(HW.cell (p:=⟨b,kk,none⟩) (World.block_lt_of_cell? _ _ ((Done.get (C:=fun X=>Star (Star (Star (qA g me sl cb co L cc) (qB sl l)) (qC cb co L cc cl)) X) (Fr.r ((cS.star oS).star oS) Fr.id_) HSk.out).elim fun _ h=>OwnK.cell h (u32s_get HXK.out)))).trans ((Done.get (C:=fun X=>Star (Star (Star (qA g me sl cb co L cc) (qB sl l)) (qC cb co L cc cl)) X) (Fr.r ((cS.star oS).star oS) Fr.id_) HSk.out).elim fun _ h=>OwnK.cell h (u32s_get HXK.out));go_simp;try with_reducible rfl)
             iterate 3 refine qtk ?_
             refine qtk ?_ (hy:=by intro W HW;have cw:W.cell? ⟨g,2,none⟩=some (.slice (some ⟨cb,co,none⟩) L cc):=cell_at (keep_at (Done.at_ (C:=fun X=>Star (Star (Star (X) (qB sl l)) (qC cb co L cc cl)) (qD b n c Zs)) (Fr.l (Fr.l (Fr.l Fr.id_ oS) oS) kS) HSk.out) HW) 2 _ rfl;go_simp;try with_reducible rfl)
             iterate 2 refine qtk ?_
             refine qtk ?_ (hy:=by intro W HW;have cw:W.cell? ⟨cb,co + i,none⟩=some (.int .u32 q):=(HW.cell (p:=⟨cb,co + i,none⟩) (World.block_lt_of_cell? _ _ ((Done.get (C:=fun X=>Star (Star (Star (qA g me sl cb co L cc) (qB sl l)) X) (qD b n c Zs)) (Fr.l (Fr.r (cS.star oS) Fr.id_) kS) HSk.out).elim fun _ h=>OwnO.cell h HQC.out))).trans ((Done.get (C:=fun X=>Star (Star (Star (qA g me sl cb co L cc) (qB sl l)) X) (qD b n c Zs)) (Fr.l (Fr.r (cS.star oS) Fr.id_) kS) HSk.out).elim fun _ h=>OwnO.cell h HQC.out);go_simp;try with_reducible rfl)
             iterate 2 refine qtk ?_
             refine q_done ?_
             intro w50 hb
             have HS50:=jzD (HSk.out.keep (((cS.star oS).star oS).star kS) hb)
             clear hb
             go_wp2
             refine regq (fun W=>Below (w50).heap.size (w50) W) (by kernel_rfl) (by kernel_rfl) ((Below.refl _ _).drew) ?_
             iterate 8 refine qtk ?_
             refine qtk ?_ (hy:=by intro W HW;have cw:W.cell? ⟨b,kk,none⟩=some (.int .u32 y):=(HW.cell (p:=⟨b,kk,none⟩) (World.block_lt_of_cell? _ _ ((Done.get (C:=fun X=>Star (Star (Star (qA g me sl cb co L cc) (qB sl l)) (qC cb co L cc cl)) X) (Fr.r ((cS.star oS).star oS) Fr.id_) HS50.out).elim fun _ h=>OwnK.cell h (u32s_get HXK.out)))).trans ((Done.get (C:=fun X=>Star (Star (Star (qA g me sl cb co L cc) (qB sl l)) (qC cb co L cc cl)) X) (Fr.r ((cS.star oS).star oS) Fr.id_) HS50.out).elim fun _ h=>OwnK.cell h (u32s_get HXK.out));go_simp;try with_reducible rfl)
             iterate 3 refine qtk ?_
             refine qtk ?_ (hy:=by intro W HW;have cw:W.cell? ⟨g,2,none⟩=some (.slice (some ⟨cb,co,none⟩) L cc):=cell_at (keep_at (Done.at_ (C:=fun X=>Star (Star (Star (X) (qB sl l)) (qC cb co L cc cl)) (qD b n c Zs)) (Fr.l (Fr.l (Fr.l Fr.id_ oS) oS) kS) HS50.out) HW) 2 _ rfl;go_simp;try with_reducible rfl)
             iterate 2 refine qtk ?_
             refine qtk ?_ (hy:=by intro W HW;have cw:W.cell? ⟨cb,co + i,none⟩=some (.int .u32 q):=(HW.cell (p:=⟨cb,co + i,none⟩) (World.block_lt_of_cell? _ _ ((Done.get (C:=fun X=>Star (Star (Star (qA g me sl cb co L cc) (qB sl l)) X) (qD b n c Zs)) (Fr.l (Fr.r (cS.star oS) Fr.id_) kS) HS50.out).elim fun _ h=>OwnO.cell h HQC.out))).trans ((Done.get (C:=fun X=>Star (Star (Star (qA g me sl cb co L cc) (qB sl l)) X) (qD b n c Zs)) (Fr.l (Fr.r (cS.star oS) Fr.id_) kS) HS50.out).elim fun _ h=>OwnO.cell h HQC.out);go_simp;try with_reducible rfl)
             iterate 2 refine qtk ?_
             refine q_done ?_
             intro w51 hb
             have HS51:=jzD (HS50.out.keep (((cS.star oS).star oS).star kS) hb)
             clear hb
             go_wp2
             go_roundw
             case rel=>exact ⟨i + 1,some ⟨b,0,none⟩,c,Zs,n,by omega,by go_num,HXC.out.trans HOLD.out,HNX.out,rfl,HCr.out,HS51.out⟩
             case measure=>simp [intOf] <;> omega
           · have t6:(y != q)=true:=bne_iff_ne.2 hyE
             have t4:((kk:Int) == (n:Int))=false:=beq_eq_false_iff_ne.2 (by omega)
             have h3:Zs[kk]? ≠ some q:=by rw [hy];simpa using hyE
             have hk2:kk=Zs.length ∨ ∃ y,Zs[kk]?=some y∧¬ y < q:=.inr ⟨y,hy,hyq⟩
             have HIN:=jzD (ins_new HLOW.out hk2 h3)
             have HLN:Hid (n + 1=(insC q Zs).length):=by show _=_;rw [ins_len HLOW.out hk2 h3 (by omega)];have := HNX.out;omega
             have HKN:Hid (kk≤n):=hkk
             have HB0:Hid (kk≤1000000):=by show _≤_;have := HNL.out;omega
             have HB1:Hid (kk + 1≤1000000):=by show _≤_;have := HNL.out;omega
             have HB2:Hid (n + 1≤1000000):=by show _≤_;have := HNL.out;omega
             clear hy hyq hkl hyE h3 hk2
             go_wp2
             refine regq (fun W=>Below (wr).heap.size (wr) W) (by kernel_rfl) (by kernel_rfl) ((Below.refl _ _).drew) ?_
             iterate 8 refine qtk ?_
             refine qtk ?_ (hy:=by intro W HW;have cw:W.cell? ⟨b,kk,none⟩=some (.int .u32 y):=(HW.cell (p:=⟨b,kk,none⟩) (World.block_lt_of_cell? _ _ ((Done.get (C:=fun X=>Star (Star (Star (qA g me sl cb co L cc) (qB sl l)) (qC cb co L cc cl)) X) (Fr.r ((cS.star oS).star oS) Fr.id_) HSk.out).elim fun _ h=>OwnK.cell h (u32s_get HXK.out)))).trans ((Done.get (C:=fun X=>Star (Star (Star (qA g me sl cb co L cc) (qB sl l)) (qC cb co L cc cl)) X) (Fr.r ((cS.star oS).star oS) Fr.id_) HSk.out).elim fun _ h=>OwnK.cell h (u32s_get HXK.out));go_simp;try with_reducible rfl)
             iterate 3 refine qtk ?_
             refine qtk ?_ (hy:=by intro W HW;have cw:W.cell? ⟨g,2,none⟩=some (.slice (some ⟨cb,co,none⟩) L cc):=cell_at (keep_at (Done.at_ (C:=fun X=>Star (Star (Star (X) (qB sl l)) (qC cb co L cc cl)) (qD b n c Zs)) (Fr.l (Fr.l (Fr.l Fr.id_ oS) oS) kS) HSk.out) HW) 2 _ rfl;go_simp;try with_reducible rfl)
             iterate 2 refine qtk ?_
             refine qtk ?_ (hy:=by intro W HW;have cw:W.cell? ⟨cb,co + i,none⟩=some (.int .u32 q):=(HW.cell (p:=⟨cb,co + i,none⟩) (World.block_lt_of_cell? _ _ ((Done.get (C:=fun X=>Star (Star (Star (qA g me sl cb co L cc) (qB sl l)) X) (qD b n c Zs)) (Fr.l (Fr.r (cS.star oS) Fr.id_) kS) HSk.out).elim fun _ h=>OwnO.cell h HQC.out))).trans ((Done.get (C:=fun X=>Star (Star (Star (qA g me sl cb co L cc) (qB sl l)) X) (qD b n c Zs)) (Fr.l (Fr.r (cS.star oS) Fr.id_) kS) HSk.out).elim fun _ h=>OwnO.cell h HQC.out);go_simp;try with_reducible rfl)
             iterate 2 refine qtk ?_
             refine q_done ?_
             intro w50 hb
             have HS50:=jzD (HSk.out.keep (((cS.star oS).star oS).star kS) hb)
             clear hb
             go_wp2
             refine regq (fun W=>Below (w50).heap.size (w50) W) (by kernel_rfl) (by kernel_rfl) ((Below.refl _ _).drew) ?_
             iterate 8 refine qtk ?_
             refine qtk ?_ (hy:=by intro W HW;have cw:W.cell? ⟨b,kk,none⟩=some (.int .u32 y):=(HW.cell (p:=⟨b,kk,none⟩) (World.block_lt_of_cell? _ _ ((Done.get (C:=fun X=>Star (Star (Star (qA g me sl cb co L cc) (qB sl l)) (qC cb co L cc cl)) X) (Fr.r ((cS.star oS).star oS) Fr.id_) HS50.out).elim fun _ h=>OwnK.cell h (u32s_get HXK.out)))).trans ((Done.get (C:=fun X=>Star (Star (Star (qA g me sl cb co L cc) (qB sl l)) (qC cb co L cc cl)) X) (Fr.r ((cS.star oS).star oS) Fr.id_) HS50.out).elim fun _ h=>OwnK.cell h (u32s_get HXK.out));go_simp;try with_reducible rfl)
             iterate 3 refine qtk ?_
             refine qtk ?_ (hy:=by intro W HW;have cw:W.cell? ⟨g,2,none⟩=some (.slice (some ⟨cb,co,none⟩) L cc):=cell_at (keep_at (Done.at_ (C:=fun X=>Star (Star (Star (X) (qB sl l)) (qC cb co L cc cl)) (qD b n c Zs)) (Fr.l (Fr.l (Fr.l Fr.id_ oS) oS) kS) HS50.out) HW) 2 _ rfl;go_simp;try with_reducible rfl)
             iterate 2 refine qtk ?_
             refine qtk ?_ (hy:=by intro W HW;have cw:W.cell? ⟨cb,co + i,none⟩=some (.int .u32 q):=(HW.cell (p:=⟨cb,co + i,none⟩) (World.block_lt_of_cell? _ _ ((Done.get (C:=fun X=>Star (Star (Star (qA g me sl cb co L cc) (qB sl l)) X) (qD b n c Zs)) (Fr.l (Fr.r (cS.star oS) Fr.id_) kS) HS50.out).elim fun _ h=>OwnO.cell h HQC.out))).trans ((Done.get (C:=fun X=>Star (Star (Star (qA g me sl cb co L cc) (qB sl l)) X) (qD b n c Zs)) (Fr.l (Fr.r (cS.star oS) Fr.id_) kS) HS50.out).elim fun _ h=>OwnO.cell h HQC.out);go_simp;try with_reducible rfl)
             iterate 2 refine qtk ?_
             refine q_done ?_
             intro w51 hb
             have HS51:=jzD (HS50.out.keep (((cS.star oS).star oS).star kS) hb)
             clear hb
             go_wp2
             have HSn:=jzD (HS51.out.add (((cS.star oS).star oS).star kS) (OwnK.nilD 22 1 _))
             have HSd:=jzD (HSn.out.drewD ((((cS.star oS).star oS).star kS).star kS))
             have HEd:Hid ((qS g cb co L cc i q) (w51).drew):=⟨cell_at (Done.at_ (C:=fun X=>Star (Star (Star (Star (X) (qB sl l)) (qC cb co L cc cl)) (qD b n c Zs)) (OwnK 22 1 (.slice none 0 0) 0 [])) (Fr.l (Fr.l (Fr.l (Fr.l Fr.id_ oS) oS) kS) kS) HSd.out) 2 _ rfl,(Done.get (C:=fun X=>Star (Star (Star (Star (qA g me sl cb co L cc) (qB sl l)) X) (qD b n c Zs)) (OwnK 22 1 (.slice none 0 0) 0 [])) (Fr.l (Fr.l (Fr.r (cS.star oS) Fr.id_) kS) kS) HSd.out).elim fun _ h=>OwnO.cell h HQC.out⟩
             refine rests_begin (qS g cb co L cc i q) (by kernel_rfl) ?_
             refine rtk 0 HEd.out ?_
             refine rtk 1 HEd.out ?_
             refine rtk 2 HEd.out ?_
             refine rtk 4 HEd.out ?_
             refine rtk 5 HEd.out ?_
             refine rtk 6 HEd.out ?_
             refine rtk 7 HEd.out ?_ (hy:=by intro W HW;obtain ⟨z1,z2⟩:=HW;go_simp;try with_reducible rfl)
             refine rtk 8 HEd.out ?_
             refine rtk 9 HEd.out ?_
             refine rtk 10 HEd.out ?_ (hy:=by intro W HW;obtain ⟨z1,z2⟩:=HW;go_simp;try with_reducible rfl)
             refine rtk 13 HEd.out ?_
             refine rtk 14 HEd.out ?_
             refine rtk 15 HEd.out ?_
             refine rests_two 3 11 (oi:=_) (oj:=_) (by simp only [jzG,jzH,jzI];rfl) (by simp only [jzG,jzH,jzI];rfl) (by kernel_rfl) (by rfl) (by rfl) ?_ ?_
             · refine wp_appD (C:=fun X=>Star (Star (Star (Star (qA g me sl cb co L cc) (qB sl l)) (qC cb co L cc cl)) (qD b n c Zs)) X) (Fr.r (((cS.star oS).star oS).star kS) Fr.id_) HSd.out (.const (.slice none 0 0)) (.tmp 55) 44 4 (.int .u32 0) rfl Tryz.underlying44 (by kernel_rfl) rfl (by decide) (.slice (some ⟨b,0,none⟩) kk c) kk ((u32s Zs).take (kk * 1)) rfl rfl (((Done.get (C:=fun X=>Star (Star (Star (Star (qA g me sl cb co L cc) (qB sl l)) (qC cb co L cc cl)) X) (OwnK 22 1 (.slice none 0 0) 0 [])) (Fr.l (Fr.r ((cS.star oS).star oS) Fr.id_) kS) HSd.out).elim fun _ h=>(OwnK.rd h).take HKN.out)) (fun y hy=>u32s_one _ y (List.mem_of_mem_take hy)) kk (by omega) HB0.out ((u32s Zs).take (kk * 1)) (by simp) ?_
               intro A60 c60 w60 hs hc;have HS60:=jzD hs;have HE60:Hid ((qS g cb co L cc i q) w60):=⟨cell_at (Done.at_ (C:=fun X=>Star (Star (Star (Star (X) (qB sl l)) (qC cb co L cc cl)) (qD b n c Zs)) (OwnK 22 1 (.slice A60 kk c60) kk ((u32s Zs).take (kk * 1)))) (Fr.l (Fr.l (Fr.l (Fr.l Fr.id_ oS) oS) kS) kS) hs) 2 _ rfl,(Done.get (C:=fun X=>Star (Star (Star (Star (qA g me sl cb co L cc) (qB sl l)) X) (qD b n c Zs)) (OwnK 22 1 (.slice A60 kk c60) kk ((u32s Zs).take (kk * 1)))) (Fr.l (Fr.l (Fr.r (cS.star oS) Fr.id_) kS) kS) hs).elim fun _ h=>OwnO.cell h HQC.out⟩;have HC60:=jzD hc;refine ⟨HE60.out,?_⟩;clear hs hc
               simp only [Act.put,jzU,jzV,jzW]
               obtain ⟨g61,hg61⟩:∃ g,g=(w60).heap.size:=⟨_,rfl⟩
               have hal61:=CellW.new (w60) #[.int .u32 q] 22
               rw [← hg61] at hal61
               obtain ⟨w61,hw61⟩:∃ wz,wz=(w60).alloc (.cells #[.int .u32 q] 22):=⟨_,rfl⟩
               rw [← hw61] at hal61
               have HS61:=jzD (HS60.out.add ((((cS.star oS).star oS).star kS).star kS) hal61)
               have HE61:Hid ((qS g cb co L cc i q) w61):=⟨cell_at (Done.at_ (C:=fun X=>Star (Star (Star (Star (Star (X) (qB sl l)) (qC cb co L cc cl)) (qD b n c Zs)) (OwnK 22 1 (.slice A60 kk c60) kk ((u32s Zs).take (kk * 1)))) (CellW g61 #[.int .u32 q] 22)) (Fr.l (Fr.l (Fr.l (Fr.l (Fr.l Fr.id_ oS) oS) kS) kS) cS) HS61.out) 2 _ rfl,(Done.get (C:=fun X=>Star (Star (Star (Star (Star (qA g me sl cb co L cc) (qB sl l)) X) (qD b n c Zs)) (OwnK 22 1 (.slice A60 kk c60) kk ((u32s Zs).take (kk * 1)))) (CellW g61 #[.int .u32 q] 22)) (Fr.l (Fr.l (Fr.l (Fr.r (cS.star oS) Fr.id_) kS) kS) cS) HS61.out).elim fun _ h=>OwnO.cell h HQC.out⟩
               refine rests_run 11 (oi:=_) (by simp only [jzG,jzH,jzI];rfl) (by kernel_rfl) (by rfl) ((.slice (some ⟨g61,0,none⟩) 1 1)) w61 (by rw [hg61,hw61];go_simp) ⟨HE61.out,?_⟩
               clear hg61 hal61 hw61
               simp only [Act.put,jzU,jzV,jzW]
               refine rests_appD 12 (oi:=_) (by simp only [jzG,jzH,jzI];rfl) (by kernel_rfl) (by rfl) (C:=fun X=>Star (Star (Star (Star (Star (qA g me sl cb co L cc) (qB sl l)) (qC cb co L cc cl)) (qD b n c Zs)) X) (CellW g61 #[.int .u32 q] 22)) (Fr.l (Fr.r (((cS.star oS).star oS).star kS) Fr.id_) cS) HS61.out (.tmp 56) (.tmp 64) 44 4 (.int .u32 0) rfl Tryz.underlying44 (by kernel_rfl) rfl (by decide) (.slice (some ⟨g61,0,none⟩) 1 1) 1 [.int .u32 q] rfl rfl ((rdG_new (Done.at_ (C:=fun X=>Star (Star (Star (Star (Star (qA g me sl cb co L cc) (qB sl l)) (qC cb co L cc cl)) (qD b n c Zs)) (OwnK 22 1 (.slice A60 kk c60) kk ((u32s Zs).take (kk * 1)))) X) (Fr.r ((((cS.star oS).star oS).star kS).star kS) Fr.id_) HS61.out) rfl)) (by simp [Value.oneCell']) (kk + 1) rfl HB1.out ((u32s Zs).take (kk * 1) ++ [.int .u32 q]) rfl ?_
               intro A62 c62 w62 hs hc;have HS62:=jzD hs;have HE62:Hid ((qS g cb co L cc i q) w62):=⟨cell_at (Done.at_ (C:=fun X=>Star (Star (Star (Star (Star (X) (qB sl l)) (qC cb co L cc cl)) (qD b n c Zs)) (OwnK 22 1 (.slice A62 (kk + 1) c62) (kk + 1) ((u32s Zs).take (kk * 1) ++ [.int .u32 q]))) (CellW g61 #[.int .u32 q] 22)) (Fr.l (Fr.l (Fr.l (Fr.l (Fr.l Fr.id_ oS) oS) kS) kS) cS) hs) 2 _ rfl,(Done.get (C:=fun X=>Star (Star (Star (Star (Star (qA g me sl cb co L cc) (qB sl l)) X) (qD b n c Zs)) (OwnK 22 1 (.slice A62 (kk + 1) c62) (kk + 1) ((u32s Zs).take (kk * 1) ++ [.int .u32 q]))) (CellW g61 #[.int .u32 q] 22)) (Fr.l (Fr.l (Fr.l (Fr.r (cS.star oS) Fr.id_) kS) kS) cS) hs).elim fun _ h=>OwnO.cell h HQC.out⟩;have HC62:=jzD hc;refine ⟨HE62.out,?_⟩;clear hs hc
               simp only [Act.put,jzU,jzV,jzW]
               refine rests_appD 16 (oi:=_) (by simp only [jzG,jzH,jzI];rfl) (by kernel_rfl) (by rfl) (C:=fun X=>Star (Star (Star (Star (Star (qA g me sl cb co L cc) (qB sl l)) (qC cb co L cc cl)) (qD b n c Zs)) X) (CellW g61 #[.int .u32 q] 22)) (Fr.l (Fr.r (((cS.star oS).star oS).star kS) Fr.id_) cS) HS62.out (.tmp 65) (.tmp 68) 44 4 (.int .u32 0) rfl Tryz.underlying44 (by kernel_rfl) rfl (by decide) (.slice (if c=kk then some ⟨b,0,none⟩ else some ⟨b,kk,none⟩) (n - kk) (c - kk)) (n - kk) ((u32s Zs).drop (kk * 1)) rfl rfl (((Done.get (C:=fun X=>Star (Star (Star (Star (Star (qA g me sl cb co L cc) (qB sl l)) (qC cb co L cc cl)) X) (OwnK 22 1 (.slice A62 (kk + 1) c62) (kk + 1) ((u32s Zs).take (kk * 1) ++ [.int .u32 q]))) (CellW g61 #[.int .u32 q] 22)) (Fr.l (Fr.l (Fr.r ((cS.star oS).star oS) Fr.id_) kS) cS) HS62.out).elim fun _ h=>(OwnK.rd h).from_ HKN.out (if c=kk then some ⟨b,0,none⟩ else some ⟨b,kk,none⟩) (fun hlt b1 off1 he=>by injection he with he;injection he with he1 he2;subst he1;subst he2;rw [if_neg (by have := HCr.out.1;omega)];simp))) (fun y hy=>u32s_one _ y (List.mem_of_mem_drop hy)) (n + 1) (by omega) HB2.out (u32s (insC q Zs)) HIN.out ?_
               intro A63 c63 w63 hs hc;have HS63:=jzD hs;have HE63:Hid ((qS g cb co L cc i q) w63):=⟨cell_at (Done.at_ (C:=fun X=>Star (Star (Star (Star (Star (X) (qB sl l)) (qC cb co L cc cl)) (qD b n c Zs)) (OwnK 22 1 (.slice A63 (n + 1) c63) (n + 1) (u32s (insC q Zs)))) (CellW g61 #[.int .u32 q] 22)) (Fr.l (Fr.l (Fr.l (Fr.l (Fr.l Fr.id_ oS) oS) kS) kS) cS) hs) 2 _ rfl,(Done.get (C:=fun X=>Star (Star (Star (Star (Star (qA g me sl cb co L cc) (qB sl l)) X) (qD b n c Zs)) (OwnK 22 1 (.slice A63 (n + 1) c63) (n + 1) (u32s (insC q Zs)))) (CellW g61 #[.int .u32 q] 22)) (Fr.l (Fr.l (Fr.l (Fr.r (cS.star oS) Fr.id_) kS) kS) cS) hs).elim fun _ h=>OwnO.cell h HQC.out⟩;have HC63:=jzD hc;refine ⟨HE63.out,?_⟩;clear hs hc
               simp only [Act.put,jzU,jzV,jzW]
               refine rtk 17 HE63.out ?_
               refine rests_done (by kernel_rfl) ?_
               go_wp2
               go_roundw
               case rel=>exact ⟨i + 1,A63,c63,insC q Zs,n + 1,by omega,by go_num,HXC.out,HLN.out,rfl,HC63.out,HS63.out.drop.drop_mid⟩
               case measure=>simp [intOf] <;> omega
             · obtain ⟨g60,hg60⟩:∃ g,g=((w51).drew).heap.size:=⟨_,rfl⟩
               have hal60:=CellW.new ((w51).drew) #[.int .u32 q] 22
               rw [← hg60] at hal60
               obtain ⟨w60,hw60⟩:∃ wz,wz=((w51).drew).alloc (.cells #[.int .u32 q] 22):=⟨_,rfl⟩
               rw [← hw60] at hal60
               have HS60:=jzD (HSd.out.add ((((cS.star oS).star oS).star kS).star kS) hal60)
               have HE60:Hid ((qS g cb co L cc i q) w60):=⟨cell_at (Done.at_ (C:=fun X=>Star (Star (Star (Star (Star (X) (qB sl l)) (qC cb co L cc cl)) (qD b n c Zs)) (OwnK 22 1 (.slice none 0 0) 0 [])) (CellW g60 #[.int .u32 q] 22)) (Fr.l (Fr.l (Fr.l (Fr.l (Fr.l Fr.id_ oS) oS) kS) kS) cS) HS60.out) 2 _ rfl,(Done.get (C:=fun X=>Star (Star (Star (Star (Star (qA g me sl cb co L cc) (qB sl l)) X) (qD b n c Zs)) (OwnK 22 1 (.slice none 0 0) 0 [])) (CellW g60 #[.int .u32 q] 22)) (Fr.l (Fr.l (Fr.l (Fr.r (cS.star oS) Fr.id_) kS) kS) cS) HS60.out).elim fun _ h=>OwnO.cell h HQC.out⟩
               refine wp_val (v:=(.slice (some ⟨g60,0,none⟩) 1 1)) (w' := w60) (by rw [hg60,hw60];go_simp) ⟨HE60.out,?_⟩
               clear hg60 hal60 hw60
               simp only [Act.put,jzU,jzV,jzW]
               refine rests_appD 3 (oi:=_) (by simp only [jzG,jzH,jzI];rfl) (by kernel_rfl) (by rfl) (C:=fun X=>Star (Star (Star (Star (Star (qA g me sl cb co L cc) (qB sl l)) (qC cb co L cc cl)) (qD b n c Zs)) X) (CellW g60 #[.int .u32 q] 22)) (Fr.l (Fr.r (((cS.star oS).star oS).star kS) Fr.id_) cS) HS60.out (.const (.slice none 0 0)) (.tmp 55) 44 4 (.int .u32 0) rfl Tryz.underlying44 (by kernel_rfl) rfl (by decide) (.slice (some ⟨b,0,none⟩) kk c) kk ((u32s Zs).take (kk * 1)) rfl rfl (((Done.get (C:=fun X=>Star (Star (Star (Star (Star (qA g me sl cb co L cc) (qB sl l)) (qC cb co L cc cl)) X) (OwnK 22 1 (.slice none 0 0) 0 [])) (CellW g60 #[.int .u32 q] 22)) (Fr.l (Fr.l (Fr.r ((cS.star oS).star oS) Fr.id_) kS) cS) HS60.out).elim fun _ h=>(OwnK.rd h).take HKN.out)) (fun y hy=>u32s_one _ y (List.mem_of_mem_take hy)) kk (by omega) HB0.out ((u32s Zs).take (kk * 1)) (by simp) ?_
               intro A61 c61 w61 hs hc;have HS61:=jzD hs;have HE61:Hid ((qS g cb co L cc i q) w61):=⟨cell_at (Done.at_ (C:=fun X=>Star (Star (Star (Star (Star (X) (qB sl l)) (qC cb co L cc cl)) (qD b n c Zs)) (OwnK 22 1 (.slice A61 kk c61) kk ((u32s Zs).take (kk * 1)))) (CellW g60 #[.int .u32 q] 22)) (Fr.l (Fr.l (Fr.l (Fr.l (Fr.l Fr.id_ oS) oS) kS) kS) cS) hs) 2 _ rfl,(Done.get (C:=fun X=>Star (Star (Star (Star (Star (qA g me sl cb co L cc) (qB sl l)) X) (qD b n c Zs)) (OwnK 22 1 (.slice A61 kk c61) kk ((u32s Zs).take (kk * 1)))) (CellW g60 #[.int .u32 q] 22)) (Fr.l (Fr.l (Fr.l (Fr.r (cS.star oS) Fr.id_) kS) kS) cS) hs).elim fun _ h=>OwnO.cell h HQC.out⟩;have HC61:=jzD hc;refine ⟨HE61.out,?_⟩;clear hs hc
               simp only [Act.put,jzU,jzV,jzW]
               refine rests_appD 12 (oi:=_) (by simp only [jzG,jzH,jzI];rfl) (by kernel_rfl) (by rfl) (C:=fun X=>Star (Star (Star (Star (Star (qA g me sl cb co L cc) (qB sl l)) (qC cb co L cc cl)) (qD b n c Zs)) X) (CellW g60 #[.int .u32 q] 22)) (Fr.l (Fr.r (((cS.star oS).star oS).star kS) Fr.id_) cS) HS61.out (.tmp 56) (.tmp 64) 44 4 (.int .u32 0) rfl Tryz.underlying44 (by kernel_rfl) rfl (by decide) (.slice (some ⟨g60,0,none⟩) 1 1) 1 [.int .u32 q] rfl rfl ((rdG_new (Done.at_ (C:=fun X=>Star (Star (Star (Star (Star (qA g me sl cb co L cc) (qB sl l)) (qC cb co L cc cl)) (qD b n c Zs)) (OwnK 22 1 (.slice A61 kk c61) kk ((u32s Zs).take (kk * 1)))) X) (Fr.r ((((cS.star oS).star oS).star kS).star kS) Fr.id_) HS61.out) rfl)) (by simp [Value.oneCell']) (kk + 1) rfl HB1.out ((u32s Zs).take (kk * 1) ++ [.int .u32 q]) rfl ?_
               intro A62 c62 w62 hs hc;have HS62:=jzD hs;have HE62:Hid ((qS g cb co L cc i q) w62):=⟨cell_at (Done.at_ (C:=fun X=>Star (Star (Star (Star (Star (X) (qB sl l)) (qC cb co L cc cl)) (qD b n c Zs)) (OwnK 22 1 (.slice A62 (kk + 1) c62) (kk + 1) ((u32s Zs).take (kk * 1) ++ [.int .u32 q]))) (CellW g60 #[.int .u32 q] 22)) (Fr.l (Fr.l (Fr.l (Fr.l (Fr.l Fr.id_ oS) oS) kS) kS) cS) hs) 2 _ rfl,(Done.get (C:=fun X=>Star (Star (Star (Star (Star (qA g me sl cb co L cc) (qB sl l)) X) (qD b n c Zs)) (OwnK 22 1 (.slice A62 (kk + 1) c62) (kk + 1) ((u32s Zs).take (kk * 1) ++ [.int .u32 q]))) (CellW g60 #[.int .u32 q] 22)) (Fr.l (Fr.l (Fr.l (Fr.r (cS.star oS) Fr.id_) kS) kS) cS) hs).elim fun _ h=>OwnO.cell h HQC.out⟩;have HC62:=jzD hc;refine ⟨HE62.out,?_⟩;clear hs hc
               simp only [Act.put,jzU,jzV,jzW]
               refine rests_appD 16 (oi:=_) (by simp only [jzG,jzH,jzI];rfl) (by kernel_rfl) (by rfl) (C:=fun X=>Star (Star (Star (Star (Star (qA g me sl cb co L cc) (qB sl l)) (qC cb co L cc cl)) (qD b n c Zs)) X) (CellW g60 #[.int .u32 q] 22)) (Fr.l (Fr.r (((cS.star oS).star oS).star kS) Fr.id_) cS) HS62.out (.tmp 65) (.tmp 68) 44 4 (.int .u32 0) rfl Tryz.underlying44 (by kernel_rfl) rfl (by decide) (.slice (if c=kk then some ⟨b,0,none⟩ else some ⟨b,kk,none⟩) (n - kk) (c - kk)) (n - kk) ((u32s Zs).drop (kk * 1)) rfl rfl (((Done.get (C:=fun X=>Star (Star (Star (Star (Star (qA g me sl cb co L cc) (qB sl l)) (qC cb co L cc cl)) X) (OwnK 22 1 (.slice A62 (kk + 1) c62) (kk + 1) ((u32s Zs).take (kk * 1) ++ [.int .u32 q]))) (CellW g60 #[.int .u32 q] 22)) (Fr.l (Fr.l (Fr.r ((cS.star oS).star oS) Fr.id_) kS) cS) HS62.out).elim fun _ h=>(OwnK.rd h).from_ HKN.out (if c=kk then some ⟨b,0,none⟩ else some ⟨b,kk,none⟩) (fun hlt b1 off1 he=>by injection he with he;injection he with he1 he2;subst he1;subst he2;rw [if_neg (by have := HCr.out.1;omega)];simp))) (fun y hy=>u32s_one _ y (List.mem_of_mem_drop hy)) (n + 1) (by omega) HB2.out (u32s (insC q Zs)) HIN.out ?_
               intro A63 c63 w63 hs hc;have HS63:=jzD hs;have HE63:Hid ((qS g cb co L cc i q) w63):=⟨cell_at (Done.at_ (C:=fun X=>Star (Star (Star (Star (Star (X) (qB sl l)) (qC cb co L cc cl)) (qD b n c Zs)) (OwnK 22 1 (.slice A63 (n + 1) c63) (n + 1) (u32s (insC q Zs)))) (CellW g60 #[.int .u32 q] 22)) (Fr.l (Fr.l (Fr.l (Fr.l (Fr.l Fr.id_ oS) oS) kS) kS) cS) hs) 2 _ rfl,(Done.get (C:=fun X=>Star (Star (Star (Star (Star (qA g me sl cb co L cc) (qB sl l)) X) (qD b n c Zs)) (OwnK 22 1 (.slice A63 (n + 1) c63) (n + 1) (u32s (insC q Zs)))) (CellW g60 #[.int .u32 q] 22)) (Fr.l (Fr.l (Fr.l (Fr.r (cS.star oS) Fr.id_) kS) kS) cS) hs).elim fun _ h=>OwnO.cell h HQC.out⟩;have HC63:=jzD hc;refine ⟨HE63.out,?_⟩;clear hs hc
               simp only [Act.put,jzU,jzV,jzW]
               refine rtk 17 HE63.out ?_
               refine rests_done (by kernel_rfl) ?_
               go_wp2
               go_roundw
               case rel=>exact ⟨i + 1,A63,c63,insC q Zs,n + 1,by omega,by go_num,HXC.out,HLN.out,rfl,HC63.out,HS63.out.drop.drop_mid⟩
               case measure=>simp [intOf] <;> omega
       · skip
         have t3:decide ((kk:Int) < (n:Int))=false:=decide_eq_false (by omega)
         have hke:kk=n:=by omega
         have sk1:kk≤c:=by have := HCr.out.1;omega
         have sk2:n≤c:=HCr.out.1
         have h3:Zs[kk]? ≠ some q:=by rw [List.getElem?_eq_none (by have := HNX.out;omega)];simp
         have hk2:kk=Zs.length ∨ ∃ y,Zs[kk]?=some y∧¬ y < q:=.inl (by have := HNX.out;omega)
         have HIN:=jzD (ins_new HLOW.out hk2 h3)
         have HLN:Hid (n + 1=(insC q Zs).length):=by show _=_;rw [ins_len HLOW.out hk2 h3 (by have := HNX.out;omega)];have := HNX.out;omega
         have t4:(((kk:Nat):Int) == ((n:Nat):Int))=true:=beq_iff_eq.2 (by omega)
         have HKN:Hid (kk≤n):=by show _≤_;omega
         have HB0:Hid (kk≤1000000):=by show _≤_;have := HNL.out;omega
         have HB1:Hid (kk + 1≤1000000):=by show _≤_;have := HNL.out;omega
         have HB2:Hid (n + 1≤1000000):=by show _≤_;have := HNL.out;omega
         clear h3 hk2 hke
         go_wp2
         refine regq (fun W=>Below (wr).heap.size (wr) W) (by kernel_rfl) (by kernel_rfl) ((Below.refl _ _).drew) ?_
         iterate 5 refine qtk ?_
         iterate 12 refine qsk ?_
         refine qtk ?_
         refine q_done ?_
         intro w50 hb
         have HS50:=jzD (HSk.out.keep (((cS.star oS).star oS).star kS) hb)
         clear hb
         go_wp2
         refine regq (fun W=>Below (w50).heap.size (w50) W) (by kernel_rfl) (by kernel_rfl) ((Below.refl _ _).drew) ?_
         iterate 5 refine qtk ?_
         iterate 12 refine qsk ?_
         refine qtk ?_
         refine q_done ?_
         intro w51 hb
         have HS51:=jzD (HS50.out.keep (((cS.star oS).star oS).star kS) hb)
         clear hb
         go_wp2
         have HSn:=jzD (HS51.out.add (((cS.star oS).star oS).star kS) (OwnK.nilD 22 1 _))
         have HSd:=jzD (HSn.out.drewD ((((cS.star oS).star oS).star kS).star kS))
         have HEd:Hid ((qS g cb co L cc i q) (w51).drew):=⟨cell_at (Done.at_ (C:=fun X=>Star (Star (Star (Star (X) (qB sl l)) (qC cb co L cc cl)) (qD b n c Zs)) (OwnK 22 1 (.slice none 0 0) 0 [])) (Fr.l (Fr.l (Fr.l (Fr.l Fr.id_ oS) oS) kS) kS) HSd.out) 2 _ rfl,(Done.get (C:=fun X=>Star (Star (Star (Star (qA g me sl cb co L cc) (qB sl l)) X) (qD b n c Zs)) (OwnK 22 1 (.slice none 0 0) 0 [])) (Fr.l (Fr.l (Fr.r (cS.star oS) Fr.id_) kS) kS) HSd.out).elim fun _ h=>OwnO.cell h HQC.out⟩
         refine rests_begin (qS g cb co L cc i q) (by kernel_rfl) ?_
         refine rtk 0 HEd.out ?_
         refine rtk 1 HEd.out ?_
         refine rtk 2 HEd.out ?_
         refine rtk 4 HEd.out ?_
         refine rtk 5 HEd.out ?_
         refine rtk 6 HEd.out ?_
         refine rtk 7 HEd.out ?_ (hy:=by intro W HW;obtain ⟨z1,z2⟩:=HW;go_simp;try with_reducible rfl)
         refine rtk 8 HEd.out ?_
         refine rtk 9 HEd.out ?_
         refine rtk 10 HEd.out ?_ (hy:=by intro W HW;obtain ⟨z1,z2⟩:=HW;go_simp;try with_reducible rfl)
         refine rtk 13 HEd.out ?_
         refine rtk 14 HEd.out ?_
         refine rtk 15 HEd.out ?_
         refine rests_two 3 11 (oi:=_) (oj:=_) (by simp only [jzG,jzH,jzI];rfl) (by simp only [jzG,jzH,jzI];rfl) (by kernel_rfl) (by rfl) (by rfl) ?_ ?_
         · refine wp_appD (C:=fun X=>Star (Star (Star (Star (qA g me sl cb co L cc) (qB sl l)) (qC cb co L cc cl)) (qD b n c Zs)) X) (Fr.r (((cS.star oS).star oS).star kS) Fr.id_) HSd.out (.const (.slice none 0 0)) (.tmp 55) 44 4 (.int .u32 0) rfl Tryz.underlying44 (by kernel_rfl) rfl (by decide) (.slice (some ⟨b,0,none⟩) kk c) kk ((u32s Zs).take (kk * 1)) rfl rfl (((Done.get (C:=fun X=>Star (Star (Star (Star (qA g me sl cb co L cc) (qB sl l)) (qC cb co L cc cl)) X) (OwnK 22 1 (.slice none 0 0) 0 [])) (Fr.l (Fr.r ((cS.star oS).star oS) Fr.id_) kS) HSd.out).elim fun _ h=>(OwnK.rd h).take HKN.out)) (fun y hy=>u32s_one _ y (List.mem_of_mem_take hy)) kk (by omega) HB0.out ((u32s Zs).take (kk * 1)) (by simp) ?_
           intro A60 c60 w60 hs hc;have HS60:=jzD hs;have HE60:Hid ((qS g cb co L cc i q) w60):=⟨cell_at (Done.at_ (C:=fun X=>Star (Star (Star (Star (X) (qB sl l)) (qC cb co L cc cl)) (qD b n c Zs)) (OwnK 22 1 (.slice A60 kk c60) kk ((u32s Zs).take (kk * 1)))) (Fr.l (Fr.l (Fr.l (Fr.l Fr.id_ oS) oS) kS) kS) hs) 2 _ rfl,(Done.get (C:=fun X=>Star (Star (Star (Star (qA g me sl cb co L cc) (qB sl l)) X) (qD b n c Zs)) (OwnK 22 1 (.slice A60 kk c60) kk ((u32s Zs).take (kk * 1)))) (Fr.l (Fr.l (Fr.r (cS.star oS) Fr.id_) kS) kS) hs).elim fun _ h=>OwnO.cell h HQC.out⟩;have HC60:=jzD hc;refine ⟨HE60.out,?_⟩;clear hs hc
           simp only [Act.put,jzU,jzV,jzW]
           obtain ⟨g61,hg61⟩:∃ g,g=(w60).heap.size:=⟨_,rfl⟩
           have hal61:=CellW.new (w60) #[.int .u32 q] 22
           rw [← hg61] at hal61
           obtain ⟨w61,hw61⟩:∃ wz,wz=(w60).alloc (.cells #[.int .u32 q] 22):=⟨_,rfl⟩
           rw [← hw61] at hal61
           have HS61:=jzD (HS60.out.add ((((cS.star oS).star oS).star kS).star kS) hal61)
           have HE61:Hid ((qS g cb co L cc i q) w61):=⟨cell_at (Done.at_ (C:=fun X=>Star (Star (Star (Star (Star (X) (qB sl l)) (qC cb co L cc cl)) (qD b n c Zs)) (OwnK 22 1 (.slice A60 kk c60) kk ((u32s Zs).take (kk * 1)))) (CellW g61 #[.int .u32 q] 22)) (Fr.l (Fr.l (Fr.l (Fr.l (Fr.l Fr.id_ oS) oS) kS) kS) cS) HS61.out) 2 _ rfl,(Done.get (C:=fun X=>Star (Star (Star (Star (Star (qA g me sl cb co L cc) (qB sl l)) X) (qD b n c Zs)) (OwnK 22 1 (.slice A60 kk c60) kk ((u32s Zs).take (kk * 1)))) (CellW g61 #[.int .u32 q] 22)) (Fr.l (Fr.l (Fr.l (Fr.r (cS.star oS) Fr.id_) kS) kS) cS) HS61.out).elim fun _ h=>OwnO.cell h HQC.out⟩
           refine rests_run 11 (oi:=_) (by simp only [jzG,jzH,jzI];rfl) (by kernel_rfl) (by rfl) ((.slice (some ⟨g61,0,none⟩) 1 1)) w61 (by rw [hg61,hw61];go_simp) ⟨HE61.out,?_⟩
           clear hg61 hal61 hw61
           simp only [Act.put,jzU,jzV,jzW]
           refine rests_appD 12 (oi:=_) (by simp only [jzG,jzH,jzI];rfl) (by kernel_rfl) (by rfl) (C:=fun X=>Star (Star (Star (Star (Star (qA g me sl cb co L cc) (qB sl l)) (qC cb co L cc cl)) (qD b n c Zs)) X) (CellW g61 #[.int .u32 q] 22)) (Fr.l (Fr.r (((cS.star oS).star oS).star kS) Fr.id_) cS) HS61.out (.tmp 56) (.tmp 64) 44 4 (.int .u32 0) rfl Tryz.underlying44 (by kernel_rfl) rfl (by decide) (.slice (some ⟨g61,0,none⟩) 1 1) 1 [.int .u32 q] rfl rfl ((rdG_new (Done.at_ (C:=fun X=>Star (Star (Star (Star (Star (qA g me sl cb co L cc) (qB sl l)) (qC cb co L cc cl)) (qD b n c Zs)) (OwnK 22 1 (.slice A60 kk c60) kk ((u32s Zs).take (kk * 1)))) X) (Fr.r ((((cS.star oS).star oS).star kS).star kS) Fr.id_) HS61.out) rfl)) (by simp [Value.oneCell']) (kk + 1) rfl HB1.out ((u32s Zs).take (kk * 1) ++ [.int .u32 q]) rfl ?_
           intro A62 c62 w62 hs hc;have HS62:=jzD hs;have HE62:Hid ((qS g cb co L cc i q) w62):=⟨cell_at (Done.at_ (C:=fun X=>Star (Star (Star (Star (Star (X) (qB sl l)) (qC cb co L cc cl)) (qD b n c Zs)) (OwnK 22 1 (.slice A62 (kk + 1) c62) (kk + 1) ((u32s Zs).take (kk * 1) ++ [.int .u32 q]))) (CellW g61 #[.int .u32 q] 22)) (Fr.l (Fr.l (Fr.l (Fr.l (Fr.l Fr.id_ oS) oS) kS) kS) cS) hs) 2 _ rfl,(Done.get (C:=fun X=>Star (Star (Star (Star (Star (qA g me sl cb co L cc) (qB sl l)) X) (qD b n c Zs)) (OwnK 22 1 (.slice A62 (kk + 1) c62) (kk + 1) ((u32s Zs).take (kk * 1) ++ [.int .u32 q]))) (CellW g61 #[.int .u32 q] 22)) (Fr.l (Fr.l (Fr.l (Fr.r (cS.star oS) Fr.id_) kS) kS) cS) hs).elim fun _ h=>OwnO.cell h HQC.out⟩;have HC62:=jzD hc;refine ⟨HE62.out,?_⟩;clear hs hc
           simp only [Act.put,jzU,jzV,jzW]
           refine rests_appD 16 (oi:=_) (by simp only [jzG,jzH,jzI];rfl) (by kernel_rfl) (by rfl) (C:=fun X=>Star (Star (Star (Star (Star (qA g me sl cb co L cc) (qB sl l)) (qC cb co L cc cl)) (qD b n c Zs)) X) (CellW g61 #[.int .u32 q] 22)) (Fr.l (Fr.r (((cS.star oS).star oS).star kS) Fr.id_) cS) HS62.out (.tmp 65) (.tmp 68) 44 4 (.int .u32 0) rfl Tryz.underlying44 (by kernel_rfl) rfl (by decide) (.slice (if c=kk then some ⟨b,0,none⟩ else some ⟨b,kk,none⟩) (n - kk) (c - kk)) (n - kk) ((u32s Zs).drop (kk * 1)) rfl rfl (((Done.get (C:=fun X=>Star (Star (Star (Star (Star (qA g me sl cb co L cc) (qB sl l)) (qC cb co L cc cl)) X) (OwnK 22 1 (.slice A62 (kk + 1) c62) (kk + 1) ((u32s Zs).take (kk * 1) ++ [.int .u32 q]))) (CellW g61 #[.int .u32 q] 22)) (Fr.l (Fr.l (Fr.r ((cS.star oS).star oS) Fr.id_) kS) cS) HS62.out).elim fun _ h=>(OwnK.rd h).from_ HKN.out (if c=kk then some ⟨b,0,none⟩ else some ⟨b,kk,none⟩) (fun hlt b1 off1 he=>by injection he with he;injection he with he1 he2;subst he1;subst he2;rw [if_neg (by have := HCr.out.1;omega)];simp))) (fun y hy=>u32s_one _ y (List.mem_of_mem_drop hy)) (n + 1) (by omega) HB2.out (u32s (insC q Zs)) HIN.out ?_
           intro A63 c63 w63 hs hc;have HS63:=jzD hs;have HE63:Hid ((qS g cb co L cc i q) w63):=⟨cell_at (Done.at_ (C:=fun X=>Star (Star (Star (Star (Star (X) (qB sl l)) (qC cb co L cc cl)) (qD b n c Zs)) (OwnK 22 1 (.slice A63 (n + 1) c63) (n + 1) (u32s (insC q Zs)))) (CellW g61 #[.int .u32 q] 22)) (Fr.l (Fr.l (Fr.l (Fr.l (Fr.l Fr.id_ oS) oS) kS) kS) cS) hs) 2 _ rfl,(Done.get (C:=fun X=>Star (Star (Star (Star (Star (qA g me sl cb co L cc) (qB sl l)) X) (qD b n c Zs)) (OwnK 22 1 (.slice A63 (n + 1) c63) (n + 1) (u32s (insC q Zs)))) (CellW g61 #[.int .u32 q] 22)) (Fr.l (Fr.l (Fr.l (Fr.r (cS.star oS) Fr.id_) kS) kS) cS) hs).elim fun _ h=>OwnO.cell h HQC.out⟩;have HC63:=jzD hc;refine ⟨HE63.out,?_⟩;clear hs hc
           simp only [Act.put,jzU,jzV,jzW]
           refine rtk 17 HE63.out ?_
           refine rests_done (by kernel_rfl) ?_
           go_wp2
           go_roundw
           case rel=>exact ⟨i + 1,A63,c63,insC q Zs,n + 1,by omega,by go_num,HXC.out,HLN.out,rfl,HC63.out,HS63.out.drop.drop_mid⟩
           case measure=>simp [intOf] <;> omega
         · obtain ⟨g60,hg60⟩:∃ g,g=((w51).drew).heap.size:=⟨_,rfl⟩
           have hal60:=CellW.new ((w51).drew) #[.int .u32 q] 22
           rw [← hg60] at hal60
           obtain ⟨w60,hw60⟩:∃ wz,wz=((w51).drew).alloc (.cells #[.int .u32 q] 22):=⟨_,rfl⟩
           rw [← hw60] at hal60
           have HS60:=jzD (HSd.out.add ((((cS.star oS).star oS).star kS).star kS) hal60)
           have HE60:Hid ((qS g cb co L cc i q) w60):=⟨cell_at (Done.at_ (C:=fun X=>Star (Star (Star (Star (Star (X) (qB sl l)) (qC cb co L cc cl)) (qD b n c Zs)) (OwnK 22 1 (.slice none 0 0) 0 [])) (CellW g60 #[.int .u32 q] 22)) (Fr.l (Fr.l (Fr.l (Fr.l (Fr.l Fr.id_ oS) oS) kS) kS) cS) HS60.out) 2 _ rfl,(Done.get (C:=fun X=>Star (Star (Star (Star (Star (qA g me sl cb co L cc) (qB sl l)) X) (qD b n c Zs)) (OwnK 22 1 (.slice none 0 0) 0 [])) (CellW g60 #[.int .u32 q] 22)) (Fr.l (Fr.l (Fr.l (Fr.r (cS.star oS) Fr.id_) kS) kS) cS) HS60.out).elim fun _ h=>OwnO.cell h HQC.out⟩
           refine wp_val (v:=(.slice (some ⟨g60,0,none⟩) 1 1)) (w' := w60) (by rw [hg60,hw60];go_simp) ⟨HE60.out,?_⟩
           clear hg60 hal60 hw60
           simp only [Act.put,jzU,jzV,jzW]
           refine rests_appD 3 (oi:=_) (by simp only [jzG,jzH,jzI];rfl) (by kernel_rfl) (by rfl) (C:=fun X=>Star (Star (Star (Star (Star (qA g me sl cb co L cc) (qB sl l)) (qC cb co L cc cl)) (qD b n c Zs)) X) (CellW g60 #[.int .u32 q] 22)) (Fr.l (Fr.r (((cS.star oS).star oS).star kS) Fr.id_) cS) HS60.out (.const (.slice none 0 0)) (.tmp 55) 44 4 (.int .u32 0) rfl Tryz.underlying44 (by kernel_rfl) rfl (by decide) (.slice (some ⟨b,0,none⟩) kk c) kk ((u32s Zs).take (kk * 1)) rfl rfl (((Done.get (C:=fun X=>Star (Star (Star (Star (Star (qA g me sl cb co L cc) (qB sl l)) (qC cb co L cc cl)) X) (OwnK 22 1 (.slice none 0 0) 0 [])) (CellW g60 #[.int .u32 q] 22)) (Fr.l (Fr.l (Fr.r ((cS.star oS).star oS) Fr.id_) kS) cS) HS60.out).elim fun _ h=>(OwnK.rd h).take HKN.out)) (fun y hy=>u32s_one _ y (List.mem_of_mem_take hy)) kk (by omega) HB0.out ((u32s Zs).take (kk * 1)) (by simp) ?_
           intro A61 c61 w61 hs hc;have HS61:=jzD hs;have HE61:Hid ((qS g cb co L cc i q) w61):=⟨cell_at (Done.at_ (C:=fun X=>Star (Star (Star (Star (Star (X) (qB sl l)) (qC cb co L cc cl)) (qD b n c Zs)) (OwnK 22 1 (.slice A61 kk c61) kk ((u32s Zs).take (kk * 1)))) (CellW g60 #[.int .u32 q] 22)) (Fr.l (Fr.l (Fr.l (Fr.l (Fr.l Fr.id_ oS) oS) kS) kS) cS) hs) 2 _ rfl,(Done.get (C:=fun X=>Star (Star (Star (Star (Star (qA g me sl cb co L cc) (qB sl l)) X) (qD b n c Zs)) (OwnK 22 1 (.slice A61 kk c61) kk ((u32s Zs).take (kk * 1)))) (CellW g60 #[.int .u32 q] 22)) (Fr.l (Fr.l (Fr.l (Fr.r (cS.star oS) Fr.id_) kS) kS) cS) hs).elim fun _ h=>OwnO.cell h HQC.out⟩;have HC61:=jzD hc;refine ⟨HE61.out,?_⟩;clear hs hc
           simp only [Act.put,jzU,jzV,jzW]
           refine rests_appD 12 (oi:=_) (by simp only [jzG,jzH,jzI];rfl) (by kernel_rfl) (by rfl) (C:=fun X=>Star (Star (Star (Star (Star (qA g me sl cb co L cc) (qB sl l)) (qC cb co L cc cl)) (qD b n c Zs)) X) (CellW g60 #[.int .u32 q] 22)) (Fr.l (Fr.r (((cS.star oS).star oS).star kS) Fr.id_) cS) HS61.out (.tmp 56) (.tmp 64) 44 4 (.int .u32 0) rfl Tryz.underlying44 (by kernel_rfl) rfl (by decide) (.slice (some ⟨g60,0,none⟩) 1 1) 1 [.int .u32 q] rfl rfl ((rdG_new (Done.at_ (C:=fun X=>Star (Star (Star (Star (Star (qA g me sl cb co L cc) (qB sl l)) (qC cb co L cc cl)) (qD b n c Zs)) (OwnK 22 1 (.slice A61 kk c61) kk ((u32s Zs).take (kk * 1)))) X) (Fr.r ((((cS.star oS).star oS).star kS).star kS) Fr.id_) HS61.out) rfl)) (by simp [Value.oneCell']) (kk + 1) rfl HB1.out ((u32s Zs).take (kk * 1) ++ [.int .u32 q]) rfl ?_
           intro A62 c62 w62 hs hc;have HS62:=jzD hs;have HE62:Hid ((qS g cb co L cc i q) w62):=⟨cell_at (Done.at_ (C:=fun X=>Star (Star (Star (Star (Star (X) (qB sl l)) (qC cb co L cc cl)) (qD b n c Zs)) (OwnK 22 1 (.slice A62 (kk + 1) c62) (kk + 1) ((u32s Zs).take (kk * 1) ++ [.int .u32 q]))) (CellW g60 #[.int .u32 q] 22)) (Fr.l (Fr.l (Fr.l (Fr.l (Fr.l Fr.id_ oS) oS) kS) kS) cS) hs) 2 _ rfl,(Done.get (C:=fun X=>Star (Star (Star (Star (Star (qA g me sl cb co L cc) (qB sl l)) X) (qD b n c Zs)) (OwnK 22 1 (.slice A62 (kk + 1) c62) (kk + 1) ((u32s Zs).take (kk * 1) ++ [.int .u32 q]))) (CellW g60 #[.int .u32 q] 22)) (Fr.l (Fr.l (Fr.l (Fr.r (cS.star oS) Fr.id_) kS) kS) cS) hs).elim fun _ h=>OwnO.cell h HQC.out⟩;have HC62:=jzD hc;refine ⟨HE62.out,?_⟩;clear hs hc
           simp only [Act.put,jzU,jzV,jzW]
           refine rests_appD 16 (oi:=_) (by simp only [jzG,jzH,jzI];rfl) (by kernel_rfl) (by rfl) (C:=fun X=>Star (Star (Star (Star (Star (qA g me sl cb co L cc) (qB sl l)) (qC cb co L cc cl)) (qD b n c Zs)) X) (CellW g60 #[.int .u32 q] 22)) (Fr.l (Fr.r (((cS.star oS).star oS).star kS) Fr.id_) cS) HS62.out (.tmp 65) (.tmp 68) 44 4 (.int .u32 0) rfl Tryz.underlying44 (by kernel_rfl) rfl (by decide) (.slice (if c=kk then some ⟨b,0,none⟩ else some ⟨b,kk,none⟩) (n - kk) (c - kk)) (n - kk) ((u32s Zs).drop (kk * 1)) rfl rfl (((Done.get (C:=fun X=>Star (Star (Star (Star (Star (qA g me sl cb co L cc) (qB sl l)) (qC cb co L cc cl)) X) (OwnK 22 1 (.slice A62 (kk + 1) c62) (kk + 1) ((u32s Zs).take (kk * 1) ++ [.int .u32 q]))) (CellW g60 #[.int .u32 q] 22)) (Fr.l (Fr.l (Fr.r ((cS.star oS).star oS) Fr.id_) kS) cS) HS62.out).elim fun _ h=>(OwnK.rd h).from_ HKN.out (if c=kk then some ⟨b,0,none⟩ else some ⟨b,kk,none⟩) (fun hlt b1 off1 he=>by injection he with he;injection he with he1 he2;subst he1;subst he2;rw [if_neg (by have := HCr.out.1;omega)];simp))) (fun y hy=>u32s_one _ y (List.mem_of_mem_drop hy)) (n + 1) (by omega) HB2.out (u32s (insC q Zs)) HIN.out ?_
           intro A63 c63 w63 hs hc;have HS63:=jzD hs;have HE63:Hid ((qS g cb co L cc i q) w63):=⟨cell_at (Done.at_ (C:=fun X=>Star (Star (Star (Star (Star (X) (qB sl l)) (qC cb co L cc cl)) (qD b n c Zs)) (OwnK 22 1 (.slice A63 (n + 1) c63) (n + 1) (u32s (insC q Zs)))) (CellW g60 #[.int .u32 q] 22)) (Fr.l (Fr.l (Fr.l (Fr.l (Fr.l Fr.id_ oS) oS) kS) kS) cS) hs) 2 _ rfl,(Done.get (C:=fun X=>Star (Star (Star (Star (Star (qA g me sl cb co L cc) (qB sl l)) X) (qD b n c Zs)) (OwnK 22 1 (.slice A63 (n + 1) c63) (n + 1) (u32s (insC q Zs)))) (CellW g60 #[.int .u32 q] 22)) (Fr.l (Fr.l (Fr.l (Fr.r (cS.star oS) Fr.id_) kS) kS) cS) hs).elim fun _ h=>OwnO.cell h HQC.out⟩;have HC63:=jzD hc;refine ⟨HE63.out,?_⟩;clear hs hc
           simp only [Act.put,jzU,jzV,jzW]
           refine rtk 17 HE63.out ?_
           refine rests_done (by kernel_rfl) ?_
           go_wp2
           go_roundw
           case rel=>exact ⟨i + 1,A63,c63,insC q Zs,n + 1,by omega,by go_num,HXC.out,HLN.out,rfl,HC63.out,HS63.out.drop.drop_mid⟩
           case measure=>simp [intOf] <;> omega
  · have t1:decide ((i:Int) < (L:Int))=false:=decide_eq_false (by omega)
    go_wp2
    go_ret
    have hX2:Zs=clF cl:=by rw [← HXE.out,List.take_of_length_le (by have := HL.out;omega)]
    have h9:=HSr.out
    have hn9:=HNX.out
    have hc9:=HCr.out
    subst hX2
    subst hn9
    refine ⟨A,c,by first | rfl | (simp;done),hc9,?_⟩
    refine Done.mono_at (C:=fun X=>Star X (OwnK 22 1 (.slice A (clF cl).length c) (clF cl).length (u32s (clF cl)))) (Fr.l Fr.id_ kS) h9 fun F hF=>?_
    have hL9:=HL.out
    subst hL9
    exact ⟨_,_,cl,rfl,HCK.out,hF⟩
end Go.Proofs.YtjddbjmcjhjpiaaGreatDoor
