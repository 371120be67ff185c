/- The reference of layer 16: all that were noted, as devices. -/
import Derived.Test.YtjddbjmcjhjpiaaGreatDoorN16J
import Derived.Test.YtjddbjmcjhjpiaaGreatDoorN16G
import Derived.Test.YtjddbjmcjhjpiaaGreatDoorL16uxQueryAll
import Derived.Test.YtjddbjmcjhjpiaaGreatDoorL16sxQueryAll
import Derived.Test.YtjddbjmcjhjpiaaGreatDoorL16txQueryAll

set_option linter.all false

namespace Go.Proofs.YtjddbjmcjhjpiaaGreatDoor
set_option maxRecDepth 100000
set_option maxHeartbeats 16000000
open Go.RowKit M

def secOf (s:SeenM):List Value:=[.int .u32 s.id,.string s.nick,.int .i64 s.slot]
theorem secs_at {l:List SeenM} {i:Nat} {s:SeenM} (h:l[i]?=some s):(secs l)[i * 3 + 0]?=some (.int .u32 s.id)∧(secs l)[i * 3 + 1]?=some (.string s.nick)∧(secs l)[i * 3 + 2]?=some (.int .i64 s.slot):=by
 have hi:=List.getElem?_eq_some_iff.1 h
 have f:=fun r (hr:r < 3)=>flat_at (f:=secOf) (k:=3) (fun _=>rfl) l i r hi.1 hr
 rw [show secs l=l.flatMap secOf from rfl]
 refine ⟨?_,?_,?_⟩
 · rw [f 0 (by omega),hi.2];rfl
 · rw [f 1 (by omega),hi.2];rfl
 · rw [f 2 (by omega),hi.2];rfl
theorem dvcs_take {l:List SeenM} {i:Nat} {s:SeenM} (h:l[i]?=some s):dvcs (l.take (i + 1))=dvcs (l.take i) ++ [.int .u32 s.id,.string s.nick]:=by
 have hi:=List.getElem?_eq_some_iff.1 h
 rw [List.take_succ_eq_append_getElem hi.1,hi.2]
 simp [dvcs]
theorem RLAll_any (g k:Nat) (m:LogM) (F:List Nat) (w:World) (h:RLg g m k w F) (hl:m.l.length≤16):Calls Tryz.prog 30 #[.pointer (some ⟨g,0,none⟩)] w fun e w' => ∃ A c,e=.returned (.slice A m.l.length c)∧(m.l.length≤c∧c≤maxLen)∧Done w F (Star (RLg g m k) (OwnK 89 2 (.slice A m.l.length c) m.l.length (dvcs m.l))) w' := by
 obtain ⟨me,l,cs⟩:=m
 obtain ⟨sl,sc,cl,hcl,hck,h⟩:=h
 have hl:l.length≤16:=hl
 show Calls Tryz.prog 30 #[.pointer (some ⟨g,0,none⟩)] w fun e w' => ∃ A c,e=.returned (.slice A l.length c)∧(l.length≤c∧c≤maxLen)∧Done w F (Star (RLg g ⟨me,l,cs⟩ k) (OwnK 89 2 (.slice A l.length c) l.length (dvcs l))) w'
 replace h:Done w F (Star (Star (CellW g #[.int .u32 me,sl,sc] 98) (OwnO 105 3 sl l.length (secs l))) (OwnO 22 1 sc cl.length (u32s cl))) w:=Done.start h
 obtain ⟨n,hn⟩:∃ n,n=l.length:=⟨_,rfl⟩
 rw [← hn] at h hl ⊢
 have HN:=jzD hn
 obtain ⟨Fs,hFs⟩:=Done.get (C:=fun X=>Star (Star (CellW g #[.int .u32 me,sl,sc] 98) X) (OwnO 22 1 sc cl.length (u32s cl))) (Fr.l (Fr.r cS Fr.id_) oS) h
 obtain ⟨A0,cap,rfl,hcap,hmax⟩:=hFs.shape
 have HS0:=jzD h
 have HL:=jzD hl
 have HCL:Hid (cs=clF cl∧cl.length≤k):=⟨hcl,hck⟩
 have HCP:=jzD hcap
 clear h hn hl hcl hck hFs hcap hmax
 go_enter Tryz.func30,Tryz.ntmps30
 go_wp2
 go_loopw [3,4] (fun qv iv wr=>∃ (i:Nat) (A:Option Addr) (c:Nat),i≤n∧iv=.int .i64 (i:Int)∧qv=.slice A i c∧(i≤c∧c≤maxLen)∧Done w F (Star (Star (Star (CellW g #[.int .u32 me,.slice A0 n cap,sc] 98) (OwnO 105 3 (.slice A0 n cap) n (secs l))) (OwnO 22 1 sc cl.length (u32s cl))) (OwnK 89 2 (.slice A i c) i (dvcs (l.take i)))) wr) (fun _ iv _=>(60 - intOf iv).toNat)
 case atStart=>exact ⟨0,none,0,by omega,rfl,rfl,⟨by omega,by simp [maxLen]⟩,HS0.out.add ((cS.star oS).star oS) (OwnK.nilD 89 2 _)⟩
 case round =>
  obtain ⟨i,A,c,hi,rfl,rfl,hc,hs⟩:=hrel
  have HSr:=jzD hs
  have HCr:=jzD hc
  have q1:wr.cell? ⟨g,1,none⟩=some (.slice A0 n cap):=cell_at (Done.at_ (C:=fun X=>Star (Star (Star (X) (OwnO 105 3 (.slice A0 n cap) n (secs l))) (OwnO 22 1 sc cl.length (u32s cl))) (OwnK 89 2 (.slice A i c) i (dvcs (l.take i)))) (Fr.l (Fr.l (Fr.l Fr.id_ oS) oS) kS) hs) 1 _ rfl
  clear hs hc
  by_cases hlt:i < n
  · have t1:decide ((i:Int) < (n:Int))=true:=decide_eq_true (by omega)
    have t2:(i:Int) < (n:Int):=by omega
    have tc1:(n:Int)≤(cap:Int):=by have := HCP.out;omega
    have e1:IntKind.i64.wrap ((i:Int) + 1)=(i:Int) + 1:=IntWalk.i64_in _ (by have := HL.out;omega)
    have hil:i < l.length:=by have := HN.out;omega
    obtain ⟨s,hp⟩:∃ s,l[i]?=some s:=⟨l[i],List.getElem?_eq_getElem hil⟩
    obtain ⟨F1,hF1⟩:=Done.get (C:=fun X=>Star (Star (Star (CellW g #[.int .u32 me,.slice A0 n cap,sc] 98) X) (OwnO 22 1 sc cl.length (u32s cl))) (OwnK 89 2 (.slice A i c) i (dvcs (l.take i)))) (Fr.l (Fr.l (Fr.r cS Fr.id_) oS) kS) HSr.out
    obtain ⟨sb,so,rfl⟩:=hF1.addr (by omega)
    have HC0:=jzD (secs_at hp).1
    have HC1:=jzD (secs_at hp).2.1
    have HDV:=jzD (dvcs_take hp)
    have HI6:Hid (i + 1≤1000000):=by show _≤_;have := HL.out;omega
    have HI16:Hid (i≤16):=by show _≤_;have := HL.out;omega
    have hi16:i≤16:=HI16.out
    clear hil hp hF1
    go_wp2
    have HSd:=jzD (HSr.out.drewD (((cS.star oS).star oS).star kS))
    have HEd:Hid ((fun U=>U.cell? ⟨g,1,none⟩=some (.slice (some ⟨sb,so,none⟩) n cap)∧U.cell? ⟨sb,so + i * 3,none⟩=some (.int .u32 s.id)∧U.cell? ⟨sb,so + i * 3 + 1,none⟩=some (.string s.nick)) wr.drew):=⟨cell_at (Done.at_ (C:=fun X=>Star (Star (Star (X) (OwnO 105 3 (.slice (some ⟨sb,so,none⟩) n cap) n (secs l))) (OwnO 22 1 sc cl.length (u32s cl))) (OwnK 89 2 (.slice A i c) i (dvcs (l.take i)))) (Fr.l (Fr.l (Fr.l Fr.id_ oS) oS) kS) HSd.out) 1 _ rfl,(Done.get (C:=fun X=>Star (Star (Star (CellW g #[.int .u32 me,.slice (some ⟨sb,so,none⟩) n cap,sc] 98) X) (OwnO 22 1 sc cl.length (u32s cl))) (OwnK 89 2 (.slice A i c) i (dvcs (l.take i)))) (Fr.l (Fr.l (Fr.r cS Fr.id_) oS) kS) HSd.out).elim fun _ h=>OwnO.cell h HC0.out,(Done.get (C:=fun X=>Star (Star (Star (CellW g #[.int .u32 me,.slice (some ⟨sb,so,none⟩) n cap,sc] 98) X) (OwnO 22 1 sc cl.length (u32s cl))) (OwnK 89 2 (.slice A i c) i (dvcs (l.take i)))) (Fr.l (Fr.l (Fr.r cS Fr.id_) oS) kS) HSd.out).elim fun _ h=>OwnO.cell h HC1.out⟩
    refine rests_begin (fun U=>U.cell? ⟨g,1,none⟩=some (.slice (some ⟨sb,so,none⟩) n cap)∧U.cell? ⟨sb,so + i * 3,none⟩=some (.int .u32 s.id)∧U.cell? ⟨sb,so + i * 3 + 1,none⟩=some (.string s.nick)) (by kernel_rfl) ?_
    refine rtk 0 HEd.out ?_
    refine rtk 1 HEd.out ?_
    refine rtk 2 HEd.out ?_
    refine rtk 3 HEd.out ?_
    refine rtk 4 HEd.out ?_ (hy:=by intro W HW;obtain ⟨z1,z2,z3⟩:=HW;go_simp;try with_reducible rfl)
    refine rtk 5 HEd.out ?_
    refine rtk 6 HEd.out ?_
    refine rtk 7 HEd.out ?_
    refine rtk 8 HEd.out ?_ (hy:=by intro W HW;obtain ⟨z1,z2,z3⟩:=HW;go_simp;try with_reducible rfl)
    refine rtk 9 HEd.out ?_
    refine rtk 10 HEd.out ?_
    refine rtk 11 HEd.out ?_
    refine rtk 12 HEd.out ?_ (hy:=by intro W HW;obtain ⟨z1,z2,z3⟩:=HW;go_simp;try with_reducible rfl)
    refine rtk 13 HEd.out ?_
    refine rtk 14 HEd.out ?_
    refine rtk 15 HEd.out ?_
    refine rtk 16 HEd.out ?_ (hy:=by intro W HW;obtain ⟨z1,z2,z3⟩:=HW;go_simp;try with_reducible rfl)
    refine rtk 17 HEd.out ?_
    obtain ⟨g40,hg40⟩:∃ g,g=(wr.drew).heap.size:=⟨_,rfl⟩
    have hal40:=CellW.new (wr.drew) #[.int .u32 s.id,.string s.nick] 89
    rw [← hg40] at hal40
    obtain ⟨w40,hw40⟩:∃ wz,wz=(wr.drew).alloc (.cells (yM s.id s.nick) 89):=⟨_,rfl⟩
    rw [← hw40] at hal40
    have HS40:=jzD (HSd.out.add (((cS.star oS).star oS).star kS) hal40)
    have HE40:Hid ((fun U=>U.cell? ⟨g,1,none⟩=some (.slice (some ⟨sb,so,none⟩) n cap)∧U.cell? ⟨sb,so + i * 3,none⟩=some (.int .u32 s.id)∧U.cell? ⟨sb,so + i * 3 + 1,none⟩=some (.string s.nick)) w40):=⟨cell_at (Done.at_ (C:=fun X=>Star (Star (Star (Star (X) (OwnO 105 3 (.slice (some ⟨sb,so,none⟩) n cap) n (secs l))) (OwnO 22 1 sc cl.length (u32s cl))) (OwnK 89 2 (.slice A i c) i (dvcs (l.take i)))) (CellW g40 (yM s.id s.nick) 89)) (Fr.l (Fr.l (Fr.l (Fr.l Fr.id_ oS) oS) kS) cS) HS40.out) 1 _ rfl,(Done.get (C:=fun X=>Star (Star (Star (Star (CellW g #[.int .u32 me,.slice (some ⟨sb,so,none⟩) n cap,sc] 98) X) (OwnO 22 1 sc cl.length (u32s cl))) (OwnK 89 2 (.slice A i c) i (dvcs (l.take i)))) (CellW g40 (yM s.id s.nick) 89)) (Fr.l (Fr.l (Fr.l (Fr.r cS Fr.id_) oS) kS) cS) HS40.out).elim fun _ h=>OwnO.cell h HC0.out,(Done.get (C:=fun X=>Star (Star (Star (Star (CellW g #[.int .u32 me,.slice (some ⟨sb,so,none⟩) n cap,sc] 98) X) (OwnO 22 1 sc cl.length (u32s cl))) (OwnK 89 2 (.slice A i c) i (dvcs (l.take i)))) (CellW g40 (yM s.id s.nick) 89)) (Fr.l (Fr.l (Fr.l (Fr.r cS Fr.id_) oS) kS) cS) HS40.out).elim fun _ h=>OwnO.cell h HC1.out⟩
    refine rests_run 18 (oi:=_) (by simp only [jzG,jzH,jzI];rfl) (by kernel_rfl) (by rfl) ((.slice (some ⟨g40,0,none⟩) 1 1)) w40 (by rw [hg40,hw40];go_simp) ⟨HE40.out,?_⟩
    clear hg40 hal40 hw40
    simp only [Act.put,jzU,jzV,jzW]
    refine rests_appD 19 (oi:=_) (by simp only [jzG,jzH,jzI];rfl) (by kernel_rfl) (by rfl) (C:=fun X=>Star (Star (Star (Star (CellW g #[.int .u32 me,.slice (some ⟨sb,so,none⟩) n cap,sc] 98) (OwnO 105 3 (.slice (some ⟨sb,so,none⟩) n cap) n (secs l))) (OwnO 22 1 sc cl.length (u32s cl))) X) (CellW g40 (yM s.id s.nick) 89)) (Fr.l (Fr.r ((cS.star oS).star oS) Fr.id_) cS) HS40.out (.tmp 14) (.tmp 32) 36 24 (.agg #[.int .u32 0,.string ⟨#[]⟩]) rfl Tryz.underlying36 (by kernel_rfl) rfl (by decide) (.slice (some ⟨g40,0,none⟩) 1 1) 1 [.int .u32 s.id,.string s.nick] rfl rfl ((rdG_new (Done.at_ (C:=fun X=>Star (Star (Star (Star (CellW g #[.int .u32 me,.slice (some ⟨sb,so,none⟩) n cap,sc] 98) (OwnO 105 3 (.slice (some ⟨sb,so,none⟩) n cap) n (secs l))) (OwnO 22 1 sc cl.length (u32s cl))) (OwnK 89 2 (.slice A i c) i (dvcs (l.take i)))) X) (Fr.r (((cS.star oS).star oS).star kS) Fr.id_) HS40.out) rfl)) (by simp [Value.oneCell']) (i + 1) rfl HI6.out (dvcs (l.take (i + 1))) HDV.out ?_
    intro A41 c41 w41 hs hc;have HS41:=jzD hs;have HE41:Hid ((fun U=>U.cell? ⟨g,1,none⟩=some (.slice (some ⟨sb,so,none⟩) n cap)∧U.cell? ⟨sb,so + i * 3,none⟩=some (.int .u32 s.id)∧U.cell? ⟨sb,so + i * 3 + 1,none⟩=some (.string s.nick)) w41):=⟨cell_at (Done.at_ (C:=fun X=>Star (Star (Star (Star (X) (OwnO 105 3 (.slice (some ⟨sb,so,none⟩) n cap) n (secs l))) (OwnO 22 1 sc cl.length (u32s cl))) (OwnK 89 2 (.slice A41 (i + 1) c41) (i + 1) (dvcs (l.take (i + 1))))) (CellW g40 (yM s.id s.nick) 89)) (Fr.l (Fr.l (Fr.l (Fr.l Fr.id_ oS) oS) kS) cS) hs) 1 _ rfl,(Done.get (C:=fun X=>Star (Star (Star (Star (CellW g #[.int .u32 me,.slice (some ⟨sb,so,none⟩) n cap,sc] 98) X) (OwnO 22 1 sc cl.length (u32s cl))) (OwnK 89 2 (.slice A41 (i + 1) c41) (i + 1) (dvcs (l.take (i + 1))))) (CellW g40 (yM s.id s.nick) 89)) (Fr.l (Fr.l (Fr.l (Fr.r cS Fr.id_) oS) kS) cS) hs).elim fun _ h=>OwnO.cell h HC0.out,(Done.get (C:=fun X=>Star (Star (Star (Star (CellW g #[.int .u32 me,.slice (some ⟨sb,so,none⟩) n cap,sc] 98) X) (OwnO 22 1 sc cl.length (u32s cl))) (OwnK 89 2 (.slice A41 (i + 1) c41) (i + 1) (dvcs (l.take (i + 1))))) (CellW g40 (yM s.id s.nick) 89)) (Fr.l (Fr.l (Fr.l (Fr.r cS Fr.id_) oS) kS) cS) hs).elim fun _ h=>OwnO.cell h HC1.out⟩;have HC41:=jzD hc;refine ⟨HE41.out,?_⟩;clear hs hc
    simp only [Act.put,jzU,jzV,jzW]
    refine rtk 20 HE41.out ?_
    refine rests_done (by kernel_rfl) ?_
    go_wp2
    go_roundw
    case rel=>exact ⟨i + 1,A41,c41,by omega,by go_num,rfl,HC41.out,HS41.out.drop⟩
    case measure=>simp [intOf] <;> omega
  · have t1:decide ((i:Int) < (n:Int))=false:=decide_eq_false (by omega)
    obtain rfl:i=n:=by omega
    go_wp2
    go_ret
    have hll:l.take i=l:=List.take_of_length_le (by have := HN.out;omega)
    refine ⟨A,c,by first | rfl | (simp;done),HCr.out,?_⟩
    have h9:=HSr.out
    rw [hll] at h9
    have hin:i=l.length:=HN.out
    refine Done.mono_at (C:=fun X=>Star X (OwnK 89 2 (.slice A i c) i (dvcs l))) (Fr.l Fr.id_ kS) h9 fun F hF=>?_
    subst hin
    exact ⟨_,sc,cl,HCL.out.1,HCL.out.2,hF⟩
end Go.Proofs.YtjddbjmcjhjpiaaGreatDoor
