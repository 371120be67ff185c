/- Of layer 4: TupA, TupB, TupC, TupD, Tup. -/
import Derived.Test.YtjddbjmcjhjpiaaGreatDoorM4I
import Derived.Test.YtjddbjmcjhjpiaaGreatDoorM4E
import Derived.Test.YtjddbjmcjhjpiaaGreatDoorM4H
import Derived.Test.YtjddbjmcjhjpiaaGreatDoorM4D
import Derived.Lib.AppendStr

set_option linter.all false

namespace Go.Proofs.YtjddbjmcjhjpiaaGreatDoor
set_option maxRecDepth 100000
set_option maxHeartbeats 8000000
open Go.RowKit M

def Kp (w w' : World):Prop:=∀ (k:Nat) (cs:Array Value),w.heap[k]?=some (.cells cs 165 (0,0))→w'.heap[k]?=some (.cells cs 165 (0,0))
theorem Kp.refl (w:World):Kp w w:=fun _ _ h=>h
theorem Kp.trans {a b c:World} (h:Kp a b) (k:Kp b c):Kp a c:=fun i s hi=>k i s (h i s hi)
theorem kp_set {w:World} {g:Nat} {cs:Array Value} (h:w.heap[g]?=some (.cells cs 181 (0,0))) (i:Nat) (u:Value):Kp w (w.setCell ⟨g,i,none⟩ u):=by
 intro k s hk
 rw [Below.heap_setCell _ _ _ _ (by
  rintro rfl
  rw [h] at hk
  injection hk with hk
  injection hk with _ ht
  exact absurd ht (by decide))]
 exact hk
theorem kp_grown {w w' : World} {base:Nat} {v:Value} {l:List UInt8} (h:Own w base v l) (hg:w.grownBy w' v.ownBlock):Kp w w' := by
 intro k s hk
 have hlt:=(Array.getElem?_eq_some_iff.1 hk).1
 rw [hg.block k hlt ?_]
 · exact hk
 · intro e
   rcases h.2 with ⟨rfl,_⟩ | ⟨g,cap,cur,rfl,hb,hh,r⟩
   · cases e
   · injection e with e
     subst e
     rw [hh] at hk
     injection hk with hk
     injection hk with _ ht
     exact absurd ht (by decide)
theorem kp_alloc (w:World) (o:Obj):Kp w (w.alloc o):=by
 intro k s hk
 have hlt:=(Array.getElem?_eq_some_iff.1 hk).1
 rw [Below.heap_alloc _ _ _ hlt]
 exact hk

theorem copyCheck_k (B g:Nat) (l:List UInt8) (w:World) (h:IsB w B g l):Calls Tryz.prog 154 #[.pointer (some ⟨g,0,none⟩)] w fun e w' => e=.returned (.tuple #[])∧(∃ v,w'.heap[g]?=some (.cells [.pointer (some ⟨g,0,none⟩),v].toArray 181 (0,0))∧Own w' B v l∧v.ownBlock ≠ some g)∧Below B w w' ∧ Kp w w' := by
 obtain ⟨hB,p,v,hh,hp,ho,hne⟩:=h
 obtain ⟨j,hj,hjs⟩:=Option.map_eq_some_iff.1 bld_info
 have c0:w.cell? ⟨g,0,none⟩=some p:=by rw [bld_cell hh];rfl
 have f0:=bld_free hh 0
 have hsh:=bld_shape hh
 have HH:=jzD hh
 have HO:=jzD ho
 clear hh ho
 rcases hp with rfl | rfl
 · go_enter Tryz.func154,Tryz.ntmps154
   go_wp2
   rw [Lib.run_to_unsafe w ⟨g,0,none⟩ Tryz.underlying179 Tryz.underlying241 hj (by rw [hjs];decide) hsh (Nat.zero_lt_succ 1)]
   simp only [Result.andThen]
   rw [Oper.upon_value]
   go_wp2
   rw [run_callFunc_extern Tryz.func178 (by kernel_rfl) (by kernel_rfl) (by kernel_rfl) (e:=Extern.AbiNoEscape.same) (by kernel_rfl)]
   rw [Lib.run_noEscape]
   simp only [Result.andThen]
   rw [Oper.upon_value]
   go_wp2
   rw [Lib.run_from_unsafe w ⟨g,0,none⟩ Tryz.underlying241 Tryz.underlying179 hj hsh bld_lies]
   simp only [Result.andThen]
   rw [Oper.upon_value]
   go_wp2
   go_end0
   exact ⟨rfl,⟨v,bld_set HH.out 0 _,HO.out.setO ⟨g,0,none⟩ _ hne,hne⟩,(Below.refl B w).setCell (p:=⟨g,0,none⟩) hB _,kp_set HH.out 0 _⟩
 · go_enter Tryz.func154,Tryz.ntmps154
   go_wp2
   rw [Lib.run_neq_ptr_same w _ Tryz.underlying179 hj]
   go_wp2
   go_end0
   exact ⟨rfl,⟨v,HH.out,HO.out,hne⟩,Below.refl _ _,Kp.refl _⟩

theorem bld_app_k {w1 w2:World} {B g:Nat} {p v v2:Value} {l m:List UInt8} (hB:B≤g) (hh:w1.heap[g]?=some (.cells [p,v].toArray 181 (0,0))) (hp:p=.pointer none ∨ p=.pointer (some ⟨g,0,none⟩)) (ho:Own w1 B v l) (hne:v.ownBlock ≠ some g) (hz:B≤w1.heap.size) {o:Obj}
 (h2:Own w2 B v2 m) (hg:(w1.alloc o).grownBy w2 v.ownBlock) (hat:v2.ownBlock=v.ownBlock ∨ v2.ownBlock=some (w1.alloc o).heap.size) :
 w2.heap[g]?=some (.cells [p,v].toArray 181 (0,0))∧IsB (w2.setCell ⟨g,1,none⟩ v2) B g m∧Below B w1 (w2.setCell ⟨g,1,none⟩ v2)∧Kp w1 (w2.setCell ⟨g,1,none⟩ v2):=by
 have hlt:g < w1.heap.size:=(Array.getElem?_eq_some_iff.1 hh).1
 have hh2:w2.heap[g]?=some (.cells [p,v].toArray 181 (0,0)):=by
  rw [hg.block g (by simp;omega) (fun e=>hne e.symm),Below.heap_alloc _ _ _ hlt]
  exact hh
 have hne2:v2.ownBlock ≠ some g:=by
  rcases hat with e | e
  · rw [e];exact hne
  · rw [e]
    intro e'
    injection e' with e'
    simp at e'
    omega
 refine ⟨hh2,isB_put hB hh2 hp h2 hne2,?_,?_⟩
 · exact (((Below.refl _ _).alloc hz o).grown hg (by simp;omega) (fun k hk=>(ho.lt k hk).1)).setCell (p:=⟨g,1,none⟩) hB _
 · exact ((kp_alloc w1 o).trans (kp_grown (ho.alloc o) hg)).trans (kp_set hh2 1 _)

theorem WriteByte_k (B g:Nat) (l:List UInt8) (c:UInt8) (w:World) (h:IsB w B g l) (hz:B≤w.heap.size) (hl:l.length≤1000000):Calls Tryz.prog 129 #[.pointer (some ⟨g,0,none⟩),.int .u8 (c.toNat:Int)] w fun e w' => e=.returned .nilIface∧IsB w' B g (l ++ [c])∧Below B w w' ∧ Kp w w' := by
 have hB:=h.1
 have H:=jzD h
 clear h
 go_enter Tryz.func129,Tryz.ntmps129
 go_wp2_with (go_at_call 154;refine (copyCheck_k B g l _ H.out).mono ?_)
 rintro e w1 ⟨rfl,⟨v,hh,ho,hne⟩,hb1,hi1⟩
 have c1:w1.cell? ⟨g,1,none⟩=some v:=by rw [bld_cell hh];rfl
 have hz1:=hb1.size
 have HH:=jzD hh
 have HO:=jzD ho
 have HB1:=jzD hb1
 clear hh ho hb1
 go_wp2_with (at_builtin;(refine wpList_app rfl (.tmp 11) (.tmp 13) rfl B v (.slice (some ⟨w1.heap.size,0,none⟩) 1 1) l [c] rfl rfl (HO.out.alloc _) (Own.built w1 [c] 0 (Nat.zero_le _) (by simp [maxLen])).rds (by simp;omega) (by simp;omega) ?_;intro v2 w2 hown2 hg2 hat2;have HF:=jzD (bld_app_k hB HH.out (.inr rfl) HO.out hne (by omega) hown2 hg2 hat2);have d1:w2.cell? ⟨g,1,none⟩=some v:=(by rw [bld_cell HF.out.1];rfl);have f1:=bld_free HF.out.1 1;obtain ⟨A2,n2,rfl,_,_,_⟩:=hown2.rds;clear hown2 hg2 hat2))
 go_ret
 refine ⟨rfl,?_,?_,?_⟩
 · simpa using HF.out.2.1
 · simpa using HB1.out.trans HF.out.2.2.1
 · simpa using hi1.trans HF.out.2.2.2

theorem bld_appS {w1 w2:World} {B g:Nat} {p v v2:Value} {l:List UInt8} {s:ByteArray} (hB:B≤g) (hh:w1.heap[g]?=some (.cells [p,v].toArray 181 (0,0))) (hp:p=.pointer none ∨ p=.pointer (some ⟨g,0,none⟩)) (ho:Own w1 B v l) (hne:v.ownBlock ≠ some g) (hz:B≤w1.heap.size)
 (h2:w2.ownsRow B 5 1 v2 (l.length + s.size) (bcs l ++ Lib.strCells s)) (hg:w1.grownBy w2 v.ownBlock) :
 w2.heap[g]?=some (.cells [p,v].toArray 181 (0,0))∧IsB (w2.setCell ⟨g,1,none⟩ v2) B g (l ++ s.data.toList)∧Below B w1 (w2.setCell ⟨g,1,none⟩ v2)∧Kp w1 (w2.setCell ⟨g,1,none⟩ v2):=by
 have hlt:g < w1.heap.size:=(Array.getElem?_eq_some_iff.1 hh).1
 have hh2:w2.heap[g]?=some (.cells [p,v].toArray 181 (0,0)):=by
  rw [hg.block g hlt (fun e=>hne e.symm)]
  exact hh
 have hown:Own w2 B v2 (l ++ s.data.toList):=by
  unfold Own
  rw [List.length_append,bcs_append,ba_len]
  exact h2
 have hne2:v2.ownBlock ≠ some g:=by
  rcases h2.2 with ⟨rfl,_⟩ | ⟨g', cap,cur,rfl,_,hh', _⟩
  · simp [Value.ownBlock]
  · intro he
    have : g' = g:=by simpa [Value.ownBlock] using he
    subst this
    rw [hh2] at hh'
    injection hh' with hh'
    injection hh' with _ ht
    exact absurd ht (by decide)
 exact ⟨hh2,isB_put hB hh2 hp hown hne2,((Below.refl _ _).grown hg hz (fun k hk=>(ho.lt k hk).1)).setCell (p:=⟨g,1,none⟩) hB _,(kp_grown ho hg).trans (kp_set hh2 1 _)⟩

theorem WriteString_k (B g:Nat) (l:List UInt8) (s:ByteArray) (w:World) (h:IsB w B g l) (hz:B≤w.heap.size) (hl:l.length + s.size≤1000000):Calls Tryz.prog 130 #[.pointer (some ⟨g,0,none⟩),.string s] w fun e w' => e=.returned (.tuple #[.int .i64 s.size,.nilIface])∧IsB w' B g (l ++ s.data.toList)∧Below B w w' ∧ Kp w w' := by
 obtain ⟨i0,hinfo,n0,n1,n2⟩:=info_parts byte_info
 have hB:=h.1
 have H:=jzD h
 clear h
 go_enter Tryz.func130,Tryz.ntmps130
 go_wp2_with (go_at_call 154;refine (copyCheck_k B g l _ H.out).mono ?_)
 rintro e w1 ⟨rfl,⟨v,hh,ho,hne⟩,hb1,hi1⟩
 have c1:w1.cell? ⟨g,1,none⟩=some v:=by rw [bld_cell hh];rfl
 have hz1:=hb1.size
 have HH:=jzD hh
 have HO:=jzD ho
 have HB1:=jzD hb1
 clear hh ho hb1
 go_wp2_with (at_builtin;(refine Lib.wpList_append_own_string _ rfl _ _ 152 9 rfl B 5 i0 Tryz.underlying152 Tryz.underlying9 hinfo n0 n1 n2 v l.length (bcs l) rfl HO.out s rfl (by unfold maxLen;omega) (by omega) (by omega) ?_;intro v2 w2 hown2 hg2 _;have HF:=jzD (bld_appS hB HH.out (.inr rfl) HO.out hne (by omega) hown2 hg2);have d1:w2.cell? ⟨g,1,none⟩=some v:=(by rw [bld_cell HF.out.1];rfl);have f1:=bld_free HF.out.1 1;obtain ⟨A2,n2,rfl,_,_,_⟩:=(show Own w2 B v2 (l ++ s.data.toList) by unfold Own;rw [List.length_append,bcs_append,ba_len];exact hown2).rds;clear hown2 hg2))
 go_ret2
 refine ⟨rfl,?_,?_,?_⟩
 · simpa using HF.out.2.1
 · simpa using HB1.out.trans HF.out.2.2.1
 · simpa using hi1.trans HF.out.2.2.2

theorem TLen_any (B g:Nat) (l:List UInt8) (w:World) (h:IsB w B g l):Calls Tryz.prog 127 #[.pointer (some ⟨g,0,none⟩)] w fun e w' => e=.returned (.int .i64 l.length)∧w' = w:=by
 obtain ⟨hB,p,v,hh,hp,ho,hne⟩:=h
 obtain ⟨A2,n2,rfl,_,_,_⟩:=ho.rds
 have c1:w.cell? ⟨g,1,none⟩=some (.slice A2 l.length n2):=by rw [bld_cell hh];rfl
 clear hh ho hne hp
 go_enter Tryz.func127,Tryz.ntmps127
 go_wp2
 go_ret
 exact ⟨rfl,rfl⟩

theorem IsB.below {w w' : World} {B g:Nat} {l:List UInt8} (h:IsB w B g l) (hb:Below w.heap.size w w'):IsB w' B g l:=by
 obtain ⟨hB,p,v,hh,hp,ho,hne⟩:=h
 exact ⟨hB,p,v,(hb.block g (Array.getElem?_eq_some_iff.1 hh).1).trans hh,hp,ho.below hb,hne⟩
theorem Tmay_any (id:Int) (T:ByteArray) (w:World):Calls Tryz.prog 126 #[.agg #[.int .i64 id,.string T]] w fun e w' => e=.returned (.bool (decide (0≤id∧id≤255∧T.size≤40)))∧Below w.heap.size w w' := by
 by_cases h1:0≤id
 · by_cases h2:id≤255
   · by_cases h3:T.size≤40
     · rw [decide_eq_true ⟨h1,h2,h3⟩]
       have td:decide ((T.size:Int)≤40)=true:=decide_eq_true (by omega)
       go_enter Tryz.func126,Tryz.ntmps126
       go_wp2
       go_ret
       exact ⟨rfl,bal (bel0 w) _⟩
     · rw [decide_eq_false (fun h=>h3 h.2.2)]
       have td:decide ((T.size:Int)≤40)=false:=decide_eq_false (by omega)
       go_enter Tryz.func126,Tryz.ntmps126
       go_wp2
       go_ret
       exact ⟨rfl,bal (bel0 w) _⟩
   · rw [decide_eq_false (fun h=>h2 h.2.1)]
     go_enter Tryz.func126,Tryz.ntmps126
     go_wp2
     go_ret
     exact ⟨rfl,bal (bel0 w) _⟩
 · rw [decide_eq_false (fun h=>h1 h.1)]
   go_enter Tryz.func126,Tryz.ntmps126
   go_wp2
   go_ret
   exact ⟨rfl,bal (bel0 w) _⟩

theorem Tsize_any (id:Int) (T:ByteArray) (w:World) (hT:T.size≤1000000):Calls Tryz.prog 128 #[.agg #[.int .i64 id,.string T]] w fun e w' => e=.returned (.int .i64 (2 + (T.size:Int)))∧Below w.heap.size w w' := by
 go_enter Tryz.func128,Tryz.ntmps128
 go_wp2
 go_ret
 exact ⟨rfl,bal (bel0 w) _⟩
end Go.Proofs.YtjddbjmcjhjpiaaGreatDoor
namespace Go.Proofs.YtjddbjmcjhjpiaaGreatDoor
set_option maxRecDepth 100000
set_option maxHeartbeats 8000000
open Go.RowKit M

theorem tOne (id:Int) (T:ByteArray):(#[.int .i64 id,.string T]:Array Value).all (·.oneCell')=true:=by simp [Value.oneCell']

theorem leading_short (s:ByteArray) (w:World) (h:s.size < 2):Calls Tryz.prog 132 #[.string s] w fun e w' => e=.returned (.tuple #[.agg #[.int .i64 0,.string ⟨#[]⟩],.bool false])∧Below w.heap.size w w' := by
 have h1:(s.size:Int) < 2:=by omega
 go_enter Tryz.func132,Tryz.ntmps132
 go_wp2
 exact ⟨rfl,_,results_cell2 rfl _ _ w.heap.size _ _ _ _ (.bool false) rfl rfl (heap_alloc_new w _) Tryz.underlying165 rfl (by kernel_rfl),rfl,bal (bel0 w) _⟩

theorem lead_over (s:ByteArray) (w:World) (n:UInt8) (hp1:1 < s.size) (hn:s[1]=n) (h:s.size < 2 + n.toNat):Calls Tryz.prog 132 #[.string s] w fun e w' => e=.returned (.tuple #[.agg #[.int .i64 0,.string ⟨#[]⟩],.bool false])∧Below w.heap.size w w' := by
 have hnl:=n.toNat_lt
 have w2:IntKind.i64.wrap (n.toNat:Int)=(n.toNat:Int):=IntWalk.i64_in _ (by omega)
 have w3:IntKind.i64.wrap (2 + (n.toNat:Int))=2 + (n.toNat:Int):=IntWalk.i64_in _ (by omega)
 have w5:(s.size:Int) < 2 + (n.toNat:Int):=by omega
 have w6:¬ (s.size:Int) < 2:=by omega
 have w7:(1:Int) < (s.size:Int):=by omega
 clear h
 go_enter Tryz.func132,Tryz.ntmps132
 go_wp2
 exact ⟨rfl,_,results_cell2 rfl _ _ w.heap.size _ _ _ _ (.bool false) rfl rfl (heap_alloc_new w _) Tryz.underlying165 rfl (by kernel_rfl),rfl,bal (bel0 w) _⟩
theorem leading_over (s:ByteArray) (w:World) (a n:UInt8) (q:List UInt8) (hq:s.data.toList=a :: n :: q) (h:q.length < n.toNat):Calls Tryz.prog 132 #[.string s] w fun e w' => e=.returned (.tuple #[.agg #[.int .i64 0,.string ⟨#[]⟩],.bool false])∧Below w.heap.size w w' := by
 have hl:=ba_len s
 rw [hq] at hl
 simp only [List.length_cons] at hl
 have hp1:1 < s.size:=by omega
 obtain ⟨q', hq', _⟩:=ba_two hp1
 rw [hq] at hq'
 injection hq' with ha hq'
 injection hq' with hn hq'
 exact lead_over s w n hp1 hn.symm (by omega)

theorem lead_yes (s:ByteArray) (w:World) (a n:UInt8) (hs:s.size≤1000000) (hp1:1 < s.size) (hp0:0 < s.size) (ha:s[0]=a) (hn:s[1]=n) (h:2 + n.toNat≤s.size):Calls Tryz.prog 132 #[.string s] w fun e w' => e=.returned (.tuple #[.agg #[.int .i64 (a.toNat:Int),.string (s.extract 2 (2 + n.toNat))],.bool (decide (n.toNat≤40))])∧Below w.heap.size w w' := by
 have hnl:=n.toNat_lt
 have hal:=a.toNat_lt
 have v1:IntKind.i64.wrap (a.toNat:Int)=(a.toNat:Int):=IntWalk.i64_in _ (by omega)
 have v2:IntKind.i64.wrap (n.toNat:Int)=(n.toNat:Int):=IntWalk.i64_in _ (by omega)
 have v3:IntKind.i64.wrap (2 + (n.toNat:Int))=2 + (n.toNat:Int):=IntWalk.i64_in _ (by omega)
 have v4:(2 + (n.toNat:Int)).toNat=2 + n.toNat:=by omega
 have v5:2 + n.toNat≤s.size:=by omega
 have v6:(0:Int)≤2 + (n.toNat:Int):=by omega
 have v7:2 + (n.toNat:Int)≤(s.size:Int):=by omega
 have v8:(2:Int)≤2 + (n.toNat:Int):=by omega
 have v9:¬ (s.size:Int) < 2 + (n.toNat:Int):=by omega
 have v10:¬ (s.size:Int) < 2:=by omega
 have v11:(1:Int) < (s.size:Int):=by omega
 have v12:(0:Int) < (s.size:Int):=by omega
 have hes:(s.extract 2 (2 + n.toNat)).size=n.toNat:=by rw [ByteArray.size_extract];omega
 have hm:=fun w=>Tmay_any (a.toNat:Int) (s.extract 2 (2 + n.toNat)) w
 have hb:decide (0≤(a.toNat:Int)∧(a.toNat:Int)≤255∧(s.extract 2 (2 + n.toNat)).size≤40)=decide (n.toNat≤40):=by
  rw [hes];exact decide_eq_decide.2 ⟨fun h=>h.2.2,fun h=>⟨by omega,by omega,h⟩⟩
 rw [hb] at hm
 have HM:=jzD hm
 have HCL:=jzD (fun w=>SClone_any (s.extract 2 (2 + n.toNat)) w (by omega))
 have HONE:=jzD (tOne (a.toNat:Int) (s.extract 2 (2 + n.toNat)))
 clear hm hb hes
 go_enter Tryz.func132,Tryz.ntmps132
 go_wp2
 obtain ⟨w1,hw1⟩:∃ w1,w1=w.alloc (.cells (yP 0 ⟨#[]⟩) 165):=⟨_,rfl⟩
 have HB1:Hid (Below w.heap.size w w1):=by show Below _ _ _;rw [hw1];exact bal (bel0 w) _
 have HE1:Hid (Below w1.heap.size w1 w1):=bel0 w1
 have HR1:Hid (w1.heap[w.heap.size]?=some (.cells (yP 0 ⟨#[]⟩) 165 (0,0))):=by show _=_;rw [hw1];exact heap_alloc_new w _
 have hlt:w.heap.size < w1.heap.size:=lt_at HR1.out
 rw [← hw1]
 clear hw1
 refine rests_begin (From w1) (by kernel_rfl) ?_
 refine rtk 0 HE1.out.drew ?_
 refine rtk 1 HE1.out.drew ?_
 refine rtk 2 HE1.out.drew ?_
 refine rtk 3 HE1.out.drew ?_
 refine rtk 4 HE1.out.drew ?_
 refine rtk 5 HE1.out.drew ?_
 refine rests_two 6 8 (oi:=_) (oj:=_) (by simp only [jzG,jzH,jzI];rfl) (by simp only [jzG,jzH,jzI];rfl) (by kernel_rfl) (by rfl) (by rfl) ?_ ?_
 · refine wp_enter (f:=58) (args:=#[.string (s.extract 2 (2 + n.toNat))]) (by go_simp) (HCL.out w1.drew) ?_
   rintro e w2 ⟨rfl,hb⟩;have HE2:=jzD (bel_trans HE1.out.drew hb);refine ⟨_,rfl,HE2.out,?_⟩;clear hb
   simp only [Act.put,jzU,jzV,jzW]
   refine rtk 7 HE2.out ?_
   refine rests_run 8 (oi:=_) (by simp only [jzG,jzH,jzI];rfl) (by kernel_rfl) (by rfl) (.pointer (some ⟨w2.heap.size,0,none⟩)) (w2.alloc (.cells (yP 0 ⟨#[]⟩) 165)) (by go_simp) ⟨bal HE2.out _,?_⟩
   have HEA:=jzD (bal HE2.out (.cells (yP 0 ⟨#[]⟩) 165));have HFA:=jzD (heap_alloc_new w2 (.cells (yP 0 ⟨#[]⟩) 165));have HGE:=jzD HE2.out.size
   simp only [Act.put,jzU,jzV,jzW]
   refine rests_storeB 9 (oi:=_) (by simp only [jzG,jzH,jzI];rfl) (by kernel_rfl) (by rfl) 165 (.tmp 5) (.tmp 26) rfl w2.heap.size #[.int .i64 (a.toNat:Int),.string (s.extract 2 (2 + n.toNat))] rfl rfl 165 _ HFA.out (by kernel_rfl) rfl HONE.out ?_
   intro w4 hg4 hz4 hh4;have HE4:=jzD (bel_grown HEA.out hg4 HGE.out);have HK4:=jzD hh4;have HG4:Hid (w.heap.size < w2.heap.size):=Nat.lt_of_lt_of_le hlt HGE.out;refine ⟨HE4.out,?_⟩;clear hg4 hz4 hh4
   simp only [Act.put,jzU,jzV,jzW]
   refine rests_done (by kernel_rfl) ?_
   go_wp2
   have HB4:=jzD (bel_trans HB1.out HE4.out)
   have HR4:=jzD (keep_at HR1.out HE4.out)
   refine rests_begin (fun W=>From w W∧W.heap[w2.heap.size]?=some (.cells (yP (a.toNat:Int) (s.extract 2 (2 + n.toNat))) 165 (0,0))) (by kernel_rfl) ?_
   refine rests_loadB 0 (oi:=_) (by simp only [jzG,jzH,jzI];rfl) (by kernel_rfl) (by kernel_rfl) (by kernel_rfl) #[.int .i64 (a.toNat:Int),.string (s.extract 2 (2 + n.toNat))] (by exact fun _ _ _ h=>h) (⟨HB4.out.drew,HK4.out⟩) (by rfl) 165 (.tmp 5) rfl w2.heap.size rfl 165 (fun W HW=>HW.2) _ Tryz.underlying165 rfl (by kernel_rfl) ?_
   simp only [Act.put,jzU,jzV,jzW]
   refine rests_loadB 1 (oi:=_) (by simp only [jzG,jzH,jzI];rfl) (by kernel_rfl) (by kernel_rfl) (by kernel_rfl) #[.int .i64 (a.toNat:Int),.string (s.extract 2 (2 + n.toNat))] (by exact fun _ _ _ h=>h) (⟨HB4.out.drew,HK4.out⟩) (by rfl) 165 (.tmp 5) rfl w2.heap.size rfl 165 (fun W HW=>HW.2) _ Tryz.underlying165 rfl (by kernel_rfl) ?_
   simp only [Act.put,jzU,jzV,jzW]
   refine rests_call 2 (oi:=_) (by simp only [jzG,jzH,jzI];rfl) 126 #[.agg #[.int .i64 (a.toNat:Int),.string (s.extract 2 (2 + n.toNat))]] _ (by kernel_rfl) (by rfl) (by go_simp) (HM.out _) ?_
   rintro e w5 ⟨rfl,hb⟩;have HB5:=jzD (bel_trans HB4.out.drew hb);have HK5:=jzD (keep_at (w:=w4.drew) HK4.out hb);have HR5:=jzD (keep_at (w:=w4.drew) HR4.out hb);refine ⟨_,rfl,⟨HB5.out,HK5.out⟩,?_⟩;clear hb
   simp only [Act.put,jzU,jzV,jzW]
   refine rests_storeB 3 (oi:=_) (by simp only [jzG,jzH,jzI];rfl) (by kernel_rfl) (by rfl) 165 (.tmp 2) (.tmp 27) rfl w.heap.size #[.int .i64 (a.toNat:Int),.string (s.extract 2 (2 + n.toNat))] rfl rfl 165 _ HR5.out (by kernel_rfl) rfl HONE.out ?_
   intro w6 hg6 hz6 hh6;have HB6:=jzD (bel_grown HB5.out hg6 (Nat.le_refl _));have HR6:=jzD hh6;have HK6:=jzD (keep_grown HK5.out hg6 (Nat.ne_of_gt HG4.out));refine ⟨⟨HB6.out,HK6.out⟩,?_⟩;clear hg6 hz6 hh6
   simp only [Act.put,jzU,jzV,jzW]
   refine rtk 4 (⟨HB6.out,HK6.out⟩) ?_
   refine rests_done (by kernel_rfl) ?_
   go_wp2
   exact ⟨rfl,_,results_cell2 rfl _ _ w.heap.size _ _ _ _ (.bool (decide (n.toNat≤40))) rfl rfl HR6.out Tryz.underlying165 rfl (by kernel_rfl),rfl,HB6.out⟩
 · refine wp_val (v:=.pointer (some ⟨w1.heap.size,0,none⟩)) (w' := w1.drew.alloc (.cells (yP 0 ⟨#[]⟩) 165)) (by go_simp) ⟨bal HE1.out.drew _,?_⟩
   have HE2:=jzD (bal HE1.out.drew (.cells (yP 0 ⟨#[]⟩) 165));have HF2:=jzD (heap_alloc_new w1.drew (.cells (yP 0 ⟨#[]⟩) 165));have HGE:=jzD HE1.out.size
   simp only [Act.put,jzU,jzV,jzW]
   refine rests_call 6 (oi:=_) (by simp only [jzG,jzH,jzI];rfl) 58 #[.string (s.extract 2 (2 + n.toNat))] _ (by kernel_rfl) (by rfl) (by go_simp) (HCL.out _) ?_
   rintro e w2 ⟨rfl,hb⟩;have HEA:=jzD (bel_trans HE2.out hb);have HFA:=jzD (keep_at HF2.out hb);refine ⟨_,rfl,HEA.out,?_⟩;clear hb
   simp only [Act.put,jzU,jzV,jzW]
   refine rtk 7 HEA.out ?_
   refine rests_storeB 9 (oi:=_) (by simp only [jzG,jzH,jzI];rfl) (by kernel_rfl) (by rfl) 165 (.tmp 5) (.tmp 26) rfl w1.heap.size #[.int .i64 (a.toNat:Int),.string (s.extract 2 (2 + n.toNat))] rfl rfl 165 _ HFA.out (by kernel_rfl) rfl HONE.out ?_
   intro w4 hg4 hz4 hh4;have HE4:=jzD (bel_grown HEA.out hg4 HGE.out);have HK4:=jzD hh4;have HG4:Hid (w.heap.size < w1.heap.size):=Nat.lt_of_lt_of_le hlt HGE.out;refine ⟨HE4.out,?_⟩;clear hg4 hz4 hh4
   simp only [Act.put,jzU,jzV,jzW]
   refine rests_done (by kernel_rfl) ?_
   go_wp2
   have HB4:=jzD (bel_trans HB1.out HE4.out)
   have HR4:=jzD (keep_at HR1.out HE4.out)
   refine rests_begin (fun W=>From w W∧W.heap[w1.heap.size]?=some (.cells (yP (a.toNat:Int) (s.extract 2 (2 + n.toNat))) 165 (0,0))) (by kernel_rfl) ?_
   refine rests_loadB 0 (oi:=_) (by simp only [jzG,jzH,jzI];rfl) (by kernel_rfl) (by kernel_rfl) (by kernel_rfl) #[.int .i64 (a.toNat:Int),.string (s.extract 2 (2 + n.toNat))] (by exact fun _ _ _ h=>h) (⟨HB4.out.drew,HK4.out⟩) (by rfl) 165 (.tmp 5) rfl w1.heap.size rfl 165 (fun W HW=>HW.2) _ Tryz.underlying165 rfl (by kernel_rfl) ?_
   simp only [Act.put,jzU,jzV,jzW]
   refine rests_loadB 1 (oi:=_) (by simp only [jzG,jzH,jzI];rfl) (by kernel_rfl) (by kernel_rfl) (by kernel_rfl) #[.int .i64 (a.toNat:Int),.string (s.extract 2 (2 + n.toNat))] (by exact fun _ _ _ h=>h) (⟨HB4.out.drew,HK4.out⟩) (by rfl) 165 (.tmp 5) rfl w1.heap.size rfl 165 (fun W HW=>HW.2) _ Tryz.underlying165 rfl (by kernel_rfl) ?_
   simp only [Act.put,jzU,jzV,jzW]
   refine rests_call 2 (oi:=_) (by simp only [jzG,jzH,jzI];rfl) 126 #[.agg #[.int .i64 (a.toNat:Int),.string (s.extract 2 (2 + n.toNat))]] _ (by kernel_rfl) (by rfl) (by go_simp) (HM.out _) ?_
   rintro e w5 ⟨rfl,hb⟩;have HB5:=jzD (bel_trans HB4.out.drew hb);have HK5:=jzD (keep_at (w:=w4.drew) HK4.out hb);have HR5:=jzD (keep_at (w:=w4.drew) HR4.out hb);refine ⟨_,rfl,⟨HB5.out,HK5.out⟩,?_⟩;clear hb
   simp only [Act.put,jzU,jzV,jzW]
   refine rests_storeB 3 (oi:=_) (by simp only [jzG,jzH,jzI];rfl) (by kernel_rfl) (by rfl) 165 (.tmp 2) (.tmp 27) rfl w.heap.size #[.int .i64 (a.toNat:Int),.string (s.extract 2 (2 + n.toNat))] rfl rfl 165 _ HR5.out (by kernel_rfl) rfl HONE.out ?_
   intro w6 hg6 hz6 hh6;have HB6:=jzD (bel_grown HB5.out hg6 (Nat.le_refl _));have HR6:=jzD hh6;have HK6:=jzD (keep_grown HK5.out hg6 (Nat.ne_of_gt HG4.out));refine ⟨⟨HB6.out,HK6.out⟩,?_⟩;clear hg6 hz6 hh6
   simp only [Act.put,jzU,jzV,jzW]
   refine rtk 4 (⟨HB6.out,HK6.out⟩) ?_
   refine rests_done (by kernel_rfl) ?_
   go_wp2
   exact ⟨rfl,_,results_cell2 rfl _ _ w.heap.size _ _ _ _ (.bool (decide (n.toNat≤40))) rfl rfl HR6.out Tryz.underlying165 rfl (by kernel_rfl),rfl,HB6.out⟩
theorem leading_yes (s:ByteArray) (w:World) (a n:UInt8) (q:List UInt8) (hs:s.size≤1000000) (hq:s.data.toList=a :: n :: q) (h:n.toNat≤q.length):Calls Tryz.prog 132 #[.string s] w fun e w' => e=.returned (.tuple #[.agg #[.int .i64 (a.toNat:Int),.string (s.extract 2 (2 + n.toNat))],.bool (decide (n.toNat≤40))])∧Below w.heap.size w w' := by
 have hl:=ba_len s
 rw [hq] at hl
 simp only [List.length_cons] at hl
 have hp1:1 < s.size:=by omega
 obtain ⟨q', hq', _⟩:=ba_two hp1
 rw [hq] at hq'
 injection hq' with ha hq'
 injection hq' with hn hq'
 exact lead_yes s w a n hs hp1 (by omega) ha.symm hn.symm (by omega)
end Go.Proofs.YtjddbjmcjhjpiaaGreatDoor
namespace Go.Proofs.YtjddbjmcjhjpiaaGreatDoor
set_option maxRecDepth 100000
set_option maxHeartbeats 8000000
open Go.RowKit M

theorem rdT_one {w:World} {g:Nat} {id:Int} {T:ByteArray} (hg:w.heap[g]?=some (.cells (yP id T) 165 (0,0))):RdT w (.slice (some ⟨g,0,none⟩) 1 1) [(id,T.data.toList)]:=by
 refine ⟨_,1,rfl,by simp,by simp [maxLen],fun _=>⟨g,0,rfl,(Array.getElem?_eq_some_iff.1 hg).1,fun j u hu=>?_⟩⟩
 rw [cell_of_row w g _ _ 165 (0,0) hg,Nat.zero_add]
 rcases j with _ | _ | j
 · simpa [tcs,tc] using hu
 · simpa [tcs,tc] using hu
 · simp [tcs,tc] at hu

theorem TGet_any (s:ByteArray) (w:World) (hs:s.size≤maxLen):Calls Tryz.prog 106 #[.string s] w (GetTP s.data.toList w):=by
 have hsl:=ba_len s
 unfold maxLen at hs
 by_cases h64:s.size≤64
 · have HG:Hid (getT s.data.toList=getL s.data.toList):=by show getT _=_;unfold getT;rw [if_pos (by omega)]
   have td0:decide ((64:Int) < (s.size:Int))=false:=decide_eq_false (by omega)
   clear hsl
   go_enter Tryz.func106,Tryz.ntmps106
   go_wp2
   go_loopw [0,2,3,4] (fun q0 q2 q3 q4 wr=>q2=.slice none 0 0∧q3=.bool false∧∃ (r:ByteArray) (acc:List Tp),q0=.string r∧XRel s.data.toList w r q4 acc wr) (fun q0 _ _ _ _=>match q0 with | .string r=>r.size | _=>0)
   case atStart=>exact ⟨rfl,rfl,s,[],rfl,by simp,h64,by simpa using h64,OwnT.nil_ _ _,bel0 _⟩
   case round =>
    obtain ⟨rfl,rfl,r,acc,rfl,hR⟩:=hrel
    have HR:=jzD hR
    obtain ⟨hgl,hr64,hacc,ho,hb⟩:=hR
    obtain ⟨A,cap,rfl,hcap,hcm⟩:=ho.shape
    have hz:=hb.size
    have HO:=jzD ho
    have HB:=jzD hb
    have HGL:=jzD hgl
    clear ho hb hgl
    by_cases h0:r.size=0
    · have hnil:r.data.toList=[]:=List.eq_nil_of_length_eq_zero (by rw [ba_len];exact h0)
      have e0:r.toList.isEmpty=true:=by rw [ByteArray.toList_eq,hnil];rfl
      have HT:Hid (getT s.data.toList=some acc):=by
       show getT _=_
       rw [HG.out,HGL.out,hnil,getL_nil];simp
      clear hnil h0
      go_wp2
      go_ret2
      exact getTP_some HT.out HO.out HB.out
    · have e0:r.toList.isEmpty=false:=by
       rw [ByteArray.toList_eq,List.isEmpty_eq_false_iff]
       intro e
       have := congrArg List.length e
       rw [ba_len] at this
       exact h0 this
      by_cases h1:r.size=1
      · have HT:Hid (getT s.data.toList=none):=by
         show getT _=_
         rw [HG.out,HGL.out]
         have hl:=ba_len r
         match hq:r.data.toList,hl with
         | [],hl=>simp at hl;omega
         | [a],_=>rw [getL_one];rfl
         | a :: b :: q,hl=>simp at hl;omega
        have h2:r.size < 2:=by omega
        clear h0 h1
        have HL:=jzD (fun w=>leading_short r w h2)
        clear h2
        go_wp2_with (go_at_call 132;refine (HL.out _).mono ?_;rintro e w2 ⟨rfl,hb2⟩;have HB2:=jzD (bal (bel_trans HB.out hb2) (.cells (yP 0 ⟨#[]⟩) 165));clear hb2)
        go_ret2
        exact getTP_none HT.out HB2.out
      · have hp1:1 < r.size:=by omega
        obtain ⟨q,hq,hql⟩:=ba_two hp1
        obtain ⟨n,hn⟩:∃ n,r[1]=n:=⟨_,rfl⟩
        obtain ⟨a,ha⟩:∃ a,r[0]=a:=⟨_,rfl⟩
        rw [hn,ha] at hq
        have HQ:=jzD hq
        clear h0 h1 hq hn ha
        by_cases hov:q.length < n.toNat
        · have HT:Hid (getT s.data.toList=none):=by
           show getT _=_
           rw [HG.out,HGL.out,HQ.out,getL_two,if_pos (.inr hov)];rfl
          have HL:=jzD (fun w=>leading_over r w a n q HQ.out hov)
          clear hov
          go_wp2_with (go_at_call 132;refine (HL.out _).mono ?_;rintro e w2 ⟨rfl,hb2⟩;have HB2:=jzD (bal (bel_trans HB.out hb2) (.cells (yP 0 ⟨#[]⟩) 165));clear hb2)
          go_ret2
          exact getTP_none HT.out HB2.out
        · have hnq:n.toNat≤q.length:=by omega
          clear hov
          by_cases h40:n.toNat≤40
          · have hl:=fun w=>leading_yes r w a n q (by omega) HQ.out hnq
            rw [decide_eq_true h40] at hl
            have HL:=jzD hl
            have hes:(r.extract 2 (2 + n.toNat)).size=n.toNat:=by rw [ByteArray.size_extract];omega
            have hsz:=fun w=>Tsize_any (a.toNat:Int) (r.extract 2 (2 + n.toNat)) w (by omega)
            rw [hes] at hsz
            have HSZ:=jzD hsz
            have w5:2 + n.toNat≤r.size:=by omega
            have w4:(2 + (n.toNat:Int)).toNat=2 + n.toNat:=by omega
            have w6:(0:Int)≤2 + (n.toNat:Int):=by omega
            have w7:2 + (n.toNat:Int)≤(r.size:Int):=by omega
            clear hl hes hsz
            go_wp2_with (first
             | (go_at_call 132;(with_reducible refine (HL.out _).mono ?_);rintro e w2 ⟨rfl,hb2⟩;have HB2:=jzD (bal (bal (bel_trans HB.out hb2) (.cells (yP (a.toNat:Int) (r.extract 2 (2 + n.toNat))) 165)) (.cells (yP (a.toNat:Int) (r.extract 2 (2 + n.toNat))) 165));have HZ2:=jzD hb2.size;have HO2:=jzD (HO.out.below (bal (bal hb2 (.cells (yP (a.toNat:Int) (r.extract 2 (2 + n.toNat))) 165)) (.cells (yP (a.toNat:Int) (r.extract 2 (2 + n.toNat))) 165)));have HNO:Hid (∀ k,(Value.slice A acc.length cap).ownBlock=some k→k < w2.heap.size):=(fun k hk=>Nat.lt_of_lt_of_le (HO.out.lt k hk).2 hb2.size);clear hb2)
             | (at_builtin;(with_reducible refine wpList_appTs rfl _ _ rfl w.heap.size (.slice A acc.length cap) (.slice (some ⟨w2.heap.size + 1,0,none⟩) 1 1) acc [((a.toNat:Int),(r.extract 2 (2 + n.toNat)).data.toList)] rfl rfl HO2.out (rdT_one (by have := heap_alloc_new (w2.alloc (.cells (yP (a.toNat:Int) (r.extract 2 (2 + n.toNat))) 165)) (.cells (yP (a.toNat:Int) (r.extract 2 (2 + n.toNat))) 165);simpa using this)) (by simp;omega) HB2.out.size ?_);intro v2 wz ho2 hg2 hat2;have hbz:Below w.heap.size w wz:=HB2.out.grown hg2 HB2.out.size (fun k hk=>(HO2.out.lt k hk).1);have HBZ:=jzD hbz;have HOZ:=jzD ho2;have hkz:wz.heap[w2.heap.size]?=some (.cells (yP (a.toNat:Int) (r.extract 2 (2 + n.toNat))) 165 (0,0)):=(hg2.block w2.heap.size (by simp;omega) (fun e=>absurd (HNO.out _ e.symm) (Nat.lt_irrefl _))).trans (keep_at (heap_alloc_new w2 (.cells (yP (a.toNat:Int) (r.extract 2 (2 + n.toNat))) 165)) (bal (bel0 _) _));have d0:=cell_at hkz 0 _ rfl;have d1:=cell_at hkz 1 _ rfl;obtain ⟨A2,cap2,rfl,_,_⟩:=ho2.shape;clear ho2 hg2 hat2 hbz hkz)
             | (go_at_call 128;(with_reducible refine (HSZ.out _).mono ?_);rintro e w5 ⟨rfl,hb5⟩;have HB5:=jzD (bel_trans HBZ.out hb5);have HO5:=jzD (HOZ.out.below hb5);clear hb5))
            go_roundw
            case rel=>exact ⟨rfl,rfl,_,_,rfl,HR.out.next HQ.out hql hp1 h40 hnq (by have hz:=HO5.out;rw [List.length_append] at hz;exact hz) HB5.out⟩
            case measure=>simp [ByteArray.size_extract];omega
          · have HT:Hid (getT s.data.toList=none):=by
             show getT _=_
             rw [HG.out,HGL.out,HQ.out,getL_two,if_pos (.inl (by omega))];rfl
            have hl:=fun w=>leading_yes r w a n q (by omega) HQ.out hnq
            rw [decide_eq_false h40] at hl
            have HL:=jzD hl
            clear hl
            go_wp2_with (go_at_call 132;refine (HL.out _).mono ?_;rintro e w2 ⟨rfl,hb2⟩;have HB2:=jzD (bal (bel_trans HB.out hb2) (.cells (yP (a.toNat:Int) (r.extract 2 (2 + n.toNat))) 165));clear hb2)
            go_ret2
            exact getTP_none HT.out HB2.out
 · have HT:Hid (getT s.data.toList=none):=by show getT _=_;unfold getT;rw [if_neg (by omega)]
   clear hsl
   go_enter Tryz.func106,Tryz.ntmps106
   go_wp2
   go_ret2
   exact getTP_none HT.out (bel0 _)
end Go.Proofs.YtjddbjmcjhjpiaaGreatDoor
namespace Go.Proofs.YtjddbjmcjhjpiaaGreatDoor
set_option maxRecDepth 100000
set_option maxHeartbeats 8000000
open Go.RowKit M

def fnd (l:List Tp) (id:Int):Option (List UInt8):=(l.find? fun t=>t.1 == id).map (·.2)
theorem fnd_hit {l:List Tp} {id:Int} {k:Nat} (hk:k < l.length) (hno:∀ t ∈ l.take k,t.1 ≠ id) (he:(l[k]).1=id):fnd l id=some (l[k]).2:=by
 have e:l=l.take k ++ (l[k] :: l.drop (k + 1)):=by rw [← List.drop_eq_getElem_cons hk,List.take_append_drop]
 obtain ⟨x,hx⟩:∃ x,x=l[k]:=⟨_,rfl⟩
 rw [← hx] at he e ⊢
 unfold fnd
 rw [e,List.find?_append,List.find?_eq_none.2 (fun t ht=>by simpa using hno t ht)]
 simp [he]
theorem fnd_none {l:List Tp} {id:Int} (hno:∀ t ∈ l,t.1 ≠ id):fnd l id=none:=by
 unfold fnd
 rw [List.find?_eq_none.2 (fun t ht=>by simpa using hno t ht)]
 rfl

theorem TFind_any (v:Value) (l:List Tp) (id:Int) (w:World) (hr:RdT w v l) (hl:l.length≤1000) (hz:∀ t ∈ l,t.2.length≤1000):Calls Tryz.prog 133 #[v,.int .i64 id] w fun e w' => e=.returned (.tuple #[.string ⟨((fnd l id).getD []).toArray⟩,.bool (fnd l id).isSome])∧Below w.heap.size w w' := by
 have hr2:=hr
 obtain ⟨A,cap,rfl,hcap,hcm,-⟩:=hr2
 have HR:=jzD hr
 have HZ:=jzD hz
 unfold maxLen at hcm
 clear hr hz
 go_enter Tryz.func133,Tryz.ntmps133
 go_wp2
 go_loopw [4,5,10] (fun q4 q5 i wr=>q4=.string ⟨#[]⟩∧q5=.bool false∧∃ k:Nat,k≤l.length∧i=.int .i64 k∧(∀ t ∈ l.take k,t.1 ≠ id)∧Below w.heap.size w wr) (fun _ _ i _=>l.length - (intOf i).toNat)
 case atStart=>exact ⟨rfl,rfl,0,by omega,rfl,fun t ht=>by simp at ht,bel0 _⟩
 case round =>
  obtain ⟨rfl,rfl,k,hk,rfl,hno,hb⟩:=hrel
  have HNO:=jzD hno
  have HB:=jzD hb
  have hzz:=hb.size
  clear hno hb
  by_cases hlt:k < l.length
  · have td:decide ((k:Int) < (l.length:Int))=true:=decide_eq_true (by omega)
    obtain ⟨b,off,rfl,hbl,hc1,hc2⟩:=HR.out.at_ hlt
    obtain ⟨j,hid⟩:∃ j,(l[k]).1=j:=⟨_,rfl⟩
    obtain ⟨T,hT⟩:∃ T:ByteArray,T=⟨(l[k]).2.toArray⟩:=⟨_,rfl⟩
    have hTs:T.size=(l[k]).2.length:=by rw [hT];show ((l[k]).2.toArray).size=_;simp
    have hTm:=HZ.out l[k] (List.getElem_mem hlt)
    rw [← hTs] at hTm
    rw [hid] at hc1
    rw [← hT] at hc2
    have hbr:b < wr.heap.size:=Nat.lt_of_lt_of_le hbl hzz
    have d1:wr.cell? ⟨b,off + k * 2,none⟩=some (.int .i64 j):=(HB.out.cell (p:=⟨b,off + k * 2,none⟩) hbl).trans hc1
    have d2:wr.cell? ⟨b,off + k * 2 + 1,none⟩=some (.string T):=(HB.out.cell (p:=⟨b,off + k * 2 + 1,none⟩) hbl).trans hc2
    have HID:=jzD hid
    have HTT:=jzD hT
    clear hid hT hTs
    by_cases hj:j=id
    · have HF:Hid (fnd l id=some (l[k]).2):=fnd_hit hlt HNO.out (by rw [HID.out];exact hj)
      subst hj
      go_wp2_with (go_at_call 58;refine (SClone_any _ _ (by omega)).mono ?_;rintro e w2 ⟨rfl,hb2⟩;have HB2:=jzD hb2;clear hb2)
      go_ret2
      refine ⟨?_,bel_trans (bal HB.out _) HB2.out⟩
      rw [HF.out,HTT.out];rfl
    · have hx:(j == id)=false:=by rw [beq_eq_false_iff_ne];exact hj
      have HN2:Hid (∀ t ∈ l.take (k + 1),t.1 ≠ id):=by
       show ∀ t ∈ l.take (k + 1),t.1 ≠ id
       rw [List.take_succ_eq_append_getElem hlt]
       intro t ht
       rcases List.mem_append.1 ht with h | h
       · exact HNO.out t h
       · rw [List.mem_singleton.1 h,HID.out];exact hj
      go_wp2
      go_roundw
      case rel=>exact ⟨rfl,rfl,k + 1,by omega,by go_num,HN2.out,bal HB.out _⟩
      case measure=>simp [intOf];omega
  · have td:decide ((k:Int) < (l.length:Int))=false:=decide_eq_false (by omega)
    have HF:Hid (fnd l id=none):=fnd_none (fun t ht=>HNO.out t (by rw [List.take_of_length_le (by omega)];exact ht))
    go_wp2
    go_ret2
    exact ⟨by rw [HF.out];rfl,HB.out⟩

end Go.Proofs.YtjddbjmcjhjpiaaGreatDoor
namespace Go.Proofs.YtjddbjmcjhjpiaaGreatDoor
set_option maxRecDepth 100000
set_option maxHeartbeats 8000000
open Go.RowKit M
def PRel (l:List Tp) (w:World) (g k:Nat) (acc:List UInt8) (wr:World):Prop:=(∀ t ∈ l.take k,okT t)∧acc=flat (l.take k)∧acc.length≤64∧IsB wr w.heap.size g acc∧Below w.heap.size w wr
theorem putT_bad {l:List Tp} {k:Nat} (hk:k < l.length) (h:¬ okT l[k]):putT l=none:=by
 unfold putT
 rw [if_neg]
 exact fun hh=>h (hh.1 l[k] (List.getElem_mem hk))
theorem putT_long {l:List Tp} {k:Nat} (hk:k < l.length) (h:64 < (flat (l.take k)).length + (2 + (l[k]).2.length)):putT l=none:=by
 unfold putT
 rw [if_neg]
 rintro ⟨_,hh⟩
 have e:l=l.take k ++ (l[k] :: l.drop (k + 1)):=by rw [← List.drop_eq_getElem_cons hk,List.take_append_drop]
 rw [e,flat_append,flat_cons,List.length_append,List.length_append,tb_len] at hh
 omega
theorem putT_all {l:List Tp} {k:Nat} {acc:List UInt8} (hk:l.length≤k) (h1:∀ t ∈ l.take k,okT t) (h2:acc=flat (l.take k)) (h3:acc.length≤64):putT l=some acc:=by
 rw [List.take_of_length_le hk] at h1 h2
 unfold putT
 rw [h2] at h3 ⊢
 rw [if_pos ⟨h1,h3⟩]
theorem PRel.next {l:List Tp} {w w2:World} {g k:Nat} {acc:List UInt8} {id:Int} {T:ByteArray} {wr:World} (h:PRel l w g k acc wr) (hk:k < l.length) (hi:(l[k]).1=id) (ht:T=⟨(l[k]).2.toArray⟩) (hok:okT l[k]) (h64:acc.length + (2 + T.size)≤64) (hI:IsB w2 w.heap.size g (acc ++ [by8 id] ++ [by8 T.size] ++ T.data.toList)) (hb:Below w.heap.size w w2) :
 PRel l w g (k + 1) (acc ++ [by8 id] ++ [by8 T.size] ++ T.data.toList) w2:=by
 obtain ⟨h1,h2,h3,_,_⟩:=h
 have hT:T.size=(l[k]).2.length:=by subst ht;show ((l[k]).2.toArray).size=_;simp
 have hTl:T.data.toList=(l[k]).2:=by subst ht;simp
 have e:l.take (k + 1)=l.take k ++ [l[k]]:=List.take_succ_eq_append_getElem hk
 refine ⟨?_,?_,?_,hI,hb⟩
 · rw [e]
   intro t htm
   rcases List.mem_append.1 htm with hm | hm
   · exact h1 t hm
   · rw [List.mem_singleton.1 hm];exact hok
 · rw [e,flat_append,← h2,hTl,List.append_assoc,List.append_assoc]
   show acc ++ (by8 id :: by8 T.size :: (l[k]).2)=acc ++ (tb l[k] ++ [])
   rw [List.append_nil]
   unfold tb by8
   rw [hi,hT,Int.toNat_natCast]
 · simp only [List.length_append,List.length_cons,List.length_nil,ba_len]
   omega

theorem TPut_any (v:Value) (l:List Tp) (w:World) (hr:RdT w v l) (hl:l.length≤1000) (hz:∀ t ∈ l,t.2.length≤1000):Calls Tryz.prog 104 #[v] w (PutTP l w):=by
 have hr2:=hr
 obtain ⟨A,cap,rfl,hcap,hcm,-⟩:=hr2
 have HR:=jzD hr
 have HZ:=jzD hz
 unfold maxLen at hcm
 have h0:IsB (w.alloc (.cells #[.pointer none,.slice none 0 0] 181)) w.heap.size w.heap.size []:=⟨Nat.le_refl _,_,_,heap_alloc_new w _,.inl rfl,Own.nil_ _ _,by simp [Value.ownBlock]⟩
 have H0:=jzD h0
 clear hr hz h0
 go_enter Tryz.func104,Tryz.ntmps104
 go_wp2
 go_loopw [2,3,9] (fun q2 q3 i wr=>q2=.string ⟨#[]⟩∧q3=.bool false∧∃ (k:Nat) (acc:List UInt8),k≤l.length∧i=.int .i64 k∧PRel l w w.heap.size k acc wr) (fun _ _ i _=>l.length - (intOf i).toNat)
 case atStart=>exact ⟨rfl,rfl,0,[],by omega,rfl,fun t ht=>by simp at ht,rfl,by decide,H0.out,(Below.refl _ w).alloc (Nat.le_refl _) _⟩
 case round =>
  obtain ⟨rfl,rfl,k,acc,hk,rfl,hR⟩:=hrel
  have HT:=jzD hR
  have HB:=jzD hR.2.2.2.2
  have HI:=jzD hR.2.2.2.1
  have hacc:=hR.2.2.1
  have hzz:=hR.2.2.2.2.size
  clear hR
  by_cases hlt:k < l.length
  · have td:decide ((k:Int) < (l.length:Int))=true:=decide_eq_true (by omega)
    obtain ⟨b,off,rfl,hbl,hc1,hc2⟩:=HR.out.at_ hlt
    obtain ⟨id,hid⟩:∃ id,(l[k]).1=id:=⟨_,rfl⟩
    obtain ⟨T,hT⟩:∃ T:ByteArray,T=⟨(l[k]).2.toArray⟩:=⟨_,rfl⟩
    have hTs:T.size=(l[k]).2.length:=by rw [hT];show ((l[k]).2.toArray).size=_;simp
    have hTm:=HZ.out l[k] (List.getElem_mem hlt)
    rw [← hTs] at hTm
    rw [hid] at hc1
    rw [← hT] at hc2
    have hbr:b < wr.heap.size:=Nat.lt_of_lt_of_le hbl hzz
    have d1:wr.cell? ⟨b,off + k * 2,none⟩=some (.int .i64 id):=(HB.out.cell (p:=⟨b,off + k * 2,none⟩) hbl).trans hc1
    have d2:wr.cell? ⟨b,off + k * 2 + 1,none⟩=some (.string T):=(HB.out.cell (p:=⟨b,off + k * 2 + 1,none⟩) hbl).trans hc2
    have hmay:=fun w=>Tmay_any id T w
    have HSZ:=jzD (fun w=>Tsize_any id T w (by omega))
    have HID:=jzD hid
    have HTT:=jzD hT
    have HTS:=jzD hTs
    clear hid hT hTs
    by_cases hok:0≤id∧id≤255∧T.size≤40
    · have HOK:Hid (okT l[k]):=by show okT _;unfold okT;rw [HID.out,← HTS.out];exact hok
      rw [decide_eq_true hok] at hmay
      have HMAY:=jzD hmay
      obtain ⟨o1,o2,o3⟩:=hok
      clear hmay
      by_cases h64:acc.length + (2 + T.size)≤64
      · have e1:IntKind.u8.wrap id=((by8 id).toNat:Int):=by rw [IntWalk.u8_in _ (by omega)];unfold by8;rw [UInt8.toNat_ofNat'];omega
        have e2:IntKind.u8.wrap (T.size:Int)=((by8 T.size).toNat:Int):=by rw [IntWalk.u8_in _ (by omega)];unfold by8;rw [UInt8.toNat_ofNat'];omega
        have e3:IntKind.i64.wrap ((acc.length:Int) + (2 + (T.size:Int)))=(acc.length:Int) + (2 + (T.size:Int)):=IntWalk.i64_in _ (by omega)
        have td2:decide ((64:Int) < (acc.length:Int) + (2 + (T.size:Int)))=false:=decide_eq_false (by omega)
        go_wp2
        obtain ⟨w1,hw1⟩:∃ w1,w1=wr.alloc (.cells (yP id T) 165):=⟨_,rfl⟩
        have HB1:Hid (Below w.heap.size w w1):=by show Below _ _ _;rw [hw1];exact bal HB.out _
        have HK1:Hid (w1.heap[wr.heap.size]?=some (.cells (yP id T) 165 (0,0))):=by show _=_;rw [hw1];exact heap_alloc_new wr _
        have HI1:Hid (IsB w1 w.heap.size w.heap.size acc):=by show IsB _ _ _ _;rw [hw1];exact HI.out.below (bal (bel0 wr) _)
        rw [← hw1]
        clear hw1
        refine rest_begin (by kernel_rfl) ?_
        refine rest_loadB 0 (oi:=_) (by simp only [jzG,jzH,jzI];rfl) (by kernel_rfl) (by kernel_rfl) (by kernel_rfl) #[.int .i64 id,.string T] (by exact fun _ _ _ h=>h) (by rfl) 165 (.tmp 6) rfl _ rfl _ (HK1.out) _ Tryz.underlying165 rfl (by kernel_rfl) ?_
        simp only [Act.put,jzU,jzV,jzW]
        refine rest_call 1 (oi:=_) (by simp only [jzG,jzH,jzI];rfl) 126 #[.agg #[.int .i64 id,.string T]] _ (by kernel_rfl) (by rfl) (by go_simp) (HMAY.out _) ?_
        rintro e w2 ⟨rfl,hb⟩;refine ⟨_,rfl,hb,?_⟩;have HB2:=jzD (bel_trans HB1.out.drew hb);have HK2:=jzD (keep_at (w:=w1.drew) HK1.out hb);have HI2:=jzD (IsB.below (w:=w1.drew) HI1.out hb);clear hb
        simp only [Act.put,jzU,jzV,jzW]
        refine rek 2 ?_
        refine rek 3 ?_
        refine rest_loadB 5 (oi:=_) (by simp only [jzG,jzH,jzI];rfl) (by kernel_rfl) (by kernel_rfl) (by kernel_rfl) #[.int .i64 id,.string T] (by exact fun _ _ _ h=>h) (by rfl) 165 (.tmp 6) rfl _ rfl _ (HK2.out) _ Tryz.underlying165 rfl (by kernel_rfl) ?_
        simp only [Act.put,jzU,jzV,jzW]
        refine rest_call 4 (oi:=_) (by simp only [jzG,jzH,jzI];rfl) 127 #[.pointer (some ⟨w.heap.size,0,none⟩)] _ (by kernel_rfl) (by rfl) (by go_simp) (TLen_any w.heap.size w.heap.size acc _ HI2.out) ?_
        rintro e w3 ⟨rfl,rfl⟩;refine ⟨_,rfl,Ext.refl _,?_⟩
        simp only [Act.put,jzU,jzV,jzW]
        refine rest_call 6 (oi:=_) (by simp only [jzG,jzH,jzI];rfl) 128 #[.agg #[.int .i64 id,.string T]] _ (by kernel_rfl) (by rfl) (by go_simp) (HSZ.out _) ?_
        rintro e w4 ⟨rfl,hb⟩;refine ⟨_,rfl,hb,?_⟩;have HB4:=jzD (bel_trans HB2.out hb);have HK4:=jzD (keep_at HK2.out hb);have HI4:=jzD (HI2.out.below hb);clear hb
        simp only [Act.put,jzU,jzV,jzW]
        refine rek 7 ?_
        refine rek 8 ?_
        refine rek 9 ?_
        refine rest_done (by kernel_rfl) ?_
        have f0:=cell_at HK4.out 0 _ rfl
        have f1:=cell_at HK4.out 1 _ rfl
        have hz4:=HB4.out.size
        go_wp2_with (first
         | (go_at_call_of 129 (Value.int .u8 ((by8 id).toNat:Int));(with_reducible refine (WriteByte_k w.heap.size w.heap.size acc (by8 id) _ HI4.out hz4 (by omega)).mono ?_);rintro e W1 ⟨rfl,h1,b1,k1⟩;have hz5:=(HB4.out.trans b1).size;have H1:=jzD h1;have B1:=jzD (HB4.out.trans b1);have HK5:=jzD (k1 _ _ HK4.out);have g1:=cell_at HK5.out 1 _ rfl;clear h1 b1 k1)
         | (go_at_call_of 129 (Value.int .u8 ((by8 T.size).toNat:Int));(with_reducible refine (WriteByte_k w.heap.size w.heap.size (acc ++ [by8 id]) (by8 T.size) _ H1.out hz5 (by simp;omega)).mono ?_);rintro e W2 ⟨rfl,h2,b2,k2⟩;have hz6:=(B1.out.trans b2).size;have H2:=jzD h2;have B2:=jzD (B1.out.trans b2);have HK6:=jzD (k2 _ _ HK5.out);have g2:=cell_at HK6.out 1 _ rfl;clear h2 b2 k2)
         | (go_at_call 130;(with_reducible refine (WriteString_k w.heap.size w.heap.size (acc ++ [by8 id] ++ [by8 T.size]) T _ H2.out hz6 (by simp;omega)).mono ?_);rintro e W3 ⟨rfl,h3,b3,k3⟩;have H3:=jzD h3;have B3:=jzD (B2.out.trans b3);clear h3 b3 k3))
        go_roundw
        case rel=>exact ⟨rfl,rfl,k + 1,_,by omega,by go_num,HT.out.next hlt HID.out HTT.out HOK.out h64 H3.out B3.out⟩
        case measure=>simp [intOf];omega
      · have HN:Hid (putT l=none):=putT_long hlt (by rw [← HT.out.2.1,← HTS.out];omega)
        have e3:IntKind.i64.wrap ((acc.length:Int) + (2 + (T.size:Int)))=(acc.length:Int) + (2 + (T.size:Int)):=IntWalk.i64_in _ (by omega)
        have td2:decide ((64:Int) < (acc.length:Int) + (2 + (T.size:Int)))=true:=decide_eq_true (by omega)
        go_wp2
        obtain ⟨w1,hw1⟩:∃ w1,w1=wr.alloc (.cells (yP id T) 165):=⟨_,rfl⟩
        have HB1:Hid (Below w.heap.size w w1):=by show Below _ _ _;rw [hw1];exact bal HB.out _
        have HK1:Hid (w1.heap[wr.heap.size]?=some (.cells (yP id T) 165 (0,0))):=by show _=_;rw [hw1];exact heap_alloc_new wr _
        have HI1:Hid (IsB w1 w.heap.size w.heap.size acc):=by show IsB _ _ _ _;rw [hw1];exact HI.out.below (bal (bel0 wr) _)
        rw [← hw1]
        clear hw1
        refine rest_begin (by kernel_rfl) ?_
        refine rest_loadB 0 (oi:=_) (by simp only [jzG,jzH,jzI];rfl) (by kernel_rfl) (by kernel_rfl) (by kernel_rfl) #[.int .i64 id,.string T] (by exact fun _ _ _ h=>h) (by rfl) 165 (.tmp 6) rfl _ rfl _ (HK1.out) _ Tryz.underlying165 rfl (by kernel_rfl) ?_
        simp only [Act.put,jzU,jzV,jzW]
        refine rest_call 1 (oi:=_) (by simp only [jzG,jzH,jzI];rfl) 126 #[.agg #[.int .i64 id,.string T]] _ (by kernel_rfl) (by rfl) (by go_simp) (HMAY.out _) ?_
        rintro e w2 ⟨rfl,hb⟩;refine ⟨_,rfl,hb,?_⟩;have HB2:=jzD (bel_trans HB1.out.drew hb);have HK2:=jzD (keep_at (w:=w1.drew) HK1.out hb);have HI2:=jzD (IsB.below (w:=w1.drew) HI1.out hb);clear hb
        simp only [Act.put,jzU,jzV,jzW]
        refine rek 2 ?_
        refine rek 3 ?_
        refine rest_loadB 5 (oi:=_) (by simp only [jzG,jzH,jzI];rfl) (by kernel_rfl) (by kernel_rfl) (by kernel_rfl) #[.int .i64 id,.string T] (by exact fun _ _ _ h=>h) (by rfl) 165 (.tmp 6) rfl _ rfl _ (HK2.out) _ Tryz.underlying165 rfl (by kernel_rfl) ?_
        simp only [Act.put,jzU,jzV,jzW]
        refine rest_call 4 (oi:=_) (by simp only [jzG,jzH,jzI];rfl) 127 #[.pointer (some ⟨w.heap.size,0,none⟩)] _ (by kernel_rfl) (by rfl) (by go_simp) (TLen_any w.heap.size w.heap.size acc _ HI2.out) ?_
        rintro e w3 ⟨rfl,rfl⟩;refine ⟨_,rfl,Ext.refl _,?_⟩
        simp only [Act.put,jzU,jzV,jzW]
        refine rest_call 6 (oi:=_) (by simp only [jzG,jzH,jzI];rfl) 128 #[.agg #[.int .i64 id,.string T]] _ (by kernel_rfl) (by rfl) (by go_simp) (HSZ.out _) ?_
        rintro e w4 ⟨rfl,hb⟩;refine ⟨_,rfl,hb,?_⟩;have HB4:=jzD (bel_trans HB2.out hb);have HK4:=jzD (keep_at HK2.out hb);have HI4:=jzD (HI2.out.below hb);clear hb
        simp only [Act.put,jzU,jzV,jzW]
        refine rek 7 ?_
        refine rek 8 ?_
        refine rek 9 ?_
        refine rest_done (by kernel_rfl) ?_
        go_wp2
        go_ret2
        exact putTP_none HN.out HB4.out
    · have HN:Hid (putT l=none):=putT_bad hlt (by unfold okT;rw [HID.out,← HTS.out];exact hok)
      rw [decide_eq_false hok] at hmay
      have HMAY:=jzD hmay
      clear hmay
      go_wp2
      obtain ⟨w1,hw1⟩:∃ w1,w1=wr.alloc (.cells (yP id T) 165):=⟨_,rfl⟩
      have HB1:Hid (Below w.heap.size w w1):=by show Below _ _ _;rw [hw1];exact bal HB.out _
      have HK1:Hid (w1.heap[wr.heap.size]?=some (.cells (yP id T) 165 (0,0))):=by show _=_;rw [hw1];exact heap_alloc_new wr _
      have HI1:Hid (IsB w1 w.heap.size w.heap.size acc):=by show IsB _ _ _ _;rw [hw1];exact HI.out.below (bal (bel0 wr) _)
      rw [← hw1]
      clear hw1
      refine rest_begin (by kernel_rfl) ?_
      refine rest_loadB 0 (oi:=_) (by simp only [jzG,jzH,jzI];rfl) (by kernel_rfl) (by kernel_rfl) (by kernel_rfl) #[.int .i64 id,.string T] (by exact fun _ _ _ h=>h) (by rfl) 165 (.tmp 6) rfl _ rfl _ (HK1.out) _ Tryz.underlying165 rfl (by kernel_rfl) ?_
      simp only [Act.put,jzU,jzV,jzW]
      refine rest_call 1 (oi:=_) (by simp only [jzG,jzH,jzI];rfl) 126 #[.agg #[.int .i64 id,.string T]] _ (by kernel_rfl) (by rfl) (by go_simp) (HMAY.out _) ?_
      rintro e w2 ⟨rfl,hb⟩;refine ⟨_,rfl,hb,?_⟩;have HB2:=jzD (bel_trans HB1.out.drew hb);have HK2:=jzD (keep_at (w:=w1.drew) HK1.out hb);have HI2:=jzD (IsB.below (w:=w1.drew) HI1.out hb);clear hb
      simp only [Act.put,jzU,jzV,jzW]
      refine rek 2 ?_
      refine rek 3 ?_
      refine rest_skip 4 (oi:=_) (by simp only [jzG,jzH,jzI];rfl) (by kernel_rfl) (by kernel_rfl) (by kernel_rfl) (by exact fun _ _ _ h=>h) (by rfl) ?_
      simp only [Act.put,jzU,jzV,jzW]
      refine rest_skip 5 (oi:=_) (by simp only [jzG,jzH,jzI];rfl) (by kernel_rfl) (by kernel_rfl) (by kernel_rfl) (by exact fun _ _ _ h=>h) (by rfl) ?_
      simp only [Act.put,jzU,jzV,jzW]
      refine rest_skip 6 (oi:=_) (by simp only [jzG,jzH,jzI];rfl) (by kernel_rfl) (by kernel_rfl) (by kernel_rfl) (by exact fun _ _ _ h=>h) (by rfl) ?_
      simp only [Act.put,jzU,jzV,jzW]
      refine rest_skip 7 (oi:=_) (by simp only [jzG,jzH,jzI];rfl) (by kernel_rfl) (by kernel_rfl) (by kernel_rfl) (by exact fun _ _ _ h=>h) (by rfl) ?_
      simp only [Act.put,jzU,jzV,jzW]
      refine rest_skip 8 (oi:=_) (by simp only [jzG,jzH,jzI];rfl) (by kernel_rfl) (by kernel_rfl) (by kernel_rfl) (by exact fun _ _ _ h=>h) (by rfl) ?_
      simp only [Act.put,jzU,jzV,jzW]
      refine rek 9 ?_
      refine rest_done (by kernel_rfl) ?_
      go_wp2
      go_ret2
      exact putTP_none HN.out HB2.out
  · have td:decide ((k:Int) < (l.length:Int))=false:=decide_eq_false (by omega)
    have HN:Hid (putT l=some acc):=putT_all (by omega) HT.out.1 HT.out.2.1 HT.out.2.2.1
    go_wp2_with (go_at_call 131;refine (String_any w.heap.size w.heap.size acc _ HI.out (by omega)).mono ?_;rintro e w2 ⟨rfl,hb2⟩)
    go_ret2
    exact putTP_some (s:=⟨acc.toArray⟩) (by rw [HN.out]) (HB.out.trans hb2)
end Go.Proofs.YtjddbjmcjhjpiaaGreatDoor
