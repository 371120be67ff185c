/- Package box as landed (c327edd5): what one is asked for. -/
import Derived.Test.YtjddbjmcjhjpiaaGreatDoorN16D
import Derived.Test.YtjddbjmcjhjpiaaGreatDoorRpyA
import Derived.Deep.MidRow
import Derived.Deep.RegionLaw
import Derived.Lib.SliceRun

set_option linter.all false

namespace Go.Proofs.YtjddbjmcjhjpiaaGreatDoor
set_option maxRecDepth 100000
set_option maxHeartbeats 16000000
open Go.RowKit M

def askcs (l:List AIn):List Value:=l.flatMap fun a=>[.int .i64 a.kind,.int .i64 a.n,.int .u32 a.id,.string a.body]
theorem askcs_app (l m:List AIn):askcs (l ++ m)=askcs l ++ askcs m:=by simp [askcs]
theorem askcs_get {l:List AIn} {i:Nat} {a:AIn} (h:l[i]?=some a) {j:Nat} {v:Value} (hv:[Value.int .i64 a.kind,.int .i64 a.n,.int .u32 a.id,.string a.body][j]?=some v):(askcs l)[i * 4 + j]?=some v:=by
 induction l generalizing i with
 | nil=>simp at h
 | cons b r ih =>
  have hj:j < 4:=(List.getElem?_eq_some_iff.1 hv).1
  show ([Value.int .i64 b.kind,.int .i64 b.n,.int .u32 b.id,.string b.body] ++ askcs r)[i * 4 + j]?=some v
  cases i with
  | zero =>
   simp only [List.getElem?_cons_zero,Option.some.injEq] at h
   subst h
   rw [Nat.zero_mul,Nat.zero_add,List.getElem?_append_left (by simpa using hj)]
   exact hv
  | succ i =>
   rw [List.getElem?_append_right (by simp only [List.length_cons,List.length_nil];omega)]
   simp only [List.length_cons,List.length_nil]
   rw [show (i + 1) * 4 + j - (0 + 1 + 1 + 1 + 1)=i * 4 + j by omega]
   exact ih (by simpa using h)
theorem askcs_one (l:List AIn):∀ y ∈ askcs l,y.oneCell' = true:=by
 intro y hy
 unfold askcs at hy
 obtain ⟨a,_,hy⟩:=List.mem_flatMap.1 hy
 simp only [List.mem_cons,List.not_mem_nil,or_false] at hy
 rcases hy with rfl | rfl | rfl | rfl <;> rfl
theorem emp_tl (b:ByteArray):(b.toList == (⟨#[]⟩:ByteArray).toList)=(b.size == 0):=by
 rw [Bool.eq_iff_iff,beq_iff_eq,beq_iff_eq,ByteArray.toList_eq,ByteArray.toList_eq]
 show b.data.toList=[] ↔ b.data.size=0
 rw [← Array.length_toList,List.length_eq_zero_iff]
section
variable {P:Program}
theorem run_clear_one (w:World) (t e ty:TypeId) (z:Value) (zs:List Value) (ht:P.underlying t=some (.slice e)) (hv:∀ w,(zeroValue e).run P w=.ok z w) (hz:(Builtin.zeroCells z.cells 1).toList=zs) (h1:∀ v ∈ zs,v.oneCell' = true) (b o c:Nat)
 (hc:∀ j,j < zs.length→(w.cell? ⟨b,o + j,none⟩).isSome=true) (hf:∀ j,j < zs.length→w.frozen? ⟨b,o + j,none⟩=false) :
 (Builtin.clear_ #[t] ty #[.slice (some ⟨b,o,none⟩) 1 c]).run P w=.ok (.tuple #[]) (w.setCells b o zs):=by
 have hst:=run_storeCells_cells (P:=P) b o zs 0 w (by simpa using hc) (by simpa using hf) h1
 simp only [Nat.add_zero] at hst
 simp [Builtin.clear_,run_underlying ht,hv,hz,hst]
end
def zsA:List Value:=[.int .i64 0,.int .i64 0,.int .u32 0,.string ⟨#[]⟩]
theorem zeros_A:(Builtin.zeroCells (Value.agg #[.int .i64 0,.int .i64 0,.int .u32 0,.string ⟨#[]⟩]).cells 1).toList=zsA:=by
 apply List.ext_getElem
 · simp [Builtin.zeroCells,Value.cells,zsA]
 · intro i h1 h2
   have hi:i < 4:=h2
   simp only [Builtin.zeroCells,Value.cells,Array.getElem_toList,Array.getElem_map,Array.getElem_range]
   match i,hi with
   | 0,_=>rfl
   | 1,_=>rfl
   | 2,_=>rfl
   | 3,_=>rfl
section
variable {w0 w:World} {F0:List Nat} {C:Obj→Obj} {A:Option Addr} {n cap:Nat} {xs:List Value}
theorem SlDel_A (hC:Fr C) (h:Done w0 F0 (C (OwnK 68 4 (.slice A n cap) n xs)) w) (hn:0 < n) (ho:∀ x ∈ xs,x.oneCell' = true) :
 Calls Tryz.prog 66 #[.slice A n cap,.int .i64 0,.int .i64 1] w fun e w' => e=.returned (.slice A (n - 1) cap)∧Done w0 F0 (C (OwnK 68 4 (.slice A (n - 1) cap) (n - 1) (xs.drop 4))) w' := by
 obtain ⟨F,hF,hu⟩:=h.upd hC
 have hlen:xs.length=n * 4:=hF.2.1
 obtain ⟨g,rfl,rfl,cur,h1,h2,h3,h4,h5⟩:=hF.whole hn
 obtain ⟨m,rfl⟩:∃ m,n=m + 1:=⟨n - 1,by omega⟩
 have hcl:cur.toList.length=cap * 4:=by rw [Array.length_toList];exact h2
 have hcell:∀ t,t < cap * 4→∃ u,w.cell? ⟨g,t,none⟩=some u∧w.frozen? ⟨g,t,none⟩=false:=by
  intro t ht
  exact ⟨cur[t]'(by omega),cell_at h1 t _ (by simp),frz_at h1 _⟩
 obtain ⟨news,hnews⟩:∃ news,news=xs.drop 4:=⟨_,rfl⟩
 have hnl:news.length=m * 4:=by rw [hnews,List.length_drop];omega
 obtain ⟨S,hS,hsrc⟩:∃ S:Addr,(if cap=1 then (some ⟨g,0,none⟩:Option Addr) else some ⟨g,4,none⟩)=some S∧Hid (∀ t u,news[t]?=some u→w.drew.cell? (S.add t)=some u):=by
  by_cases hc1:cap=1
  · refine ⟨⟨g,0,none⟩,by simp [hc1],fun t u hu=>?_⟩
    have h0:news.length=0:=by omega
    rw [List.length_eq_zero_iff.1 h0] at hu
    simp at hu
  · refine ⟨⟨g,4,none⟩,by simp [hc1],fun t u hu=>?_⟩
    have hx:xs[4 + t]?=some u:=by rw [hnews,List.getElem?_drop] at hu;exact hu
    rw [addr_add]
    exact hF.cell hx
 have s1:Hid (news.length=m * 4):=hnl
 have s2:Hid (∀ u ∈ news,u.oneCell' = true):=fun u hu=>ho u (by rw [hnews] at hu;exact List.mem_of_mem_drop hu)
 have s3:Hid (∀ t,t < news.length→(w.drew.cell? ⟨g,0 + 0 * 4 + t,none⟩).isSome=true∧w.drew.frozen? ⟨g,0 + 0 * 4 + t,none⟩=false):=by
  intro t ht
  obtain ⟨u,k1,k2⟩:=hcell (0 + 0 * 4 + t) (by omega)
  exact ⟨by show (w.cell? _).isSome=true;rw [k1];rfl,k2⟩
 obtain ⟨W1,hW1⟩:∃ W1,W1=w.drew.setCells g (0 + 0 * 4) news:=⟨_,rfl⟩
 have hh0:w.drew.heap[g]?=some (.cells cur.toList.toArray 68 (0,0)):=by rw [Array.toArray_toList];exact h1
 have hh1:W1.heap[g]?=some (.cells (setL cur.toList 0 news).toArray 68 (0,0)):=by
  rw [hW1]
  exact heap_sets news _ w.drew cur.toList hh0
 have e1:setL cur.toList 0 news=news ++ cur.toList.drop (m * 4):=by
  rw [setL_eq news cur.toList 0 (by omega),List.take_zero,List.nil_append,Nat.zero_add,hnl]
 have hl1:(setL cur.toList 0 news).length=cap * 4:=by rw [e1,List.length_append,List.length_drop];omega
 have ht1:Tch [g] w W1:=by
  rw [hW1]
  exact Tch.trans (w1:=w.drew) ⟨rfl,rfl,rfl,Nat.le_refl _,fun _ _ _=>rfl⟩ (tch_sets g news _ _) (Sub.refl _ _)
 have HCLR:Hid (∀ ty,(Builtin.clear_ #[63] ty #[.slice (some ⟨g,m * 4,none⟩) 1 (cap - m)]).run Tryz.prog W1=.ok (.tuple #[]) (W1.setCells g (m * 4) zsA)) :=
  fun ty=>run_clear_one W1 63 68 ty (.agg #[.int .i64 0,.int .i64 0,.int .u32 0,.string ⟨#[]⟩]) zsA Tryz.underlying63 (fun w=>Tryz.zeroValue68 w) zeros_A (by simp [zsA,Value.oneCell']) g (m * 4) (cap - m)
   (fun j hj=>by
    have hj' : j < 4:=hj
    rw [cell_at hh1 (m * 4 + j) ((setL cur.toList 0 news)[m * 4 + j]'(by omega)) (by simp)];rfl) (fun j _=>frz_at hh1 _)
 obtain ⟨W2,hW2⟩:∃ W2,W2=W1.setCells g (m * 4) zsA:=⟨_,rfl⟩
 have hh2:W2.heap[g]?=some (.cells (setL (setL cur.toList 0 news) (m * 4) zsA).toArray 68 (0,0)):=by
  rw [hW2]
  exact heap_sets zsA _ W1 _ hh1
 have hz4:zsA.length=4:=rfl
 have e2:setL (setL cur.toList 0 news) (m * 4) zsA=(news ++ cur.toList.drop (m * 4)).take (m * 4) ++ zsA ++ (news ++ cur.toList.drop (m * 4)).drop (m * 4 + 4):=by
  rw [setL_eq zsA _ (m * 4) (by omega),e1]
  rfl
 rw [List.take_left' hnl] at e2
 have ht2:Tch [g] w W2:=ht1.trans (by rw [hW2];exact tch_sets g zsA _ _) (Sub.refl _ _)
 have HFIN:Hid (Done w0 F0 (C (OwnK 68 4 (.slice (some ⟨g,0,none⟩) m cap) m news)) W2):=by
  refine hu ⟨[g],⟨rfl,hnl,.inr ⟨g,cap,_,rfl,Nat.zero_le _,hh2,by omega,h5,?_,?_⟩⟩,ht2,Sub.refl _ _⟩
  · rw [List.size_toArray,e2,List.length_append,List.length_append,List.length_drop,List.length_append,List.length_drop]
    omega
  · show (setL _ _ _).take (m * 4)=_
    rw [e2,List.append_assoc,List.take_left' hnl]
 rw [hW2] at HFIN
 have HW1:=jzD hW1
 have b1:1≤cap:=by omega
 have b2:m + 1≤cap:=h4
 have b3:cap≤9223372036854775807:=h5
 rw [← hnews]
 obtain ⟨i0,hi0,hz0,hz1,hz2⟩:=info_parts (show (Tryz.prog.info? 68).map (fun i=>(i.zero,i.size,i.bytes))=some (some (.agg #[.int .i64 0,.int .i64 0,.int .u32 0,.string ⟨#[]⟩]),4,40) from by kernel_rfl)
 have HX:=jzD b3
 have b4:(1:Int)≤(m:Int) + 1:=by omega
 have mixed:Tryz.prog.follows Departure.mixedOrders=true:=by kernel_rfl
 clear hu hF h hlen h1 h2 h3 h4 h5 hcl hcell hnl hh0 hh1 e1 hl1 ht1 hW2 hh2 hz4 e2 ht2 hW1 hnews hn
 show Calls _ _ #[.slice _ (m + 1) cap,_,_] _ fun e w' => e=.returned (.slice _ m cap)∧Done w0 F0 (C (OwnK 68 4 (.slice _ m cap) m news)) w'
 go_enter Tryz.func66,Tryz.ntmps66
 go_wp2_with fail
 go_region_law_o (refine step_append_room rfl (.tmp 22) (.tmp 25) 63 rfl 68 i0 4 Tryz.underlying63 hi0 hz1 g 0 0 cap (by simp [Act.eval,Act.put]) S m (cap - 1) news (by simp [Act.eval,Act.put]) s1.out hsrc.out s2.out (by omega) s3.out ?_;rw [← HW1.out])
 have hcl:=HCLR.out
 clear HCLR
 go_wp2
 go_ret
 exact ⟨rfl,HFIN.out⟩
end
def BoxO (g:Nat) (v:Value) (l:List AIn):Obj:=Star (CellW g #[v] 115) (OwnK 68 4 v l.length (askcs l))
def BoxW (v:Value) (m:BoxM):Obj:=fun w F=>m.ok∧∃ g u,v=.pointer (some ⟨g,0,none⟩)∧BoxO g u m.l w F
theorem BoxO.stab (g:Nat) (v:Value) (l:List AIn):Stab (BoxO g v l):=cS.star kS
theorem BoxW.stab (v:Value) (m:BoxM):Stab (BoxW v m) where
 in_:=fun ⟨_,g,u,_,h⟩=>(BoxO.stab g u m.l).in_ h
 tch:=fun ⟨h1,g,u,e,h⟩ ht hd=>⟨h1,g,u,e,(BoxO.stab g u m.l).tch h ht hd⟩
section
variable {w:World} {v:Value} {F:List Nat}
theorem BoxW.ptr {m:BoxM} (h:BoxW v m w F):∃ a:Addr,v=.pointer (some a):=by
 obtain ⟨_,g,u,rfl,_⟩:=h
 exact ⟨_,rfl⟩
theorem BoxW.ok {m:BoxM} (h:BoxW v m w F):m.ok:=h.1
theorem BoxW.shape {m:BoxM} (h:BoxW v m w F):m.ok∧∃ g A c,v=.pointer (some ⟨g,0,none⟩)∧(m.l.length≤c∧c≤maxLen)∧BoxO g (.slice A m.l.length c) m.l w F:=by
 obtain ⟨h1,g,v,rfl,F1,F2,rfl,k1,k2,k3⟩:=h
 obtain ⟨A,c,rfl,e1,e2⟩:=k2.shape
 exact ⟨h1,g,A,c,rfl,⟨e1,e2⟩,F1,F2,rfl,k1,k2,k3⟩
theorem BoxW.cells {m:BoxM} (h:BoxW v m w F):∃ g A c,v=.pointer (some ⟨g,0,none⟩)∧w.heap[g]?=some (.cells #[.slice A m.l.length c] 115 (0,0)):=by
 obtain ⟨_,g,A,c,rfl,_,F1,F2,_,k1,_,_⟩:=h.shape
 exact ⟨g,A,c,rfl,k1.2⟩
end
theorem BRound_any (n:Int) (w:World):Calls Tryz.prog 64 #[.int .i64 n] w fun e w' => e=.returned (.bool (decide (n=1 ∨ n=6 ∨ n=8)))∧w' = w:=by
 obtain ⟨q,hq⟩:∃ q,q=decide (n=1 ∨ n=6 ∨ n=8):=⟨_,rfl⟩
 rw [← hq]
 have HQ:Hid (∀ b:Bool,(b=true ↔ (n=1 ∨ n=6 ∨ n=8))→Ending.returned (.bool b)=.returned (.bool q)):=by
  show ∀ _,_
  intro b h
  congr 2
  rw [Bool.eq_iff_iff,h,hq,decide_eq_true_eq]
 clear hq
 go_enter Tryz.func64,Tryz.ntmps64
 go_wp2
 all_goals
  go_ret
  refine ⟨HQ.out _ ?_,rfl⟩
  clear HQ
  first | (simp at *;done) | (simp at *;omega) | omega
theorem run_storeSA (A:Option Addr) (n c g k:Nat):∀ w:World,(∃ u,w.cell? ⟨g,k,none⟩=some u)→w.frozen? ⟨g,k,none⟩=false→(Instr.storeAt 63 (.pointer (some ⟨g,k,none⟩)) (.slice A n c)).run Tryz.prog w=.ok () (w.setCell ⟨g,k,none⟩ (.slice A n c)):=by
 rintro w ⟨u,hu⟩ hf
 go_simp
theorem run_storeSg (s:ByteArray) (g k:Nat):∀ w:World,(∃ u,w.cell? ⟨g,k,none⟩=some u)→w.frozen? ⟨g,k,none⟩=false→(Instr.storeAt 9 (.pointer (some ⟨g,k,none⟩)) (.string s)).run Tryz.prog w=.ok () (w.setCell ⟨g,k,none⟩ (.string s)):=by
 rintro w ⟨u,hu⟩ hf
 go_simp
theorem may_body {a:AIn} (h:mayA a=true):a.body.size≤64:=by
 unfold mayA at h
 split at h
 · simp only [Bool.and_eq_true,beq_iff_eq] at h;omega
 · split at h
   · simp only [Bool.and_eq_true,beq_iff_eq] at h;omega
   · split at h
     · simp only [Bool.and_eq_true,decide_eq_true_eq] at h;omega
     · split at h
       · simp only [Bool.and_eq_true,beq_iff_eq] at h;omega
       · cases h
theorem BMay1_no (n i:Int) (b:ByteArray) (w:World) (h:decide (n=1 ∨ n=6 ∨ n=8)=false):Calls Tryz.prog 46 #[.agg #[.int .i64 1,.int .i64 n,.int .u32 i,.string b]] w fun e w' => e=.returned (.bool false)∧Below w.heap.size w w' := by
 have HR:=jzD (fun w=>BRound_any n w)
 rw [h] at HR
 clear h
 go_enter Tryz.func46,Tryz.ntmps46
 go_wp2_with (go_at_call 64;(with_reducible refine (HR.out _).mono ?_);rintro e w' ⟨rfl,rfl⟩)
 go_ret
 exact ⟨rfl,bel0x _ _ _⟩
theorem BMay1_yes (n i:Int) (b:ByteArray) (w:World) (h:decide (n=1 ∨ n=6 ∨ n=8)=true) (q:Bool) (hq:((1:Int) == 1 && (n == n && (i == 0 && b.toList == (⟨#[]⟩:ByteArray).toList)))=q):Calls Tryz.prog 46 #[.agg #[.int .i64 1,.int .i64 n,.int .u32 i,.string b]] w fun e w' => e=.returned (.bool q)∧Below w.heap.size w w' := by
 have HQ:=jzD hq
 have HR:=jzD (fun w=>BRound_any n w)
 rw [h] at HR
 clear h
 go_enter Tryz.func46,Tryz.ntmps46
 go_wp2_with (first
  | (go_at_call 64;(with_reducible refine (HR.out _).mono ?_);rintro e w' ⟨rfl,rfl⟩)
  | (with_reducible refine wpList_loadG (by kernel_rfl) 68 (.tmp 1) rfl w.heap.size rfl 68 _ (heap_alloc_new w _) _ Tryz.underlying68 rfl (by kernel_rfl) ?_))
 all_goals
  go_ret
  refine ⟨?_,bel0x _ _ _⟩
  have hq:=HQ.out
  clear HQ
  rw [← hq]
  first | (simp;done) | (simp_all;done) | (simp [*];done)
theorem BMay2_no (n i:Int) (b:ByteArray) (w:World) (h:ownN i=false):Calls Tryz.prog 46 #[.agg #[.int .i64 2,.int .i64 n,.int .u32 i,.string b]] w fun e w' => e=.returned (.bool false)∧Below w.heap.size w w' := by
 have HO:=jzD (fun w=>XisId_any i w)
 rw [h] at HO
 clear h
 go_enter Tryz.func46,Tryz.ntmps46
 go_wp2_with (go_at_call 65;(with_reducible refine (HO.out _).mono ?_);rintro e w' ⟨rfl,rfl⟩)
 go_ret
 exact ⟨rfl,bel0x _ _ _⟩
theorem BMay2_yes (n i:Int) (b:ByteArray) (w:World) (h:ownN i=true) (q:Bool) (hq:((2:Int) == 2 && (n == 0 && (i == i && b.toList == (⟨#[]⟩:ByteArray).toList)))=q):Calls Tryz.prog 46 #[.agg #[.int .i64 2,.int .i64 n,.int .u32 i,.string b]] w fun e w' => e=.returned (.bool q)∧Below w.heap.size w w' := by
 have HQ:=jzD hq
 have HO:=jzD (fun w=>XisId_any i w)
 rw [h] at HO
 clear h
 go_enter Tryz.func46,Tryz.ntmps46
 go_wp2_with (first
  | (go_at_call 65;(with_reducible refine (HO.out _).mono ?_);rintro e w' ⟨rfl,rfl⟩)
  | (with_reducible refine wpList_loadG (by kernel_rfl) 68 (.tmp 1) rfl w.heap.size rfl 68 _ (heap_alloc_new w _) _ Tryz.underlying68 rfl (by kernel_rfl) ?_))
 all_goals
  go_ret
  refine ⟨?_,bel0x _ _ _⟩
  have hq:=HQ.out
  clear HQ
  rw [← hq]
  first | (simp;done) | (simp_all;done) | (simp [*];done)
theorem BMay7_no (n i:Int) (b:ByteArray) (w:World) (h:ownN i=false):Calls Tryz.prog 46 #[.agg #[.int .i64 7,.int .i64 n,.int .u32 i,.string b]] w fun e w' => e=.returned (.bool false)∧Below w.heap.size w w' := by
 have HO:=jzD (fun w=>XisId_any i w)
 rw [h] at HO
 clear h
 go_enter Tryz.func46,Tryz.ntmps46
 go_wp2_with (go_at_call 65;(with_reducible refine (HO.out _).mono ?_);rintro e w' ⟨rfl,rfl⟩)
 go_ret
 exact ⟨rfl,bel0x _ _ _⟩
theorem BMay7_yes (n i:Int) (b:ByteArray) (w:World) (h:ownN i=true) (q:Bool) (hq:((7:Int) == 7 && (n == 0 && (i == i && b.toList == (⟨#[]⟩:ByteArray).toList)))=q):Calls Tryz.prog 46 #[.agg #[.int .i64 7,.int .i64 n,.int .u32 i,.string b]] w fun e w' => e=.returned (.bool q)∧Below w.heap.size w w' := by
 have HQ:=jzD hq
 have HO:=jzD (fun w=>XisId_any i w)
 rw [h] at HO
 clear h
 go_enter Tryz.func46,Tryz.ntmps46
 go_wp2_with (first
  | (go_at_call 65;(with_reducible refine (HO.out _).mono ?_);rintro e w' ⟨rfl,rfl⟩)
  | (with_reducible refine wpList_loadG (by kernel_rfl) 68 (.tmp 1) rfl w.heap.size rfl 68 _ (heap_alloc_new w _) _ Tryz.underlying68 rfl (by kernel_rfl) ?_))
 all_goals
  go_ret
  refine ⟨?_,bel0x _ _ _⟩
  have hq:=HQ.out
  clear HQ
  rw [← hq]
  first | (simp;done) | (simp_all;done) | (simp [*];done)
theorem BMay3_no (n i:Int) (b:ByteArray) (w:World) (h:decide ((b.size:Int)≤64)=false):Calls Tryz.prog 46 #[.agg #[.int .i64 3,.int .i64 n,.int .u32 i,.string b]] w fun e w' => e=.returned (.bool false)∧Below w.heap.size w w' := by
 go_enter Tryz.func46,Tryz.ntmps46
 go_wp2
 go_ret
 exact ⟨rfl,bel0x _ _ _⟩
theorem BMay3_yes (n i:Int) (b:ByteArray) (w:World) (h:decide ((b.size:Int)≤64)=true) (q:Bool) (hq:((3:Int) == 3 && (n == 0 && (i == 0 && b.toList == b.toList)))=q):Calls Tryz.prog 46 #[.agg #[.int .i64 3,.int .i64 n,.int .u32 i,.string b]] w fun e w' => e=.returned (.bool q)∧Below w.heap.size w w' := by
 have HQ:=jzD hq
 go_enter Tryz.func46,Tryz.ntmps46
 go_wp2_with (with_reducible refine wpList_loadG (by kernel_rfl) 68 (.tmp 1) rfl w.heap.size rfl 68 _ (heap_alloc_new w _) _ Tryz.underlying68 rfl (by kernel_rfl) ?_)
 all_goals
  go_ret
  refine ⟨?_,bel0x _ _ _⟩
  have hq:=HQ.out
  clear HQ
  rw [← hq]
  first | (simp;done) | (simp_all;done) | (simp [*];done)
theorem BMay4_yes (n i:Int) (b:ByteArray) (w:World) (q:Bool) (hq:((4:Int) == 4 && (n == 0 && (i == 0 && b.toList == (⟨#[]⟩:ByteArray).toList)))=q):Calls Tryz.prog 46 #[.agg #[.int .i64 4,.int .i64 n,.int .u32 i,.string b]] w fun e w' => e=.returned (.bool q)∧Below w.heap.size w w' := by
 have HQ:=jzD hq
 go_enter Tryz.func46,Tryz.ntmps46
 go_wp2_with (with_reducible refine wpList_loadG (by kernel_rfl) 68 (.tmp 1) rfl w.heap.size rfl 68 _ (heap_alloc_new w _) _ Tryz.underlying68 rfl (by kernel_rfl) ?_)
 all_goals
  go_ret
  refine ⟨?_,bel0x _ _ _⟩
  have hq:=HQ.out
  clear HQ
  rw [← hq]
  first | (simp;done) | (simp_all;done) | (simp [*];done)
theorem BMay5_yes (n i:Int) (b:ByteArray) (w:World) (q:Bool) (hq:((5:Int) == 5 && (n == 0 && (i == 0 && b.toList == (⟨#[]⟩:ByteArray).toList)))=q):Calls Tryz.prog 46 #[.agg #[.int .i64 5,.int .i64 n,.int .u32 i,.string b]] w fun e w' => e=.returned (.bool q)∧Below w.heap.size w w' := by
 have HQ:=jzD hq
 go_enter Tryz.func46,Tryz.ntmps46
 go_wp2_with (with_reducible refine wpList_loadG (by kernel_rfl) 68 (.tmp 1) rfl w.heap.size rfl 68 _ (heap_alloc_new w _) _ Tryz.underlying68 rfl (by kernel_rfl) ?_)
 all_goals
  go_ret
  refine ⟨?_,bel0x _ _ _⟩
  have hq:=HQ.out
  clear HQ
  rw [← hq]
  first | (simp;done) | (simp_all;done) | (simp [*];done)
theorem BMay6_yes (n i:Int) (b:ByteArray) (w:World) (q:Bool) (hq:((6:Int) == 6 && (n == 0 && (i == 0 && b.toList == (⟨#[]⟩:ByteArray).toList)))=q):Calls Tryz.prog 46 #[.agg #[.int .i64 6,.int .i64 n,.int .u32 i,.string b]] w fun e w' => e=.returned (.bool q)∧Below w.heap.size w w' := by
 have HQ:=jzD hq
 go_enter Tryz.func46,Tryz.ntmps46
 go_wp2_with (with_reducible refine wpList_loadG (by kernel_rfl) 68 (.tmp 1) rfl w.heap.size rfl 68 _ (heap_alloc_new w _) _ Tryz.underlying68 rfl (by kernel_rfl) ?_)
 all_goals
  go_ret
  refine ⟨?_,bel0x _ _ _⟩
  have hq:=HQ.out
  clear HQ
  rw [← hq]
  first | (simp;done) | (simp_all;done) | (simp [*];done)
theorem BMay_other (n i:Int) (b:ByteArray) (w:World) (k:Int) (h:¬ k=1∧¬ k=2∧¬ k=3∧¬ k=4∧¬ k=5∧¬ k=6∧¬ k=7):Calls Tryz.prog 46 #[.agg #[.int .i64 k,.int .i64 n,.int .u32 i,.string b]] w fun e w' => e=.returned (.bool false)∧Below w.heap.size w w' := by
 obtain ⟨h1,h2,h3,h4,h5,h6,h7⟩:=h
 have t1:(k == 1)=false:=beq_eq_false_iff_ne.2 h1
 have t2:(k == 2)=false:=beq_eq_false_iff_ne.2 h2
 have t3:(k == 3)=false:=beq_eq_false_iff_ne.2 h3
 have t4:(k == 4)=false:=beq_eq_false_iff_ne.2 h4
 have t5:(k == 5)=false:=beq_eq_false_iff_ne.2 h5
 have t6:(k == 6)=false:=beq_eq_false_iff_ne.2 h6
 have t7:(k == 7)=false:=beq_eq_false_iff_ne.2 h7
 clear h1 h2 h3 h4 h5 h6 h7
 go_enter Tryz.func46,Tryz.ntmps46
 go_wp2
 go_ret
 exact ⟨rfl,bel0x _ _ _⟩
theorem BMay_all (a:AIn) (w:World):Calls Tryz.prog 46 #[a.val] w fun e w' => e=.returned (.bool (mayA a))∧Below w.heap.size w w' := by
 obtain ⟨k,n,i,b⟩:=a
 have et:=emp_tl b
 by_cases h1:k=1
 · subst h1
   cases h:decide (n=1 ∨ n=6 ∨ n=8) with
   | false=>rw [show mayA ⟨1,n,i,b⟩=false by unfold mayA;simp [h]];exact BMay1_no n i b w h
   | true=>exact BMay1_yes n i b w h _ (by rw [et];unfold mayA;rw [if_pos rfl,h];simp)
 by_cases h2:k=2
 · subst h2
   cases h:ownN i with
   | false=>rw [show mayA ⟨2,n,i,b⟩=false by unfold mayA;simp [h]];exact BMay2_no n i b w h
   | true=>exact BMay2_yes n i b w h _ (by rw [et];unfold mayA;simp [h])
 by_cases h7:k=7
 · subst h7
   cases h:ownN i with
   | false=>rw [show mayA ⟨7,n,i,b⟩=false by unfold mayA;simp [h]];exact BMay7_no n i b w h
   | true=>exact BMay7_yes n i b w h _ (by rw [et];unfold mayA;simp [h])
 by_cases h3:k=3
 · subst h3
   cases h:decide ((b.size:Int)≤64) with
   | false=>rw [show mayA ⟨3,n,i,b⟩=false by unfold mayA;have := of_decide_eq_false h;simp;omega];exact BMay3_no n i b w h
   | true=>exact BMay3_yes n i b w h _ (by unfold mayA;have := of_decide_eq_true h;simp;omega)
 by_cases h4:k=4
 · subst h4;exact BMay4_yes n i b w _ (by rw [et];unfold mayA;simp)
 by_cases h5:k=5
 · subst h5;exact BMay5_yes n i b w _ (by rw [et];unfold mayA;simp)
 by_cases h6:k=6
 · subst h6;exact BMay6_yes n i b w _ (by rw [et];unfold mayA;simp)
 rw [show mayA ⟨k,n,i,b⟩=false by unfold mayA;simp [h1,h2,h3,h4,h5,h6,h7]]
 exact BMay_other n i b w k ⟨h1,h2,h3,h4,h5,h6,h7⟩
theorem BMay_any (a:AIn) (w:World) (_:a.ok):Calls Tryz.prog 46 #[a.val] w fun e w' => e=.returned (.bool (mayA a))∧Below w.heap.size w w' := BMay_all a w
theorem BNew_any (w:World):Calls Tryz.prog 44 #[] w fun e w' => ∃ v,e=.returned v∧Done w [] (BoxW v BoxM.new) w' := by
 go_enter Tryz.func44,Tryz.ntmps44
 go_wp2
 go_ret
 exact ⟨_,rfl,((CellW.new w _ 115).add cS (OwnK.nilD 68 4 _)).mono fun F hF=>⟨BoxM.ok_new,w.heap.size,.slice none 0 0,rfl,hF⟩⟩
theorem BLen_any (v:Value) (m:BoxM) (F:List Nat) (w:World) (h:BoxW v m w F):Calls Tryz.prog 50 #[v] w fun e w' => e=.returned (.int .i64 (m.l.length:Int))∧Below w.heap.size w w' := by
 obtain ⟨g,A,c,rfl,hg⟩:=h.cells
 have q:w.cell? ⟨g,0,none⟩=some (.slice A m.l.length c):=cell_at hg 0 _ rfl
 generalize m.l.length=n at q ⊢
 clear hg h
 go_enter Tryz.func50,Tryz.ntmps50
 go_wp2
 go_ret
 exact ⟨rfl,Below.refl _ _⟩
theorem BLen_nil (w:World):Calls Tryz.prog 50 #[.pointer none] w fun e w' => e=.returned (.int .i64 0)∧Below w.heap.size w w' := by
 go_enter Tryz.func50,Tryz.ntmps50
 go_wp2
 go_ret
 exact ⟨rfl,Below.refl _ _⟩
theorem range_bel {w w' : World} {b o:Nat} {cs:List Value} (h:w.rangeAt b o cs) (hb:Below w.heap.size w w'):w'.rangeAt b o cs:=fun j v hv=>(hb.cell (p:=⟨b,o + j,none⟩) (World.block_lt_of_cell? _ _ (h j v hv))).trans (h j v hv)
theorem BFirst_at (l:List AIn) (g n cap:Nat) (A:Option Addr) (F:List Nat) (w0:World) (hn:n=l.length) (h:(Star (CellW g #[.slice A n cap] 115) (OwnK 68 4 (.slice A n cap) n (askcs l))) w0 F) (hok:BoxM.ok ⟨l⟩):Calls Tryz.prog 48 #[.pointer (some ⟨g,0,none⟩)] w0 fun e w' => e=.returned (.tuple #[(BoxM.first ⟨l⟩).val,.bool (BoxM.some_ ⟨l⟩)])∧Below w0.heap.size w0 w' := by
 obtain ⟨F1,F2,-,k1,k2,-⟩:=h
 have HS0:=jzD (CellW.new w0 #[.int .i64 0,.int .i64 0,.int .u32 0,.string ⟨#[]⟩] 68)
 have HCG:Hid (∀ w,Below w0.heap.size w0 w→w.cell? ⟨g,0,none⟩=some (.slice A n cap)):=fun w hb=>cell_at (keep_at k1.2 hb) 0 _ rfl
 clear hok k1
 have HLEN:Hid (∀ w,Below w0.heap.size w0 w→Calls Tryz.prog 50 #[.pointer (some ⟨g,0,none⟩)] w fun e w' => e=.returned (.int .i64 (n:Int))∧Below w.heap.size w w'):=by
  show ∀ _,_
  intro w hw
  have q:=HCG.out w hw
  clear hw hn k2 HS0 HCG
  go_enter Tryz.func50,Tryz.ntmps50
  go_wp2
  go_ret
  exact ⟨rfl,Below.refl _ _⟩
 cases l with
 | nil =>
  have hn0:n=0:=hn
  subst hn0
  clear hn k2
  go_enter Tryz.func48,Tryz.ntmps48
  go_wp2_with (first
   | (go_at_call 50;((with_reducible refine (dcalls_keep cS HS0.out (HLEN.out _ HS0.out.bel)).mono ?_);rintro e w1 ⟨rfl,hs⟩;have HSw1:Hid (Done w0 [] (CellW w0.heap.size (yC 0 0 0 ⟨#[]⟩) 68) w1):=(by show Done _ _ _ _;exact hs);clear hs))
   | ((with_reducible refine wpList_storeBD (C:=fun X=>X) Fr.id_ HSw1.out rfl 68 (.tmp 2) (.tmp 7) rfl #[.int .i64 0,.int .i64 0,.int .u32 0,.string ⟨#[]⟩] rfl rfl (by kernel_rfl) rfl (by simp [Value.oneCell']) ?_);intro w2 hs;have HSw2:Hid (Done w0 [] (CellW w0.heap.size (yC 0 0 0 ⟨#[]⟩) 68) w2):=(by show Done _ _ _ _;exact hs);clear hs))
  exact ⟨rfl,_,results_cell2 rfl _ _ w0.heap.size _ _ _ _ (.bool false) rfl rfl (Done.at_ (C:=fun X=>X) Fr.id_ HSw2.out) Tryz.underlying68 rfl (by kernel_rfl),rfl,HSw2.out.bel⟩
 | cons a r =>
  obtain ⟨ak,an,ai,ab⟩:=a
  have hn0:0 < n:=by rw [hn];simp
  have t1:((n:Int) == 0)=false:=beq_eq_false_iff_ne.2 (by omega)
  have b0:(0:Int) < (n:Int):=by omega
  obtain ⟨b,rfl,-,-⟩:=k2.whole hn0
  have hr:w0.rangeAt b 0 [.int .i64 ak,.int .i64 an,.int .u32 ai,.string ab]:=by
   intro j v hj
   rw [Nat.zero_add]
   have hl:j < 4:=(List.getElem?_eq_some_iff.1 hj).1
   refine k2.cell (i:=j) ?_
   show ([.int .i64 ak,.int .i64 an,.int .u32 ai,.string ab] ++ askcs r)[j]?=some v
   rw [List.getElem?_append_left (by simpa using hl)]
   exact hj
  have HRG:Hid (∀ w,Below w0.heap.size w0 w→w.rangeAt b 0 [.int .i64 ak,.int .i64 an,.int .u32 ai,.string ab]):=fun w hw=>range_bel hr hw
  clear hr k2 hn hn0
  go_enter Tryz.func48,Tryz.ntmps48
  go_wp2_with (first
   | (go_at_call 50;((with_reducible refine (dcalls_keep cS HS0.out (HLEN.out _ HS0.out.bel)).mono ?_);rintro e w1 ⟨rfl,hs⟩;have HSw1:Hid (Done w0 [] (CellW w0.heap.size (yC 0 0 0 ⟨#[]⟩) 68) w1):=(by show Done _ _ _ _;exact hs);have rg1:=HRG.out _ (Done.bel hs);have cq1:=HCG.out _ (Done.bel hs);clear hs))
   | (with_reducible refine wpList_load_mid rfl 68 (.tmp 12) rfl b 0 rfl [.int .i64 ak,.int .i64 an,.int .u32 ai,.string ab] _ rg1 Tryz.underlying68 rfl (by kernel_rfl) ?_)
   | ((with_reducible refine wpList_storeBD (C:=fun X=>X) Fr.id_ HSw1.out rfl 68 (.tmp 2) (.tmp 13) rfl #[.int .i64 ak,.int .i64 an,.int .u32 ai,.string ab] rfl rfl (by kernel_rfl) rfl (by simp [Value.oneCell']) ?_);intro w2 hs;have HSw2:Hid (Done w0 [] (CellW w0.heap.size (yC ak an ai ab) 68) w2):=(by show Done _ _ _ _;exact hs);clear hs))
  exact ⟨rfl,_,results_cell2 rfl _ _ w0.heap.size _ _ _ _ (.bool true) rfl rfl (Done.at_ (C:=fun X=>X) Fr.id_ HSw2.out) Tryz.underlying68 rfl (by kernel_rfl),rfl,HSw2.out.bel⟩
theorem BFirst_any (v:Value) (m:BoxM) (F:List Nat) (w:World) (h:BoxW v m w F):Calls Tryz.prog 48 #[v] w fun e w' => e=.returned (.tuple #[m.first.val,.bool m.some_])∧Below w.heap.size w w' := by
 obtain ⟨hok,g,A,cap,rfl,hcap,h⟩:=h.shape
 obtain ⟨l⟩:=m
 unfold BoxO at h
 simp only at h hcap hok
 obtain ⟨n,hn⟩:∃ n,n=l.length:=⟨_,rfl⟩
 rw [← hn] at h hcap
 exact BFirst_at l g n cap A F w hn h hok
theorem BFirst_nil (w:World):Calls Tryz.prog 48 #[.pointer none] w fun e w' => e=.returned (.tuple #[AIn.z.val,.bool false])∧Below w.heap.size w w' := by
 have HS0:=jzD (CellW.new w #[.int .i64 0,.int .i64 0,.int .u32 0,.string ⟨#[]⟩] 68)
 have HLN:=jzD (fun w=>BLen_nil w)
 go_enter Tryz.func48,Tryz.ntmps48
 go_wp2_with (first
  | (go_at_call 50;((with_reducible refine (dcalls_keep cS HS0.out (HLN.out _)).mono ?_);rintro e w1 ⟨rfl,hs⟩;have HSw1:Hid (Done w [] (CellW w.heap.size (yC 0 0 0 ⟨#[]⟩) 68) w1):=hs;clear hs))
  | ((with_reducible refine wpList_storeBD (C:=fun X=>X) Fr.id_ HSw1.out rfl 68 (.tmp 2) (.tmp 7) rfl #[.int .i64 0,.int .i64 0,.int .u32 0,.string ⟨#[]⟩] rfl rfl (by kernel_rfl) rfl (by simp [Value.oneCell']) ?_);intro w2 hs;have HSw2:Hid (Done w [] (CellW w.heap.size (yC 0 0 0 ⟨#[]⟩) 68) w2):=hs;clear hs))
 exact ⟨rfl,_,results_cell2 rfl _ _ w.heap.size _ _ _ _ (.bool false) rfl rfl (Done.at_ (C:=fun X=>X) Fr.id_ HSw2.out) Tryz.underlying68 rfl (by kernel_rfl),rfl,HSw2.out.bel⟩
theorem BTake_at (l:List AIn) (g n cap:Nat) (A:Option Addr) (F:List Nat) (w0:World) (hn:n=l.length) (h:(Star (CellW g #[.slice A n cap] 115) (OwnK 68 4 (.slice A n cap) n (askcs l))) w0 F) (hok:BoxM.ok ⟨l⟩):Calls Tryz.prog 49 #[.pointer (some ⟨g,0,none⟩)] w0 fun e w' => e=.returned (.tuple #[(BoxM.first ⟨l⟩).val,.bool (BoxM.some_ ⟨l⟩)])∧Done w0 F (BoxW (.pointer (some ⟨g,0,none⟩)) (BoxM.take ⟨l⟩)) w' := by
 have HS0:Hid (Done w0 F (Star (Star (CellW g #[.slice A n cap] 115) (OwnK 68 4 (.slice A n cap) n (askcs l))) (CellW w0.heap.size (yC 0 0 0 ⟨#[]⟩) 68)) (w0.alloc (.cells (yC 0 0 0 ⟨#[]⟩) 68))):=(Done.start h).add (cS.star kS) (CellW.new w0 #[.int .i64 0,.int .i64 0,.int .u32 0,.string ⟨#[]⟩] 68)
 have hfst:∀ w,Done w0 F (Star (Star (CellW g #[.slice A n cap] 115) (OwnK 68 4 (.slice A n cap) n (askcs l))) (CellW w0.heap.size (yC 0 0 0 ⟨#[]⟩) 68)) w→Calls Tryz.prog 48 #[.pointer (some ⟨g,0,none⟩)] w fun e w' => e=.returned (.tuple #[(BoxM.first ⟨l⟩).val,.bool (BoxM.some_ ⟨l⟩)])∧Below w.heap.size w w' := by
  intro w hw
  obtain ⟨F1,hF1⟩:=Done.get (C:=fun X=>Star (X) (CellW w0.heap.size (yC 0 0 0 ⟨#[]⟩) 68)) (Fr.l Fr.id_ cS) hw
  exact BFirst_at l g n cap A F1 w hn hF1 hok
 have hok2:=hok.take
 cases l with
 | nil =>
  have HFST:Hid (∀ w,Done w0 F (Star (Star (CellW g #[.slice A n cap] 115) (OwnK 68 4 (.slice A n cap) n (askcs []))) (CellW w0.heap.size (yC 0 0 0 ⟨#[]⟩) 68)) w→Calls Tryz.prog 48 #[.pointer (some ⟨g,0,none⟩)] w fun e w' => e=.returned (.tuple #[.agg #[.int .i64 0,.int .i64 0,.int .u32 0,.string ⟨#[]⟩],.bool false])∧Below w.heap.size w w'):=hfst
  have HOK:=jzD hok
  have HN:=jzD hn
  clear hok hok2 hn h hfst
  go_enter Tryz.func49,Tryz.ntmps49
  go_wp2_with (first
   | (go_at_call 48;((with_reducible refine (dcalls_keep ((cS.star kS).star cS) HS0.out (HFST.out _ HS0.out)).mono ?_);rintro e w1 ⟨rfl,hs⟩;have HSw1:Hid (Done w0 F (Star (Star (CellW g #[.slice A n cap] 115) (OwnK 68 4 (.slice A n cap) n (askcs []))) (CellW w0.heap.size (yC 0 0 0 ⟨#[]⟩) 68)) w1):=(by show Done _ _ _ _;exact hs);have HSn:Hid (Done w0 F (Star (Star (Star (CellW g #[.slice A n cap] 115) (OwnK 68 4 (.slice A n cap) n (askcs []))) (CellW w0.heap.size (yC 0 0 0 ⟨#[]⟩) 68)) (CellW w1.heap.size (yC 0 0 0 ⟨#[]⟩) 68)) (w1.alloc (.cells (yC 0 0 0 ⟨#[]⟩) 68))):=(by show Done _ _ _ _;exact HSw1.out.add ((cS.star kS).star cS) (CellW.new w1 #[.int .i64 0,.int .i64 0,.int .u32 0,.string ⟨#[]⟩] 68));clear hs))
   | ((with_reducible refine wpList_storeBD (C:=fun X=>Star (Star (Star (CellW g #[.slice A n cap] 115) (OwnK 68 4 (.slice A n cap) n (askcs []))) (CellW w0.heap.size (yC 0 0 0 ⟨#[]⟩) 68)) X) (Fr.r ((cS.star kS).star cS) Fr.id_) HSn.out rfl 68 (.tmp 4) (.tmp 9) rfl #[.int .i64 0,.int .i64 0,.int .u32 0,.string ⟨#[]⟩] rfl rfl (by kernel_rfl) rfl (by simp [Value.oneCell']) ?_);intro w3 hs;have HSw3:Hid (Done w0 F (Star (Star (Star (CellW g #[.slice A n cap] 115) (OwnK 68 4 (.slice A n cap) n (askcs []))) (CellW w0.heap.size (yC 0 0 0 ⟨#[]⟩) 68)) (CellW w1.heap.size (yC 0 0 0 ⟨#[]⟩) 68)) w3):=(by show Done _ _ _ _;exact hs);clear hs)
   | (with_reducible refine wpList_loadD (C:=fun X=>Star (Star (Star (CellW g #[.slice A n cap] 115) (OwnK 68 4 (.slice A n cap) n (askcs []))) (CellW w0.heap.size (yC 0 0 0 ⟨#[]⟩) 68)) X) (Fr.r ((cS.star kS).star cS) Fr.id_) HSw3.out rfl 68 (.tmp 4) rfl rfl _ Tryz.underlying68 rfl (by kernel_rfl) ?_)
   | ((with_reducible refine wpList_storeBD (C:=fun X=>Star (Star (Star (CellW g #[.slice A n cap] 115) (OwnK 68 4 (.slice A n cap) n (askcs []))) X) (CellW w1.heap.size (yC 0 0 0 ⟨#[]⟩) 68)) (Fr.l (Fr.r (cS.star kS) Fr.id_) cS) HSw3.out rfl 68 (.tmp 2) (.tmp 20) rfl #[.int .i64 0,.int .i64 0,.int .u32 0,.string ⟨#[]⟩] rfl rfl (by kernel_rfl) rfl (by simp [Value.oneCell']) ?_);intro w6 hs;have HSw6:Hid (Done w0 F (Star (Star (Star (CellW g #[.slice A n cap] 115) (OwnK 68 4 (.slice A n cap) n (askcs []))) (CellW w0.heap.size (yC 0 0 0 ⟨#[]⟩) 68)) (CellW w1.heap.size (yC 0 0 0 ⟨#[]⟩) 68)) w6):=(by show Done _ _ _ _;exact hs);clear hs))
  exact ⟨rfl,_,results_cell2 rfl _ _ w0.heap.size _ _ _ _ (.bool false) rfl rfl (Done.at_ (C:=fun X=>Star (Star (Star (CellW g #[.slice A n cap] 115) (OwnK 68 4 (.slice A n cap) n (askcs []))) X) (CellW w1.heap.size (yC 0 0 0 ⟨#[]⟩) 68)) (Fr.l (Fr.r (cS.star kS) Fr.id_) cS) HSw6.out) Tryz.underlying68 rfl (by kernel_rfl),rfl,HSw6.out.drop.drop.mono fun F hF=>⟨HOK.out,g,.slice A n cap,rfl,by have e:=HN.out;subst e;exact hF⟩⟩
 | cons a r =>
  obtain ⟨ak,an,ai,ab⟩:=a
  have HFST:Hid (∀ w,Done w0 F (Star (Star (CellW g #[.slice A n cap] 115) (OwnK 68 4 (.slice A n cap) n (askcs (⟨ak,an,ai,ab⟩ :: r)))) (CellW w0.heap.size (yC 0 0 0 ⟨#[]⟩) 68)) w→Calls Tryz.prog 48 #[.pointer (some ⟨g,0,none⟩)] w fun e w' => e=.returned (.tuple #[.agg #[.int .i64 ak,.int .i64 an,.int .u32 ai,.string ab],.bool true])∧Below w.heap.size w w'):=hfst
  have hn0:0 < n:=by rw [hn];simp
  obtain ⟨F2,hF2⟩:=Done.get (C:=fun X=>Star (CellW g #[.slice A n cap] 115) X) (Fr.r cS Fr.id_) (Done.start h)
  obtain ⟨b,rfl,-,-,-,-,-,hnc,hcm⟩:=hF2.whole hn0
  have HOK:=jzD hok2
  have HN:Hid (n - 1=r.length):=by show _=_;rw [hn];simp
  have HN0:=jzD hn0
  clear hF2 hn hok hok2 h hfst hn0
  go_enter Tryz.func49,Tryz.ntmps49
  go_wp2_with (first
   | (go_at_call 48;((with_reducible refine (dcalls_keep ((cS.star kS).star cS) HS0.out (HFST.out _ HS0.out)).mono ?_);rintro e w1 ⟨rfl,hs⟩;have HSw1:Hid (Done w0 F (Star (Star (CellW g #[.slice (some ⟨b,0,none⟩) n cap] 115) (OwnK 68 4 (.slice (some ⟨b,0,none⟩) n cap) n (askcs (⟨ak,an,ai,ab⟩ :: r)))) (CellW w0.heap.size (yC 0 0 0 ⟨#[]⟩) 68)) w1):=(by show Done _ _ _ _;exact hs);have HSn:Hid (Done w0 F (Star (Star (Star (CellW g #[.slice (some ⟨b,0,none⟩) n cap] 115) (OwnK 68 4 (.slice (some ⟨b,0,none⟩) n cap) n (askcs (⟨ak,an,ai,ab⟩ :: r)))) (CellW w0.heap.size (yC 0 0 0 ⟨#[]⟩) 68)) (CellW w1.heap.size (yC 0 0 0 ⟨#[]⟩) 68)) (w1.alloc (.cells (yC 0 0 0 ⟨#[]⟩) 68))):=(by show Done _ _ _ _;exact HSw1.out.add ((cS.star kS).star cS) (CellW.new w1 #[.int .i64 0,.int .i64 0,.int .u32 0,.string ⟨#[]⟩] 68));clear hs))
   | ((with_reducible refine wpList_storeBD (C:=fun X=>Star (Star (Star (CellW g #[.slice (some ⟨b,0,none⟩) n cap] 115) (OwnK 68 4 (.slice (some ⟨b,0,none⟩) n cap) n (askcs (⟨ak,an,ai,ab⟩ :: r)))) (CellW w0.heap.size (yC 0 0 0 ⟨#[]⟩) 68)) X) (Fr.r ((cS.star kS).star cS) Fr.id_) HSn.out rfl 68 (.tmp 4) (.tmp 9) rfl #[.int .i64 ak,.int .i64 an,.int .u32 ai,.string ab] rfl rfl (by kernel_rfl) rfl (by simp [Value.oneCell']) ?_);intro w3 hs;have HSw3:Hid (Done w0 F (Star (Star (Star (CellW g #[.slice (some ⟨b,0,none⟩) n cap] 115) (OwnK 68 4 (.slice (some ⟨b,0,none⟩) n cap) n (askcs (⟨ak,an,ai,ab⟩ :: r)))) (CellW w0.heap.size (yC 0 0 0 ⟨#[]⟩) 68)) (CellW w1.heap.size (yC ak an ai ab) 68)) w3):=(by show Done _ _ _ _;exact hs);clear hs;have cq3:w3.cell? ⟨g,0,none⟩=some (.slice (some ⟨b,0,none⟩) n cap):=cell_at (Done.at_ (C:=fun X=>Star (Star (Star (X) (OwnK 68 4 (.slice (some ⟨b,0,none⟩) n cap) n (askcs (⟨ak,an,ai,ab⟩ :: r)))) (CellW w0.heap.size (yC 0 0 0 ⟨#[]⟩) 68)) (CellW w1.heap.size (yC ak an ai ab) 68)) (Fr.l (Fr.l (Fr.l Fr.id_ kS) cS) cS) HSw3.out) 0 _ rfl)
   | (go_at_call 66;((with_reducible refine (SlDel_A (C:=fun X=>Star (Star (Star (CellW g #[.slice (some ⟨b,0,none⟩) n cap] 115) X) (CellW w0.heap.size (yC 0 0 0 ⟨#[]⟩) 68)) (CellW w1.heap.size (yC ak an ai ab) 68)) (Fr.l (Fr.l (Fr.r cS Fr.id_) cS) cS) HSw3.out HN0.out (askcs_one _)).mono ?_);rintro e w4 ⟨rfl,hs⟩;have HSw4:Hid (Done w0 F (Star (Star (Star (CellW g #[.slice (some ⟨b,0,none⟩) n cap] 115) (OwnK 68 4 (.slice (some ⟨b,0,none⟩) (n - 1) cap) (n - 1) ((askcs (⟨ak,an,ai,ab⟩ :: r)).drop 4))) (CellW w0.heap.size (yC 0 0 0 ⟨#[]⟩) 68)) (CellW w1.heap.size (yC ak an ai ab) 68)) w4):=(by show Done _ _ _ _;exact hs);clear hs))
   | ((with_reducible refine wpList_storeD (C:=fun X=>Star (Star (Star (X) (OwnK 68 4 (.slice (some ⟨b,0,none⟩) (n - 1) cap) (n - 1) ((askcs (⟨ak,an,ai,ab⟩ :: r)).drop 4))) (CellW w0.heap.size (yC 0 0 0 ⟨#[]⟩) 68)) (CellW w1.heap.size (yC ak an ai ab) 68)) (Fr.l (Fr.l (Fr.l Fr.id_ kS) cS) cS) HSw4.out rfl 63 (.tmp 19) (.tmp 17) rfl 0 (.slice (some ⟨b,0,none⟩) (n - 1) cap) rfl rfl (by simp) (run_storeSA _ _ _ _ _) ?_);intro w5 hs;have HSw5:Hid (Done w0 F (Star (Star (Star (CellW g #[.slice (some ⟨b,0,none⟩) (n - 1) cap] 115) (OwnK 68 4 (.slice (some ⟨b,0,none⟩) (n - 1) cap) (n - 1) ((askcs (⟨ak,an,ai,ab⟩ :: r)).drop 4))) (CellW w0.heap.size (yC 0 0 0 ⟨#[]⟩) 68)) (CellW w1.heap.size (yC ak an ai ab) 68)) w5):=(by show Done _ _ _ _;exact hs);clear hs)
   | (with_reducible refine wpList_loadD (C:=fun X=>Star (Star (Star (CellW g #[.slice (some ⟨b,0,none⟩) (n - 1) cap] 115) (OwnK 68 4 (.slice (some ⟨b,0,none⟩) (n - 1) cap) (n - 1) ((askcs (⟨ak,an,ai,ab⟩ :: r)).drop 4))) (CellW w0.heap.size (yC 0 0 0 ⟨#[]⟩) 68)) X) (Fr.r ((cS.star kS).star cS) Fr.id_) HSw5.out rfl 68 (.tmp 4) rfl rfl _ Tryz.underlying68 rfl (by kernel_rfl) ?_)
   | ((with_reducible refine wpList_storeBD (C:=fun X=>Star (Star (Star (CellW g #[.slice (some ⟨b,0,none⟩) (n - 1) cap] 115) (OwnK 68 4 (.slice (some ⟨b,0,none⟩) (n - 1) cap) (n - 1) ((askcs (⟨ak,an,ai,ab⟩ :: r)).drop 4))) X) (CellW w1.heap.size (yC ak an ai ab) 68)) (Fr.l (Fr.r (cS.star kS) Fr.id_) cS) HSw5.out rfl 68 (.tmp 2) (.tmp 20) rfl #[.int .i64 ak,.int .i64 an,.int .u32 ai,.string ab] rfl rfl (by kernel_rfl) rfl (by simp [Value.oneCell']) ?_);intro w6 hs;have HSw6:Hid (Done w0 F (Star (Star (Star (CellW g #[.slice (some ⟨b,0,none⟩) (n - 1) cap] 115) (OwnK 68 4 (.slice (some ⟨b,0,none⟩) (n - 1) cap) (n - 1) ((askcs (⟨ak,an,ai,ab⟩ :: r)).drop 4))) (CellW w0.heap.size (yC ak an ai ab) 68)) (CellW w1.heap.size (yC ak an ai ab) 68)) w6):=(by show Done _ _ _ _;exact hs);clear hs))
  refine ⟨rfl,_,results_cell2 rfl _ _ w0.heap.size _ _ _ _ (.bool true) rfl rfl (Done.at_ (C:=fun X=>Star (Star (Star (CellW g #[.slice (some ⟨b,0,none⟩) (n - 1) cap] 115) (OwnK 68 4 (.slice (some ⟨b,0,none⟩) (n - 1) cap) (n - 1) ((askcs (⟨ak,an,ai,ab⟩ :: r)).drop 4))) X) (CellW w1.heap.size (yC ak an ai ab) 68)) (Fr.l (Fr.r (cS.star kS) Fr.id_) cS) HSw6.out) Tryz.underlying68 rfl (by kernel_rfl),rfl,HSw6.out.drop.drop.mono fun F hF=>⟨HOK.out,g,.slice (some ⟨b,0,none⟩) (n - 1) cap,rfl,?_⟩⟩
  have e:=HN.out
  show BoxO g _ r w6 F
  unfold BoxO
  rw [e] at hF ⊢
  exact hF
theorem BTake_any (v:Value) (m:BoxM) (F:List Nat) (w:World) (h:BoxW v m w F):Calls Tryz.prog 49 #[v] w fun e w' => e=.returned (.tuple #[m.first.val,.bool m.some_])∧Done w F (BoxW v m.take) w' := by
 obtain ⟨hok,g,A,cap,rfl,hcap,h⟩:=h.shape
 obtain ⟨l⟩:=m
 unfold BoxO at h
 simp only at h hcap hok
 obtain ⟨n,hn⟩:∃ n,n=l.length:=⟨_,rfl⟩
 rw [← hn] at h hcap
 exact BTake_at l g n cap A F w hn h hok
theorem BTake_nil (w:World):Calls Tryz.prog 49 #[.pointer none] w fun e w' => e=.returned (.tuple #[AIn.z.val,.bool false])∧Below w.heap.size w w' := by
 have HS0:=jzD (CellW.new w #[.int .i64 0,.int .i64 0,.int .u32 0,.string ⟨#[]⟩] 68)
 have HFN:Hid (∀ w,Calls Tryz.prog 48 #[.pointer none] w fun e w' => e=.returned (.tuple #[.agg #[.int .i64 0,.int .i64 0,.int .u32 0,.string ⟨#[]⟩],.bool false])∧Below w.heap.size w w'):=fun w=>BFirst_nil w
 go_enter Tryz.func49,Tryz.ntmps49
 go_wp2_with (first
  | (go_at_call 48;((with_reducible refine (dcalls_keep cS HS0.out (HFN.out _)).mono ?_);rintro e w1 ⟨rfl,hs⟩;have HSn:Hid (Done w [] (Star (CellW w.heap.size (yC 0 0 0 ⟨#[]⟩) 68) (CellW w1.heap.size (yC 0 0 0 ⟨#[]⟩) 68)) (w1.alloc (.cells (yC 0 0 0 ⟨#[]⟩) 68))):=(by show Done _ _ _ _;exact Done.add hs cS (CellW.new w1 #[.int .i64 0,.int .i64 0,.int .u32 0,.string ⟨#[]⟩] 68));clear hs))
  | ((with_reducible refine wpList_storeBD (C:=fun X=>Star (CellW w.heap.size (yC 0 0 0 ⟨#[]⟩) 68) X) (Fr.r cS Fr.id_) HSn.out rfl 68 (.tmp 4) (.tmp 9) rfl #[.int .i64 0,.int .i64 0,.int .u32 0,.string ⟨#[]⟩] rfl rfl (by kernel_rfl) rfl (by simp [Value.oneCell']) ?_);intro w3 hs;have HSw3:Hid (Done w [] (Star (CellW w.heap.size (yC 0 0 0 ⟨#[]⟩) 68) (CellW w1.heap.size (yC 0 0 0 ⟨#[]⟩) 68)) w3):=(by show Done _ _ _ _;exact hs);clear hs)
  | (with_reducible refine wpList_loadD (C:=fun X=>Star (CellW w.heap.size (yC 0 0 0 ⟨#[]⟩) 68) X) (Fr.r cS Fr.id_) HSw3.out rfl 68 (.tmp 4) rfl rfl _ Tryz.underlying68 rfl (by kernel_rfl) ?_)
  | ((with_reducible refine wpList_storeBD (C:=fun X=>Star (X) (CellW w1.heap.size (yC 0 0 0 ⟨#[]⟩) 68)) (Fr.l Fr.id_ cS) HSw3.out rfl 68 (.tmp 2) (.tmp 20) rfl #[.int .i64 0,.int .i64 0,.int .u32 0,.string ⟨#[]⟩] rfl rfl (by kernel_rfl) rfl (by simp [Value.oneCell']) ?_);intro w6 hs;have HSw6:Hid (Done w [] (Star (CellW w.heap.size (yC 0 0 0 ⟨#[]⟩) 68) (CellW w1.heap.size (yC 0 0 0 ⟨#[]⟩) 68)) w6):=(by show Done _ _ _ _;exact hs);clear hs))
 exact ⟨rfl,_,results_cell2 rfl _ _ w.heap.size _ _ _ _ (.bool false) rfl rfl (Done.at_ (C:=fun X=>Star (X) (CellW w1.heap.size (yC 0 0 0 ⟨#[]⟩) 68)) (Fr.l Fr.id_ cS) HSw6.out) Tryz.underlying68 rfl (by kernel_rfl),rfl,HSw6.out.bel⟩
theorem BPut_at (l:List AIn) (g n cap:Nat) (A:Option Addr) (F:List Nat) (ak an ai:Int) (ab:ByteArray) (w0:World) (hn:n=l.length) (h:(Star (CellW g #[.slice A n cap] 115) (OwnK 68 4 (.slice A n cap) n (askcs l))) w0 F) (hok:BoxM.ok ⟨l⟩) (ha:(⟨ak,an,ai,ab⟩:AIn).ok):Calls Tryz.prog 47 #[.pointer (some ⟨g,0,none⟩),.agg #[.int .i64 ak,.int .i64 an,.int .u32 ai,.string ab]] w0 fun e w' => e=.returned (.int .i64 (BoxM.putE ⟨l⟩ ⟨ak,an,ai,ab⟩))∧Done w0 F (BoxW (.pointer (some ⟨g,0,none⟩)) (BoxM.put ⟨l⟩ ⟨ak,an,ai,ab⟩)) w' := by
 have HS0:Hid (Done w0 F (Star (Star (CellW g #[.slice A n cap] 115) (OwnK 68 4 (.slice A n cap) n (askcs l))) (CellW w0.heap.size (yC ak an ai ab) 68)) (w0.alloc (.cells (yC ak an ai ab) 68))):=(Done.start h).add (cS.star kS) (CellW.new w0 #[.int .i64 ak,.int .i64 an,.int .u32 ai,.string ab] 68)
 have hmy:=fun w=>BMay_all (⟨ak,an,ai,ab⟩:AIn) w
 have HOK:=jzD hok
 have HN:=jzD hn
 cases hm:mayA ⟨ak,an,ai,ab⟩ with
 | false =>
  rw [hm] at hmy
  have HMY:=jzD hmy
  rw [show BoxM.putE ⟨l⟩ ⟨ak,an,ai,ab⟩=1 by unfold BoxM.putE;rw [hm];rfl,show BoxM.put ⟨l⟩ ⟨ak,an,ai,ab⟩=⟨l⟩ by unfold BoxM.put;rw [hm];rfl]
  clear hmy hn h hok ha hm
  go_enter Tryz.func47,Tryz.ntmps47
  go_wp2_with (first
   | (with_reducible refine wpList_loadD (C:=fun X=>Star (Star (CellW g #[.slice A n cap] 115) (OwnK 68 4 (.slice A n cap) n (askcs l))) X) (Fr.r (cS.star kS) Fr.id_) HS0.out rfl 68 (.tmp 3) rfl rfl _ Tryz.underlying68 rfl (by kernel_rfl) ?_)
   | (go_at_call 46;((with_reducible refine (dcalls_keep ((cS.star kS).star cS) HS0.out (HMY.out _)).mono ?_);rintro e w1 ⟨rfl,hs⟩;have HSw1:Hid (Done w0 F (Star (Star (CellW g #[.slice A n cap] 115) (OwnK 68 4 (.slice A n cap) n (askcs l))) (CellW w0.heap.size (yC ak an ai ab) 68)) w1):=(by show Done _ _ _ _;exact hs);clear hs)))
  go_ret
  refine ⟨rfl,HSw1.out.drop.mono fun F hF=>⟨HOK.out,g,.slice A n cap,rfl,?_⟩⟩
  have e:=HN.out
  subst e
  exact hF
 | true =>
  rw [hm] at hmy
  have HMY:=jzD hmy
  have hbs:=may_body hm
  by_cases hf:8≤n
  · rw [show BoxM.putE ⟨l⟩ ⟨ak,an,ai,ab⟩=3 by unfold BoxM.putE;rw [hm,if_pos rfl,if_pos (by show 8≤l.length;omega)],show BoxM.put ⟨l⟩ ⟨ak,an,ai,ab⟩=⟨l⟩ by unfold BoxM.put;rw [hm,if_pos rfl,if_pos (by show 8≤l.length;omega)]]
    have t1:decide ((8:Int)≤(n:Int))=true:=decide_eq_true (by omega)
    clear hmy hn h hok ha hm hf hbs
    go_enter Tryz.func47,Tryz.ntmps47
    go_wp2_with (first
     | (with_reducible refine wpList_loadD (C:=fun X=>Star (Star (CellW g #[.slice A n cap] 115) (OwnK 68 4 (.slice A n cap) n (askcs l))) X) (Fr.r (cS.star kS) Fr.id_) HS0.out rfl 68 (.tmp 3) rfl rfl _ Tryz.underlying68 rfl (by kernel_rfl) ?_)
     | (go_at_call 46;((with_reducible refine (dcalls_keep ((cS.star kS).star cS) HS0.out (HMY.out _)).mono ?_);rintro e w1 ⟨rfl,hs⟩;have HSw1:Hid (Done w0 F (Star (Star (CellW g #[.slice A n cap] 115) (OwnK 68 4 (.slice A n cap) n (askcs l))) (CellW w0.heap.size (yC ak an ai ab) 68)) w1):=(by show Done _ _ _ _;exact hs);have cq1:w1.cell? ⟨g,0,none⟩=some (.slice A n cap):=cell_at (Done.at_ (C:=fun X=>Star (Star (X) (OwnK 68 4 (.slice A n cap) n (askcs l))) (CellW w0.heap.size (yC ak an ai ab) 68)) (Fr.l (Fr.l Fr.id_ kS) cS) HSw1.out) 0 _ rfl;clear hs)))
    go_ret
    refine ⟨rfl,HSw1.out.drop.mono fun F hF=>⟨HOK.out,g,.slice A n cap,rfl,?_⟩⟩
    have e:=HN.out
    subst e
    exact hF
  · have hok2:=hok.put ha
    have e2:BoxM.put ⟨l⟩ ⟨ak,an,ai,ab⟩=⟨l ++ [(⟨ak,an,ai,ab⟩:AIn)]⟩:=by unfold BoxM.put;rw [hm,if_pos rfl,if_neg (by show ¬ 8≤l.length;omega)]
    rw [e2] at hok2
    rw [e2,show BoxM.putE ⟨l⟩ ⟨ak,an,ai,ab⟩=0 by unfold BoxM.putE;rw [hm,if_pos rfl,if_neg (by show ¬ 8≤l.length;omega)]]
    have HOK2:=jzD hok2
    have t1:decide ((8:Int)≤(n:Int))=false:=decide_eq_false (by omega)
    have HB:Hid (n + 1≤1000000):=by show _≤_;omega
    have HCL:Hid (∀ w,Calls Tryz.prog 58 #[.string ab] w fun e w' => e=.returned (.string ab)∧Below w.heap.size w w'):=fun w=>SClone_any ab w (by have : ab.size≤64:=hbs;omega)
    clear hmy hn h hok hok2 e2 ha hm hf hbs
    go_enter Tryz.func47,Tryz.ntmps47
    go_wp2_with (first
     | (with_reducible refine wpList_loadD (C:=fun X=>Star (Star (CellW g #[.slice A n cap] 115) (OwnK 68 4 (.slice A n cap) n (askcs l))) X) (Fr.r (cS.star kS) Fr.id_) HS0.out rfl 68 (.tmp 3) rfl rfl _ Tryz.underlying68 rfl (by kernel_rfl) ?_)
     | (go_at_call 46;((with_reducible refine (dcalls_keep ((cS.star kS).star cS) HS0.out (HMY.out _)).mono ?_);rintro e w1 ⟨rfl,hs⟩;have HSw1:Hid (Done w0 F (Star (Star (CellW g #[.slice A n cap] 115) (OwnK 68 4 (.slice A n cap) n (askcs l))) (CellW w0.heap.size (yC ak an ai ab) 68)) w1):=(by show Done _ _ _ _;exact hs);have cq1:w1.cell? ⟨g,0,none⟩=some (.slice A n cap):=cell_at (Done.at_ (C:=fun X=>Star (Star (X) (OwnK 68 4 (.slice A n cap) n (askcs l))) (CellW w0.heap.size (yC ak an ai ab) 68)) (Fr.l (Fr.l Fr.id_ kS) cS) HSw1.out) 0 _ rfl;have cb1:w1.cell? ⟨w0.heap.size,3,none⟩=some (.string ab):=cell_at (Done.at_ (C:=fun X=>Star (Star (CellW g #[.slice A n cap] 115) (OwnK 68 4 (.slice A n cap) n (askcs l))) X) (Fr.r (cS.star kS) Fr.id_) HSw1.out) 3 _ rfl;clear hs))
     | (go_at_call 58;((with_reducible refine (dcalls_keep ((cS.star kS).star cS) HSw1.out (HCL.out _)).mono ?_);rintro e w2 ⟨rfl,hs⟩;have HSw2:Hid (Done w0 F (Star (Star (CellW g #[.slice A n cap] 115) (OwnK 68 4 (.slice A n cap) n (askcs l))) (CellW w0.heap.size (yC ak an ai ab) 68)) w2):=(by show Done _ _ _ _;exact hs);clear hs))
     | ((with_reducible refine wpList_storeD (C:=fun X=>Star (Star (CellW g #[.slice A n cap] 115) (OwnK 68 4 (.slice A n cap) n (askcs l))) X) (Fr.r (cS.star kS) Fr.id_) HSw2.out rfl 9 (.tmp 22) (.tmp 21) rfl 3 (.string ab) rfl rfl (by simp) (run_storeSg _ _ _) ?_);intro w3 hs;have HSw3:Hid (Done w0 F (Star (Star (CellW g #[.slice A n cap] 115) (OwnK 68 4 (.slice A n cap) n (askcs l))) (CellW w0.heap.size (yC ak an ai ab) 68)) w3):=(by show Done _ _ _ _;exact hs);clear hs))
    have HSd:=jzD (HSw3.out.drewD ((cS.star kS).star cS))
    have HEd:Hid ((fun _=>True) w3.drew):=jzD trivial
    refine rests_begin (fun _=>True) (by kernel_rfl) ?_
    refine rtk 0 HEd.out ?_
    refine rtk 1 HEd.out ?_
    refine rtk 2 HEd.out ?_
    refine rtk 3 HEd.out ?_
    refine rests_two 4 5 (oi:=_) (oj:=_) (by simp only [jzG,jzH,jzI];rfl) (by simp only [jzG,jzH,jzI];rfl) (by kernel_rfl) (by rfl) (by rfl) ?_ ?_
    · have cq4:(w3.drew).cell? ⟨g,0,none⟩=some (.slice A n cap):=cell_at (Done.at_ (C:=fun X=>Star (Star (X) (OwnK 68 4 (.slice A n cap) n (askcs l))) (CellW w0.heap.size (yC ak an ai ab) 68)) (Fr.l (Fr.l Fr.id_ kS) cS) HSd.out) 0 _ rfl
      refine wp_val (v:=.slice A n cap) (w' := w3.drew) (by go_simp) ⟨HEd.out,?_⟩
      clear cq4
      simp only [Act.put,jzU,jzV,jzW]
      refine rests_run 5 (oi:=_) (by simp only [jzG,jzH,jzI];rfl) (by kernel_rfl) (by rfl) (.agg #[.int .i64 ak,.int .i64 an,.int .u32 ai,.string ab]) (w3.drew) (exec_loadB rfl rfl (Done.at_ (C:=fun X=>Star (Star (CellW g #[.slice A n cap] 115) (OwnK 68 4 (.slice A n cap) n (askcs l))) X) (Fr.r (cS.star kS) Fr.id_) HSd.out) Tryz.underlying68 rfl (by kernel_rfl)) ⟨HEd.out,?_⟩
      simp only [Act.put,jzU,jzV,jzW]
      obtain ⟨g5,hg5⟩:∃ g,g=(w3.drew).heap.size:=⟨_,rfl⟩
      have hal5:=CellW.new (w3.drew) #[.int .i64 ak,.int .i64 an,.int .u32 ai,.string ab] 68
      rw [← hg5] at hal5
      obtain ⟨w5,hw5⟩:∃ wz,wz=(w3.drew).alloc (.cells (yC ak an ai ab) 68):=⟨_,rfl⟩
      rw [← hw5] at hal5
      have HS5:=jzD (HSd.out.add ((cS.star kS).star cS) hal5)
      have HE5:Hid ((fun _=>True) w5):=jzD trivial
      refine rests_run 6 (oi:=_) (by simp only [jzG,jzH,jzI];rfl) (by kernel_rfl) (by rfl) (.slice (some ⟨g5,0,none⟩) 1 1) w5 (by rw [hg5,hw5];go_simp) ⟨HE5.out,?_⟩
      clear hg5 hal5 hw5
      simp only [Act.put,jzU,jzV,jzW]
      refine rests_appD 7 (oi:=_) (by simp only [jzG,jzH,jzI];rfl) (by kernel_rfl) (by rfl) (C:=fun X=>Star (Star (Star (CellW g #[.slice A n cap] 115) X) (CellW w0.heap.size (yC ak an ai ab) 68)) (CellW g5 (yC ak an ai ab) 68)) (Fr.l (Fr.l (Fr.r cS Fr.id_) cS) cS) HS5.out (.tmp 27) (.tmp 29) 63 40 (.agg #[.int .i64 0,.int .i64 0,.int .u32 0,.string ⟨#[]⟩]) rfl Tryz.underlying63 (by kernel_rfl) rfl (by decide) (.slice (some ⟨g5,0,none⟩) 1 1) 1 [.int .i64 ak,.int .i64 an,.int .u32 ai,.string ab] rfl rfl ((rdG_new (Done.at_ (C:=fun X=>Star (Star (Star (CellW g #[.slice A n cap] 115) (OwnK 68 4 (.slice A n cap) n (askcs l))) (CellW w0.heap.size (yC ak an ai ab) 68)) X) (Fr.r ((cS.star kS).star cS) Fr.id_) HS5.out) rfl)) (by simp [Value.oneCell']) (n + 1) rfl HB.out (askcs (l ++ [(⟨ak,an,ai,ab⟩:AIn)])) (askcs_app _ _) ?_
      intro A6 c6 w6 hs hc;have HS6:=jzD hs;have HE6:Hid ((fun _=>True) w6):=jzD trivial;have HC6:=jzD hc;refine ⟨HE6.out,?_⟩;clear hs hc
      simp only [Act.put,jzU,jzV,jzW]
      refine rtk 8 HE6.out ?_
      refine rtk 9 HE6.out ?_
      refine rests_store1 10 (oi:=_) (by simp only [jzG,jzH,jzI];rfl) (by kernel_rfl) (by rfl) 63 (.tmp 32) (.tmp 30) rfl g 0 (.slice A6 (n + 1) c6) rfl rfl 115 _ (Done.at_ (C:=fun X=>Star (Star (Star (X) (OwnK 68 4 (.slice A6 (n + 1) c6) (n + 1) (askcs (l ++ [(⟨ak,an,ai,ab⟩:AIn)])))) (CellW w0.heap.size (yC ak an ai ab) 68)) (CellW g5 (yC ak an ai ab) 68)) (Fr.l (Fr.l (Fr.l Fr.id_ kS) cS) cS) HS6.out) (by simp) (run_storeSA _ _ _ _ _) ?_
      intro w7 hg hh;have HS7:Hid (Done w0 F (Star (Star (Star (CellW g #[.slice A6 (n + 1) c6] 115) (OwnK 68 4 (.slice A6 (n + 1) c6) (n + 1) (askcs (l ++ [(⟨ak,an,ai,ab⟩:AIn)])))) (CellW w0.heap.size (yC ak an ai ab) 68)) (CellW g5 (yC ak an ai ab) 68)) w7):=Done.put_ (C:=fun X=>Star (Star (Star (X) (OwnK 68 4 (.slice A6 (n + 1) c6) (n + 1) (askcs (l ++ [(⟨ak,an,ai,ab⟩:AIn)])))) (CellW w0.heap.size (yC ak an ai ab) 68)) (CellW g5 (yC ak an ai ab) 68)) (Fr.l (Fr.l (Fr.l Fr.id_ kS) cS) cS) HS6.out hg hh;have HE7:Hid ((fun _=>True) w7):=jzD trivial;refine ⟨HE7.out,?_⟩;clear hg hh
      simp only [Act.put,jzU,jzV,jzW]
      refine rests_done (by kernel_rfl) ?_
      go_wp2
      go_ret
      refine ⟨rfl,HS7.out.drop.drop.mono fun F hF=>⟨HOK2.out,g,.slice A6 (n + 1) c6,rfl,?_⟩⟩
      have e:(l ++ [(⟨ak,an,ai,ab⟩:AIn)]).length=n + 1:=by rw [HN.out];simp
      unfold BoxO
      simp only
      rw [e]
      exact hF
    · refine wp_val (v:=.agg #[.int .i64 ak,.int .i64 an,.int .u32 ai,.string ab]) (w' := w3.drew) (exec_loadB rfl rfl (Done.at_ (C:=fun X=>Star (Star (CellW g #[.slice A n cap] 115) (OwnK 68 4 (.slice A n cap) n (askcs l))) X) (Fr.r (cS.star kS) Fr.id_) HSd.out) Tryz.underlying68 rfl (by kernel_rfl)) ⟨HEd.out,?_⟩
      simp only [Act.put,jzU,jzV,jzW]
      refine rests_two 4 6 (oi:=_) (oj:=_) (by simp only [jzG,jzH,jzI];rfl) (by simp only [jzG,jzH,jzI];rfl) (by kernel_rfl) (by rfl) (by rfl) ?_ ?_
      · have cq4:(w3.drew).cell? ⟨g,0,none⟩=some (.slice A n cap):=cell_at (Done.at_ (C:=fun X=>Star (Star (X) (OwnK 68 4 (.slice A n cap) n (askcs l))) (CellW w0.heap.size (yC ak an ai ab) 68)) (Fr.l (Fr.l Fr.id_ kS) cS) HSd.out) 0 _ rfl
        refine wp_val (v:=.slice A n cap) (w' := w3.drew) (by go_simp) ⟨HEd.out,?_⟩
        clear cq4
        simp only [Act.put,jzU,jzV,jzW]
        obtain ⟨g5,hg5⟩:∃ g,g=(w3.drew).heap.size:=⟨_,rfl⟩
        have hal5:=CellW.new (w3.drew) #[.int .i64 ak,.int .i64 an,.int .u32 ai,.string ab] 68
        rw [← hg5] at hal5
        obtain ⟨w5,hw5⟩:∃ wz,wz=(w3.drew).alloc (.cells (yC ak an ai ab) 68):=⟨_,rfl⟩
        rw [← hw5] at hal5
        have HS5:=jzD (HSd.out.add ((cS.star kS).star cS) hal5)
        have HE5:Hid ((fun _=>True) w5):=jzD trivial
        refine rests_run 6 (oi:=_) (by simp only [jzG,jzH,jzI];rfl) (by kernel_rfl) (by rfl) (.slice (some ⟨g5,0,none⟩) 1 1) w5 (by rw [hg5,hw5];go_simp) ⟨HE5.out,?_⟩
        clear hg5 hal5 hw5
        simp only [Act.put,jzU,jzV,jzW]
        refine rests_appD 7 (oi:=_) (by simp only [jzG,jzH,jzI];rfl) (by kernel_rfl) (by rfl) (C:=fun X=>Star (Star (Star (CellW g #[.slice A n cap] 115) X) (CellW w0.heap.size (yC ak an ai ab) 68)) (CellW g5 (yC ak an ai ab) 68)) (Fr.l (Fr.l (Fr.r cS Fr.id_) cS) cS) HS5.out (.tmp 27) (.tmp 29) 63 40 (.agg #[.int .i64 0,.int .i64 0,.int .u32 0,.string ⟨#[]⟩]) rfl Tryz.underlying63 (by kernel_rfl) rfl (by decide) (.slice (some ⟨g5,0,none⟩) 1 1) 1 [.int .i64 ak,.int .i64 an,.int .u32 ai,.string ab] rfl rfl ((rdG_new (Done.at_ (C:=fun X=>Star (Star (Star (CellW g #[.slice A n cap] 115) (OwnK 68 4 (.slice A n cap) n (askcs l))) (CellW w0.heap.size (yC ak an ai ab) 68)) X) (Fr.r ((cS.star kS).star cS) Fr.id_) HS5.out) rfl)) (by simp [Value.oneCell']) (n + 1) rfl HB.out (askcs (l ++ [(⟨ak,an,ai,ab⟩:AIn)])) (askcs_app _ _) ?_
        intro A6 c6 w6 hs hc;have HS6:=jzD hs;have HE6:Hid ((fun _=>True) w6):=jzD trivial;have HC6:=jzD hc;refine ⟨HE6.out,?_⟩;clear hs hc
        simp only [Act.put,jzU,jzV,jzW]
        refine rtk 8 HE6.out ?_
        refine rtk 9 HE6.out ?_
        refine rests_store1 10 (oi:=_) (by simp only [jzG,jzH,jzI];rfl) (by kernel_rfl) (by rfl) 63 (.tmp 32) (.tmp 30) rfl g 0 (.slice A6 (n + 1) c6) rfl rfl 115 _ (Done.at_ (C:=fun X=>Star (Star (Star (X) (OwnK 68 4 (.slice A6 (n + 1) c6) (n + 1) (askcs (l ++ [(⟨ak,an,ai,ab⟩:AIn)])))) (CellW w0.heap.size (yC ak an ai ab) 68)) (CellW g5 (yC ak an ai ab) 68)) (Fr.l (Fr.l (Fr.l Fr.id_ kS) cS) cS) HS6.out) (by simp) (run_storeSA _ _ _ _ _) ?_
        intro w7 hg hh;have HS7:Hid (Done w0 F (Star (Star (Star (CellW g #[.slice A6 (n + 1) c6] 115) (OwnK 68 4 (.slice A6 (n + 1) c6) (n + 1) (askcs (l ++ [(⟨ak,an,ai,ab⟩:AIn)])))) (CellW w0.heap.size (yC ak an ai ab) 68)) (CellW g5 (yC ak an ai ab) 68)) w7):=Done.put_ (C:=fun X=>Star (Star (Star (X) (OwnK 68 4 (.slice A6 (n + 1) c6) (n + 1) (askcs (l ++ [(⟨ak,an,ai,ab⟩:AIn)])))) (CellW w0.heap.size (yC ak an ai ab) 68)) (CellW g5 (yC ak an ai ab) 68)) (Fr.l (Fr.l (Fr.l Fr.id_ kS) cS) cS) HS6.out hg hh;have HE7:Hid ((fun _=>True) w7):=jzD trivial;refine ⟨HE7.out,?_⟩;clear hg hh
        simp only [Act.put,jzU,jzV,jzW]
        refine rests_done (by kernel_rfl) ?_
        go_wp2
        go_ret
        refine ⟨rfl,HS7.out.drop.drop.mono fun F hF=>⟨HOK2.out,g,.slice A6 (n + 1) c6,rfl,?_⟩⟩
        have e:(l ++ [(⟨ak,an,ai,ab⟩:AIn)]).length=n + 1:=by rw [HN.out];simp
        unfold BoxO
        simp only
        rw [e]
        exact hF
      · obtain ⟨g4,hg4⟩:∃ g,g=(w3.drew).heap.size:=⟨_,rfl⟩
        have hal4:=CellW.new (w3.drew) #[.int .i64 ak,.int .i64 an,.int .u32 ai,.string ab] 68
        rw [← hg4] at hal4
        obtain ⟨w4,hw4⟩:∃ wz,wz=(w3.drew).alloc (.cells (yC ak an ai ab) 68):=⟨_,rfl⟩
        rw [← hw4] at hal4
        have HS4:=jzD (HSd.out.add ((cS.star kS).star cS) hal4)
        have HE4:Hid ((fun _=>True) w4):=jzD trivial
        refine wp_val (v:=.slice (some ⟨g4,0,none⟩) 1 1) (w' := w4) (by rw [hg4,hw4];go_simp) ⟨HE4.out,?_⟩
        clear hg4 hal4 hw4
        simp only [Act.put,jzU,jzV,jzW]
        have cq5:(w4).cell? ⟨g,0,none⟩=some (.slice A n cap):=cell_at (Done.at_ (C:=fun X=>Star (Star (Star (X) (OwnK 68 4 (.slice A n cap) n (askcs l))) (CellW w0.heap.size (yC ak an ai ab) 68)) (CellW g4 (yC ak an ai ab) 68)) (Fr.l (Fr.l (Fr.l Fr.id_ kS) cS) cS) HS4.out) 0 _ rfl
        refine rests_run 4 (oi:=_) (by simp only [jzG,jzH,jzI];rfl) (by kernel_rfl) (by rfl) (.slice A n cap) (w4) (by go_simp) ⟨HE4.out,?_⟩
        clear cq5
        simp only [Act.put,jzU,jzV,jzW]
        refine rests_appD 7 (oi:=_) (by simp only [jzG,jzH,jzI];rfl) (by kernel_rfl) (by rfl) (C:=fun X=>Star (Star (Star (CellW g #[.slice A n cap] 115) X) (CellW w0.heap.size (yC ak an ai ab) 68)) (CellW g4 (yC ak an ai ab) 68)) (Fr.l (Fr.l (Fr.r cS Fr.id_) cS) cS) HS4.out (.tmp 27) (.tmp 29) 63 40 (.agg #[.int .i64 0,.int .i64 0,.int .u32 0,.string ⟨#[]⟩]) rfl Tryz.underlying63 (by kernel_rfl) rfl (by decide) (.slice (some ⟨g4,0,none⟩) 1 1) 1 [.int .i64 ak,.int .i64 an,.int .u32 ai,.string ab] rfl rfl ((rdG_new (Done.at_ (C:=fun X=>Star (Star (Star (CellW g #[.slice A n cap] 115) (OwnK 68 4 (.slice A n cap) n (askcs l))) (CellW w0.heap.size (yC ak an ai ab) 68)) X) (Fr.r ((cS.star kS).star cS) Fr.id_) HS4.out) rfl)) (by simp [Value.oneCell']) (n + 1) rfl HB.out (askcs (l ++ [(⟨ak,an,ai,ab⟩:AIn)])) (askcs_app _ _) ?_
        intro A6 c6 w6 hs hc;have HS6:=jzD hs;have HE6:Hid ((fun _=>True) w6):=jzD trivial;have HC6:=jzD hc;refine ⟨HE6.out,?_⟩;clear hs hc
        simp only [Act.put,jzU,jzV,jzW]
        refine rtk 8 HE6.out ?_
        refine rtk 9 HE6.out ?_
        refine rests_store1 10 (oi:=_) (by simp only [jzG,jzH,jzI];rfl) (by kernel_rfl) (by rfl) 63 (.tmp 32) (.tmp 30) rfl g 0 (.slice A6 (n + 1) c6) rfl rfl 115 _ (Done.at_ (C:=fun X=>Star (Star (Star (X) (OwnK 68 4 (.slice A6 (n + 1) c6) (n + 1) (askcs (l ++ [(⟨ak,an,ai,ab⟩:AIn)])))) (CellW w0.heap.size (yC ak an ai ab) 68)) (CellW g4 (yC ak an ai ab) 68)) (Fr.l (Fr.l (Fr.l Fr.id_ kS) cS) cS) HS6.out) (by simp) (run_storeSA _ _ _ _ _) ?_
        intro w7 hg hh;have HS7:Hid (Done w0 F (Star (Star (Star (CellW g #[.slice A6 (n + 1) c6] 115) (OwnK 68 4 (.slice A6 (n + 1) c6) (n + 1) (askcs (l ++ [(⟨ak,an,ai,ab⟩:AIn)])))) (CellW w0.heap.size (yC ak an ai ab) 68)) (CellW g4 (yC ak an ai ab) 68)) w7):=Done.put_ (C:=fun X=>Star (Star (Star (X) (OwnK 68 4 (.slice A6 (n + 1) c6) (n + 1) (askcs (l ++ [(⟨ak,an,ai,ab⟩:AIn)])))) (CellW w0.heap.size (yC ak an ai ab) 68)) (CellW g4 (yC ak an ai ab) 68)) (Fr.l (Fr.l (Fr.l Fr.id_ kS) cS) cS) HS6.out hg hh;have HE7:Hid ((fun _=>True) w7):=jzD trivial;refine ⟨HE7.out,?_⟩;clear hg hh
        simp only [Act.put,jzU,jzV,jzW]
        refine rests_done (by kernel_rfl) ?_
        go_wp2
        go_ret
        refine ⟨rfl,HS7.out.drop.drop.mono fun F hF=>⟨HOK2.out,g,.slice A6 (n + 1) c6,rfl,?_⟩⟩
        have e:(l ++ [(⟨ak,an,ai,ab⟩:AIn)]).length=n + 1:=by rw [HN.out];simp
        unfold BoxO
        simp only
        rw [e]
        exact hF
theorem BPut_any (v:Value) (m:BoxM) (F:List Nat) (a:AIn) (w:World) (h:BoxW v m w F) (ha:a.ok):Calls Tryz.prog 47 #[v,a.val] w fun e w' => e=.returned (.int .i64 (m.putE a))∧Done w F (BoxW v (m.put a)) w' := by
 obtain ⟨hok,g,A,cap,rfl,hcap,h⟩:=h.shape
 obtain ⟨l⟩:=m
 unfold BoxO at h
 simp only at h hcap hok
 obtain ⟨n,hn⟩:∃ n,n=l.length:=⟨_,rfl⟩
 rw [← hn] at h hcap
 exact BPut_at l g n cap A F a.kind a.n a.id a.body w hn h hok ha
theorem BPut_nil (a:AIn) (w:World):Calls Tryz.prog 47 #[.pointer none,a.val] w fun e w' => e=.returned (.int .i64 6)∧Below w.heap.size w w' := by
 obtain ⟨ak,an,ai,ab⟩:=a
 go_enter Tryz.func47,Tryz.ntmps47
 go_wp2
 go_ret
 exact ⟨rfl,bel0x _ _ _⟩
end Go.Proofs.YtjddbjmcjhjpiaaGreatDoor
