/- Of layer 4: Tb, OpenTuples, TupMem, RefTup, RefTup2, LFew. -/
import Derived.Test.YtjddbjmcjhjpiaaGreatDoorM4A
import Derived.Test.YtjddbjmcjhjpiaaGreatDoorM4D
import Derived.WalkSpells
import Derived.Laws.StructEq

set_option linter.all false

namespace Go.Proofs.YtjddbjmcjhjpiaaGreatDoor

abbrev Tp:=Int × List UInt8

def tb (t:Tp):List UInt8:=UInt8.ofNat t.1.toNat :: UInt8.ofNat t.2.length :: t.2
def okT (t:Tp):Prop:=0≤t.1∧t.1≤255∧t.2.length≤40
instance (t:Tp):Decidable (okT t):=by unfold okT;infer_instance
def flat (l:List Tp):List UInt8:=l.flatMap tb

def putT (l:List Tp):Option (List UInt8):=if (∀ t ∈ l,okT t)∧(flat l).length≤64 then some (flat l) else none

def getL:List UInt8→Option (List Tp)
 | []=>some []
 | [_]=>none
 | a :: n :: r=>if 40 < n.toNat ∨ r.length < n.toNat then none else (getL (r.drop n.toNat)).map ((((a.toNat:Nat):Int),r.take n.toNat) :: ·)
termination_by s=>s.length
decreasing_by simp only [List.length_drop,List.length_cons];omega

def getT (s:List UInt8):Option (List Tp):=if s.length≤64 then getL s else none

theorem getL_nil:getL []=some []:=by unfold getL;rfl
theorem getL_one (a:UInt8):getL [a]=none:=by unfold getL;rfl
theorem getL_two (a n:UInt8) (r:List UInt8):getL (a :: n :: r)=if 40 < n.toNat ∨ r.length < n.toNat then none else (getL (r.drop n.toNat)).map ((((a.toNat:Nat):Int),r.take n.toNat) :: ·):=by
 rw [getL]

theorem flat_nil:flat []=[]:=rfl
theorem flat_cons (t:Tp) (l:List Tp):flat (t :: l)=tb t ++ flat l:=rfl
theorem flat_append (a b:List Tp):flat (a ++ b)=flat a ++ flat b:=by unfold flat;rw [List.flatMap_append]
theorem tb_len (t:Tp):(tb t).length=t.2.length + 2:=rfl

theorem getL_tb {t:Tp} (h:okT t) (s:List UInt8):getL (tb t ++ s)=(getL s).map (t :: ·):=by
 obtain ⟨i,v⟩:=t
 unfold okT at h
 simp only at h
 have hn:(UInt8.ofNat v.length).toNat=v.length:=by rw [UInt8.toNat_ofNat'];omega
 have hi:(((UInt8.ofNat i.toNat).toNat:Nat):Int)=i:=by rw [UInt8.toNat_ofNat'];omega
 show getL (UInt8.ofNat i.toNat :: UInt8.ofNat v.length :: (v ++ s))=_
 rw [getL_two,hn,if_neg (by rw [List.length_append];omega),List.drop_left,List.take_left,hi]

theorem getL_append {l:List Tp} (h:∀ t ∈ l,okT t) (s:List UInt8):getL (flat l ++ s)=(getL s).map (l ++ ·):=by
 induction l with
 | nil=>rw [flat_nil,List.nil_append];cases getL s <;> rfl
 | cons t l ih =>
  rw [flat_cons,List.append_assoc,getL_tb (h t (List.mem_cons_self ..)),ih (fun x hx=>h x (List.mem_cons_of_mem _ hx))]
  cases getL s <;> rfl

theorem getL_flat {l:List Tp} (h:∀ t ∈ l,okT t):getL (flat l)=some l:=by
 have := getL_append h []
 rw [List.append_nil,getL_nil] at this
 rw [this];simp

theorem flat_getL:∀ (n:Nat) (s:List UInt8),s.length≤n→∀ l,getL s=some l→flat l=s∧∀ t ∈ l,okT t
 | _,[],_,l,h=>by
  rw [getL_nil] at h;injection h with h;subst h
  exact ⟨rfl,by intro t ht;cases ht⟩
 | _,[a],_,l,h=>by rw [getL_one] at h;cases h
 | 0,a :: b :: r,hn,l,h=>by simp at hn
 | n + 1,a :: b :: r,hn,l,h=>by
  rw [getL_two] at h
  split at h
  · cases h
  · rename_i hc
    have ih:=flat_getL n (r.drop b.toNat) (by simp only [List.length_cons] at hn;rw [List.length_drop];omega)
    cases hg:getL (r.drop b.toNat) with
    | none=>rw [hg] at h;cases h
    | some m =>
     rw [hg] at h
     injection h with h
     subst h
     obtain ⟨h1,h2⟩:=ih m hg
     have ha:=a.toNat_lt
     have hlen:(r.take b.toNat).length=b.toNat:=by rw [List.length_take];omega
     refine ⟨?_,?_⟩
     · rw [flat_cons,h1]
       unfold tb
       simp only [hlen]
       rw [show (((a.toNat:Nat):Int)).toNat=a.toNat from rfl,UInt8.ofNat_toNat,UInt8.ofNat_toNat]
       simp only [List.cons_append,List.take_append_drop]
     · intro t ht
       rcases List.mem_cons.1 ht with rfl | ht
       · exact ⟨by simp,by simp only;omega,by simp only;omega⟩
       · exact h2 t ht

theorem getL_some {s:List UInt8} {l:List Tp} (h:getL s=some l):flat l=s∧∀ t ∈ l,okT t:=flat_getL _ s (Nat.le_refl _) l h

theorem getT_putT {l:List Tp} {s:List UInt8} (h:putT l=some s):getT s=some l:=by
 unfold putT at h
 split at h
 · rename_i hc
   injection h with h
   subst h
   unfold getT
   rw [if_pos hc.2,getL_flat hc.1]
 · cases h

end Go.Proofs.YtjddbjmcjhjpiaaGreatDoor
namespace Go.Proofs.YtjddbjmcjhjpiaaGreatDoor
open Go.ChangeShapes Go.WideShapes Go.ChangeAt Go.RowKit

def IsTs (w:World) (v:Value) (n:Nat) (ID:Nat→Int) (T:Nat→ByteArray):Prop :=
 (v=.slice none 0 0∧n=0) ∨ ∃ (a:Addr) (cap:Nat),v=.slice (some a) n cap∧(0 < n→a.block < w.heap.size)∧n≤cap∧cap≤maxLen ∧
  ∀ i,i < n→w.cell? (a.add (i * 2))=some (.int .i64 (ID i))∧w.cell? (a.add (i * 2 + 1))=some (.string (T i))∧(Lit.int .i64 (ID i)).wf=true∧(T i).size≤maxLen

theorem IsTs.below {w w' : World} {v:Value} {n:Nat} {ID:Nat→Int} {T:Nat→ByteArray} (h:IsTs w v n ID T) (hb:Below w.heap.size w w'):IsTs w' v n ID T:=by
 rcases h with h | ⟨a,cap,h1,h2,h3,h4,h5⟩
 · exact .inl h
 · refine .inr ⟨a,cap,h1,fun h0=>Nat.lt_of_lt_of_le (h2 h0) hb.size,h3,h4,fun i hi=>?_⟩
   obtain ⟨c1,c2,c3,c4⟩:=h5 i hi
   exact ⟨(hb.cell (by rw [block_of_add];exact h2 (by omega))).trans c1,(hb.cell (by rw [block_of_add];exact h2 (by omega))).trans c2,c3,c4⟩

end Go.Proofs.YtjddbjmcjhjpiaaGreatDoor
namespace Go.Proofs.YtjddbjmcjhjpiaaGreatDoor
open Go.RowKit

def tc (t:Tp):List Value:=[.int .i64 t.1,.string ⟨t.2.toArray⟩]
def tcs (l:List Tp):List Value:=l.flatMap tc
theorem tcs_cons (t:Tp) (l:List Tp):tcs (t :: l)=.int .i64 t.1 :: .string ⟨t.2.toArray⟩ :: tcs l:=rfl
theorem tcs_append (a b:List Tp):tcs (a ++ b)=tcs a ++ tcs b:=by unfold tcs;rw [List.flatMap_append]
theorem tcs_length (l:List Tp):(tcs l).length=l.length * 2:=by
 induction l with
 | nil=>rfl
 | cons t l ih=>rw [tcs_cons];simp only [List.length_cons,ih];omega
theorem tcs_at:∀ (l:List Tp) (i:Nat) (h:i < l.length),(tcs l)[i * 2]?=some (.int .i64 (l[i]).1)∧(tcs l)[i * 2 + 1]?=some (.string ⟨(l[i]).2.toArray⟩)
 | [],i,h=>by simp at h
 | t :: l,0,_=>⟨rfl,rfl⟩
 | t :: l,i + 1,h=>by
  have := tcs_at l i (by simpa using h)
  rw [tcs_cons,show (i + 1) * 2=i * 2 + 1 + 1 by omega]
  simpa using this
theorem tcs_one (l:List Tp):∀ u ∈ tcs l,u.oneCell' = true:=by
 intro u hu
 unfold tcs at hu
 obtain ⟨t,_,ht⟩:=List.mem_flatMap.1 hu
 unfold tc at ht
 simp only [List.mem_cons,List.not_mem_nil,or_false] at ht
 rcases ht with rfl | rfl <;> rfl

def RdT (w:World) (v:Value) (l:List Tp):Prop :=
 ∃ A cap,v=.slice A l.length cap∧l.length≤cap∧cap≤maxLen∧(0 < l.length→∃ b off,A=some ⟨b,off,none⟩∧b < w.heap.size∧∀ j u,(tcs l)[j]?=some u→w.cell? ⟨b,off + j,none⟩=some u)
theorem RdT.below {w w' : World} {v:Value} {l:List Tp} (h:RdT w v l) (hb:Below w.heap.size w w'):RdT w' v l:=by
 obtain ⟨A,cap,rfl,h1,h2,h3⟩:=h
 refine ⟨A,cap,rfl,h1,h2,fun h0=>?_⟩
 obtain ⟨b,off,rfl,hlt,hc⟩:=h3 h0
 exact ⟨b,off,rfl,Nat.lt_of_lt_of_le hlt hb.size,fun j u hu=>(hb.cell (p:=⟨b,off + j,none⟩) hlt).trans (hc j u hu)⟩
theorem RdT.at_ {w:World} {A:Option Addr} {n cap:Nat} {l:List Tp} (h:RdT w (.slice A n cap) l) {i:Nat} (hi:i < l.length) :
 ∃ b off,A=some ⟨b,off,none⟩∧b < w.heap.size∧w.cell? ⟨b,off + i * 2,none⟩=some (.int .i64 (l[i]).1)∧w.cell? ⟨b,off + i * 2 + 1,none⟩=some (.string ⟨(l[i]).2.toArray⟩):=by
 obtain ⟨A', cap', he,_,_,h3⟩:=h
 injection he with he
 subst he
 obtain ⟨b,off,rfl,hlt,hc⟩:=h3 (by omega)
 obtain ⟨k1,k2⟩:=tcs_at l i hi
 exact ⟨b,off,rfl,hlt,hc _ _ k1,hc (i * 2 + 1) _ k2⟩
def OwnT (w:World) (base:Nat) (v:Value) (l:List Tp):Prop:=w.ownsRow base 165 2 v l.length (tcs l)
theorem OwnT.nil_ (w:World) (base:Nat):OwnT w base (.slice none 0 0) []:=World.ownsRow_nil w base 165 2
theorem OwnT.grown {w w' : World} {base:Nat} {v:Value} {l:List Tp} (h:OwnT w base v l) {row:Option Nat} (hg:w.grownBy w' row) (hne:v.ownBlock=none ∨ v.ownBlock ≠ row):OwnT w' base v l:=World.ownsRow.kept h hg hne
theorem OwnT.below {w w' : World} {base:Nat} {v:Value} {l:List Tp} (h:OwnT w base v l) (hb:Below w.heap.size w w'):OwnT w' base v l:=h.grown (grownBy_of_below hb none) (by cases hv:v.ownBlock <;> simp)
theorem OwnT.rd {w:World} {base:Nat} {v:Value} {l:List Tp} (h:OwnT w base v l):RdT w v l:=by
 have hcells:=@World.ownsRow.cells w base 165 2 v l.length (tcs l) h
 rcases h.2 with ⟨rfl,hn⟩ | ⟨g,cap,cur,rfl,hb,hh,hc,hm,hs,ht⟩
 · exact ⟨none,0,by rw [hn],by omega,by simp [maxLen],fun h0=>by omega⟩
 · refine ⟨_,cap,rfl,hc,hm,fun _=>⟨g,0,rfl,lt_at hh,fun j u hu=>?_⟩⟩
   have := hcells (g:=g) rfl j u hu
   rw [addr_add] at this
   exact this
theorem OwnT.lt {w:World} {base:Nat} {v:Value} {l:List Tp} (h:OwnT w base v l):∀ k,v.ownBlock=some k→base≤k∧k < w.heap.size:=World.ownsRow.lt h
theorem OwnT.shape {w:World} {base:Nat} {v:Value} {l:List Tp} (h:OwnT w base v l):∃ A cap,v=.slice A l.length cap∧l.length≤cap∧cap≤maxLen:=by
 obtain ⟨A,cap,h1,h2,h3,_⟩:=h.rd
 exact ⟨A,cap,h1,h2,h3⟩

def lst (n:Nat) (ID:Nat→Int) (T:Nat→ByteArray):List Tp:=(List.range n).map fun i=>(ID i,(T i).data.toList)
theorem lst_length (n:Nat) (ID:Nat→Int) (T:Nat→ByteArray):(lst n ID T).length=n:=by simp [lst]
theorem lst_at {n:Nat} {ID:Nat→Int} {T:Nat→ByteArray} {i:Nat} (h:i < (lst n ID T).length):(lst n ID T)[i]=(ID i,(T i).data.toList):=by simp [lst]
theorem IsTs.wf {w:World} {v:Value} {n:Nat} {ID:Nat→Int} {T:Nat→ByteArray} (h:IsTs w v n ID T):∀ t ∈ lst n ID T,(Lit.int .i64 t.1).wf=true∧t.2.length≤maxLen:=by
 intro t ht
 unfold lst at ht
 obtain ⟨i,hi,rfl⟩:=List.mem_map.1 ht
 have hi2:=List.mem_range.1 hi
 rcases h with ⟨_,hn⟩ | ⟨a,cap,_,_,_,_,hc⟩
 · omega
 · obtain ⟨_,_,c3,c4⟩:=hc i hi2
   refine ⟨c3,?_⟩
   simp only [Array.length_toList]
   exact c4
theorem tcs_split:∀ (l:List Tp) (j:Nat) (u:Value),(tcs l)[j]?=some u→∃ i,∃ h:i < l.length,(j=i * 2∧u=.int .i64 (l[i]).1) ∨ (j=i * 2 + 1∧u=.string ⟨(l[i]).2.toArray⟩)
 | [],j,u,h=>by simp [tcs] at h
 | t :: l,0,u,h=>⟨0,by simp,.inl ⟨rfl,by rw [tcs_cons] at h;simpa using h.symm⟩⟩
 | t :: l,1,u,h=>⟨0,by simp,.inr ⟨rfl,by rw [tcs_cons] at h;simpa using h.symm⟩⟩
 | t :: l,j + 2,u,h=>by
  rw [tcs_cons] at h
  obtain ⟨i,hi,hh⟩:=tcs_split l j u (by simpa using h)
  refine ⟨i + 1,by simpa using hi,?_⟩
  rcases hh with ⟨rfl,rfl⟩ | ⟨rfl,rfl⟩
  · exact .inl ⟨by omega,by simp⟩
  · exact .inr ⟨by omega,by simp⟩
theorem IsTs.rd {w:World} {v:Value} {n:Nat} {ID:Nat→Int} {T:Nat→ByteArray} (h:IsTs w v n ID T):RdT w v (lst n ID T):=by
 rcases h with ⟨rfl,rfl⟩ | ⟨a,cap,rfl,hlt,hl,hm,hc⟩
 · exact ⟨none,0,rfl,by simp [lst],by simp [maxLen],fun h0=>by simp [lst] at h0⟩
 · refine ⟨some a,cap,by rw [lst_length],by rw [lst_length];exact hl,hm,fun h0=>?_⟩
   rw [lst_length] at h0
   obtain ⟨b,off,spot⟩:=a
   have hc0:=(hc 0 h0).1
   have hspot:spot=none:=by simpa [Addr.add] using World.cell?_spot hc0
   subst hspot
   refine ⟨b,off,rfl,hlt h0,fun j u hu=>?_⟩
   obtain ⟨i,hi,hh⟩:=tcs_split _ j u hu
   rw [lst_length] at hi
   obtain ⟨k1,k2,_,_⟩:=hc i hi
   rw [addr_add] at k1 k2
   rcases hh with ⟨rfl,rfl⟩ | ⟨rfl,rfl⟩
   · rw [lst_at];exact k1
   · rw [lst_at];simpa using k2

theorem tuple_info:(Tryz.prog.info? 165).map (fun i=>(i.zero,i.size,i.bytes))=some (some (.agg #[.int .i64 0,.string ⟨#[]⟩]),2,24):=by kernel_rfl
theorem RdT.reads {w:World} {v:Value} {l:List Tp} (h:RdT w v l):∃ A cap,v=.slice A l.length cap∧Reads w w.heap.size 2 A l.length (tcs l):=by
 obtain ⟨A,cap,rfl,h1,h2,h3⟩:=h
 refine ⟨A,cap,rfl,tcs_length l,fun hl=>?_⟩
 obtain ⟨b,off,rfl,hlt,hc⟩:=h3 hl
 refine ⟨_,rfl,hlt,fun j u hu=>?_⟩
 rw [addr_add]
 exact hc j u hu
theorem wpList_appTs {w:World} {ops:Array Oper} {rest:List Oper} {o:Oper} {a:Act} {Q:Exit→Act→World→Prop} (hgd:o.guard=none) (s x:Operand)
 (ho:o.op=.call { callee:=.builtin .append,args:=#[s,x],argTypes:=#[167,167] })
 (base:Nat) (v u:Value) (l m:List Tp) (hs:a.eval s=v) (hx:a.eval x=u) (hown:OwnT w base v l) (hr:RdT w u m) (hlen:l.length + m.length≤1000000) (hbase:base≤w.heap.size)
 (h:∀ v' w', OwnT w' base v' (l ++ m)→w.grownBy w' v.ownBlock→(v'.ownBlock=v.ownBlock ∨ v'.ownBlock=some w.heap.size)→wpList Tryz.prog ops Q rest (a.put o.dst v') w'):wpList Tryz.prog ops Q (o :: rest) a w:=by
 obtain ⟨i0,hi,hz0,hz1,hz2⟩:=info_parts tuple_info
 obtain ⟨A,cap,rfl,hreads⟩:=hr.reads
 refine wpList_append_any w hgd s x 167 ho base 165 i0 _ 2 24 Tryz.underlying167 hi hz0 hz1 hz2 rfl (by omega) v l.length (tcs l) hs hown w.heap.size A m.length cap (tcs m) hx hreads (tcs_one m) (by simp only [maxLen];omega) (by omega) hbase ?_
 intro v' w' h1 h2 h3
 refine h v' w' ?_ h2 h3
 unfold OwnT
 rw [tcs_append,List.length_append]
 exact h1
end Go.Proofs.YtjddbjmcjhjpiaaGreatDoor
namespace Go.Proofs.YtjddbjmcjhjpiaaGreatDoor
open Go.RowKit M

def PutTP (l:List Tp) (w:World) (e:Ending) (w' : World):Prop:=e=.returned (.tuple #[.string ⟨((putT l).getD []).toArray⟩,.bool (putT l).isSome])∧Below w.heap.size w w'
theorem putTP_none {l:List Tp} {w w' : World} (h:putT l=none) (hb:Below w.heap.size w w'):PutTP l w (.returned (.tuple #[.string ⟨#[]⟩,.bool false])) w' := by
 unfold PutTP;rw [h];exact ⟨rfl,hb⟩
theorem putTP_some {l:List Tp} {s:ByteArray} {w w' : World} (h:putT l=some s.data.toList) (hb:Below w.heap.size w w'):PutTP l w (.returned (.tuple #[.string s,.bool true])) w' := by
 unfold PutTP;rw [h];exact ⟨rfl,hb⟩
def TRel (l:List Tp) (w:World) (k:Nat) (acc:ByteArray) (wr:World):Prop:=(∀ t ∈ l.take k,okT t)∧acc.data.toList=flat (l.take k)∧acc.size≤42 * k∧Below w.heap.size w wr
theorem TRel.next {l:List Tp} {w wr w2:World} {k:Nat} {acc T:ByteArray} {id:Int} (h:TRel l w k acc wr) (hk:k < l.length) (hi:(l[k]).1=id) (ht:T=⟨(l[k]).2.toArray⟩) (hok:okT l[k]) (hb:Below w.heap.size w w2) :
 TRel l w (k + 1) (acc ++ ((⟨[by8 id,by8 T.size].toArray⟩:ByteArray) ++ T)) w2:=by
 obtain ⟨h1,h2,h3,_⟩:=h
 have hT:T.size=(l[k]).2.length:=by subst ht;show ((l[k]).2.toArray).size=_;simp
 have hTl:T.data.toList=(l[k]).2:=by subst ht;simp
 have e:l.take (k + 1)=l.take k ++ [l[k]]:=List.take_succ_eq_append_getElem hk
 refine ⟨?_,?_,?_,hb⟩
 · rw [e]
   intro t htm
   rcases List.mem_append.1 htm with hm | hm
   · exact h1 t hm
   · rw [List.mem_singleton.1 hm];exact hok
 · rw [e,flat_append,← h2]
   rw [ByteArray.data_append,ByteArray.data_append,Array.toList_append,Array.toList_append,hTl]
   show acc.data.toList ++ ([by8 id,by8 T.size] ++ (l[k]).2)=acc.data.toList ++ (tb l[k] ++ [])
   rw [List.append_nil]
   unfold tb by8
   rw [hi,hT,Int.toNat_natCast]
   rfl
 · have : (acc ++ ((⟨[by8 id,by8 T.size].toArray⟩:ByteArray) ++ T)).size=acc.size + (2 + T.size):=by
    rw [ByteArray.size_append,ByteArray.size_append];rfl
   rw [this]
   unfold okT at hok
   omega
end Go.Proofs.YtjddbjmcjhjpiaaGreatDoor
namespace Go.Proofs.YtjddbjmcjhjpiaaGreatDoor
open Go.RowKit M

def GetTP (s:List UInt8) (w:World) (e:Ending) (w' : World):Prop:=∃ v,e=.returned (.tuple #[v,.bool (getT s).isSome])∧OwnT w' w.heap.size v ((getT s).getD [])∧Below w.heap.size w w'
theorem getTP_none {s:List UInt8} {w w' : World} (h:getT s=none) (hb:Below w.heap.size w w'):GetTP s w (.returned (.tuple #[.slice none 0 0,.bool false])) w' := by
 unfold GetTP;rw [h];exact ⟨_,rfl,OwnT.nil_ _ _,hb⟩
theorem getTP_some {s:List UInt8} {l:List Tp} {v:Value} {w w' : World} (h:getT s=some l) (ho:OwnT w' w.heap.size v l) (hb:Below w.heap.size w w'):GetTP s w (.returned (.tuple #[v,.bool true])) w' := by
 unfold GetTP;rw [h];exact ⟨_,rfl,ho,hb⟩

def XRel (s:List UInt8) (w:World) (r:ByteArray) (v:Value) (acc:List Tp) (wr:World):Prop :=
 getL s=(getL r.data.toList).map (acc ++ ·)∧r.size≤64∧acc.length + r.size≤64∧OwnT wr w.heap.size v acc∧Below w.heap.size w wr
theorem ba_len (r:ByteArray):r.data.toList.length=r.size:=by rw [Array.length_toList];rfl
theorem ba_two {r:ByteArray} (h:1 < r.size):∃ q,r.data.toList=r[0] :: r[1] :: q∧q.length=r.size - 2:=by
 have hl:=ba_len r
 match hq:r.data.toList with
 | []=>rw [hq] at hl;simp at hl;omega
 | [a]=>rw [hq] at hl;simp at hl;omega
 | a :: b :: q =>
  rw [hq] at hl
  have h0:r[0]=a:=by
   show r.data[0]'(show 0 < r.size by omega)=a
   rw [← Array.getElem_toList]
   simp [hq]
  have h1:r[1]=b:=by
   show r.data[1]'h=b
   rw [← Array.getElem_toList]
   simp [hq]
  exact ⟨q,by rw [h0,h1],by simp at hl;omega⟩
theorem ba_ext (r:ByteArray) (a b:Nat):(r.extract a b).data.toList=(r.data.toList.drop a).take (b - a):=by
 rw [ByteArray.data_extract,Array.toList_extract]
theorem XRel.next {s:List UInt8} {w wr w2:World} {r:ByteArray} {v v2:Value} {acc:List Tp} {a n:UInt8} {q:List UInt8} (h:XRel s w r v acc wr) (hr:r.data.toList=a :: n :: q) (hq:q.length=r.size - 2) (hp:1 < r.size) (h40:n.toNat≤40) (hn:n.toNat≤q.length)
 (ho:OwnT w2 w.heap.size v2 (acc ++ [((a.toNat:Int),(r.extract 2 (2 + n.toNat)).data.toList)])) (hb:Below w.heap.size w w2):XRel s w (r.extract (2 + n.toNat) r.size) v2 (acc ++ [((a.toNat:Int),(r.extract 2 (2 + n.toNat)).data.toList)]) w2:=by
 obtain ⟨h1,h2,h3,_,_⟩:=h
 have e1:(r.extract 2 (2 + n.toNat)).data.toList=q.take n.toNat:=by rw [ba_ext,hr];simp
 have e2:(r.extract (2 + n.toNat) r.size).data.toList=q.drop n.toNat:=by
  rw [ba_ext,hr,show 2 + n.toNat=n.toNat + 1 + 1 by omega,List.drop_succ_cons,List.drop_succ_cons]
  exact List.take_of_length_le (by rw [List.length_drop];omega)
 have e3:(r.extract (2 + n.toNat) r.size).size=r.size - (2 + n.toNat):=by rw [ByteArray.size_extract];omega
 refine ⟨?_,by omega,by rw [List.length_append,e3];simp;omega,ho,hb⟩
 rw [h1,hr,getL_two,if_neg (by omega),e1,e2]
 cases getL (q.drop n.toNat) <;> simp

end Go.Proofs.YtjddbjmcjhjpiaaGreatDoor
namespace Go.Proofs.YtjddbjmcjhjpiaaGreatDoor
open Go.RowKit M

end Go.Proofs.YtjddbjmcjhjpiaaGreatDoor
