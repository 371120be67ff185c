/- Of layer 12: OwnK, OutB, ModA, RegQ, OutA, InA, TurnA, TurnA3, LogA1, ZB1, FreshS, ZB2. -/
import Derived.Test.YtjddbjmcjhjpiaaGreatDoorN16A
import Derived.Test.YtjddbjmcjhjpiaaGreatDoorM4E
import Derived.Test.YtjddbjmcjhjpiaaGreatDoorM4A
import Derived.Test.YtjddbjmcjhjpiaaGreatDoorM4H
import Derived.Test.YtjddbjmcjhjpiaaGreatDoorM4C
import Derived.Laws.MakeOwn
import Derived.Lib.RowBridge
import Derived.Sort.EncStr
import Derived.Deep.Quiet
import Derived.Deep.MidRow
import Derived.Lib.AppendZerosOnto
import Derived.Lib.Overlaps
import Derived.Laws.Externs
import Derived.Laws.IdiomCopy
import Derived.Laws.NewBlocks
import Derived.Shelf.Spec.SlicesInsert
import Derived.RangeFuncBox
import Derived.RangeFuncLeaves
import Derived.Shelf.Abstract
import Derived.WalkKit
import Derived.OwnWalkIn
import Derived.TacticsInMore
import Derived.LoopNIn
import Derived.LoopIn
import Derived.Maps.AppendAt
import Derived.Lib.Hide

set_option linter.all false

namespace Go.Proofs.YtjddbjmcjhjpiaaGreatDoor
open Go.RowKit M

def OwnK (e:TypeId) (k:Nat) (v:Value) (n:Nat) (xs:List Value):Obj:=fun w F=>F=blk v∧w.ownsRow 0 e k v n xs
section
variable {e:TypeId} {k:Nat} {v v' : Value} {n m:Nat} {xs ys:List Value} {w w' : World} {F:List Nat}
theorem blk_own (v:Value) (g:Nat):g ∈ blk v ↔ v.ownBlock=some g:=by
 unfold blk Value.ownBlock
 cases v with
 | slice a n c=>cases a with
  | none=>simp
  | some a=>simp [eq_comm]
 | _=>simp
theorem ownsRow_keep {base:Nat} (h:w.ownsRow base e k v n xs) (hk:∀ g ∈ blk v,w'.heap[g]?=w.heap[g]?):w'.ownsRow base e k v n xs:=by
 refine ⟨h.1,?_⟩
 rcases h.2 with h0 | ⟨g,cap,cur,rfl,hb,hg,h3⟩
 · exact .inl h0
 · exact .inr ⟨g,cap,cur,rfl,hb,(hk g (by simp [blk])).trans hg,h3⟩
theorem OwnK.stab (e:TypeId) (k:Nat) (v:Value) (n:Nat) (xs:List Value):Stab (OwnK e k v n xs) where
 in_:=by
  rintro w F ⟨rfl,h⟩ g hg
  exact (h.lt g ((blk_own v g).1 hg)).2
 tch:=by
  rintro w w' F G ⟨rfl,h⟩ ht hd
  exact ⟨rfl,ownsRow_keep h fun g hg=>ht.keep g (h.lt g ((blk_own v g).1 hg)).2 (hd g hg)⟩
theorem kS {e k v n xs}:Stab (OwnK e k v n xs):=OwnK.stab e k v n xs
theorem OwnK.nil_ (e:TypeId) (k:Nat) (w:World):OwnK e k (.slice none 0 0) 0 [] w []:=⟨rfl,World.ownsRow_nil w 0 e k⟩
theorem OwnK.nilD (e:TypeId) (k:Nat) (w:World):Done w [] (OwnK e k (.slice none 0 0) 0 []) w:=⟨[],OwnK.nil_ e k w,Tch.refl _ _,fun g h=>.inl h⟩
theorem OwnK.grown (h:OwnK e k v n xs w F) (ho:w'.ownsRow 0 e k v' m ys) (hg:w.grownBy w' v.ownBlock) (hat:v'.ownBlock=v.ownBlock ∨ v'.ownBlock=some w.heap.size):Done w F (OwnK e k v' m ys) w' := by
 obtain ⟨rfl,hr⟩:=h
 refine ⟨blk v', ⟨rfl,ho⟩,⟨hg.os,hg.tape,hg.output,hg.size,fun g hl hn=>hg.block g hl (fun e' => hn ((blk_own v g).2 e'.symm))⟩,fun g hg' => ?_⟩
 have h1:=(blk_own v' g).1 hg'
 rcases hat with h2 | h2
 · exact .inl ((blk_own v g).2 (by rw [← h2];exact h1))
 · rw [h2] at h1
   injection h1 with h1
   exact .inr (by omega)
theorem own_shape {base:Nat} (h:w.ownsRow base e k v n xs):∃ A cap,v=.slice A n cap∧n≤cap∧cap≤maxLen:=by
 rcases h.2 with ⟨rfl,rfl⟩ | ⟨g,cap,cur,rfl,_,_,h1,h2,_⟩
 · exact ⟨none,0,rfl,Nat.le_refl _,by simp [maxLen]⟩
 · exact ⟨_,cap,rfl,h1,h2⟩
theorem OwnK.shape (h:OwnK e k v n xs w F):∃ A cap,v=.slice A n cap∧n≤cap∧cap≤maxLen:=own_shape h.2
theorem OwnK.rd (h:OwnK e k v n xs w F):RdG k w v n xs:=ownG_rd h.2
theorem OwnK.sl (h:OwnK e k v n xs w F):SlW k v n xs w F:=by
 obtain ⟨rfl,hr⟩:=h
 exact ⟨rfl,fun g hg=>(hr.lt g ((blk_own v g).1 hg)).2,ownG_rd hr⟩
theorem OwnK.whole {A:Option Addr} {c:Nat} (h:OwnK e k (.slice A n c) n xs w F) (hn:0 < n):∃ g,A=some ⟨g,0,none⟩∧F=[g]∧∃ cur,w.heap[g]?=some (.cells cur e (0,0))∧cur.size=c * k∧cur.toList.take (n * k)=xs∧n≤c∧c≤maxLen:=by
 obtain ⟨rfl,hl,hr⟩:=h
 rcases hr with ⟨_,h0⟩ | ⟨g,cap,cur,e1,_,h1,h2,h3,h4,h5⟩
 · omega
 · injection e1 with e1 e2 e3
   subst e1;subst e3
   exact ⟨g,rfl,rfl,cur,h1,h4,h5,h2,h3⟩
theorem OwnK.cell {g c:Nat} (h:OwnK e k (.slice (some ⟨g,0,none⟩) n c) n xs w F) {i:Nat} {u:Value} (hu:xs[i]?=some u):w.cell? ⟨g,i,none⟩=some u:=by
 have := h.2.cells (g:=g) rfl i u hu
 rw [addr_add,Nat.zero_add] at this
 exact this
theorem OwnK.set {g c:Nat} (h:OwnK e k (.slice (some ⟨g,0,none⟩) n c) n xs w F) {i:Nat} (hi:i < xs.length) (u:Value) (hg:w.grownBy w' (some g)) (hh:∀ cur,w.heap[g]?=some (.cells cur e (0,0))→w'.heap[g]?=some (.cells (cur.setIfInBounds i u) e (0,0))) :
 Done w F (OwnK e k (.slice (some ⟨g,0,none⟩) n c) n (xs.set i u)) w' := by
 have hl:=h.2.1
 have hn:0 < n:=by
  rcases Nat.eq_zero_or_pos n with h0 | h0
  · subst h0;rw [hl] at hi;omega
  · exact h0
 obtain ⟨g', e1,rfl,cur,h1,h2,h3,h4,h5⟩:=h.whole hn
 injection e1 with e1
 injection e1 with e1
 subst e1
 refine ⟨[g],⟨rfl,by rw [List.length_set];exact hl,.inr ⟨g,c,cur.setIfInBounds i u,rfl,Nat.zero_le _,hh cur h1,h4,h5,by rw [Array.size_setIfInBounds];exact h2,?_⟩⟩,Tch.of_grown hg (.inl (by simp)),Sub.refl _ _⟩
 rw [Array.toList_setIfInBounds,List.take_set,h3]
end

theorem rdG_new {k:Nat} {w:World} {g:Nat} {cs:Array Value} {t:TypeId} (hg:w.heap[g]?=some (.cells cs t (0,0))) (hk:cs.size=k):RdG k w (.slice (some ⟨g,0,none⟩) 1 1) 1 cs.toList :=
 ⟨by simp [hk],some ⟨g,0,none⟩,1,rfl,Nat.le_refl _,by simp [maxLen],fun _=>⟨g,0,rfl,lt_at hg,fun j u hu=>by
  rw [Nat.zero_add]
  exact cell_at hg j u (by simpa using hu)⟩⟩
theorem RdG.from_ {k:Nat} {w:World} {A:Option Addr} {n m cap:Nat} {xs:List Value} (h:RdG k w (.slice A m cap) n xs) {j:Nat} (hj:j≤n) (B:Option Addr) (hB:j < n→∀ b off,A=some ⟨b,off,none⟩→B=some ⟨b,off + j * k,none⟩):RdG k w (.slice B (n - j) (cap - j)) (n - j) (xs.drop (j * k)):=by
 obtain ⟨hl,A', cap', e,h1,h2,h3⟩:=h
 injection e with e1 e2 e3
 subst e1;subst e2;subst e3
 refine ⟨by rw [List.length_drop,hl,Nat.sub_mul],B,cap - j,rfl,by omega,by omega,fun h0=>?_⟩
 obtain ⟨b,off,rfl,hlt,hc⟩:=h3 (by omega)
 refine ⟨b,off + j * k,hB (by omega) b off rfl,hlt,fun i u hu=>?_⟩
 rw [List.getElem?_drop] at hu
 rw [Nat.add_assoc]
 exact hc _ u hu
theorem own_form {base:Nat} {e:TypeId} {k n cap:Nat} {A:Option Addr} {xs:List Value} {w:World} (h:w.ownsRow base e k (.slice A n cap) n xs):(n=0∧cap=0∧A=none) ∨ ∃ b,A=some ⟨b,0,none⟩:=by
 rcases h.2 with ⟨h1,h2⟩ | ⟨g,c,cur,h1,_⟩
 · injection h1 with h1 h3 h4
   exact .inl ⟨h2,h4,h1⟩
 · injection h1 with h1
   exact .inr ⟨g,h1⟩
section
variable {ops:Array Oper} {rest:List Oper} {o:Oper} {a:Act} {w0 w:World} {F0:List Nat} {Q:Exit→Act→World→Prop} {C:Obj→Obj} {e:TypeId} {k n:Nat} {v:Value} {xs:List Value}
theorem wp_appD {K:Act→World→Prop} (hC:Fr C) (h:Done w0 F0 (C (OwnK e k v n xs)) w) (s x:Operand) (t:TypeId) (bytes:Nat) (z:Value)
 (ho:o.op=.call { callee:=.builtin .append,args:=#[s,x],argTypes:=#[t,t] })
 (hu:Tryz.prog.underlying t=some (.slice e)) (hin:(Tryz.prog.info? e).map (fun i=>(i.zero,i.size,i.bytes))=some (some z,k,bytes)) (hzs:z.cells.size=k) (hk:0 < k∧bytes≤1000)
 (u:Value) (m:Nat) (ys:List Value) (hs:a.eval s=v) (hx:a.eval x=u) (hr:RdG k w u m ys) (h1:∀ y ∈ ys,y.oneCell' = true) (n' : Nat) (hn' : n' = n + m) (hlen:n' ≤ 1000000) (xs' : List Value) (hxs:xs' = xs ++ ys)
 (hn:∀ A c w', Done w0 F0 (C (OwnK e k (.slice A n' c) n' xs')) w' → (n' ≤ c∧c≤maxLen)→K (a.put o.dst (.slice A n' c)) w'):o.wp Tryz.prog a w K Q:=by
 subst hn'; subst hxs
 obtain ⟨F,hF,hup⟩:=h.upd hC
 obtain ⟨i0,hi,hz0,hz1,hz2⟩:=info_parts hin
 obtain ⟨A,cap,rfl,hreads⟩:=hr.reads
 refine wp_append_any w s x t ho 0 e i0 z k bytes hu hi hz0 hz1 hz2 hzs hk.1 v n xs hs hF.2 w.heap.size A m cap ys hx hreads h1 (by simp only [maxLen];omega) ?_ (Nat.zero_le _) ?_
 · have := Nat.mul_le_mul hlen hk.2
   omega
 · intro v' w' ho' hg' hat'
   obtain ⟨A,c,rfl,hc⟩:=own_shape ho'
   exact hn A c w' (hup (hF.grown ho' hg' hat')) hc
theorem wpList_appD (hC:Fr C) (h:Done w0 F0 (C (OwnK e k v n xs)) w) (hgd:o.guard=none) (s x:Operand) (t:TypeId) (bytes:Nat) (z:Value)
 (ho:o.op=.call { callee:=.builtin .append,args:=#[s,x],argTypes:=#[t,t] })
 (hu:Tryz.prog.underlying t=some (.slice e)) (hin:(Tryz.prog.info? e).map (fun i=>(i.zero,i.size,i.bytes))=some (some z,k,bytes)) (hzs:z.cells.size=k) (hk:0 < k∧bytes≤1000)
 (u:Value) (m:Nat) (ys:List Value) (hs:a.eval s=v) (hx:a.eval x=u) (hr:RdG k w u m ys) (h1:∀ y ∈ ys,y.oneCell' = true) (n' : Nat) (hn' : n' = n + m) (hlen:n' ≤ 1000000) (xs' : List Value) (hxs:xs' = xs ++ ys)
 (hn:∀ A c w', Done w0 F0 (C (OwnK e k (.slice A n' c) n' xs')) w' → (n' ≤ c∧c≤maxLen)→wpList Tryz.prog ops Q rest (a.put o.dst (.slice A n' c)) w'):wpList Tryz.prog ops Q (o :: rest) a w :=
 wpList_plain hgd fun _ hK=>wp_appD hC h s x t bytes z ho hu hin hzs hk u m ys hs hx hr h1 n' hn' hlen xs' hxs fun A c w' h1 h2=>hK _ _ (hn A c w' h1 h2)
theorem rests_appD {S:World→Prop} {fuel:Nat} {listed:Array Bool} (i:Nat) {oi:Oper} (hi:ops[i]?=some oi) (hrd:Region.ready .any ops listed=[i]) (hw:Region.wanted oi (yielded ops a.tmps)=true)
 (hC:Fr C) (h:Done w0 F0 (C (OwnK e k v n xs)) w) (s x:Operand) (t:TypeId) (bytes:Nat) (z:Value)
 (ho:oi.op=.call { callee:=.builtin .append,args:=#[s,x],argTypes:=#[t,t] })
 (hu:Tryz.prog.underlying t=some (.slice e)) (hin:(Tryz.prog.info? e).map (fun i=>(i.zero,i.size,i.bytes))=some (some z,k,bytes)) (hzs:z.cells.size=k) (hk:0 < k∧bytes≤1000)
 (u:Value) (m:Nat) (ys:List Value) (hs:a.eval s=v) (hx:a.eval x=u) (hr:RdG k w u m ys) (h1:∀ y ∈ ys,y.oneCell' = true) (n' : Nat) (hn' : n' = n + m) (hlen:n' ≤ 1000000) (xs' : List Value) (hxs:xs' = xs ++ ys)
 (hn:∀ A c w', Done w0 F0 (C (OwnK e k (.slice A n' c) n' xs')) w' → (n' ≤ c∧c≤maxLen)→S w' ∧ RestS S Tryz.prog ops Q fuel (listed.setIfInBounds i true) (a.put oi.dst (.slice A n' c)) w'):RestS S Tryz.prog ops Q (fuel + 1) listed a w :=
 rests_step i hi hrd hw (wp_appD hC h s x t bytes z ho hu hin hzs hk u m ys hs hx hr h1 n' hn' hlen xs' hxs hn)
theorem CellW.own {g:Nat} {cs:Array Value} {F:List Nat} (h:CellW g cs e w F) (hk:cs.size=k):OwnK e k (.slice (some ⟨g,0,none⟩) 1 1) 1 cs.toList w F:=by
 obtain ⟨rfl,h⟩:=h
 exact ⟨rfl,by rw [Array.length_toList,hk,Nat.one_mul],.inr ⟨g,1,cs,rfl,Nat.zero_le _,h,Nat.le_refl _,by simp [maxLen],by rw [hk,Nat.one_mul],by rw [Nat.one_mul,← hk,List.take_of_length_le (by rw [Array.length_toList];exact Nat.le_refl _)]⟩⟩
end
end Go.Proofs.YtjddbjmcjhjpiaaGreatDoor

namespace Go.Proofs.YtjddbjmcjhjpiaaGreatDoor
open Go.RowKit Go.Sort M

def setL:List Value→Nat→List Value→List Value
 | l,_,[]=>l
 | l,o,v :: r=>setL (l.set o v) (o + 1) r
theorem setL_eq:∀ (vs l:List Value) (o:Nat),o + vs.length≤l.length→setL l o vs=l.take o ++ vs ++ l.drop (o + vs.length)
 | [],l,o,_=>by simp [setL]
 | v :: r,l,o,h=>by
  have h' : o + (r.length + 1)≤l.length:=by simpa using h
  have e0:l.set o v=(l.take o ++ [v]) ++ l.drop (o + 1):=by
   rw [List.set_eq_take_append_cons_drop,if_pos (by omega),List.append_assoc]
   rfl
  have hA:(l.take o ++ [v]).length=o + 1:=by simp;omega
  rw [setL,setL_eq r (l.set o v) (o + 1) (by simp;omega),e0,List.take_left' hA,← List.drop_drop,List.drop_left' hA,List.drop_drop,List.append_assoc (l.take o)]
  simp only [List.singleton_append,List.length_cons]
  rw [show o + 1 + r.length=o + (r.length + 1) by omega]
theorem heap_sets {b:Nat} {t:TypeId}:∀ (vs:List Value) (o:Nat) (w:World) (l:List Value),w.heap[b]?=some (.cells l.toArray t (0,0))→(w.setCells b o vs).heap[b]?=some (.cells (setL l o vs).toArray t (0,0))
 | [],_,_,_,h=>h
 | v :: r,o,w,l,h=>by
  rw [World.setCells]
  exact heap_sets r (o + 1) _ (l.set o v) (by simp [World.setCell,Array.getElem?_modify,h])
theorem tch_sets (b:Nat):∀ (vs:List Value) (o:Nat) (w:World),Tch [b] w (w.setCells b o vs)
 | [],_,w=>Tch.refl _ w
 | v :: r,o,w=>by
  rw [World.setCells]
  have hgb:w.grownBy (w.setCell ⟨b,o,none⟩ v) (some b):=⟨rfl,rfl,rfl,by simp [World.setCell],fun j _ hj=>by
   have hne:b ≠ j:=fun e=>hj (by rw [e])
   simp [World.setCell,Array.getElem?_modify,hne]⟩
  exact (Tch.of_grown hgb (.inl (by simp))).trans (tch_sets b r (o + 1) _) (Sub.refl _ _)
theorem OwnK.cut {e:TypeId} {g n c:Nat} {xs:List Value} {w:World} {F:List Nat} (h:OwnK e 1 (.slice (some ⟨g,0,none⟩) n c) n xs w F) (q:Nat) (vs:List Value) (hv:vs.length=n) (m:Nat) (hm:m≤n):Done w F (OwnK e 1 (.slice (some ⟨g,0,none⟩) m c) m (vs.take m)) ((w.drewN q).setCells g 0 vs):=by
 obtain ⟨rfl,hl,hr⟩:=h
 rcases hr with ⟨h0,_⟩ | ⟨g', cap,cur,e1,_,h1,h2,h3,h4,h5⟩
 · cases h0
 · injection e1 with e1 e2 e3
   injection e1 with e1
   injection e1 with e1
   subst e1;subst e3
   have hh:(w.drewN q).heap[g]?=some (.cells cur.toList.toArray e (0,0)):=by
    rw [Array.toArray_toList]
    exact h1
   have h6:=heap_sets vs 0 (w.drewN q) cur.toList hh
   have hsz:cur.toList.length=c:=by rw [Array.length_toList,h4,Nat.mul_one]
   rw [setL_eq vs cur.toList 0 (by omega),List.take_zero,List.nil_append] at h6
   have ht:Tch [g] w ((w.drewN q).setCells g 0 vs):=(Tch.trans (w1:=w.drewN q) ⟨rfl,rfl,rfl,Nat.le_refl _,fun _ _ _=>rfl⟩ (tch_sets g vs 0 _) (Sub.refl _ _))
   refine ⟨[g],⟨rfl,by rw [List.length_take];omega,.inr ⟨g,c,_,rfl,Nat.zero_le _,h6,by omega,h3,?_,?_⟩⟩,ht,Sub.refl _ _⟩
   · rw [List.size_toArray,List.length_append,List.length_drop]
     omega
   · rw [Nat.mul_one]
     show (vs ++ _).take m=_
     rw [List.take_append_of_le_length (by omega)]
section
variable {w0 w:World} {F0:List Nat} {C:Obj→Obj} {A:Option Addr} {n cap k:Nat} {l:List ByteArray}
end
theorem CellW.ownN {g n:Nat} {cs:Array Value} {e:TypeId} {w:World} {F:List Nat} (h:CellW g cs e w F) (hn:cs.size=n) (hm:n≤maxLen):OwnK e 1 (.slice (some ⟨g,0,none⟩) n n) n cs.toList w F:=by
 obtain ⟨rfl,h⟩:=h
 exact ⟨rfl,by rw [Array.length_toList,hn,Nat.mul_one],.inr ⟨g,n,cs,rfl,Nat.zero_le _,h,Nat.le_refl _,hm,by rw [hn,Nat.mul_one],by rw [Nat.mul_one,List.take_of_length_le (by rw [Array.length_toList];omega)]⟩⟩
end Go.Proofs.YtjddbjmcjhjpiaaGreatDoor

namespace Go.Proofs.YtjddbjmcjhjpiaaGreatDoor
open Go.RowKit

end Go.Proofs.YtjddbjmcjhjpiaaGreatDoor

namespace Go.Proofs.YtjddbjmcjhjpiaaGreatDoor
open Go.RowKit

section
variable {P:Program} {ops:Array Oper} {C:World→Prop}
structure WQ (P:Program) (ops:Array Oper) (C:World→Prop) (Q:Act→Prop) (l:List Oper) (a:Act):Prop where
 out:wpQuiet P ops C Q l a
theorem regq {id:Nat} {Q:Exit→Act→World→Prop} {a:Act} {w:World} {l:List Oper} (C:World→Prop) (hm:P.follows .mixedOrders=true) (hB:Region.lexB .any l.toArray=true) (hC:C w.drew)
 (h:WQ P l.toArray C (fun a' => ∀ w', C w' → Q .normal a' w') l a):(Code.region id l.toArray true).wp P Q a w :=
 wp_region_quiet (C:=C) hm hB hC (by simpa using h.out)
theorem q_done {Q:Act→Prop} {a:Act} (h:Q a):WQ P ops C Q [] a:=⟨h⟩
theorem q_take {Q:Act→Prop} {a:Act} {o:Oper} {rest:List Oper} {v:Value} (hw:Region.wanted o (yielded ops a.tmps)=true) (hy:∀ W,C W→(execOp a.eval o).run P W=.ok (.value v) W)
 (h:WQ P ops C Q rest (a.put o.dst v)):WQ P ops C Q (o :: rest) a:=by
 constructor
 unfold wpQuiet
 rw [if_pos hw]
 refine ⟨v,fun W hW=>?_,h.out⟩
 unfold Oper.quietAt
 rw [hy W hW]
 exact ⟨rfl,rfl⟩
theorem q_skip {Q:Act→Prop} {a:Act} {o:Oper} {rest:List Oper} (hw:Region.wanted o (yielded ops a.tmps)=false)
 (h:WQ P ops C Q rest (a.put o.dst undef)):WQ P ops C Q (o :: rest) a:=by
 constructor
 unfold wpQuiet
 rw [if_neg (by rw [hw];decide)]
 exact h.out
theorem qtk {Q:Act→Prop} {a a' : Act} {o:Oper} {rest:List Oper} {v:Value} (h:WQ P ops C Q rest a') (hw:Region.wanted o (yielded ops a.tmps)=true:=by rfl) (hy:∀ W,C W→(execOp a.eval o).run P W=.ok (.value v) W:=by intro W HW;go_simp;try with_reducible rfl)
 (ha:a.put o.dst v=a' := by simp only [Act.put,List.setIfInBounds_toArray,List.set_cons_zero,List.set_cons_succ];rfl):WQ P ops C Q (o :: rest) a:=by
 subst ha
 exact q_take hw hy h
theorem qsk {Q:Act→Prop} {a a' : Act} {o:Oper} {rest:List Oper} (h:WQ P ops C Q rest a') (hw:Region.wanted o (yielded ops a.tmps)=false:=by rfl) (ha:a.put o.dst undef=a' := by simp only [Act.put,List.setIfInBounds_toArray,List.set_cons_zero,List.set_cons_succ];rfl):WQ P ops C Q (o :: rest) a:=by
 subst ha
 exact q_skip hw h
theorem q_call {Q:Act→Prop} {a:Act} {o:Oper} {rest:List Oper} {v:Value} (f:FuncId) (args:Array Value) (hw:Region.wanted o (yielded ops a.tmps)=true) (he:∀ W,C W→(execOp a.eval o).run P W=.ok (.enter f args) W)
 (hc:∀ W,C W→Calls P f args W fun e W' => e=.returned v∧C W')
 (h:WQ P ops C Q rest (a.put o.dst v)):WQ P ops C Q (o :: rest) a:=by
 constructor
 unfold wpQuiet
 rw [if_pos hw]
 refine ⟨v,fun W hW=>?_,h.out⟩
 unfold Oper.quietAt
 rw [he W hW]
 exact ⟨rfl,hc W hW⟩
end
end Go.Proofs.YtjddbjmcjhjpiaaGreatDoor

namespace Go.Proofs.YtjddbjmcjhjpiaaGreatDoor
open Go.RowKit M

section
variable {w:World} {v:Value} {F:List Nat}
end
end Go.Proofs.YtjddbjmcjhjpiaaGreatDoor

namespace Go.Proofs.YtjddbjmcjhjpiaaGreatDoor
open Go.RowKit

section
variable {w:World} {v:Value} {F:List Nat}
end
end Go.Proofs.YtjddbjmcjhjpiaaGreatDoor

namespace Go.Proofs.YtjddbjmcjhjpiaaGreatDoor
open Go.RowKit M

section
variable {w:World} {v:Value} {F:List Nat}
end
end Go.Proofs.YtjddbjmcjhjpiaaGreatDoor

namespace Go.Proofs.YtjddbjmcjhjpiaaGreatDoor
open Go.RowKit M

section
variable {α:Type} {f:α→List Value} {k:Nat}
theorem flatLen (hf:∀ x,(f x).length=k):∀ l:List α,(l.flatMap f).length=l.length * k
 | []=>by simp
 | x :: l=>by rw [List.flatMap_cons,List.length_append,hf,flatLen hf l,List.length_cons,Nat.succ_mul];omega
theorem flatAt (hf:∀ x,(f x).length=k):∀ (l:List α) (i r:Nat) (h:i < l.length),r < k→(l.flatMap f)[i * k + r]?=(f l[i])[r]?
 | [],i,r,h,_=>by simp at h
 | x :: l,0,r,_,hr=>by
  rw [List.flatMap_cons,Nat.zero_mul,Nat.zero_add,List.getElem?_append_left (by rw [hf];exact hr)]
  rfl
 | x :: l,i + 1,r,h,hr=>by
  rw [List.flatMap_cons,List.getElem?_append_right (by rw [hf,Nat.succ_mul];omega),hf,show (i + 1) * k + r - k=i * k + r by rw [Nat.succ_mul];omega,flatAt hf l i r (by simpa using h) hr]
  rfl
end
theorem setL_app:∀ (vs l1 l2:List Value) (o:Nat),setL (l1 ++ l2) (l1.length + o) vs=l1 ++ setL l2 o vs
 | [],_,_,_=>rfl
 | v :: r,l1,l2,o=>by
  rw [setL,setL,List.set_append_right _ _ (by omega),show l1.length + o - l1.length=o by omega,Nat.add_assoc]
  exact setL_app r l1 _ (o + 1)
theorem setL_take (m:Nat):∀ (vs l:List Value) (o:Nat),(setL l o vs).take m=setL (l.take m) o vs
 | [],_,_=>rfl
 | v :: r,l,o=>by
  rw [setL,setL,setL_take m r,List.take_set]
theorem setL_len:∀ (vs l:List Value) (o:Nat),(setL l o vs).length=l.length
 | [],_,_=>rfl
 | v :: r,l,o=>by rw [setL,setL_len r,List.length_set]
theorem OwnK.sets {e:TypeId} {k g n c:Nat} {xs:List Value} {w:World} {F:List Nat} (h:OwnK e k (.slice (some ⟨g,0,none⟩) n c) n xs w F) (hn:0 < n) (o:Nat) (vs:List Value):Done w F (OwnK e k (.slice (some ⟨g,0,none⟩) n c) n (setL xs o vs)) (w.setCells g o vs):=by
 have hl:=h.2.1
 obtain ⟨g', e1,rfl,cur,h1,h2,h3,h4,h5⟩:=h.whole hn
 injection e1 with e1
 injection e1 with e1
 subst e1
 have h6:=heap_sets (b:=g) (t:=e) vs o w cur.toList (by rw [Array.toArray_toList];exact h1)
 refine ⟨[g],⟨rfl,by rw [setL_len];exact hl,.inr ⟨g,c,_,rfl,Nat.zero_le _,h6,h4,h5,?_,?_⟩⟩,tch_sets g vs o w,Sub.refl _ _⟩
 · rw [List.size_toArray,setL_len,Array.length_toList];exact h2
 · show (setL cur.toList o vs).take (n * k)=_
   rw [setL_take,h3]
theorem CellW.ownS {g n k:Nat} {cs:Array Value} {e:TypeId} {w:World} {F:List Nat} (h:CellW g cs e w F) (hn:cs.size=n * k) (hm:n≤maxLen):OwnK e k (.slice (some ⟨g,0,none⟩) n n) n cs.toList w F:=by
 obtain ⟨rfl,h⟩:=h
 exact ⟨rfl,by rw [Array.length_toList,hn],.inr ⟨g,n,cs,rfl,Nat.zero_le _,h,Nat.le_refl _,hm,hn,by rw [← hn,List.take_of_length_le (by rw [Array.length_toList];omega)]⟩⟩
end Go.Proofs.YtjddbjmcjhjpiaaGreatDoor

namespace Go.Proofs.YtjddbjmcjhjpiaaGreatDoor
set_option maxRecDepth 100000
set_option maxHeartbeats 4000000
open Go.RowKit M Go.Lib

theorem Done.wider {w w' : World} {F:List Nat} {R:Obj} (h:Done w [] R w'):Done w F R w' := by
 obtain ⟨F', h1,h2,h3⟩:=h
 exact ⟨F', h1,h2.mono (fun _ h=>by cases h),fun g hg=>.inr ((h3 g hg).resolve_left (fun h=>by cases h))⟩
theorem OwnK.ext {e:TypeId} {g n c m:Nat} {xs:List Value} {w:World} {F:List Nat} (h:OwnK e 1 (.slice (some ⟨g,0,none⟩) n c) n xs w F) (hn:0 < n) (hc:n + m≤c):∃ zs,zs.length=m∧OwnK e 1 (.slice (some ⟨g,0,none⟩) (n + m) c) (n + m) (xs ++ zs) w F:=by
 obtain ⟨g', e1,rfl,cur,h1,h2,h3,h4,h5⟩:=h.whole hn
 injection e1 with e1
 injection e1 with e1
 subst e1
 have hl:=h.2.1
 have hs:cur.toList.length=c:=by rw [Array.length_toList];omega
 refine ⟨(cur.toList.drop n).take m,by rw [List.length_take,List.length_drop];omega,rfl,?_,.inr ⟨g,c,cur,rfl,Nat.zero_le _,h1,hc,h5,h2,?_⟩⟩
 · rw [List.length_append,List.length_take,List.length_drop];omega
 · rw [Nat.mul_one,List.take_add,← h3,Nat.mul_one]
def putAt (xs:List Value) (i:Nat) (vs:List Value):List Value:=xs.take i ++ vs ++ xs.drop i
theorem putAt_end (xs vs:List Value):putAt xs xs.length vs=xs ++ vs:=by simp [putAt]
theorem putAt_room (xs zs vs:List Value) (i m:Nat) (hi:i < xs.length) (hz:zs.length=m) (hv:vs.length=m):setL (setL (xs ++ zs) (i + m) (xs.drop i)) i vs=putAt xs i vs:=by
 have h1:setL (xs ++ zs) (i + m) (xs.drop i)=(xs ++ zs).take (i + m) ++ xs.drop i:=by
  have hd:(xs ++ zs).drop (i + m + (xs.drop i).length)=[]:=List.drop_eq_nil_of_le (by simp;omega)
  rw [setL_eq _ _ _ (by simp;omega),hd,List.append_nil]
 have h2:((xs ++ zs).take (i + m)).length=i + m:=by simp;omega
 have h3:((xs ++ zs).take (i + m) ++ xs.drop i).take i=xs.take i:=by
  rw [List.take_append_of_le_length (by omega),List.take_take,Nat.min_eq_left (by omega),List.take_append_of_le_length (by omega)]
 rw [h1,setL_eq _ _ _ (by rw [List.length_append,h2,List.length_drop];omega),h3,hv,List.drop_left' h2]
 rfl
theorem putAt_new (xs R vs:List Value) (i m:Nat) (hi:i < xs.length) (hv:vs.length=m) (hR:R.length=xs.length + m) (ht:R.take i=xs.take i):setL (setL R i vs) (i + m) (xs.drop i)=putAt xs i vs:=by
 have h1:setL R i vs=(xs.take i ++ vs) ++ R.drop (i + m):=by
  rw [setL_eq _ _ _ (by omega),ht,hv]
 have h2:(xs.take i ++ vs).length=i + m:=by rw [List.length_append,List.length_take];omega
 have hd:((xs.take i ++ vs) ++ R.drop (i + m)).drop (i + m + (xs.drop i).length)=[]:=List.drop_eq_nil_of_le (by rw [List.length_append,h2,List.length_drop,List.length_drop];omega)
 rw [h1,setL_eq _ _ _ (by rw [List.length_append,h2,List.length_drop,List.length_drop];omega),List.take_left' h2,hd,List.append_nil]
 rfl
theorem u32_infoL:(Tryz.prog.info? 22).map (fun i=>(i.zero,i.size,i.bytes))=some (some (.int .u32 0),1,4):=by kernel_rfl
section
variable {n i m cap g b:Nat} {A:Option Addr} {xs vs:List Value} {x:Int} {w:World} {F:List Nat}
def InsR (n i m:Nat) (xs vs:List Value) (F:List Nat) (w:World) (e:Ending) (w' : World):Prop:=∃ A' c', e=.returned (.slice A' (n + m) c')∧(n + m≤c' ∧ c' ≤ maxLen)∧Done w F (OwnK 22 1 (.slice A' (n + m) c') (n + m) (putAt xs i vs)) w'
theorem XIns_end (h:OwnK 22 1 (.slice A n cap) n xs w F) (hR:RdG 1 w (.slice (some ⟨g,0,none⟩) m m) m vs) (h1:∀ y ∈ vs,y.oneCell' = true) (hm0:0 < m) (hn:n + m≤1000000) :
 Calls Tryz.prog 82 #[.slice A n cap,.int .i64 (n:Int),.slice (some ⟨g,0,none⟩) m m] w (InsR n n m xs vs F w):=by
 have hl:xs.length=n:=by have := h.2.1;omega
 obtain ⟨_,_,he,hc1,hc2⟩:=h.shape
 injection he with _ _ he
 subst he
 have hfm:=own_form h.2
 have hm:cap≤9223372036854775807:=hc2
 have hz1:¬ ((m:Int)=0):=by omega
 have HD:=jzD (Done.start h)
 have HR:=jzD hR
 have H1:=jzD h1
 have HP:Hid (putAt xs n vs=xs ++ vs):=by show _=_;rw [← hl];exact putAt_end _ _
 have HN:=jzD hn
 clear h hR h1 hl hc2 hm0
 rcases hfm with ⟨rfl,rfl,rfl⟩ | ⟨b,rfl⟩
 · go_enter Tryz.func82,Tryz.ntmps82
   go_wp2_with ((with_reducible refine wpList_appD (C:=fun X=>X) Fr.id_ HD.out rfl (.tmp 23) (.tmp 24) 44 4 (.int .u32 0) rfl Tryz.underlying44 u32_infoL rfl (by decide) (.slice (some ⟨g,0,none⟩) m m) m vs rfl rfl HR.out H1.out (0 + m) rfl HN.out (putAt xs 0 vs) HP.out ?_);intro A c w' hs hc;have HS:=jzD hs;have HC:=jzD hc;clear hs hc)
   go_ret
   exact ⟨A,c,by rw [Nat.zero_add];rfl,HC.out,HS.out⟩
 · by_cases hcn:cap=n
   · subst hcn
     go_enter Tryz.func82,Tryz.ntmps82
     go_wp2_with ((with_reducible refine wpList_appD (C:=fun X=>X) Fr.id_ HD.out rfl (.tmp 23) (.tmp 24) 44 4 (.int .u32 0) rfl Tryz.underlying44 u32_infoL rfl (by decide) (.slice (some ⟨g,0,none⟩) m m) m vs rfl rfl HR.out H1.out (cap + m) rfl HN.out (putAt xs cap vs) HP.out ?_);intro A c w' hs hc;have HS:=jzD hs;have HC:=jzD hc;clear hs hc)
     go_ret
     exact ⟨A,c,rfl,HC.out,HS.out⟩
   · have hcn2:¬ (n=cap):=fun h=>hcn h.symm
     go_enter Tryz.func82,Tryz.ntmps82
     go_wp2_with ((with_reducible refine wpList_appD (C:=fun X=>X) Fr.id_ HD.out rfl (.tmp 23) (.tmp 24) 44 4 (.int .u32 0) rfl Tryz.underlying44 u32_infoL rfl (by decide) (.slice (some ⟨g,0,none⟩) m m) m vs rfl rfl HR.out H1.out (n + m) rfl HN.out (putAt xs n vs) HP.out ?_);intro A c w' hs hc;have HS:=jzD hs;have HC:=jzD hc;clear hs hc)
     go_ret
     exact ⟨A,c,rfl,HC.out,HS.out⟩
theorem XOv (hgb:g ≠ b) {cg cb:Array Value} (hg:w.heap[g]?=some (.cells cg 22 (0,0))) (hb:w.heap[b]?=some (.cells cb 22 (0,0))) (hc:cb.size ≠ 0) (o l c m k:Nat):(callFunc 101 #[.slice (some ⟨g,0,none⟩) m k,.slice (some ⟨b,o,none⟩) l c]).run Tryz.prog w=.ok (.value (.bool false)) w:=by
 rw [run_callFunc_extern Tryz.func101 (by kernel_rfl) (by kernel_rfl) (by kernel_rfl) (e:=Extern.SlicesOverlaps.overlaps #[44,44] #[4]) (by kernel_rfl),
  Lib.run_overlaps_apart w 44 4 22 Tryz.underlying44 1 (fun w=>by kernel_rfl) ⟨g,0,none⟩ ⟨b,o,none⟩ m k l c hgb 22 22 cg.size cb.size (by simp [World.shape?,hg]) (by simp [World.shape?,hb]) hc (frz_at hg _) (frz_at hg _)]
 rfl
theorem u32_sz:(Tryz.prog.info? 22).map (·.size)=some 1:=by kernel_rfl
theorem XIns_room (h:OwnK 22 1 (.slice (some ⟨b,0,none⟩) n cap) n xs w F) (ho:∀ y ∈ xs,y.oneCell' = true) (hR:CellW g vs.toArray 22 w [g]) (h1:∀ y ∈ vs,y.oneCell' = true) (hv:vs.length=m) (hgF:g ∉ F) (hm0:0 < m) (hi:i < n) (hc:n + m≤cap) :
 Calls Tryz.prog 82 #[.slice (some ⟨b,0,none⟩) n cap,.int .i64 (i:Int),.slice (some ⟨g,0,none⟩) m m] w (InsR n i m xs vs F w):=by
 have hl:xs.length=n:=by have := h.2.1;omega
 obtain ⟨zs,hz,hX⟩:=h.ext (m:=m) (by omega) hc
 obtain ⟨b', e1,hF,cur,hb,hbs,_,_,hc2⟩:=h.whole (by omega)
 injection e1 with e1
 injection e1 with e1
 subst e1
 obtain ⟨_,hg⟩:=hR
 have hgb:g ≠ b:=fun e=>hgF (by rw [hF,e];simp)
 have hm:cap≤9223372036854775807:=hc2
 have hov:∀ lb cb,(callFunc 101 #[.slice (some ⟨g,0,none⟩) m m,.slice (some ⟨b,i + m,none⟩) lb cb]).run Tryz.prog w=.ok (.value (.bool false)) w:=fun lb cb=>XOv hgb hg hb (by omega) _ _ _ _ _
 have hdl:(xs.drop i).length=n - i:=by rw [List.length_drop,hl]
 have hcell:∀ j,j < n + m→(w.cell? ⟨b,j,none⟩).isSome=true:=fun j hj=>by
  have hj2:j < (xs ++ zs).length:=by rw [List.length_append];omega
  rw [hX.cell (List.getElem?_eq_getElem hj2)]
  rfl
 have hcp1:∀ ty dc sc,(Builtin.copy_ #[44,44] ty #[.slice (some ⟨b,i + m,none⟩) (n + m - (i + m)) dc,.slice (some ⟨b,i,none⟩) (n + m - i) sc]).run Tryz.prog w.drew=.ok (goInt (xs.drop i).length) (w.drew.setCells b (i + m) (xs.drop i)):=fun ty dc sc =>
  run_copy_cells w.drew _ _ ty 22 b (i + m) (n + m - (i + m)) dc ⟨b,i,none⟩ (n + m - i) sc (xs.drop i) Tryz.underlying44 u32_sz (by rw [hdl];simp only [Nat.min_def];split <;> omega)
   (fun j v hj=>by rw [Addr.add_lit];exact h.cell (by rwa [List.getElem?_drop] at hj))
   (fun j hj=>hcell (i + m + j) (by omega)) (fun j _=>frz_at hb _) (fun v hv=>ho v (List.mem_of_mem_drop hv))
 obtain ⟨W1,hW1⟩:∃ W1,W1=w.drew.setCells b (i + m) (xs.drop i):=⟨_,rfl⟩
 have hcp2:∀ (W:World),(∀ x,W.cell? x=W1.cell? x)→(∀ x,W.frozen? x=W1.frozen? x)→∀ ty dc,(Builtin.copy_ #[44,44] ty #[.slice (some ⟨b,i,none⟩) (n + m - i) dc,.slice (some ⟨g,0,none⟩) m m]).run Tryz.prog W=.ok (goInt vs.length) (W.setCells b i vs):=fun W hWc hWf ty dc =>
  run_copy_cells W _ _ ty 22 b i (n + m - i) dc ⟨g,0,none⟩ m m vs Tryz.underlying44 u32_sz (by rw [hv];simp only [Nat.min_def];split <;> omega)
   (fun j v hj=>by
    rw [Addr.add_lit,hWc,hW1,World.cell?_setCells_out b _ _ _ _ (fun h _=>absurd h hgb),Nat.zero_add]
    exact cell_at hg j v (by simpa using hj))
   (fun j hj=>by rw [hWc,hW1];exact isSome_setCells b (xs.drop i) _ w.drew (fun k hk=>hcell (i + m + k) (by omega)) _ (hcell (i + j) (by omega))) (fun j _=>by rw [hWf,hW1,World.frozen?_setCells];exact frz_at hb _) h1
 rw [← hW1] at hcp1
 have hD0:=(Done.start hX).drewD kS
 have hD1:Done w F (OwnK 22 1 (.slice (some ⟨b,0,none⟩) (n + m) cap) (n + m) (setL (xs ++ zs) (i + m) (xs.drop i))) W1:=by
  obtain ⟨F1,k1,hu⟩:=hD0.upd (C:=fun X=>X) Fr.id_
  rw [hW1]
  exact hu (k1.sets (by omega) _ _)
 have hD2:Done w F (OwnK 22 1 (.slice (some ⟨b,0,none⟩) (n + m) cap) (n + m) (putAt xs i vs)) (W1.setCells b i vs):=by
  obtain ⟨F1,k1,hu⟩:=hD1.upd (C:=fun X=>X) Fr.id_
  rw [← putAt_room xs zs vs i m (by omega) hz hv]
  exact hu (k1.sets (by omega) _ _)
 have HD:=jzD hD2
 have HC:Hid (n + m≤cap∧cap≤maxLen):=⟨hc,hc2⟩
 have hz1:¬ ((m:Int)=0):=by omega
 have hz2:¬ ((i:Int)=(n:Int)):=by omega
 have hw1:IntKind.i64.wrap ((i:Int) + (m:Int))=(i:Int) + (m:Int):=by rw [IntKind.wrap_i64];omega
 have hb1:(0:Int)≤(i:Int) + (m:Int):=by omega
 have hin:i≤n:=by omega
 have htn:((i:Int) + (m:Int)).toNat=i + m:=by omega
 have hb2:¬ (cap=i + m):=by omega
 have hb3:(i:Int)≤(n:Int) + (m:Int):=by omega
 have hb4:¬ (cap=i):=by omega
 clear hD0 hD1 hD2 h hX hb hg hcell hdl hl hz ho h1 hv hgF hgb hF hbs hc2
 have mixed:Tryz.prog.follows Departure.mixedOrders=true:=by kernel_rfl
 go_enter Tryz.func82,Tryz.ntmps82
 go_wp2_with (simp only [hov])
 go_region_law_o (refine step_copy_runI rfl _ _ 44 44 rfl _ _ (by simp [Act.eval,Act.put]) (by simp [Act.eval,Act.put]) (hcp1 _ _ _) ?_)
 go_wp2_with (at_builtin;refine wpList_copy_runI _ rfl _ _ 44 44 rfl _ _ rfl rfl (hcp2 _ (fun _=>rfl) (fun _=>rfl) _ _) ?_)
 go_ret
 exact ⟨_,cap,rfl,HC.out,by rw [← hW1];exact HD.out⟩
theorem XIns_grow (h:OwnK 22 1 (.slice (some ⟨b,0,none⟩) n cap) n xs w F) (ho:∀ y ∈ xs,y.oneCell' = true) (hR:CellW g vs.toArray 22 w [g]) (h1:∀ y ∈ vs,y.oneCell' = true) (hv:vs.length=m) (hm0:0 < m) (hi:i < n) (hc:cap < n + m) (hbig:n + m≤1000000) :
 Calls Tryz.prog 82 #[.slice (some ⟨b,0,none⟩) n cap,.int .i64 (i:Int),.slice (some ⟨g,0,none⟩) m m] w (InsR n i m xs vs F w):=by
 have hl:xs.length=n:=by have := h.2.1;omega
 obtain ⟨b', e1,hF,cur,hb,hbs,_,hnc,hc2⟩:=h.whole (by omega)
 injection e1 with e1
 injection e1 with e1
 subst e1
 obtain ⟨_,hg⟩:=hR
 have hcm:cap≤9223372036854775807:=hc2
 have hbw:b < w.heap.size:=lt_at hb
 have hgw:g < w.heap.size:=lt_at hg
 obtain ⟨i0,hi0,hz0,hzs,hzb⟩:=info_parts u32_infoL
 have hik:i + (n + m - i)=n + m:=by omega
 have hkk:(n:Int) + (m:Int) - (i:Int)=((n + m - i:Nat):Int):=by omega
 have hold:(Builtin.firstCells i0.size i (.slice (some ⟨b,0,none⟩) i cap)).run Tryz.prog w.drew=.ok (xs.take i).toArray w.drew:=by
  rw [hzs]
  exact run_firstCells_some w.drew 1 i ⟨b,0,none⟩ i cap (xs.take i) (by rw [List.length_take];omega) (fun j v hj=>by
   rw [Addr.add_lit,Nat.zero_add]
   rw [List.getElem?_take] at hj
   split at hj
   · exact h.cell hj
   · cases hj)
 obtain ⟨G,hG⟩:∃ G,G=grownCap w (n + m) cap 22:=⟨_,rfl⟩
 obtain ⟨ROW,hROW⟩:∃ ROW:Array Value,ROW=(xs.take i).toArray ++ Builtin.zeroCells (Value.int .u32 0).cells (n + m - i) ++ Builtin.zeroCells (Value.int .u32 0).cells (G - (n + m)):=⟨_,rfl⟩
 have hrz:∀ ty,(Builtin.append_ #[44,3] ty #[.slice (some ⟨b,0,none⟩) i cap,.int .i64 ((n:Int) + (m:Int) - (i:Int))]).run Tryz.prog w =
  .ok (.slice (some ⟨w.heap.size,0,none⟩) (n + m) G) (w.drew.alloc (.cells ROW 22)):=fun ty=>by
  have h:=Lib.run_append_grow_zeros w 44 3 ty 22 i0 _ .i64 .i64 Tryz.underlying44 Tryz.underlying3 hi0 hz0 (some ⟨b,0,none⟩) i cap (xs.take i) hold (n + m - i) (by omega) (by omega) (by omega) (by omega) (by rw [hzb];omega) (by rw [hzb,hik];exact growslice_fits hc (by omega))
  rw [hik,← hG,← hROW] at h
  rw [hkk]
  exact h
 have hGn:n + m≤G:=by rw [hG];exact grownCap_ge w _ _ _
 have hGm:G≤maxLen:=by rw [hG];exact grownCap_le_maxLen w (n + m) cap 22 (by simp only [maxLen];omega)
 have hG63:G≤9223372036854775807:=hGm
 have hRs:ROW.size=G:=by
  rw [hROW]
  simp [Builtin.zeroCells,Value.cells]
  omega
 have hRt:ROW.toList.take i=xs.take i:=by
  have hmin:min i xs.length=i:=by omega
  rw [hROW]
  simp [List.take_append,hmin]
 clear hROW hG hold hi0 hz0 hzs hzb
 obtain ⟨W1,hW1⟩:∃ W1,W1=w.drew.alloc (.cells ROW 22):=⟨_,rfl⟩
 have hnew:W1.heap[w.heap.size]?=some (.cells ROW 22 (0,0)):=by rw [hW1];exact heap_alloc_new w.drew _
 have hown:OwnK 22 1 (.slice (some ⟨w.heap.size,0,none⟩) (n + m) G) (n + m) (ROW.toList.take (n + m)) W1 [w.heap.size]:=by
  refine ⟨rfl,by rw [List.length_take,Array.length_toList];omega,.inr ⟨w.heap.size,G,ROW,rfl,Nat.zero_le _,hnew,hGn,hGm,by omega,by rw [Nat.mul_one]⟩⟩
 have hb1:Below w.heap.size w W1:=by rw [hW1];exact ((Below.refl _ _).drew).alloc (Nat.le_refl _) _
 have hD0:Done w F (OwnK 22 1 (.slice (some ⟨w.heap.size,0,none⟩) (n + m) G) (n + m) (ROW.toList.take (n + m))) W1 :=
  Done.wider ⟨[w.heap.size],hown,Tch.of_below [] hb1,fun g hg=>.inr (by simp only [List.mem_singleton] at hg;omega)⟩
 have hcellN:∀ j,j < n + m→(W1.cell? ⟨w.heap.size,j,none⟩).isSome=true:=fun j hj=>by
  rw [cell_at hnew j ROW[j] (by rw [Array.getElem?_eq_getElem (by omega)])]
  rfl
 have hcellg:∀ j v,vs[j]?=some v→W1.cell? ⟨g,j,none⟩=some v:=fun j v hj=>(hb1.cell (p:=⟨g,j,none⟩) hgw).trans (cell_at hg j v (by simpa using hj))
 have hcellb:∀ j v,xs[j]?=some v→W1.cell? ⟨b,j,none⟩=some v:=fun j v hj=>(hb1.cell (p:=⟨b,j,none⟩) hbw).trans (h.cell hj)
 have hcpA:∀ (W:World),(∀ x,W.cell? x=W1.cell? x)→(∀ x,W.frozen? x=W1.frozen? x)→∀ ty dc,(Builtin.copy_ #[44,44] ty #[.slice (some ⟨w.heap.size,i,none⟩) (n + m - i) dc,.slice (some ⟨g,0,none⟩) m m]).run Tryz.prog W=.ok (goInt vs.length) (W.setCells w.heap.size i vs):=fun W hWc hWf ty dc =>
  run_copy_cells W _ _ ty 22 w.heap.size i (n + m - i) dc ⟨g,0,none⟩ m m vs Tryz.underlying44 u32_sz (by rw [hv];simp only [Nat.min_def];split <;> omega)
   (fun j v hj=>by rw [Addr.add_lit,hWc,Nat.zero_add];exact hcellg j v hj)
   (fun j hj=>by rw [hWc];exact hcellN (i + j) (by omega)) (fun j _=>by rw [hWf];exact frz_at hnew _) h1
 have hdl:(xs.drop i).length=n - i:=by rw [List.length_drop,hl]
 have hbN:b ≠ w.heap.size:=by omega
 have hcpB:∀ (W:World),(∀ x,W.cell? x=(W1.setCells w.heap.size i vs).cell? x)→(∀ x,W.frozen? x=(W1.setCells w.heap.size i vs).frozen? x)→∀ ty dc sc,(Builtin.copy_ #[44,44] ty #[.slice (some ⟨w.heap.size,i + m,none⟩) (n + m - (i + m)) dc,.slice (some ⟨b,i,none⟩) (n - i) sc]).run Tryz.prog W=.ok (goInt (xs.drop i).length) (W.setCells w.heap.size (i + m) (xs.drop i)):=fun W hWc hWf ty dc sc =>
  run_copy_cells W _ _ ty 22 w.heap.size (i + m) (n + m - (i + m)) dc ⟨b,i,none⟩ (n - i) sc (xs.drop i) Tryz.underlying44 u32_sz (by rw [hdl];simp only [Nat.min_def];split <;> omega)
   (fun j v hj=>by
    rw [Addr.add_lit,hWc,World.cell?_setCells_out _ _ _ _ _ (fun h _=>absurd h hbN)]
    exact hcellb _ v (by rwa [List.getElem?_drop] at hj))
   (fun j hj=>by rw [hWc];exact isSome_setCells _ vs _ W1 (fun t ht=>hcellN (i + t) (by omega)) _ (hcellN (i + m + j) (by omega)))
   (fun j _=>by rw [hWf,World.frozen?_setCells];exact frz_at hnew _) (fun v hv=>ho v (List.mem_of_mem_drop hv))
 have hD1:Done w F (OwnK 22 1 (.slice (some ⟨w.heap.size,0,none⟩) (n + m) G) (n + m) (setL (ROW.toList.take (n + m)) i vs)) ((W1.setCells w.heap.size i vs)):=by
  obtain ⟨F1,k1,hu⟩:=hD0.upd (C:=fun X=>X) Fr.id_
  exact hu (k1.sets (by omega) _ _)
 have hD2:Done w F (OwnK 22 1 (.slice (some ⟨w.heap.size,0,none⟩) (n + m) G) (n + m) (putAt xs i vs)) (((W1.setCells w.heap.size i vs)).setCells w.heap.size (i + m) (xs.drop i)):=by
  obtain ⟨F1,k1,hu⟩:=hD1.upd (C:=fun X=>X) Fr.id_
  rw [← putAt_new xs (ROW.toList.take (n + m)) vs i m (by omega) hv (by rw [List.length_take,Array.length_toList];omega) (by rw [List.take_take,Nat.min_eq_left (by omega)];exact hRt)]
  exact hu (k1.sets (by omega) _ _)
 have HDr:=jzD (hD2.drewD kS)
 have HC:Hid (n + m≤G∧G≤maxLen):=⟨hGn,hGm⟩
 have hz1:¬ ((m:Int)=0):=by omega
 have hz2:¬ ((i:Int)=(n:Int)):=by omega
 have hz3:(cap:Int) < (n:Int) + (m:Int):=by omega
 have hw1:IntKind.i64.wrap ((i:Int) + (m:Int))=(i:Int) + (m:Int):=by rw [IntKind.wrap_i64];omega
 have hb1' : (0:Int)≤(i:Int) + (m:Int):=by omega
 have hin:i≤n:=by omega
 have htn:((i:Int) + (m:Int)).toNat=i + m:=by omega
 have hb3:(i:Int)≤(n:Int):=by omega
 have hGi:¬ (G=i):=by omega
 have hGim:¬ (G=i + m):=by omega
 have hci:¬ (cap=i):=by omega
 have mixed:Tryz.prog.follows Departure.mixedOrders=true:=by kernel_rfl
 clear hD0 hD1 hD2 h hb hg hdl hl ho h1 hv hF hbs hc2 hown hnew hb1 hcellN hcellg hcellb hRs hRt hkk hik hbw hgw hbN hGm
 subst hW1
 have hE1:∀ x,((w.alloc (.cells ROW 22)).drew).cell? x=(w.drew.alloc (.cells ROW 22)).cell? x:=fun x=>rfl
 have hE2:∀ x,((w.alloc (.cells ROW 22)).drew).frozen? x=(w.drew.alloc (.cells ROW 22)).frozen? x:=fun x=>rfl
 have hF1:∀ x,(((w.alloc (.cells ROW 22)).drew.setCells w.heap.size i vs).drew).cell? x=((w.drew.alloc (.cells ROW 22)).setCells w.heap.size i vs).cell? x:=fun x=>rfl
 have hF2:∀ x,(((w.alloc (.cells ROW 22)).drew.setCells w.heap.size i vs).drew).frozen? x=((w.drew.alloc (.cells ROW 22)).setCells w.heap.size i vs).frozen? x:=fun x=>rfl
 go_enter Tryz.func82,Tryz.ntmps82
 go_wp2_with (first
  | (at_builtin;refine Lib.wpList_append_run _ rfl _ _ _ _ rfl _ _ rfl rfl _ _ (hrz _) ?_)
  | (at_builtin;refine wpList_copy_runI _ rfl _ _ 44 44 rfl _ _ rfl rfl (hcpA _ hE1 hE2 _ _) ?_))
 go_region_law_o (refine step_copy_runI rfl _ _ 44 44 rfl (.slice (some ⟨w.heap.size,i + m,none⟩) (n + m - (i + m)) (G - (i + m))) (.slice (some ⟨b,i,none⟩) (n - i) (cap - i)) (by simp [Act.eval,Act.put]) (by simp [Act.eval,Act.put]) (hcpB _ hF1 hF2 3 (G - (i + m)) (cap - i)) ?_)
 go_wp2
 go_ret
 exact ⟨_,G,rfl,HC.out,by have := HDr.out;rw [drew_setCells] at this;exact this⟩
end
end Go.Proofs.YtjddbjmcjhjpiaaGreatDoor

namespace Go.Proofs.YtjddbjmcjhjpiaaGreatDoor
set_option maxRecDepth 100000
set_option maxHeartbeats 2000000
open Go.RowKit Go.Shelf

attribute [local go_sem] Oper.semAt_some

def RdB (n₀:Nat) (W:World) (A:Option Addr) (zs:List Int):Prop :=
 0 < zs.length→∃ b off,A=some ⟨b,off,none⟩∧b < n₀∧∀ j (h:j < zs.length),W.cell? ⟨b,off + j,none⟩=some (.int .u32 zs[j])
theorem RdB.below {n₀:Nat} {W W' : World} (h:Below n₀ W W') {A:Option Addr} {zs:List Int} (hI:RdB n₀ W A zs):RdB n₀ W' A zs:=fun h0=>by
 obtain ⟨b,off,e,hb,hc⟩:=hI h0
 exact ⟨b,off,e,hb,fun j hj=>(h.cell (p:=⟨b,off + j,none⟩) hb).trans (hc j hj)⟩
theorem take_snocI {zs:List Int} {k:Nat} (h:k < zs.length):zs.take k ++ [zs[k]]=zs.take (k + 1):=(List.take_succ_eq_append_getElem h).symm

theorem Xval1_in (F:Fence) (n:Nat) (h7:F.fn 122) (hro:F.round=none) (hn:1≤n) (l Bs n₀:Nat) (A:Option Addr) (cap:Nat) (zs:List Int) (hlen:zs.length≤1000) (J Jx:List Int→World→Prop)
 (hY:∀ pre x W,J pre W→pre.length < zs.length→YieldAt F (n - 1) Tryz.prog l #[.int .u32 x] W fun e W' =>
  (e=.returned (.bool true)∧J (pre ++ [x]) W' ∧ Below n₀ W W') ∨ (e=.returned (.bool false)∧Jx (pre ++ [x]) W'))
 (W:World) (hBs:W.cell? ⟨Bs,0,none⟩=some (.slice A zs.length cap)) (hI:RdB n₀ W A zs) (h0:J [] W) :
 CallsIn F n Tryz.prog 122 #[.func (.yield l) #[] #[],.pointer (some ⟨Bs,0,none⟩)] W fun e W' => (∃ v,e=.returned v) ∧
  ((∃ ys,ys=zs∧J ys W') ∨ (∃ pre,pre <+: zs∧Jx pre W')):=by
 refine callsIn_of_wp Tryz.func122 rfl h7 ?_ hro
 simp only [Tryz.ntmps122,List.size_toArray,List.length_cons,List.length_nil,Nat.reduceAdd,Nat.reduceSub,Array.replicate_succ,Array.replicate_zero,List.push_toArray,List.append_toArray,List.nil_append,List.cons_append]
 gi_wp2
 gi_loopw [7] (fun i wr=>∃ k:Nat,k≤zs.length∧i=.int .i64 k∧J (zs.take k) wr∧Below n₀ W wr)
  (fun i _=>zs.length - (intOf i).toNat)
 case atStart=>exact ⟨0,Nat.zero_le _,rfl,by rw [List.take_zero];exact h0,Below.refl _ _⟩
 case round =>
  obtain ⟨k,hk,rfl,hJs,hnx⟩:=hrel
  by_cases hlt:k < zs.length
  · obtain ⟨b,off,rfl,hb,hc⟩:=hI (by omega)
    have hcx:=(hnx.cell (p:=⟨b,off + k,none⟩) hb).trans (hc k hlt)
    have hsn:=take_snocI hlt
    obtain ⟨x,hx⟩:∃ x,zs[k]=x:=⟨_,rfl⟩
    rw [hx] at hcx hsn
    have HSN:=jzD hsn
    have HBS:=jzD hBs
    have td:decide ((k:Int) < (zs.length:Int))=true:=decide_eq_true (by omega)
    obtain ⟨fn,tmps,assign,body,hy,hR⟩:=hY _ x wr hJs (by rw [List.length_take];omega)
    clear hx hsn hBs hc
    gi_wp2
    refine hR.mono ?_
    rintro e W3 (⟨rfl,hJ3,hk3⟩ | ⟨rfl,hJx3⟩)
    · gi_wp2
      go_roundw
      case rel=>exact ⟨k + 1,by omega,by simp,HSN.out ▸ hJ3,hnx.trans hk3⟩
      case measure=>simp [intOf];omega
    · gi_wp2
      refine bodyPost_ret (results_none rfl _ _ _) rfl ?_
      exact ⟨⟨_,rfl⟩,.inr ⟨_,(by rw [HSN.out];exact List.take_prefix _ _),hJx3⟩⟩
  · have td:decide ((k:Int) < (zs.length:Int))=false:=decide_eq_false (by omega)
    have HT:Hid (zs.take k=zs):=by show zs.take k=zs;exact List.take_of_length_le (by omega)
    gi_wp2
    go_end0
    exact ⟨⟨_,rfl⟩,.inl ⟨_,rfl,HT.out ▸ hJs⟩⟩

theorem Xval_stops (F:Fence) (n:Nat) (h7:F.fn 122) (hro:F.round=none) (hn:1≤n) (Bs n₀:Nat) (A:Option Addr) (cap:Nat) (zs:List Int) (hlen:zs.length≤1000) (w:World) (hBs:Bs < w.heap.size) (hn₀:n₀≤w.heap.size)
 (hc:w.cell? ⟨Bs,0,none⟩=some (.slice A zs.length cap)) (hI:RdB n₀ w A zs) :
 SeqStopsK F n Tryz.prog 122 #[.pointer (some ⟨Bs,0,none⟩)] (fun x:Int=>#[Value.int .u32 x]) (Below n₀) (fun ys=>ys=zs) (fun pre=>pre <+: zs) zs.length w:=fun l J Jx W hW _ _ hY h0 =>
 Xval1_in F n h7 hro hn l Bs n₀ A cap zs hlen J Jx hY W ((hW.cell (p:=⟨Bs,0,none⟩) hBs).trans hc) (hI.below (hW.mono hn₀)) h0

theorem u32_info:(Tryz.prog.info? 22).map (fun i=>(i.zero,i.size,i.bytes))=some (some (.int .u32 0),1,4):=by kernel_rfl

theorem Xapp_in (F:Fence) (n:Nat) (hA:F.fn 150) (h7:F.fn 122) (hro:F.round=none) (hn:3≤n) (Bs:Nat) (A:Option Addr) (cap:Nat) (zs:List Int) (hlen:zs.length≤1000) (w:World) (hBs:Bs < w.heap.size)
 (hc:w.cell? ⟨Bs,0,none⟩=some (.slice A zs.length cap)) (hI:RdB w.heap.size w A zs) :
 CallsIn F n Tryz.prog 150 #[.slice none 0 0,.func (.func 122) #[] #[.pointer (some ⟨Bs,0,none⟩)]] w fun e W' => ∃ v,e=.returned v∧W'.ownsRow w.heap.size 22 1 v zs.length (zs.map (Value.int .u32))∧Below w.heap.size w W' := by
 have h1:1≤n:=by omega
 obtain ⟨i0,hi,hz0,hz1,hz2⟩:=info_parts u32_info
 refine callsIn_of_wp_marks Tryz.func150 rfl hA ?_ hro
 simp only [Tryz.ntmps150,List.size_toArray,List.length_cons,List.length_nil,Nat.reduceAdd,Nat.reduceSub,Array.replicate_succ,Array.replicate_zero,List.push_toArray,List.append_toArray,List.nil_append,List.cons_append]
 gi_wp2
 have bO:=Boxed.new w 44 (.slice none 0 0)
 have hB0:Below w.heap.size w (w.alloc (.cells #[.slice none 0 0] 44)):=(Below.refl _ w).alloc (Nat.le_refl _) _
 refine wpIn_rangeFunc_ownG hro h1 (gf:=122) (lb:=#[.pointer (some ⟨Bs,0,none⟩)]) rfl h7 (enters_of Tryz.func122 (by kernel_rfl) rfl)
  (Xval_stops F (n - 1) h7 hro (by omega) Bs w.heap.size A cap zs hlen _ (by simp;omega) (by simp) ((hB0.cell (p:=⟨Bs,0,none⟩) hBs).trans hc) (hI.below hB0)) belowK_t (belowK_b (by simp)) (Below.refl _ _) (fun _=>rfl)
  (fun (pre:List Int) (W:World)=>(∃ v,Boxed W w.heap.size 44 v∧W.ownsRow w.heap.size 22 1 v pre.length (pre.map (Value.int .u32))∧True)∧Below w.heap.size w W)
  (fun _ _ _=>False)
  (OwnFrom.and (Own.from (holdsRow_own w.heap.size w.heap.size 44 22 1 (fun pre:List Int=>pre.length) (fun pre:List Int=>pre.map (Value.int .u32)) (fun _ _=>True)) _) (ownFrom_below (Nat.le_refl _) (by simp)))
  (fun _ _ _ _ _ hs _ _=>hs)
  ⟨⟨_,bO,World.ownsRow_nil _ _ _ _,trivial⟩,hB0⟩
  (fun x=>{ tmps:=#[.slice none 0 0,.func (.func 122) #[] #[.pointer (some ⟨Bs,0,none⟩)],.pointer (some ⟨w.heap.size,0,none⟩),undef,.slice none 0 0,.int .u32 x,.func (.func 122) #[] #[.pointer (some ⟨Bs,0,none⟩)],.int .u32 x,undef,undef,undef,undef,undef],defers:=[] }) ?assign ?body ?done ?stop
 case assign =>
  intro l x W K hK
  gi_wp2
  exact hK
 case body =>
  rintro l pre x W ⟨⟨v,hv,hrow,-⟩,hB⟩ hlt
  have hc:=hv.cell
  gi_wp2_with (gi_at_builtin;refine wpListIn_append_own _ rfl _ _ 44 rfl w.heap.size 22 i0 (.int .u32 0) 1 4 Tryz.underlying44 hi hz0 hz1 hz2 rfl (by decide) _ _ _ rfl (hrow.alloc _) ⟨W.heap.size,0,none⟩ 1 1 [.int .u32 x] rfl rfl (cell_one_new _ _ _) (by simp [Value.oneCell']) (by simp only [maxLen];omega) (by omega) (by have := hB.size;simp;omega) ?_;intro v' w1 hown' hgrow _;obtain ⟨g', cap', rfl⟩:=ownsRow_succ hown'; obtain ⟨hv1,hv2,hr2,hk2,hb2⟩:=hv.appended (by decide) hrow hB.size (Nat.le_refl _) hown' hgrow;have hc1:=hv1.cell;have hf1:=hv1.frozen)
  exact ⟨hk2.from _,hb2,⟨_,hv2,by simpa using hr2,trivial⟩,hB.trans hb2⟩
 case done =>
  rintro D ys W hD rfl ⟨⟨v,hv,hrow,-⟩,hB⟩ hK
  have hc:=hv.cell
  gi_wp2
  refine ⟨by simp,.inl ⟨_,_,rfl,run_takeDeferred hK,?_⟩⟩
  exact ⟨_,results_tmp rfl _ _ _,v,rfl,ownsRow_putObj hrow _ hK rfl,hB.trans (belowK_b (w:=w) (Nat.le_refl _) W D _ _ (by simp at hD;omega) hK rfl rfl)⟩
 case stop =>
  rintro D c pre W _ _ h _
  exact h.elim

def OwnU (w:World) (base:Nat) (v:Value) (l:List Int):Prop:=w.ownsRow base 22 1 v l.length (l.map (Value.int .u32))
theorem Xval_any (A:Option Addr) (n cap:Nat) (w:World):Calls Tryz.prog 97 #[.slice A n cap] w fun e w' => e=.returned (.func (.func 122) #[] #[.pointer (some ⟨w.heap.size,0,none⟩)])∧w' = w.alloc (.cells #[.slice A n cap] 44):=by
 go_enter Tryz.func97,Tryz.ntmps97
 go_wp2
 go_ret
 exact ⟨rfl,rfl⟩
theorem Xapp_any (Bs:Nat) (A:Option Addr) (cap:Nat) (zs:List Int) (hlen:zs.length≤1000) (w:World) (hBs:Bs < w.heap.size)
 (hc:w.cell? ⟨Bs,0,none⟩=some (.slice A zs.length cap)) (hI:RdB w.heap.size w A zs) :
 Calls Tryz.prog 150 #[.slice none 0 0,.func (.func 122) #[] #[.pointer (some ⟨Bs,0,none⟩)]] w fun e w' => ∃ v,e=.returned v∧OwnU w' w.heap.size v zs∧Below w.heap.size w w' :=
 callsIn_wide.1 (Xapp_in Fence.wide 3 trivial trivial rfl (Nat.le_refl _) Bs A cap zs hlen w hBs hc hI)
theorem Xcol_any (Bs:Nat) (A:Option Addr) (cap:Nat) (zs:List Int) (hlen:zs.length≤1000) (w:World) (hBs:Bs < w.heap.size)
 (hc:w.cell? ⟨Bs,0,none⟩=some (.slice A zs.length cap)) (hI:RdB w.heap.size w A zs) :
 Calls Tryz.prog 120 #[.func (.func 122) #[] #[.pointer (some ⟨Bs,0,none⟩)]] w fun e w' => ∃ v,e=.returned v∧OwnU w' w.heap.size v zs∧Below w.heap.size w w' := by
 have HA:=jzD (Xapp_any Bs A cap zs hlen w hBs hc hI)
 clear hc hI
 go_enter Tryz.func120,Tryz.ntmps120
 go_wp2_with (go_at_call 150;(with_reducible refine (HA.out).mono ?_);rintro e w2 ⟨v,rfl,ho,hb⟩;have HO:=jzD ho;have HB:=jzD hb;clear ho hb)
 go_ret
 exact ⟨v,rfl,HO.out,HB.out⟩
end Go.Proofs.YtjddbjmcjhjpiaaGreatDoor

namespace Go.Proofs.YtjddbjmcjhjpiaaGreatDoor

def gd (l:List Int) (k:Nat):Int:=l.getD k 0
theorem gd_at {l:List Int} {k:Nat} (h:k < l.length):gd l k=l[k]:=by unfold gd;simp [h]
theorem gd_mem {l:List Int} {k:Nat} (h:k < l.length):gd l k ∈ l:=by rw [gd_at h];exact List.getElem_mem h
theorem mem_gd {l:List Int} {x:Int} (h:x ∈ l):∃ k,k < l.length∧gd l k=x:=by
 obtain ⟨k,hk,e⟩:=List.getElem_of_mem h
 exact ⟨k,hk,by rw [gd_at hk];exact e⟩
def sw (l:List Int) (j:Nat):List Int:=(l.set (j + 1) (gd l j)).set j (gd l (j + 1))
theorem sw_len (l:List Int) (j:Nat):(sw l j).length=l.length:=by unfold sw;simp
theorem gd_set (l:List Int) (i k:Nat) (v:Int):gd (l.set i v) k=if i=k∧k < l.length then v else gd l k:=by
 unfold gd
 by_cases h:k < l.length
 · rw [List.getD_eq_getElem?_getD,List.getD_eq_getElem?_getD,List.getElem?_set]
   by_cases e:i=k
   · subst e;simp [h]
   · simp [e]
 · have h1:l.length≤k:=by omega
   simp [h,h1]
theorem gd_sw {l:List Int} {j:Nat} (h:j + 1 < l.length) (k:Nat):gd (sw l j) k=if k=j then gd l (j + 1) else if k=j + 1 then gd l j else gd l k:=by
 unfold sw
 rw [gd_set,gd_set,List.length_set]
 by_cases e:k=j
 · subst e;rw [if_pos ⟨rfl,by omega⟩,if_pos rfl]
 · rw [if_neg (fun x=>e x.1.symm),if_neg e]
   by_cases e2:k=j + 1
   · subst e2;rw [if_pos ⟨rfl,h⟩,if_pos rfl]
   · rw [if_neg (fun x=>e2 x.1.symm),if_neg e2]
theorem mem_sw {l:List Int} {j:Nat} (h:j + 1 < l.length) (x:Int):x ∈ sw l j ↔ x ∈ l:=by
 constructor
 · intro hx
   obtain ⟨k,hk,e⟩:=mem_gd hx
   rw [sw_len] at hk
   rw [gd_sw h] at e
   split at e
   · rw [← e];exact gd_mem h
   · split at e
     · rw [← e];exact gd_mem (by omega)
     · rw [← e];exact gd_mem hk
 · intro hx
   obtain ⟨k,hk,e⟩:=mem_gd hx
   by_cases e1:k=j
   · subst e1
     have := gd_mem (l:=sw l k) (k:=k + 1) (by rw [sw_len];exact h)
     rw [gd_sw h,if_neg (by omega),if_pos rfl,e] at this
     exact this
   · by_cases e2:k=j + 1
     · subst e2
       have := gd_mem (l:=sw l j) (k:=j) (by rw [sw_len];omega)
       rw [gd_sw h,if_pos rfl,e] at this
       exact this
     · have := gd_mem (l:=sw l j) (k:=k) (by rw [sw_len];exact hk)
       rw [gd_sw h,if_neg e1,if_neg e2,e] at this
       exact this
def Srt (l:List Int) (i:Nat):Prop:=∀ a b,a < b→b < i→gd l a≤gd l b
def Ins (l:List Int) (i j:Nat):Prop:=(∀ a b,a < b→b≤i→a ≠ j→b ≠ j→gd l a≤gd l b)∧∀ b,j < b→b≤i→gd l j≤gd l b
theorem srt_one (l:List Int):Srt l 1:=fun a b h1 h2=>absurd h2 (by omega)
theorem srt_ins {l:List Int} {i:Nat} (h:Srt l i):Ins l i i:=⟨fun a b h1 h2 _ h4=>h a b h1 (by omega),fun b h1 h2=>absurd h2 (by omega)⟩
theorem ins_stop {l:List Int} {i j:Nat} (h:Ins l i j) (hj:j≤i) (hs:j=0 ∨ gd l (j - 1)≤gd l j):Srt l (i + 1):=by
 intro a b h1 h2
 by_cases ea:a=j
 · subst ea;exact h.2 b h1 (by omega)
 · by_cases eb:b=j
   · subst eb
     rcases hs with rfl | hs
     · omega
     · by_cases e:a=b - 1
       · subst e;exact hs
       · have := h.1 a (b - 1) (by omega) (by omega) ea (by omega)
         omega
   · exact h.1 a b h1 (by omega) ea eb
theorem ins_step {l:List Int} {i j:Nat} (h:Ins l i (j + 1)) (hj:j + 1≤i) (hi:i < l.length) (hs:gd l (j + 1) < gd l j):Ins (sw l j) i j:=by
 have hl:j + 1 < l.length:=by omega
 constructor
 · intro a b h1 h2 h3 h4
   rw [gd_sw hl,gd_sw hl,if_neg h3,if_neg h4]
   by_cases ea:a=j + 1
   · rw [if_pos ea,if_neg (by omega)]
     exact h.1 j b (by omega) h2 (by omega) (by omega)
   · rw [if_neg ea]
     by_cases eb:b=j + 1
     · rw [if_pos eb]
       exact h.1 a j (by omega) (by omega) ea (by omega)
     · rw [if_neg eb]
       exact h.1 a b h1 h2 ea eb
 · intro b h1 h2
   rw [gd_sw hl,gd_sw hl,if_pos rfl,if_neg (by omega)]
   by_cases eb:b=j + 1
   · rw [if_pos eb];omega
   · rw [if_neg eb];exact h.2 b (by omega) h2

def Half (l:List Int) (x:Int) (i j:Nat):Prop:=i≤j∧j≤l.length∧(∀ k,k < i→gd l k < x)∧∀ k,j≤k→k < l.length→x≤gd l k
theorem half_start (l:List Int) (x:Int):Half l x 0 l.length:=⟨by omega,by omega,fun k h=>absurd h (by omega),fun k h1 h2=>absurd h2 (by omega)⟩
theorem half_up {l:List Int} {x:Int} {i j m:Nat} (hs:Srt l l.length) (h:Half l x i j) (h1:i≤m) (h2:m < j) (hm:gd l m < x):Half l x (m + 1) j:=by
 refine ⟨by omega,h.2.1,fun k hk=>?_,h.2.2.2⟩
 by_cases e:k=m
 · subst e;exact hm
 · have := hs k m (by omega) (by have := h.2.1;omega)
   omega
theorem half_down {l:List Int} {x:Int} {i j m:Nat} (hs:Srt l l.length) (h:Half l x i j) (h1:i≤m) (h2:m < j) (hm:¬ gd l m < x):Half l x i m:=by
 refine ⟨h1,by have := h.2.1;omega,h.2.2.1,fun k hk hl=>?_⟩
 by_cases e:k=m
 · subst e;omega
 · have := hs m k (by omega) hl
   omega
theorem half_in {l:List Int} {x:Int} {i:Nat} (hs:Srt l l.length) (h:Half l x i i):x ∈ l ↔ i < l.length∧gd l i=x:=by
 constructor
 · intro hx
   obtain ⟨k,hk,e⟩:=mem_gd hx
   have hik:i≤k:=by
    by_cases c:k < i
    · have := h.2.2.1 k c;omega
    · omega
   have h1:=h.2.2.2 i (Nat.le_refl _) (by omega)
   refine ⟨by omega,?_⟩
   by_cases c:i=k
   · subst c;exact e
   · have := hs i k (by omega) hk
     omega
 · rintro ⟨h1,rfl⟩
   exact gd_mem h1

def leastS:List Int→Int→Int
 | [],n=>n
 | t :: r,n=>leastS r (if t=n then n + 1 else n)
theorem leastS_none {r:List Int} {n:Int} (h:∀ t ∈ r,n < t):leastS r n=n:=by
 induction r with
 | nil=>rfl
 | cons t r ih =>
  unfold leastS
  have := h t (List.mem_cons_self ..)
  rw [if_neg (by omega)]
  exact ih (fun u hu=>h u (List.mem_cons_of_mem _ hu))
theorem leastS_spec:∀ (r:List Int) (n:Int),r.Pairwise (·≤·)→n≤leastS r n∧leastS r n≤n + r.length∧(∀ j,n≤j→j < leastS r n→j ∈ r)∧leastS r n ∉ r
 | [],n,_=>⟨Int.le_refl _,by simp [leastS],fun j h1 h2=>absurd h2 (by unfold leastS;omega),by simp⟩
 | t :: r,n,hp=>by
  obtain ⟨ht,hr⟩:=List.pairwise_cons.1 hp
  unfold leastS
  by_cases e:t=n
  · rw [if_pos e]
    obtain ⟨h1,h2,h3,h4⟩:=leastS_spec r (n + 1) hr
    refine ⟨by omega,by simp only [List.length_cons];omega,fun j hj1 hj2=>?_,fun hm=>?_⟩
    · by_cases c:j=n
      · rw [c,← e];exact List.mem_cons_self ..
      · exact List.mem_cons_of_mem _ (h3 j (by omega) hj2)
    · rcases List.mem_cons.1 hm with hm | hm
      · omega
      · exact h4 hm
  · rw [if_neg e]
    obtain ⟨h1,h2,h3,h4⟩:=leastS_spec r n hr
    refine ⟨h1,by simp only [List.length_cons];omega,fun j hj1 hj2=>List.mem_cons_of_mem _ (h3 j hj1 hj2),fun hm=>?_⟩
    rcases List.mem_cons.1 hm with hm | hm
    · by_cases c:t < n
      · omega
      · have := leastS_none (r:=r) (n:=n) (fun u hu=>by have := ht u hu;omega)
        omega
    · exact h4 hm
theorem srt_pair {l:List Int} (h:Srt l l.length):l.Pairwise (·≤·):=by
 rw [List.pairwise_iff_getElem]
 intro a b ha hb hab
 have := h a b hab hb
 rw [gd_at ha,gd_at hb] at this
 exact this
theorem least_sorted {l m:List Int} (h:Srt l l.length) (hm:∀ x,x ∈ l ↔ x ∈ m):leastS l 1=leastN m m.length 1:=by
 obtain ⟨h1,_,h3,h4⟩:=leastS_spec l 1 (srt_pair h)
 exact (leastN_least m 1 h1 (fun hx=>h4 ((hm _).2 hx)) (fun j hj1 hj2=>(hm _).1 (h3 j hj1 hj2))).symm
theorem leastS_take (l:List Int) (k:Nat) (n:Int) (h:k < l.length):leastS (l.take (k + 1)) n=(if gd l k=leastS (l.take k) n then leastS (l.take k) n + 1 else leastS (l.take k) n):=by
 have ap:∀ (a:List Int) (x n:Int),leastS (a ++ [x]) n=if x=leastS a n then leastS a n + 1 else leastS a n:=by
  intro a x
  induction a with
  | nil=>intro n;rfl
  | cons t a ih=>intro n;show leastS (a ++ [x]) _=_;rw [ih];rfl
 rw [List.take_succ_eq_append_getElem h,ap,gd_at h]
theorem leastS_len (l:List Int) (k:Nat):1≤leastS (l.take k) 1∧leastS (l.take k) 1≤1 + k:=by
 have g:∀ (r:List Int) (n:Int),n≤leastS r n∧leastS r n≤n + r.length:=by
  intro r
  induction r with
  | nil=>intro n;simp [leastS]
  | cons t r ih =>
   intro n
   have := ih (if t=n then n + 1 else n)
   unfold leastS
   simp only [List.length_cons]
   split at this <;> rename_i e <;> simp only [e,if_true,if_false] at * <;> omega
 have := g (l.take k) 1
 have hl:(l.take k).length≤k:=by rw [List.length_take];omega
 omega
theorem drawn_cons (nots:List Int) (d:Int) (r:List Int) (n:Nat):drawn nots (d :: r) n=if ownN d && !nots.contains d then some (d,n + 1) else drawn nots r (n + 1):=rfl
theorem drawn_skip (nots:List Int):∀ (l:List Int) (k n:Nat),k≤l.length→(∀ i,i < k→(ownN (gd l i) && !nots.contains (gd l i))=false)→drawn nots l n=drawn nots (l.drop k) (n + k)
 | _,0,_,_,_=>by simp
 | [],k + 1,_,h,_=>by simp at h
 | d :: r,k + 1,n,h,hs=>by
  have h0:=hs 0 (by omega)
  have hr:=drawn_skip nots r k (n + 1) (by simp at h;omega) (fun i hi=>by have := hs (i + 1) (by omega);exact this)
  have h0' : (ownN d && !nots.contains d)=false:=h0
  rw [drawn_cons,if_neg (by rw [h0'];simp),hr,List.drop_succ_cons,show n + 1 + k=n + (k + 1) by omega]
theorem fresh_found {l nots:List Int} {k:Nat} (hk:k < l.length) (hs:∀ i,i < k→(ownN (gd l i) && !nots.contains (gd l i))=false) (h:(ownN (gd l k) && !nots.contains (gd l k))=true):freshM l nots=(gd l k,k + 1):=by
 unfold freshM
 rw [drawn_skip nots l k 0 (by omega) hs,List.drop_eq_getElem_cons hk,drawn_cons,← gd_at hk,if_pos h]
 simp
theorem fresh_none {l nots:List Int} (hs:∀ i,i < l.length→(ownN (gd l i) && !nots.contains (gd l i))=false):freshM l nots=(leastN nots nots.length 1,l.length):=by
 unfold freshM
 rw [drawn_skip nots l l.length 0 (Nat.le_refl _) hs]
 simp [drawn]
theorem contains_of {l m:List Int} (hm:∀ x,x ∈ l ↔ x ∈ m) (x:Int):m.contains x=decide (x ∈ l):=by
 rw [List.contains_eq_mem]
 exact decide_eq_decide.2 (hm x).symm
end Go.Proofs.YtjddbjmcjhjpiaaGreatDoor

namespace Go.Proofs.YtjddbjmcjhjpiaaGreatDoor
open Go.RowKit

theorem XcNaN_any (x:Int) (w:World):Calls Tryz.prog 123 #[.int .u32 x] w fun e w' => e=.returned (.bool false)∧w' = w:=by
 have t:(x != x)=false:=by simp
 go_enter Tryz.func123,Tryz.ntmps123
 go_wp2
 go_ret
 exact ⟨rfl,rfl⟩
theorem XsNaN_any (x:Int) (w:World):Calls Tryz.prog 100 #[.int .u32 x] w fun e w' => e=.returned (.bool false)∧w' = w:=by
 have t:(x != x)=false:=by simp
 go_enter Tryz.func100,Tryz.ntmps100
 go_wp2
 go_ret
 exact ⟨rfl,rfl⟩
theorem Xless_any (x y:Int) (w:World):Calls Tryz.prog 99 #[.int .u32 x,.int .u32 y] w fun e w' => e=.returned (.bool (decide (x < y)))∧w' = w:=by
 have hn:=fun w=>XcNaN_any x w
 have HN:=jzD hn
 clear hn
 obtain ⟨q,hq⟩:∃ q,q=decide (x < y):=⟨_,rfl⟩
 rw [← hq]
 have HQ:Hid (decide (x < y)=q):=hq.symm
 go_enter Tryz.func99,Tryz.ntmps99
 clear hq
 go_wp2_with (go_at_call 123;(with_reducible refine (HN.out _).mono ?_);rintro e w' ⟨rfl,rfl⟩)
 all_goals
  go_ret
  refine ⟨?_,rfl⟩
  first | (rw [← HQ.out];rfl) | (rw [← HQ.out];simp;omega) | (rw [← HQ.out];congr 2;simp;omega)

def Row (w:World) (g:Nat) (l:List Int):Prop:=∀ k,k < l.length→w.cell? ⟨g,k,none⟩=some (.int .u32 (gd l k))∧w.frozen? ⟨g,k,none⟩=false
theorem Row.drew {w:World} {g:Nat} {l:List Int} (h:Row w g l):Row w.drew g l:=h
theorem Row.swap {w:World} {g:Nat} {l:List Int} (h:Row w g l) {j:Nat} (hj:j + 1 < l.length) :
 Row ((w.setCell ⟨g,j + 1,none⟩ (.int .u32 (gd l j))).setCell ⟨g,j,none⟩ (.int .u32 (gd l (j + 1)))) g (sw l j):=by
 intro k hk
 rw [sw_len] at hk
 refine ⟨?_,by rw [World.frozen?_setCell,World.frozen?_setCell];exact (h k hk).2⟩
 rw [gd_sw hj]
 by_cases e1:k=j
 · subst e1
   rw [if_pos rfl]
   refine World.cell?_setCell_same' _ _ _ ?_
   rw [World.cell?_setCell_other _ _ _ _ (by intro e;simp only [Addr.mk.injEq] at e;omega),(h k (by omega)).1]
   rfl
 · rw [if_neg e1,World.cell?_setCell_other _ _ _ _ (by intro e;simp only [Addr.mk.injEq] at e;omega)]
   by_cases e2:k=j + 1
   · subst e2
     rw [if_pos rfl]
     exact World.cell?_setCell_same' _ _ _ (by rw [(h (j + 1) hj).1];rfl)
   · rw [if_neg e2,World.cell?_setCell_other _ _ _ _ (by intro e;simp only [Addr.mk.injEq] at e;omega)]
     exact (h k hk).1

end Go.Proofs.YtjddbjmcjhjpiaaGreatDoor
