/- Of layer 12: L16j, L16j1, L16j2, L16j3, L16k, L16n, L16p, L16d, L16h, L16i, L16b, L16c, L16f, L16l, L16m, L16q, L16r, OpenG16, L16g, L16a, L16s, L16t, L16u, L16v, L16w, L16x, L16y, L16z, L16e. -/
import Derived.Test.YtjddbjmcjhjpiaaGreatDoorBegun16
import Derived.Test.YtjddbjmcjhjpiaaGreatDoorN16I
import Derived.Test.YtjddbjmcjhjpiaaGreatDoorM4D
import Derived.Test.YtjddbjmcjhjpiaaGreatDoorN16B
import Derived.Test.YtjddbjmcjhjpiaaGreatDoorN16C
import Derived.Test.YtjddbjmcjhjpiaaGreatDoorN16G
import Derived.Test.YtjddbjmcjhjpiaaGreatDoorN16D
import Derived.Test.YtjddbjmcjhjpiaaGreatDoorN16H
import Derived.Test.YtjddbjmcjhjpiaaGreatDoorM4H
import Derived.Test.YtjddbjmcjhjpiaaGreatDoorN16A
import Derived.Maps.Own
import Derived.Maps.Keyed
import Derived.Deep.MidRow
import Derived.Deep.CutBlock
import Derived.Deep.DeepCutAuto

set_option linter.all false

namespace Go.Proofs.YtjddbjmcjhjpiaaGreatDoor
open Go.RowKit M

end Go.Proofs.YtjddbjmcjhjpiaaGreatDoor

namespace Go.Proofs.YtjddbjmcjhjpiaaGreatDoor
open Go.RowKit M

end Go.Proofs.YtjddbjmcjhjpiaaGreatDoor

namespace Go.Proofs.YtjddbjmcjhjpiaaGreatDoor
open Go.RowKit M

end Go.Proofs.YtjddbjmcjhjpiaaGreatDoor

namespace Go.Proofs.YtjddbjmcjhjpiaaGreatDoor
open Go.RowKit M

end Go.Proofs.YtjddbjmcjhjpiaaGreatDoor

namespace Go.Proofs.YtjddbjmcjhjpiaaGreatDoor
open Go.RowKit M

theorem ba_empty (s:ByteArray):s.toList.isEmpty=(s.size == 0):=by
 rw [ByteArray.toList_eq]
 show s.data.toList.isEmpty=(s.data.size == 0)
 rw [← Array.length_toList]
 cases s.data.toList <;> rfl
end Go.Proofs.YtjddbjmcjhjpiaaGreatDoor

namespace Go.Proofs.YtjddbjmcjhjpiaaGreatDoor
open Go.RowKit M

end Go.Proofs.YtjddbjmcjhjpiaaGreatDoor

namespace Go.Proofs.YtjddbjmcjhjpiaaGreatDoor
open Go.RowKit M

end Go.Proofs.YtjddbjmcjhjpiaaGreatDoor

namespace Go.Proofs.YtjddbjmcjhjpiaaGreatDoor
open Go.RowKit M

abbrev askX (asker S k:Int):XIn:=⟨asker,0,k,S,false,⟨#[97]⟩⟩
theorem askX_may {asker S k:Int} (ho:ownN asker=true) (hS:S=1 ∨ S=6 ∨ S=8) (hk:-1≤k∧k < S):mayX (askX asker S k).xd=true:=by
 unfold mayX XIn.xd
 simp only [ho]
 rw [decide_eq_true (show S=1 ∨ S=6 ∨ S=8 from hS),decide_eq_true (show -1≤k∧k < S from hk),show M.mayL ((⟨#[97]⟩:ByteArray).data.toList)=true by kernel_rfl]
 rfl
theorem askX_ok {asker S k:Int} (ho:(Lit.int .u32 asker).wf=true) (hS:(Lit.int .i64 S).wf=true) (hk:(Lit.int .i64 k).wf=true):(askX asker S k).ok:=⟨ho,show (Lit.int .u32 0).wf=true by decide,hk,hS,show (1:Nat)≤maxLen by decide⟩
def repR (me asker S D:Int):ReplyM:=⟨me,⟨#[110]⟩,some (asker,S,D)⟩
theorem rep_next {me asker S d D k:Int} (hm:mayX (askX asker S k).xd=true) (hk:0 < k):(0:Int)=(repR me asker S D).used (askX asker S k) [d]∧(D == k)=(repR me asker S D).says (askX asker S k) [d]∧repR me asker S D=(repR me asker S D).hear (askX asker S k) [d]:=by
 have hb:(repR me asker S D).begins (askX asker S k)=false:=by
  show (k == 0 || (asker != asker || S != S))=false
  simp;omega
 have hr:(repR me asker S D).roundOf (askX asker S k) [d]=some (asker,S,D):=by unfold ReplyM.roundOf;rw [hb];rfl
 have h1:(k != -1)=true:=by simp;omega
 have ha:ReplyM.asked (askX asker S k)=true:=by
  unfold ReplyM.asked;rw [hm]
  show (true && (!false && ((0:Int) == 0 && k != -1)))=true
  rw [h1];rfl
 have hn:(repR me asker S D).renews (askX asker S k)=false:=by unfold ReplyM.renews;rw [hm];rfl
 refine ⟨?_,?_,?_⟩
 · unfold ReplyM.used ReplyM.usedOf;rw [hn,ha,hb];rfl
 · unfold ReplyM.says;rw [ha,hr];rfl
 · unfold ReplyM.hear;rw [hm,hr]
   show repR me asker S D=(if true=true then (if k=-1 then _ else (⟨me,⟨#[110]⟩,some (asker,S,D)⟩:ReplyM)) else _)
   rw [if_pos rfl,if_neg (by omega)]
   rfl
theorem rep_xid {r:ReplyM} {me asker S d k:Int} {b:Bool} (hid:r.id=me) (hnk:r.nick=⟨#[110]⟩) (hs:b=r.says (askX asker S k) [d]):(if b then (⟨me,asker,k,S,false,⟨#[110]⟩⟩:XIn) else ReplyM.xz)=r.xid (askX asker S k) [d]:=by
 subst hs
 unfold ReplyM.xid
 rw [hid,hnk]
end Go.Proofs.YtjddbjmcjhjpiaaGreatDoor

namespace Go.Proofs.YtjddbjmcjhjpiaaGreatDoor
open Go.RowKit M

end Go.Proofs.YtjddbjmcjhjpiaaGreatDoor

namespace Go.Proofs.YtjddbjmcjhjpiaaGreatDoor
open Go.RowKit M

theorem RFresh_k {v u:Value} {l m:List Int} {w:World} {n k:Int} (hv:RdU w v l) (hu:RdU w u m) (hl:l.length≤1000) (hm:m.length≤1000) (hn:n=(freshM l m).1) (hk:k=((freshM l m).2:Int)):Calls Tryz.prog 55 #[v,u] w fun e w' => e=.returned (.tuple #[.int .u32 n,.int .i64 k])∧Below w.heap.size w w' := by
 subst hn;subst hk
 exact RFresh_any v u l m w hv hu hl hm
end Go.Proofs.YtjddbjmcjhjpiaaGreatDoor

namespace Go.Proofs.YtjddbjmcjhjpiaaGreatDoor
open Go.RowKit M

theorem mayNew_n {me S:Int} {s:ByteArray} (hS:S=1 ∨ S=6 ∨ S=8) (hs:M.mayL s.data.toList=true):QueryM.mayNew me s S=ownN me:=by
 unfold QueryM.mayNew XIn.xd mayX
 simp only [hs]
 rw [decide_eq_true (show S=1 ∨ S=6 ∨ S=8 from hS),decide_eq_true (show (-1:Int)≤0∧(0:Int) < S by omega)]
 simp
def qT (me S:Int) (i:Nat):QueryM:=⟨me,⟨#[110]⟩,S,min (i:Int) (S * 8 + 2),LogM.new me⟩
theorem qT_new (me S:Int) (hS:0≤S):QueryM.new me ⟨#[110]⟩ S=qT me S 0:=by
 unfold QueryM.new qT
 rw [show min ((0:Nat):Int) (S * 8 + 2)=0 by omega]
theorem qT_tick (me S:Int) (i:Nat):qT me S (i + 1)=(qT me S i).tick:=by
 unfold QueryM.tick qT
 simp only
 rw [show min (((i + 1:Nat)):Int) (S * 8 + 2)=min (min (i:Int) (S * 8 + 2) + 1) (S * 8 + 2) by omega]
end Go.Proofs.YtjddbjmcjhjpiaaGreatDoor

namespace Go.Proofs.YtjddbjmcjhjpiaaGreatDoor
open Go.RowKit M

theorem dQ_llen {w0 w:World} {F0:List Nat} {C:Obj→Obj} {v u:Value} {m:QueryM} {n:Int} (hn:n=(m.log.l.length:Int)) (hC:Fr C) (hS:Stab (C (QueryW v u m))) (h:Done w0 F0 (C (QueryW v u m)) w):Calls Tryz.prog 52 #[u] w fun e w' => e=.returned (.int .i64 n)∧Done w0 F0 (C (QueryW v u m)) w' :=
 dL_len (m:=m.log) hn (C:=fun X=>C (Star (QueryO v u m) X)) (Fr.cmp_ hC (Fr.r (QueryO.stab _ _ _) Fr.id_)) hS h
end Go.Proofs.YtjddbjmcjhjpiaaGreatDoor

namespace Go.Proofs.YtjddbjmcjhjpiaaGreatDoor
open Go.RowKit M

theorem run_storeU (n:Int) (g k:Nat):∀ w:World,(∃ u,w.cell? ⟨g,k,none⟩=some u)→w.frozen? ⟨g,k,none⟩=false→(Instr.storeAt 22 (.pointer (some ⟨g,k,none⟩)) (.int .u32 n)).run Tryz.prog w=.ok () (w.setCell ⟨g,k,none⟩ (.int .u32 n)):=by
 rintro w ⟨u,hu⟩ hf
 go_simp
end Go.Proofs.YtjddbjmcjhjpiaaGreatDoor

namespace Go.Proofs.YtjddbjmcjhjpiaaGreatDoor
open Go.RowKit M

theorem ba_beq (a b:ByteArray):(a == b)=decide (a=b):=by
 obtain ⟨a⟩:=a
 obtain ⟨b⟩:=b
 show (a == b)=_
 rw [Bool.eq_iff_iff]
 simp
end Go.Proofs.YtjddbjmcjhjpiaaGreatDoor

namespace Go.Proofs.YtjddbjmcjhjpiaaGreatDoor
open Go.RowKit M

theorem u32s_get {l:List Int} {k:Nat} {y:Int} (h:l[k]?=some y):(u32s l)[k]?=some (.int .u32 y):=by
 unfold u32s;rw [List.getElem?_map,h];rfl
end Go.Proofs.YtjddbjmcjhjpiaaGreatDoor

namespace Go.Proofs.YtjddbjmcjhjpiaaGreatDoor
open Go.RowKit M

def rndR (rd:Bool) (ra rn rk:Int):Option (Int × Int × Int):=if rd then some (ra,rn,rk) else none
def RRp (g:Nat) (m:ReplyM):Obj:=fun w F=>∃ rd ra rn rk,m.round=rndR rd ra rn rk∧CellW g (yD m.id m.nick rd ra rn rk) 55 w F
theorem RRp.stab (g:Nat) (m:ReplyM):Stab (RRp g m) where
 in_:=fun ⟨_,_,_,_,_,h⟩=>cS.in_ h
 tch:=fun ⟨rd,ra,rn,rk,h1,h⟩ ht hd=>⟨rd,ra,rn,rk,h1,cS.tch h ht hd⟩
end Go.Proofs.YtjddbjmcjhjpiaaGreatDoor

namespace Go.Proofs.YtjddbjmcjhjpiaaGreatDoor
open Go.RowKit M

def xcs (l:List XIn):List Value:=l.flatMap fun x=>[.int .u32 x.from_,.int .u32 x.to_,.int .i64 x.slot,.int .i64 x.slots,.bool x.anew,.string x.nick]
theorem xcs_get {l:List XIn} {i:Nat} {x:XIn} (h:l[i]?=some x) {j:Nat} {v:Value} (hv:[Value.int .u32 x.from_,.int .u32 x.to_,.int .i64 x.slot,.int .i64 x.slots,.bool x.anew,.string x.nick][j]?=some v):(xcs l)[i * 6 + j]?=some v:=by
 induction l generalizing i with
 | nil=>simp at h
 | cons b r ih =>
  have hj:j < 6:=(List.getElem?_eq_some_iff.1 hv).1
  show ([Value.int .u32 b.from_,.int .u32 b.to_,.int .i64 b.slot,.int .i64 b.slots,.bool b.anew,.string b.nick] ++ xcs r)[i * 6 + j]?=some v
  cases i with
  | zero =>
   simp only [List.getElem?_cons_zero,Option.some.injEq] at h
   subst h
   rw [Nat.zero_mul,Nat.zero_add,List.getElem?_append_left (by simpa using hj)]
   exact hv
  | succ i =>
   rw [List.getElem?_append_right (by simp only [List.length_cons,List.length_nil];omega)]
   simp only [List.length_cons,List.length_nil]
   rw [show (i + 1) * 6 + j - (0 + 1 + 1 + 1 + 1 + 1 + 1)=i * 6 + j by omega]
   exact ih (by simpa using h)
theorem neq_xin (y:XIn) (W:World):(binOp .neq 32 y.val y.val).run Tryz.prog W=.ok (.bool false) W:=by
 have h:=eql_xin y y W
 rw [decide_eq_true rfl] at h
 exact neq_agg h
section
variable {w0 w:World} {F0:List Nat} {C:Obj→Obj}
end
end Go.Proofs.YtjddbjmcjhjpiaaGreatDoor

namespace Go.Proofs.YtjddbjmcjhjpiaaGreatDoor
set_option maxRecDepth 100000
open Go.ChangeShapes Go.WideShapes Go.ChangeAt Go.RowKit

theorem sixL {α:Type} {cs:List α} (h:cs.length=6):∃ a0 a1 a2 a3 a4 a5,cs=[a0,a1,a2,a3,a4,a5]:=by
 match cs,h with
 | [a0,a1,a2,a3,a4,a5],_=>exact ⟨a0,a1,a2,a3,a4,a5,rfl⟩
section
variable {H:Type} {enc:TypeId × Value→H} {W:World} {v:Value} {d:DataW H} {p:List MemPlace}
def xc1 (x:XIn):List Value:=[.int .u32 x.from_,.int .u32 x.to_,.int .i64 x.slot,.int .i64 x.slots,.bool x.anew,.string x.nick]
def ac1 (a:AIn):List Value:=[.int .i64 a.kind,.int .i64 a.n,.int .u32 a.id,.string a.body]
theorem open_xids (hval:Value.okWide Tryz.prog W .any 0 23 v) (h:DataW.Trod enc Tryz.prog W 0 (fun _=>true) true 23 v d p):∃ l:List XIn,RdG 6 W v l.length (xcs l)∧∀ x ∈ l,x.ok :=
 open_rows (f:=xc1) XIn.ok (by decide) (fun _=>rfl) 23 32 Tryz.underlying23 (by kernel_rfl) (fun m cs y hy hl=>by
  obtain ⟨a0,a1,a2,a3,a4,a5,rfl⟩:=sixL hl
  obtain ⟨xs,n,_,_,_,hn,hx⟩:=DataW.trod_struct Tryz.underlying32 hy
  obtain ⟨y0,y1,y2,y3,y4,y5,rfl⟩:=sixL hn
  have f0:=fld hx 0 0 1 22 rfl rfl rfl (by kernel_rfl)
  have f1:=fld hx 1 1 1 22 rfl rfl rfl (by kernel_rfl)
  have f2:=fld hx 2 2 1 3 rfl rfl rfl (by kernel_rfl)
  have f3:=fld hx 3 3 1 3 rfl rfl rfl (by kernel_rfl)
  have f4:=fld hx 4 4 1 4 rfl rfl rfl (by kernel_rfl)
  have f5:=fld hx 5 5 1 9 rfl rfl rfl (by kernel_rfl)
  change DataW.trod enc Tryz.prog W 0 (fun _=>true) true n 22 [a0]=some y0 at f0
  change DataW.trod enc Tryz.prog W 0 (fun _=>true) true n 22 [a1]=some y1 at f1
  change DataW.trod enc Tryz.prog W 0 (fun _=>true) true n 3 [a2]=some y2 at f2
  change DataW.trod enc Tryz.prog W 0 (fun _=>true) true n 3 [a3]=some y3 at f3
  change DataW.trod enc Tryz.prog W 0 (fun _=>true) true n 4 [a4]=some y4 at f4
  change DataW.trod enc Tryz.prog W 0 (fun _=>true) true n 9 [a5]=some y5 at f5
  obtain ⟨n0,h0,_,w0⟩:=DataW.trod_int Tryz.underlying22 f0
  obtain ⟨n1,h1,_,w1⟩:=DataW.trod_int Tryz.underlying22 f1
  obtain ⟨n2,h2,_,w2⟩:=DataW.trod_int Tryz.underlying3 f2
  obtain ⟨n3,h3,_,w3⟩:=DataW.trod_int Tryz.underlying3 f3
  obtain ⟨b4,h4,_⟩:=DataW.trod_bool Tryz.underlying4 f4
  obtain ⟨s5,h5,_,w5⟩:=DataW.trod_string Tryz.underlying9 f5
  injection h0 with h0
  injection h1 with h1
  injection h2 with h2
  injection h3 with h3
  injection h4 with h4
  injection h5 with h5
  exact ⟨⟨n0,n1,n2,n3,b4,s5⟩,by rw [h0,h1,h2,h3,h4,h5];rfl,w0,w1,w2,w3,w5⟩) hval h
theorem open_asks (hval:Value.okWide Tryz.prog W .any 0 63 v) (h:DataW.Trod enc Tryz.prog W 0 (fun _=>true) true 63 v d p):∃ l:List AIn,RdG 4 W v l.length (askcs l)∧∀ x ∈ l,x.ok :=
 open_rows (f:=ac1) AIn.ok (by decide) (fun _=>rfl) 63 68 Tryz.underlying63 (by kernel_rfl) (fun m cs y hy hl=>by
  obtain ⟨a0,a1,a2,a3,rfl⟩:=fourL hl
  obtain ⟨xs,n,_,_,_,hn,hx⟩:=DataW.trod_struct Tryz.underlying68 hy
  obtain ⟨y0,y1,y2,y3,rfl⟩:=fourL hn
  have f0:=fld hx 0 0 1 3 rfl rfl rfl (by kernel_rfl)
  have f1:=fld hx 1 1 1 3 rfl rfl rfl (by kernel_rfl)
  have f2:=fld hx 2 2 1 22 rfl rfl rfl (by kernel_rfl)
  have f3:=fld hx 3 3 1 9 rfl rfl rfl (by kernel_rfl)
  change DataW.trod enc Tryz.prog W 0 (fun _=>true) true n 3 [a0]=some y0 at f0
  change DataW.trod enc Tryz.prog W 0 (fun _=>true) true n 3 [a1]=some y1 at f1
  change DataW.trod enc Tryz.prog W 0 (fun _=>true) true n 22 [a2]=some y2 at f2
  change DataW.trod enc Tryz.prog W 0 (fun _=>true) true n 9 [a3]=some y3 at f3
  obtain ⟨n0,h0,_,w0⟩:=DataW.trod_int Tryz.underlying3 f0
  obtain ⟨n1,h1,_,w1⟩:=DataW.trod_int Tryz.underlying3 f1
  obtain ⟨n2,h2,_,w2⟩:=DataW.trod_int Tryz.underlying22 f2
  obtain ⟨s3,h3,_,w3⟩:=DataW.trod_string Tryz.underlying9 f3
  injection h0 with h0
  injection h1 with h1
  injection h2 with h2
  injection h3 with h3
  exact ⟨⟨n0,n1,n2,s3⟩,by rw [h0,h1,h2,h3];rfl,w0,w1,w2,w3⟩) hval h
def bc1 (b:Bool):List Value:=[.bool b]
theorem bools_flat (l:List Bool):l.flatMap bc1=l.map Value.bool:=by
 induction l with
 | nil=>rfl
 | cons b r ih=>rw [List.flatMap_cons,ih];rfl
theorem open_bools (hval:Value.okWide Tryz.prog W .any 0 64 v) (h:DataW.Trod enc Tryz.prog W 0 (fun _=>true) true 64 v d p):∃ l:List Bool,RdG 1 W v l.length (l.map Value.bool)∧∀ x ∈ l,True:=by
 obtain ⟨l,h1,h2⟩:=open_rows (f:=bc1) (fun _=>True) (by decide) (fun _=>rfl) 64 4 Tryz.underlying64 (by kernel_rfl) (fun m cs y hy hl=>by
  obtain ⟨a0,rfl⟩:=oneL hl
  obtain ⟨b,h0,_⟩:=DataW.trod_bool Tryz.underlying4 hy
  exact ⟨b,h0,trivial⟩) hval h
 rw [bools_flat] at h1
 exact ⟨l,h1,h2⟩
def vc1 (v:Value):List Value:=[v]
theorem vals_flat (l:List Value):l.flatMap vc1=l:=by
 induction l with
 | nil=>rfl
 | cons b r ih=>rw [List.flatMap_cons,ih];rfl
theorem open_uss (hval:Value.okWide Tryz.prog W .any 0 49 v) (h:DataW.Trod enc Tryz.prog W 0 (fun _=>true) true 49 v d p):∃ l:List Value,RdG 1 W v l.length l∧∀ x ∈ l,∃ r,RdU W x r:=by
 obtain ⟨l,h1,h2⟩:=open_rows (f:=vc1) (fun x=>∃ r,RdU W x r) (by decide) (fun _=>rfl) 49 44 Tryz.underlying49 (by kernel_rfl) (fun m cs y hy hl=>by
  obtain ⟨a0,rfl⟩:=oneL hl
  refine ⟨a0,rfl,?_⟩
  rcases open_ints Tryz.underlying44 Tryz.underlying22 (by kernel_rfl) hy with ⟨hcs,_⟩ | ⟨x,l,c,zs,hcs,_,hl,hm,hz,_,hcell,hwz⟩
  · injection hcs with hcs
    rw [hcs]
    exact (IsRow.rdu (.inl ⟨rfl,rfl,rfl,rfl⟩))
  · injection hcs with hcs
    rw [hcs]
    exact IsRow.rdu (.inr ⟨_,rfl,hl,hm,by simpa using hz,hcell,hwz⟩)) hval h
 rw [vals_flat] at h1
 exact ⟨l,h1,h2⟩
end
end Go.Proofs.YtjddbjmcjhjpiaaGreatDoor

namespace Go.Proofs.YtjddbjmcjhjpiaaGreatDoor
open Go.RowKit M

end Go.Proofs.YtjddbjmcjhjpiaaGreatDoor

namespace Go.Proofs.YtjddbjmcjhjpiaaGreatDoor
open Go.RowKit M

end Go.Proofs.YtjddbjmcjhjpiaaGreatDoor

namespace Go.Proofs.YtjddbjmcjhjpiaaGreatDoor
open Go.RowKit M

end Go.Proofs.YtjddbjmcjhjpiaaGreatDoor

namespace Go.Proofs.YtjddbjmcjhjpiaaGreatDoor
open Go.RowKit M

end Go.Proofs.YtjddbjmcjhjpiaaGreatDoor

namespace Go.Proofs.YtjddbjmcjhjpiaaGreatDoor
open Go.RowKit M

end Go.Proofs.YtjddbjmcjhjpiaaGreatDoor

namespace Go.Proofs.YtjddbjmcjhjpiaaGreatDoor
open Go.RowKit M

end Go.Proofs.YtjddbjmcjhjpiaaGreatDoor

namespace Go.Proofs.YtjddbjmcjhjpiaaGreatDoor
open Go.RowKit M

end Go.Proofs.YtjddbjmcjhjpiaaGreatDoor

namespace Go.Proofs.YtjddbjmcjhjpiaaGreatDoor
open Go.RowKit M

section
variable {ops:Array Oper} {rest:List Oper} {o:Oper} {a:Act} {w0 w:World} {F0:List Nat} {Q:Exit→Act→World→Prop} {C:Obj→Obj} {e:TypeId} {k n:Nat} {v:Value} {xs:List Value}
end
section
variable {m:LogM} {x:XIn}
end
end Go.Proofs.YtjddbjmcjhjpiaaGreatDoor

namespace Go.Proofs.YtjddbjmcjhjpiaaGreatDoor
open Go.RowKit M

section
variable {q:QueryM} {x:XIn}
end
end Go.Proofs.YtjddbjmcjhjpiaaGreatDoor

namespace Go.Proofs.YtjddbjmcjhjpiaaGreatDoor
open Go.RowKit M

section
variable {w0 w:World} {F0:List Nat} {C:Obj→Obj} {v u:Value} {q q' : QueryM} {g gl k n:Nat} {xs:List Value} {b:Bool} {x:XIn}
end
end Go.Proofs.YtjddbjmcjhjpiaaGreatDoor

namespace Go.Proofs.YtjddbjmcjhjpiaaGreatDoor
open Go.RowKit M

end Go.Proofs.YtjddbjmcjhjpiaaGreatDoor
