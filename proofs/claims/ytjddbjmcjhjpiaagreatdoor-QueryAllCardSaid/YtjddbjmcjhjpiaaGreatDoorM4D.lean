/- Of layer 4: OpenPlain, LText, Any1, Must, IfEq, RefGet, CtlW, RefMay, RefPut, RefGetF. -/
import Derived.Test.YtjddbjmcjhjpiaaGreatDoorM4C
import Derived.Test.YtjddbjmcjhjpiaaGreatDoorM4A
import Derived.ProofKit
import Derived.OpenShut
import Derived.ShutString
import Derived.Deep.Fields
import Derived.Recover
import Derived.Defers
import Derived.Tactics2
import Derived.Laws.Pointers
import Derived.Laws.StructEq
import Derived.Laws.Entries
import Derived.Stop.Asserts
import Derived.Lib.AppendStr

set_option linter.all false

namespace Go.Proofs.YtjddbjmcjhjpiaaGreatDoor
set_option maxRecDepth 100000
set_option maxHeartbeats 1000000
open Go.ChangeShapes Go.WideShapes Go.ChangeAt Go.RowKit

theorem nine {cs:List Value} (h:cs.length=9):∃ a0 a1 a2 a3 a4 a5 a6 a7 a8,cs=[a0,a1,a2,a3,a4,a5,a6,a7,a8]:=by
 match cs,h with
 | [a0,a1,a2,a3,a4,a5,a6,a7,a8],_=>exact ⟨a0,a1,a2,a3,a4,a5,a6,a7,a8,rfl⟩
theorem eight {α:Type} {cs:List α} (h:cs.length=8):∃ a0 a1 a2 a3 a4 a5 a6 a7,cs=[a0,a1,a2,a3,a4,a5,a6,a7]:=by
 match cs,h with
 | [a0,a1,a2,a3,a4,a5,a6,a7],_=>exact ⟨a0,a1,a2,a3,a4,a5,a6,a7,rfl⟩
theorem two {α:Type} {cs:List α} (h:cs.length=2):∃ a0 a1,cs=[a0,a1]:=by
 match cs,h with
 | [a0,a1],_=>exact ⟨a0,a1,rfl⟩

section
variable {H:Type} {enc:TypeId × Value→H} {W:World}
theorem fld {P:Program} {fs:Array Field} {cs:List Value} {xs:List (DataW H × List MemPlace)} {n:Nat}
 (hx:∀ (i:Nat) (f:Field),fs[i]?=some f→DataW.trod enc P W 0 (fun _=>true) true n f.type ((cs.drop f.offset).take (P.cellsOf f.type))=xs[i]?)
 (i o k:Nat) (t:TypeId) {f:Field} (hf:fs[i]?=some f) (ht:f.type=t) (ho:f.offset=o) (hk:P.cellsOf t=k):DataW.trod enc P W 0 (fun _=>true) true n t ((cs.drop o).take k)=xs[i]?:=by
 subst ht;subst ho;subst hk
 exact hx i f hf

end

structure PIn where
 seat:Int
 count:Int
 cmd:Bool
 kind:Int
 sort:Int
 nr:Int
 ns:Int
 pf:Bool
 body:ByteArray
abbrev PIn.val (p:PIn):Value:=.agg #[.int .i64 p.seat,.int .i64 p.count,.bool p.cmd,.int .i64 p.kind,.int .i64 p.sort,.int .i64 p.nr,.int .i64 p.ns,.bool p.pf,.string p.body]
def PIn.ok (p:PIn):Prop:=(Lit.int .i64 p.seat).wf=true∧(Lit.int .i64 p.count).wf=true∧(Lit.int .i64 p.kind).wf=true∧(Lit.int .i64 p.sort).wf=true∧(Lit.int .i64 p.nr).wf=true∧(Lit.int .i64 p.ns).wf=true∧p.body.size≤maxLen
end Go.Proofs.YtjddbjmcjhjpiaaGreatDoor
namespace Go.Proofs.YtjddbjmcjhjpiaaGreatDoor
set_option maxRecDepth 100000
set_option maxHeartbeats 1000000
open Go.RowKit

theorem rets {a b:ByteArray} (h:a=b):Ending.returned (.string a)=.returned (.string b):=by rw [h]

theorem Text_any (s:ByteArray) (n:Nat) (w:World) (hs:s.size≤maxLen) (hn:n≤1000000):Calls Tryz.prog 19 #[.string s,.int .i64 n] w fun e w' => e=.returned (.string (s.extract 0 (min s.size n)))∧w=w' := by
 unfold maxLen at hs
 have hmin:(min (s.size:Int) (n:Int)).toNat=min s.size n:=by omega
 have HM:=jzD hmin
 clear hmin
 go_enter Tryz.func19,Tryz.ntmps19
 go_wp2
 all_goals
  go_ret
  first
   | exact ⟨by rw [← HM.out];rfl,rfl⟩
   | exact ⟨rets (by rw [Nat.min_eq_right (by omega)]),rfl⟩
   | exact ⟨rets (by rw [Nat.min_eq_left (by omega),ByteArray.extract_zero_size]),rfl⟩
end Go.Proofs.YtjddbjmcjhjpiaaGreatDoor
namespace Go.Proofs.YtjddbjmcjhjpiaaGreatDoor
set_option maxRecDepth 100000
set_option maxHeartbeats 1000000
open Go.RowKit M

def PIn.c (p:PIn):Cn:=⟨p.kind,p.sort,p.nr,p.ns,p.pf⟩

def PIn.cut (p:PIn):PIn:={ p with body:=p.body.extract 0 (min p.body.size 70) }
theorem PIn.cut_ok {p:PIn} (h:p.ok):p.cut.ok:=by
 obtain ⟨h0,h1,h2,h3,h4,h5,h6⟩:=h
 refine ⟨h0,h1,h2,h3,h4,h5,?_⟩
 show (p.body.extract 0 (min p.body.size 70)).size≤maxLen
 rw [ByteArray.size_extract]
 omega
theorem PIn.cut_len (p:PIn):p.cut.body.size≤70:=by
 show (p.body.extract 0 (min p.body.size 70)).size≤70
 rw [ByteArray.size_extract]
 omega

end Go.Proofs.YtjddbjmcjhjpiaaGreatDoor
namespace Go.Proofs.YtjddbjmcjhjpiaaGreatDoor
set_option maxRecDepth 100000
set_option maxHeartbeats 1000000
open Go.RowKit M

def Gives (r:Value) (w:World) (e:Ending) (w' : World):Prop:=e=.returned r∧Below w.heap.size w w'

theorem good_I (W:World) (v:Value):(Instr.typeAssert (.iface 211 v) 20 211 false).run Tryz.prog W=.ok v W:=by kernel_rfl

theorem mustI_good (nr ns:Int) (pf:Bool) (w:World):Calls Tryz.prog 163 #[iV nr ns pf] w (Gives (.agg #[.int .i64 nr,.int .i64 ns,.bool pf]) w):=by
 have a:=fun W=>good_I W (.agg #[.int .i64 nr,.int .i64 ns,.bool pf])
 go_enter Tryz.func163,Tryz.ntmps163
 go_wp2
 exact bodyPost_ret (v:=.agg #[.int .i64 nr,.int .i64 ns,.bool pf]) (by simp [results,Tryz.results163,go_sem]) rfl ⟨rfl,bal (bel0 _) _⟩
theorem MustI_good (nr ns:Int) (pf:Bool) (w:World):Calls Tryz.prog 144 #[iV nr ns pf] w (Gives (.agg #[.int .i64 nr,.int .i64 ns,.bool pf]) w):=by
 go_enter Tryz.func144,Tryz.ntmps144
 go_wp2_with (go_at_call 163;refine (mustI_good nr ns pf _).mono ?_;rintro e w1 ⟨rfl,hb⟩;have HB:=jzD ((bal (bel0 w) _).trans (hb.mono (bal (bel0 w) _).size));have HH:=jzD ((hb.block w.heap.size (by simp)).trans (heap_alloc_new w _));have hz:=hb.size;obtain ⟨hcl,hfr⟩:=bcell hb;clear hb)
 have hh:=HH.out
 have h2:((((w1.setCell ⟨w.heap.size,0,none⟩ (.int .i64 nr)).setCell ⟨w.heap.size,1,none⟩ (.int .i64 ns)).setCell ⟨w.heap.size,2,none⟩ (.bool pf))).heap[w.heap.size]?=some (.cells #[.int .i64 nr,.int .i64 ns,.bool pf] 211 (0,0)):=by
  simp [World.setCell,Array.getElem?_modify,hh]
 exact ⟨rfl,_,results_cell_row rfl _ _ w.heap.size _ _ _ _ rfl h2 Tryz.underlying211 rfl (by kernel_rfl),rfl,(((HB.out.setCell (p:=⟨w.heap.size,0,none⟩) (Nat.le_refl _) _).setCell (p:=⟨w.heap.size,1,none⟩) (Nat.le_refl _) _).setCell (p:=⟨w.heap.size,2,none⟩) (Nat.le_refl _) _)⟩
end Go.Proofs.YtjddbjmcjhjpiaaGreatDoor
namespace Go.Proofs.YtjddbjmcjhjpiaaGreatDoor
set_option maxRecDepth 100000
set_option maxHeartbeats 1000000
open Go.RowKit M

theorem eqIn_iface {P:Program} (w:World) (d:Nat) {t tx:TypeId} {ms:Array (String × TypeId)} (x y:Value)
 (ht:P.underlying t=some (.interface ms)) (hc:(P.info? tx).map (·.comparable)=some true):(Op.equalIn (d + 1) t (.iface tx x) (.iface tx y)).run P w=(Op.equalIn d tx x y).run P w:=by
 cases hi:P.info? tx with
 | none=>simp [hi] at hc
 | some i =>
  have hcc:i.comparable=true:=by simpa [hi] using hc
  simp [Op.equalIn,run_underlying ht,typeInfo,hi,hcc]
theorem eql_of {P:Program} {w:World} {t:TypeId} {tx ty:TypeId} {x y:Value} {b:Bool} (h:(Op.equalIn 10000 t (.iface tx x) (.iface ty y)).run P w=.ok b w):(binOp .eql t (.iface tx x) (.iface ty y)).run P w=.ok (.bool b) w:=by
 simp only [binOp]
 simp [Op.equal,Op.maxDepth,h]
theorem in_I (a b c d:Int) (p q:Bool) (w:World):(Op.equalIn 9999 211 (.agg #[.int .i64 a,.int .i64 b,.bool p]) (.agg #[.int .i64 c,.int .i64 d,.bool q])).run Tryz.prog w=.ok (a == c && (b == d && p == q)) w:=by
 have u3:=Tryz.underlying3
 have u4:=Tryz.underlying4
 have hS:Tryz.prog.underlying 211=some (.struct (Tryz.prog.fieldsOf 211)):=by kernel_rfl
 have hp:Tryz.prog.stoodInHeld 211=false:=by kernel_rfl
 rw [show (9999:Nat)=9998 + 1 from rfl,run_equalIn_agg w 9998 211 _ _ hS hp]
 simp only [Program.fieldsOf,Tryz.underlying211]
 go_simp
 by_cases h1:a=c <;> by_cases h2:b=d <;> by_cases h3:p=q <;> simp [h1,h2,h3]

theorem in_S (a b c d:Int) (p q:Bool) (w:World):(Op.equalIn 9999 228 (.agg #[.int .i64 a,.int .i64 b,.bool p]) (.agg #[.int .i64 c,.int .i64 d,.bool q])).run Tryz.prog w=.ok (a == c && (b == d && p == q)) w:=by
 have u3:=Tryz.underlying3
 have u4:=Tryz.underlying4
 have hS:Tryz.prog.underlying 228=some (.struct (Tryz.prog.fieldsOf 228)):=by kernel_rfl
 have hp:Tryz.prog.stoodInHeld 228=false:=by kernel_rfl
 rw [show (9999:Nat)=9998 + 1 from rfl,run_equalIn_agg w 9998 228 _ _ hS hp]
 simp only [Program.fieldsOf,Tryz.underlying228]
 go_simp
 by_cases h1:a=c <;> by_cases h2:b=d <;> by_cases h3:p=q <;> simp [h1,h2,h3]

theorem in_U (a c:Int) (p q:Bool) (w:World):(Op.equalIn 9999 196 (.agg #[.int .i64 a,.bool p]) (.agg #[.int .i64 c,.bool q])).run Tryz.prog w=.ok (a == c && p == q) w:=by
 have u3:=Tryz.underlying3
 have u4:=Tryz.underlying4
 have hS:Tryz.prog.underlying 196=some (.struct (Tryz.prog.fieldsOf 196)):=by kernel_rfl
 have hp:Tryz.prog.stoodInHeld 196=false:=by kernel_rfl
 rw [show (9999:Nat)=9998 + 1 from rfl,run_equalIn_agg w 9998 196 _ _ hS hp]
 simp only [Program.fieldsOf,Tryz.underlying196]
 go_simp
 by_cases h1:a=c <;> by_cases h3:p=q <;> simp [h1,h3]

theorem any_iface:∃ ms,Tryz.prog.underlying 20=some (.interface ms):=⟨_,Tryz.underlying20⟩
theorem cmp_I:(Tryz.prog.info? 211).map (·.comparable)=some true:=by kernel_rfl
theorem cmp_S:(Tryz.prog.info? 228).map (·.comparable)=some true:=by kernel_rfl
theorem cmp_U:(Tryz.prog.info? 196).map (·.comparable)=some true:=by kernel_rfl

theorem ifIn_I (a b c d:Int) (p q:Bool) (w:World):(Op.equalIn 10000 20 (iV a b p) (iV c d q)).run Tryz.prog w=.ok (a == c && (b == d && p == q)) w:=by
 obtain ⟨ms,hu⟩:=any_iface
 rw [show (10000:Nat)=9999 + 1 from rfl,eqIn_iface w 9999 _ _ hu cmp_I,in_I]
theorem ifIn_S (a b c d:Int) (p q:Bool) (w:World):(Op.equalIn 10000 20 (sV a b p) (sV c d q)).run Tryz.prog w=.ok (a == c && (b == d && p == q)) w:=by
 obtain ⟨ms,hu⟩:=any_iface
 rw [show (10000:Nat)=9999 + 1 from rfl,eqIn_iface w 9999 _ _ hu cmp_S,in_S]
theorem ifIn_U (a c:Int) (p q:Bool) (w:World):(Op.equalIn 10000 20 (uV a p) (uV c q)).run Tryz.prog w=.ok (a == c && p == q) w:=by
 obtain ⟨ms,hu⟩:=any_iface
 rw [show (10000:Nat)=9999 + 1 from rfl,eqIn_iface w 9999 _ _ hu cmp_U,in_U]
theorem ifIn_ne {tx ty:TypeId} (h:tx ≠ ty) (x y:Value) (w:World):(Op.equalIn 10000 20 (.iface tx x) (.iface ty y)).run Tryz.prog w=.ok false w:=by
 obtain ⟨ms,hu⟩:=any_iface
 have hd:∀ d:Nat,(Op.equalIn (d + 1) 20 (.iface tx x) (.iface ty y)).run Tryz.prog w=.ok false w:=fun d=>by simp [Op.equalIn,run_underlying hu,h]
 exact hd 9999

theorem cv_form {c:Cn} {n:Int} (h:cb c=some n) :
 (c=⟨1,0,c.nr,c.ns,c.pf⟩∧cv c=iV c.nr c.ns c.pf) ∨ (c=⟨2,c.sort,c.nr,0,c.pf⟩∧cv c=sV c.sort c.nr c.pf) ∨ (c=⟨3,c.sort,0,0,c.pf⟩∧cv c=uV c.sort c.pf):=by
 have hn:=nm_of_cb h
 have hk:=cb_kind h
 unfold nm at hn
 unfold cv
 rcases hk with ⟨k,_⟩ | ⟨k,_⟩ | ⟨k,_⟩
 · rw [if_pos k] at hn;rw [if_pos k];exact .inl ⟨hn.symm,rfl⟩
 · rw [if_neg (by omega),if_pos k] at hn;rw [if_neg (by omega),if_pos k];exact .inr (.inl ⟨hn.symm,rfl⟩)
 · rw [if_neg (by omega),if_neg (by omega),if_pos k] at hn;rw [if_neg (by omega),if_neg (by omega),if_pos k];exact .inr (.inr ⟨hn.symm,rfl⟩)

theorem ifIn_cv {c d:Cn} {n m:Int} (hc:cb c=some n) (hd:cb d=some m) (w:World):∃ tx x ty y,cv c=.iface tx x∧cv d=.iface ty y∧(Op.equalIn 10000 20 (.iface tx x) (.iface ty y)).run Tryz.prog w=.ok (decide (c=d)) w:=by
 have ne:∀ {c d:Cn},c.kind ≠ d.kind→decide (c=d)=false:=fun h=>decide_eq_false (fun e=>h (by rw [e]))
 obtain ⟨ck,cs,cr,cn,cp⟩:=c
 obtain ⟨dk,ds,dr,dn,dp⟩:=d
 rcases cv_form hc with ⟨ec,vc⟩ | ⟨ec,vc⟩ | ⟨ec,vc⟩ <;> rcases cv_form hd with ⟨ed,vd⟩ | ⟨ed,vd⟩ | ⟨ed,vd⟩ <;> simp only at ec vc ed vd <;> rw [vc,vd] <;> refine ⟨_,_,_,_,rfl,rfl,?_⟩ <;> rw [ec,ed]
 · rw [ifIn_I];congr 1;rw [Bool.eq_iff_iff];simp
 · rw [ifIn_ne (by decide),ne (by simp)]
 · rw [ifIn_ne (by decide),ne (by simp)]
 · rw [ifIn_ne (by decide),ne (by simp)]
 · rw [ifIn_S];congr 1;rw [Bool.eq_iff_iff];simp
 · rw [ifIn_ne (by decide),ne (by simp)]
 · rw [ifIn_ne (by decide),ne (by simp)]
 · rw [ifIn_ne (by decide),ne (by simp)]
 · rw [ifIn_U];congr 1;rw [Bool.eq_iff_iff];simp
theorem eql_cv {c d:Cn} {n m:Int} (hc:cb c=some n) (hd:cb d=some m) (w:World):(binOp .eql 20 (cv c) (cv d)).run Tryz.prog w=.ok (.bool (decide (c=d))) w:=by
 obtain ⟨tx,x,ty,y,e1,e2,h⟩:=ifIn_cv hc hd w
 rw [e1,e2];exact eql_of h
theorem guard_iface (op:BinOp) (t:TypeId) (x y:Operand) {v u:Value} {tx:TypeId} {z:Value} (h:v=.iface tx z) (w:World):(eqGuard op t x y v u).run Tryz.prog w=.ok () w:=by
 subst h
 cases op <;> cases u <;> simp [eqGuard]
theorem guard_cv {c:Cn} {n:Int} (hc:cb c=some n) (op:BinOp) (t:TypeId) (x y:Operand) (u:Value) (w:World):(eqGuard op t x y (cv c) u).run Tryz.prog w=.ok () w:=by
 obtain ⟨tx,z,_,_,e,_,_⟩:=ifIn_cv hc hc w
 exact guard_iface op t x y e w
end Go.Proofs.YtjddbjmcjhjpiaaGreatDoor
namespace Go.Proofs.YtjddbjmcjhjpiaaGreatDoor
set_option maxRecDepth 100000
set_option maxHeartbeats 1000000
open Go.RowKit M

abbrev plainV (c:Cn):Value:=.agg #[.int .i64 0,.int .i64 0,.bool false,.int .i64 c.kind,.int .i64 c.sort,.int .i64 c.nr,.int .i64 c.ns,.bool c.pf,.string ⟨#[]⟩]
def GRel (b:Int) (w:World) (n:Nat) (wr:World):Prop:=Tried b n∧Below w.heap.size w wr∧w.heap.size < wr.heap.size∧wr.heap[w.heap.size]?=some (.cells (yN 0 0 false 0 0 0 0 false ⟨#[]⟩) 204 (0,0))

theorem GRel.next {b:Int} {w wr w2:World} {n:Nat} {o:Obj} (h:GRel b w n wr) (hn:cb (nth b n) ≠ some b) (hb:Below (wr.alloc o).heap.size (wr.alloc o) w2):GRel b w (n + 1) w2:=by
 obtain ⟨h1,h2,h3,h4⟩:=h
 have hbb:=(bal (bel0 wr) o).trans (hb.mono (bal (bel0 wr) o).size)
 exact ⟨h1.succ hn,h2.trans (hbb.mono (Nat.le_of_lt h3)),Nat.lt_of_lt_of_le h3 hbb.size,(hbb.block _ h3).trans h4⟩
theorem results_cell2 {P:Program} {fn:Func} {p q:Tmp} {ty:TypeId} (h:fn.results=#[.cell p ty,.tmp q]) (tmps:Array Value) (w:World) (g:Nat) (t:TypeId) (cs:Array Value) (fr:Nat × Nat) (d:TypeDesc) (v:Value)
 (hp:tmps.getD p undef=.pointer (some ⟨g,0,none⟩)) (hq:tmps.getD q undef=v) (hg:w.heap[g]?=some (.cells cs t fr))
 (hu:P.underlying ty=some d) (hd:(match d with | .struct _ | .array _ _=>true | _=>false)=true) (hi:(P.info? ty).map (·.size)=some cs.size) :
 (results fn tmps).run P w=.ok (.tuple #[.agg cs,v]) w:=by
 have hp' : tmps[p]?.getD undef=.pointer (some ⟨g,0,none⟩):=by simpa using hp
 have hq' : tmps[q]?.getD undef=v:=by simpa using hq
 simp [results,h,hp', hq', asAddr,run_loadVar_row w g t ty cs fr d hg hu hd hi]

end Go.Proofs.YtjddbjmcjhjpiaaGreatDoor
namespace Go.Proofs.YtjddbjmcjhjpiaaGreatDoor
set_option maxRecDepth 100000
set_option maxHeartbeats 1000000
open Go.RowKit M

end Go.Proofs.YtjddbjmcjhjpiaaGreatDoor
namespace Go.Proofs.YtjddbjmcjhjpiaaGreatDoor
set_option maxRecDepth 100000
set_option maxHeartbeats 1000000
open Go.RowKit M

end Go.Proofs.YtjddbjmcjhjpiaaGreatDoor
namespace Go.Proofs.YtjddbjmcjhjpiaaGreatDoor
set_option maxRecDepth 100000
set_option maxHeartbeats 1000000
open Go.RowKit M

theorem by8_bc {n:Int} (h:0≤n∧n < 256):bc (by8 n)=.int .u8 n:=by unfold bc;rw [by8_nat h]

end Go.Proofs.YtjddbjmcjhjpiaaGreatDoor
namespace Go.Proofs.YtjddbjmcjhjpiaaGreatDoor
set_option maxRecDepth 100000
set_option maxHeartbeats 1000000
open Go.RowKit M

theorem Rds.from_ {w:World} {b off n cap:Nat} {l:List UInt8} (h:Rds w (.slice (some ⟨b,off,none⟩) n cap) l) (k:Nat) (hk:k≤n) (hn:0 < n):Rds w (.slice (if cap=k then some ⟨b,off,none⟩ else some ⟨b,off + k,none⟩) (n - k) (cap - k)) (l.drop k):=by
 obtain ⟨A,cap', he,h1,h2,h3⟩:=h
 injection he with e1 e2 e3
 subst e1;subst e2;subst e3
 refine ⟨_,_,by rw [List.length_drop],by rw [List.length_drop];omega,by omega,fun h0=>?_⟩
 rw [List.length_drop] at h0
 obtain ⟨b', off', he,hc⟩:=h3 hn
 injection he with he
 injection he with he1 he2 he3
 subst he1;subst he2
 rw [if_neg (by omega)]
 refine ⟨b,off + k,rfl,fun j hj=>?_⟩
 rw [List.length_drop] at hj
 rw [Nat.add_assoc,hc (k + j) (by omega),List.getD_eq_getElem?_getD,List.getD_eq_getElem?_getD,List.getElem?_drop]

theorem storeAddr (g:Nat) (s c:Int) (w:World) (h0:∃ u,w.cell? ⟨g,0,none⟩=some u) (h1:∃ u,w.cell? ⟨g,1,none⟩=some u) (z0:w.frozen? ⟨g,0,none⟩=false) (z1:w.frozen? ⟨g,1,none⟩=false) :
 (Instr.storeAt 144 (.pointer (some ⟨g,0,none⟩)) (.agg #[.int .i64 s,.int .i64 c])).run Tryz.prog w=.ok () ((w.setCell ⟨g,0,none⟩ (.int .i64 s)).setCell ⟨g,1,none⟩ (.int .i64 c)):=by
 obtain ⟨u0,h0⟩:=h0
 obtain ⟨u1,h1⟩:=h1
 go_simp
theorem storeBool (g k:Nat) (x:Bool) (w:World) (h0:∃ u,w.cell? ⟨g,k,none⟩=some u) (z0:w.frozen? ⟨g,k,none⟩=false) :
 (Instr.storeAt 4 (.pointer (some ⟨g,k,none⟩)) (.bool x)).run Tryz.prog w=.ok () (w.setCell ⟨g,k,none⟩ (.bool x)):=by
 obtain ⟨u0,h0⟩:=h0
 go_simp
theorem storeStr (g k:Nat) (x:ByteArray) (w:World) (h0:∃ u,w.cell? ⟨g,k,none⟩=some u) (z0:w.frozen? ⟨g,k,none⟩=false) :
 (Instr.storeAt 9 (.pointer (some ⟨g,k,none⟩)) (.string x)).run Tryz.prog w=.ok () (w.setCell ⟨g,k,none⟩ (.string x)):=by
 obtain ⟨u0,h0⟩:=h0
 go_simp

end Go.Proofs.YtjddbjmcjhjpiaaGreatDoor
