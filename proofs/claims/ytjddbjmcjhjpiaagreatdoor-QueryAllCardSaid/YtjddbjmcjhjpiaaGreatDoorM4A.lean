/- Of layer 4: Math, Words, Region, RowMem, Crc, Crc2, Crc3, Sir. -/
import Derived.Test.YtjddbjmcjhjpiaaGreatDoorProg
import Derived.WalkKit
import Derived.Below
import Derived.Laws.OwnMore
import Derived.Laws.CopyOwn
import Derived.Maps.AppendAt
import Derived.Deep.AppendLies
import Derived.Deep.Draws
import Derived.RegionTactic
import Derived.OwnWalk
import Derived.Laws.IdiomStrings
import Derived.Deep.RegionHeld
import Derived.Laws.Rows
import Derived.Laws.Tables
import Derived.Lib.Hide
import Derived.ProofKit
import Derived.Deep.QuietTactic
import Derived.BigQuiet
import Derived.Deep.RegionWith
import Derived.Deep.RegionHeld3
import Derived.StillTailTactics
import Derived.Deep.DeepFit
import Derived.Laws.BytesString

set_option linter.all false

namespace Go.Proofs.YtjddbjmcjhjpiaaGreatDoor
theorem jzD {P:Prop} (h:P):Go.RowKit.Hid P:=h
theorem jzU {α:Type} {l:List α} {i:Nat} {a:α}:l.toArray.setIfInBounds i a=(l.set i a).toArray:=by simp
theorem jzG {α:Type} {l:List α} {i:Nat}:l.toArray[i]?=l[i]?:=by simp
theorem jzH {α:Type} {a:α} {l:List α} {i:Nat}:(a :: l)[i + 1]?=l[i]?:=by simp
theorem jzI {α:Type} {a:α} {l:List α}:(a :: l)[0]?=some a:=by simp
theorem jzV {α:Type} {a b:α} {l:List α}:(a :: l).set 0 b=b :: l:=rfl
theorem jzW {α:Type} {a b:α} {l:List α} {n:Nat}:(a :: l).set (n + 1) b=a :: l.set n b:=rfl
abbrev yA (x0:Int) (x1:Int) (x2:Int) (x3:Int) (x4:Bool) (x5:ByteArray):Array Value:=#[.int .u32 x0,.int .u32 x1,.int .i64 x2,.int .i64 x3,.bool x4,.string x5]
abbrev yB (x0:Int) (x1:Int) (x2:Int) (x3:Int) (x4:Int) (x5:Int) (x6:Int) (x7:Int) (x8:Int):Array Value:=#[.int .u32 x0,.int .u32 x1,.int .i64 x2,.int .i64 x3,.int .i64 x4,.int .i64 x5,.int .i64 x6,.int .i64 x7,.int .i64 x8]
abbrev yC (x0:Int) (x1:Int) (x2:Int) (x3:ByteArray):Array Value:=#[.int .i64 x0,.int .i64 x1,.int .u32 x2,.string x3]
abbrev yD (x0:Int) (x1:ByteArray) (x2:Bool) (x3:Int) (x4:Int) (x5:Int):Array Value:=#[.int .u32 x0,.string x1,.bool x2,.int .u32 x3,.int .i64 x4,.int .i64 x5]
abbrev yE (x0:Int) (x1:ByteArray) (x2:Int) (x3:Int) (x4:Int):Array Value:=#[.int .u32 x0,.string x1,.int .u32 x2,.int .i64 x3,.int .i64 x4]
abbrev yF (x0:Int) (x1:Int) (x2:Int) (x3:Int) (x4:Bool) (x5:ByteArray) (x6:Int) (x7:Option Addr):Array Value:=#[.int .u32 x0,.int .u32 x1,.int .i64 x2,.int .i64 x3,.bool x4,.string x5,.int .i64 x6,.pointer x7]
abbrev yG (x0:Int) (x1:Option Addr) (x2:Nat) (x3:Nat) (x4:Option Addr) (x5:Nat) (x6:Nat):Array Value:=#[.int .u32 x0,.slice x1 x2 x3,.slice x4 x5 x6]
abbrev yH (x0:Int) (x1:ByteArray) (x2:Int) (x3:Int) (x4:Option Addr):Array Value:=#[.int .u32 x0,.string x1,.int .i64 x2,.int .i64 x3,.pointer x4]
abbrev yI (x0:Int) (x1:Int) (x2:Int) (x3:Int) (x4:Int):Array Value:=#[.int .i64 x0,.int .i64 x1,.int .i64 x2,.int .i64 x3,.int .i64 x4]
abbrev yJ (x0:Int) (x1:ByteArray) (x2:Int):Array Value:=#[.int .u32 x0,.string x1,.int .i64 x2]
abbrev yK (x0:Int) (x1:Int) (x2:Int):Array Value:=#[.int .i64 x0,.int .i64 x1,.int .i64 x2]
abbrev yL (x0:Int) (x1:ByteArray) (x2:Int) (x3:ByteArray) (x4:Int) (x5:ByteArray) (x6:Int) (x7:ByteArray) (x8:Int) (x9:ByteArray):Array Value:=#[.int .i64 x0,.string x1,.int .i64 x2,.string x3,.int .i64 x4,.string x5,.int .i64 x6,.string x7,.int .i64 x8,.string x9]
abbrev yM (x0:Int) (x1:ByteArray):Array Value:=#[.int .u32 x0,.string x1]
abbrev yN (x0:Int) (x1:Int) (x2:Bool) (x3:Int) (x4:Int) (x5:Int) (x6:Int) (x7:Bool) (x8:ByteArray):Array Value:=#[.int .i64 x0,.int .i64 x1,.bool x2,.int .i64 x3,.int .i64 x4,.int .i64 x5,.int .i64 x6,.bool x7,.string x8]
abbrev yO (x0:Int) (x1:Int) (x2:Int):Array Value:=#[.int .u32 x0,.int .u32 x1,.int .u32 x2]
abbrev yP (x0:Int) (x1:ByteArray):Array Value:=#[.int .i64 x0,.string x1]
end Go.Proofs.YtjddbjmcjhjpiaaGreatDoor
namespace Go.Proofs.YtjddbjmcjhjpiaaGreatDoor.M
set_option maxHeartbeats 1000000

def cstep (c:Nat):Nat:=if c % 2=1 then (c / 2) ^^^ 33800 else c / 2
def csteps:Nat→Nat→Nat
 | 0,c=>c
 | k + 1,c=>cstep (csteps k c)
def cadd (c b:Nat):Nat:=csteps 8 (c ^^^ b)
def caddAll:Nat→List UInt8→Nat
 | c,[]=>c
 | c,b :: l=>caddAll (cadd c b.toNat) l
def cof (l:List UInt8):Nat:=65535 - caddAll 65535 l
def cput (l:List UInt8):List UInt8:=l ++ [UInt8.ofNat (cof l % 256),UInt8.ofNat (cof l / 256)]
def cfine (l:List UInt8):Bool:=decide (2≤l.length) && (cput (l.take (l.length - 2)) == l)

theorem xor_lt {a b:Nat} (ha:a < 65536) (hb:b < 65536):a ^^^ b < 65536:=Nat.xor_lt_two_pow (n:=16) ha hb
theorem cstep_lt {c:Nat} (h:c < 65536):cstep c < 65536:=by
 unfold cstep
 split
 · exact xor_lt (by omega) (by decide)
 · omega
theorem csteps_lt {c:Nat} (h:c < 65536):∀ k,csteps k c < 65536
 | 0=>h
 | k + 1=>cstep_lt (csteps_lt h k)
theorem cadd_lt {c b:Nat} (h:c < 65536) (hb:b < 256):cadd c b < 65536:=csteps_lt (xor_lt h (by omega)) 8
theorem caddAll_lt:∀ (l:List UInt8) {c:Nat},c < 65536→caddAll c l < 65536
 | [],_,h=>h
 | b :: l,_,h=>caddAll_lt l (cadd_lt h b.toNat_lt)
theorem cof_lt (l:List UInt8):cof l < 65536:=by unfold cof;omega
theorem caddAll_append:∀ (l m:List UInt8) (c:Nat),caddAll c (l ++ m)=caddAll (caddAll c l) m
 | [],_,_=>rfl
 | b :: l,m,c=>caddAll_append l m (cadd c b.toNat)
theorem caddAll_snoc (l:List UInt8) (b:UInt8) (c:Nat):caddAll c (l ++ [b])=cadd (caddAll c l) b.toNat:=caddAll_append l [b] c


theorem two_split (l:List UInt8) (h:2≤l.length):l=l.take (l.length - 2) ++ [l.getD (l.length - 2) 0,l.getD (l.length - 1) 0]:=by
 have h1:l.drop (l.length - 2)=[l.getD (l.length - 2) 0,l.getD (l.length - 1) 0]:=by
  apply List.ext_getElem
  · simp;omega
  · intro i h2 h3
    simp at h2 h3
    rcases i with _ | _ | i
    · simp [show l.length - 2 < l.length by omega]
    · simp [show l.length - 1 < l.length by omega,show l.length - 2 + 1=l.length - 1 by omega]
    · omega
 rw [← h1,List.take_append_drop]
theorem cfine_short (l:List UInt8) (h:l.length < 2):cfine l=false:=by
 unfold cfine;simp;omega
theorem cfine_long (l:List UInt8) (h:2≤l.length):cfine l=(decide (l.getD (l.length - 2) 0=UInt8.ofNat (cof (l.take (l.length - 2)) % 256)) && decide (l.getD (l.length - 1) 0=UInt8.ofNat (cof (l.take (l.length - 2)) / 256))):=by
 have e:(cput (l.take (l.length - 2)) == l)=(decide (l.getD (l.length - 2) 0=UInt8.ofNat (cof (l.take (l.length - 2)) % 256)) && decide (l.getD (l.length - 1) 0=UInt8.ofNat (cof (l.take (l.length - 2)) / 256))):=by
  rw [Bool.eq_iff_iff,beq_iff_eq]
  conv=>lhs;rhs;rw [two_split l h]
  unfold cput
  simp only [List.append_cancel_left_eq,List.cons.injEq,and_true,Bool.and_eq_true,decide_eq_true_eq]
  exact ⟨fun h=>⟨h.1.symm,h.2.symm⟩,fun h=>⟨h.1.symm,h.2.symm⟩⟩
 unfold cfine
 rw [e]
 simp [h]


def special (x:UInt8):Bool:=x == 192 || x == 193 || x == 125
def cesc:List UInt8→List UInt8
 | []=>[]
 | x :: l=>if special x=true then 125 :: (x ^^^ 32) :: cesc l else x :: cesc l
theorem cesc_append:∀ l m:List UInt8,cesc (l ++ m)=cesc l ++ cesc m
 | [],_=>rfl
 | x :: l,m=>by
  simp only [List.cons_append,cesc,cesc_append l m]
  split <;> rfl
theorem cesc_length:∀ l:List UInt8,l.length≤(cesc l).length∧(cesc l).length≤2 * l.length
 | []=>by simp [cesc]
 | x :: l=>by
  have := cesc_length l
  simp only [cesc]
  split <;> simp only [List.length_cons] <;> omega
def extras (extra:Int):Nat:=(min (max extra 0) 10).toNat
def cwrap (l:List UInt8) (extra:Int):List UInt8:=List.replicate (extras extra) 255 ++ (192 :: cesc (cput l)) ++ [193]
def cabort (l:List UInt8):List UInt8:=(192 :: cesc l) ++ [125,193]


structure R where
 most:Nat
 ins:Bool
 esc:Bool
 f:List UInt8
def R.new (most:Int):R:=⟨(min (max most 1) 200).toNat,false,false,[]⟩
def rend (mk:Bool) (f:List UInt8):List UInt8 × Nat :=
 if mk=true then ([],9) else if f.length≤2 ∨ cfine f=false then ([],8) else (f.take (f.length - 2),0)
def rput (r:R) (b:UInt8):R × List UInt8 × Nat × Bool :=
 if b=192 then (⟨r.most,true,false,[]⟩,[],0,false)
 else if r.ins=false then (r,[],0,false)
 else if b=193 then (⟨r.most,false,r.esc,r.f⟩,(rend r.esc r.f).1,(rend r.esc r.f).2,true)
 else if b=125∧r.esc=false then (⟨r.most,r.ins,true,r.f⟩,[],0,false)
 else if r.most + 2≤r.f.length then (⟨r.most,false,r.esc,r.f⟩,[],7,true)
 else (⟨r.most,r.ins,false,r.f ++ [if r.esc=true then b ^^^ 32 else b]⟩,[],0,false)
def R.ok (r:R):Prop:=1≤r.most∧r.most≤200∧r.f.length≤r.most + 2
def told:R × List UInt8 × Nat × Bool→List (List UInt8)
 | (_,l,0,true)=>[l]
 | _=>[]
def rall:R→List UInt8→List (List UInt8) × R
 | r,[]=>([],r)
 | r,b :: l=>(told (rput r b) ++ (rall (rput r b).1 l).1,(rall (rput r b).1 l).2)
theorem rall_append:∀ (l m:List UInt8) (r:R),rall r (l ++ m)=((rall r l).1 ++ (rall (rall r l).2 m).1,(rall (rall r l).2 m).2)
 | [],m,r=>rfl
 | b :: l,m,r=>by simp only [List.cons_append,rall,rall_append l m (rput r b).1,List.append_assoc]
theorem rall_snoc (l:List UInt8) (r:R) (x:UInt8):rall r (l ++ [x])=((rall r l).1 ++ told (rput (rall r l).2 x),(rput (rall r l).2 x).1):=by
 rw [rall_append]
 simp only [rall,List.append_nil]
theorem told_len:∀ x,(told x).length≤1
 | (_,_,0,true)=>by simp [told]
 | (_,_,_ + 1,_)=>by simp [told]
 | (_,_,0,false)=>by simp [told]
theorem rall_len:∀ (l:List UInt8) (r:R),(rall r l).1.length≤l.length
 | [],r=>Nat.zero_le _
 | b :: l,r=>by
  have h:=rall_len l (rput r b).1
  have := told_len (rput r b)
  simp only [rall,List.length_cons,List.length_append]
  omega

end Go.Proofs.YtjddbjmcjhjpiaaGreatDoor.M
namespace Go.Proofs.YtjddbjmcjhjpiaaGreatDoor
set_option maxHeartbeats 1000000
open Go.RowKit

theorem block_of_add (a:Addr) (n:Nat):(a.add n).block=a.block:=by unfold Addr.add;split <;> rfl
theorem add_of_add (a:Addr) (i j:Nat):(a.add i).add j=a.add (i + j):=by
 unfold Addr.add
 by_cases hi:i=0 <;> by_cases hj:j=0 <;> simp [hi,hj,Nat.add_assoc]

def Reads (w:World) (B size:Nat) (A:Option Addr) (n:Nat) (xs:List Value):Prop :=
 xs.length=n * size∧(0 < n→∃ ad,A=some ad∧ad.block < B∧∀ j u,xs[j]?=some u→w.cell? (ad.add j)=some u)

section
variable {w w' : World} {B B' size n:Nat} {A:Option Addr} {xs:List Value}
theorem Reads.at_ {k:Nat} (h:Reads w B 1 A n xs) (hk:k < n):∃ ad u,A=some ad∧ad.block < B∧xs[k]?=some u∧w.cell? (ad.add k)=some u:=by
 obtain ⟨ad,e,hb,hc⟩:=h.2 (by omega)
 have hl:k < xs.length:=by have := h.1;omega
 exact ⟨ad,xs[k],e,hb,List.getElem?_eq_getElem hl,hc k _ (List.getElem?_eq_getElem hl)⟩
theorem Reads.keep (h:Reads w B size A n xs) (hk:∀ p:Addr,p.block < B→w'.cell? p=w.cell? p):Reads w' B size A n xs :=
 ⟨h.1,fun hn=>by
  obtain ⟨ad,e,hb,hc⟩:=h.2 hn
  exact ⟨ad,e,hb,fun j u hu=>(hk _ (by rw [block_of_add];exact hb)).trans (hc j u hu)⟩⟩
theorem Reads.more (h:Reads w B size A n xs) (hB:B≤B'):Reads w B' size A n xs :=
 ⟨h.1,fun hn=>by
  obtain ⟨ad,e,hb,hc⟩:=h.2 hn
  exact ⟨ad,e,by omega,hc⟩⟩
theorem Reads.below (h:Reads w B size A n xs) (hb:Below B w w'):Reads w' B size A n xs:=h.keep fun _ hp=>hb.cell hp
theorem Reads.drew (h:Reads w B size A n xs):Reads w.drew B size A n xs:=h
theorem Reads.drewN (h:Reads w B size A n xs) (k:Nat):Reads (w.drewN k) B size A n xs:=h
theorem Reads.alloc (h:Reads w B size A n xs) (hB:B≤w.heap.size) (o:Obj):Reads (w.alloc o) B size A n xs:=h.keep fun p hp=>World.cell?_alloc_lt w o p (by omega)
theorem Reads.setCell (h:Reads w B size A n xs) {p:Addr} (hB:B≤p.block) (u:Value):Reads (w.setCell p u) B size A n xs :=
 h.keep fun q hq=>World.cell?_setCell_other w p q u (fun e=>by subst e;omega)
theorem Reads.grown (h:Reads w B size A n xs) {row:Option Nat} (hg:w.grownBy w' row) (hB:B≤w.heap.size) (hr:∀ g,row=some g→B≤g):Reads w' B size A n xs :=
 h.keep fun p hp=>World.cell?_of_block (hg.block p.block (by omega) (fun e=>by have := hr _ e.symm;omega))
theorem Reads.cut (h:Reads w B size A n xs) {k cap:Nat} (hk:k≤n) (hc:n≤cap) :
 Reads w B size (if cap=k then A else A.map (·.add (k * size))) (n - k) (xs.drop (k * size)):=by
 refine ⟨by rw [List.length_drop,h.1,Nat.sub_mul],fun hn=>?_⟩
 obtain ⟨ad,rfl,hb,hcell⟩:=h.2 (by omega)
 rw [if_neg (by omega)]
 refine ⟨ad.add (k * size),rfl,by rw [block_of_add];exact hb,fun j u hu=>?_⟩
 rw [add_of_add]
 exact hcell _ u (by rw [← hu,List.getElem?_drop])
theorem Reads.of_own {base:Nat} {e:TypeId} {c:Nat} (h:w.ownsRow base e size (.slice A n c) n xs):Reads w w.heap.size size A n xs:=by
 refine ⟨h.1,fun hn=>?_⟩
 obtain ⟨g,cap,hv,_,hlt⟩:=h.form hn
 have hA:A=some ⟨g,0,none⟩:=by injection hv
 subst hA
 exact ⟨_,rfl,hlt,h.cells (g:=g) rfl⟩
end
section
variable {P:Program} (w:World)

theorem run_append_of_nil (base:Nat) (t ty e:TypeId) (i:TypeInfo) (size:Nat) (ht:P.underlying t=some (.slice e)) (hi:P.info? e=some i)
 (v:Value) (n:Nat) (xs:List Value) (hown:w.ownsRow base e size v n xs) (c:Nat):(Builtin.append_ #[t,t] ty #[v,.slice none 0 c]).run P w=.ok v w:=by
 rcases hown.2 with ⟨rfl,rfl⟩ | ⟨g,cap,cur,rfl,_,_,hnc,_⟩
 · simp [Builtin.append_,run_underlying ht,sizeOf,typeInfo,hi,Builtin.lenOf,Builtin.firstCells]
 · simp [Builtin.append_,run_underlying ht,sizeOf,typeInfo,hi,Builtin.lenOf,Builtin.firstCells,hnc,storeCells]

theorem run_append_any (base:Nat) (t ty e:TypeId) (i:TypeInfo) (z:Value) (size bytes:Nat) (ht:P.underlying t=some (.slice e)) (hi:P.info? e=some i) (hz:i.zero=some z)
 (hsize:i.size=size) (hby:i.bytes=bytes) (hzs:z.cells.size=size) (hsz:0 < size)
 (v:Value) (n:Nat) (xs:List Value) (hown:w.ownsRow base e size v n xs)
 (B:Nat) (A:Option Addr) (m c:Nat) (news:List Value) (hr:Reads w B size A m news) (h1:∀ u ∈ news,u.oneCell' = true)
 (h63:n + m≤maxLen) (hbytes:(n + m) * bytes≤140737488355328) (hbase:base≤w.heap.size) :
 ∃ v' w', (Builtin.append_ #[t,t] ty #[v,.slice A m c]).run P w=.ok v' w' ∧ w'.ownsRow base e size v' (n + m) (xs ++ news)∧w.grownBy w' v.ownBlock ∧
  (v'.ownBlock=v.ownBlock ∨ v'.ownBlock=some w.heap.size):=by
 rcases A with _ | ad
 · have hm:m=0:=by
    rcases Nat.eq_zero_or_pos m with h0 | h0
    · exact h0
    · obtain ⟨ad,h,_⟩:=hr.2 h0
      cases h
   subst hm
   have hn:news=[]:=List.eq_nil_of_length_eq_zero (by simpa using hr.1)
   subst hn
   exact ⟨v,w,run_append_of_nil w base t ty e i size ht hi v n xs hown c,by simpa using hown,World.grownBy.refl w _,.inl rfl⟩
 · have hcells:∀ j u,news[j]?=some u→w.cell? (ad.add j)=some u:=by
    intro j u hu
    rcases Nat.eq_zero_or_pos m with h0 | h0
    · subst h0
      have hn:news=[]:=List.eq_nil_of_length_eq_zero (by simpa using hr.1)
      subst hn
      simp at hu
    · obtain ⟨ad', h,_,hc⟩:=hr.2 h0
      injection h with h
      subst h
      exact hc j u hu
   obtain ⟨v', w', hrun,h2,h3,_,h5⟩:=run_append_own_at (P:=P) w base t ty e i z size bytes ht hi hz hsize hby hzs hsz v n xs hown ad m c news hr.1 hcells h1 h63 hbytes hbase
   exact ⟨v', w', hrun,h2,h3,h5⟩

theorem wp_append_any {o:Oper} {a:Act} {K:Act→World→Prop} {Q:Exit→Act→World→Prop} (s x:Operand) (t:TypeId)
 (ho:o.op=.call { callee:=.builtin .append,args:=#[s,x],argTypes:=#[t,t] })
 (base:Nat) (e:TypeId) (i:TypeInfo) (z:Value) (size bytes:Nat) (ht:P.underlying t=some (.slice e)) (hi:P.info? e=some i) (hz:i.zero=some z)
 (hsize:i.size=size) (hby:i.bytes=bytes) (hzs:z.cells.size=size) (hsz:0 < size)
 (v:Value) (n:Nat) (xs:List Value) (hs:a.eval s=v) (hown:w.ownsRow base e size v n xs)
 (B:Nat) (A:Option Addr) (m c:Nat) (news:List Value) (hx:a.eval x=.slice A m c) (hr:Reads w B size A m news) (h1:∀ u ∈ news,u.oneCell' = true)
 (h63:n + m≤maxLen) (hbytes:(n + m) * bytes≤140737488355328) (hbase:base≤w.heap.size)
 (h:∀ v' w', w'.ownsRow base e size v' (n + m) (xs ++ news)→w.grownBy w' v.ownBlock→(v'.ownBlock=v.ownBlock ∨ v'.ownBlock=some w.heap.size)→K (a.put o.dst v') w'):o.wp P a w K Q:=by
 obtain ⟨v', w', hrun,h2,h3,h4⟩:=run_append_any (P:=P) w base t o.type e i z size bytes ht hi hz hsize hby hzs hsz v n xs hown B A m c news hr h1 h63 hbytes hbase
 unfold Oper.wp execOp
 simp only [ho,resolve,invoke,builtin,Sem.run_bind,Sem.run_pure,Result.andThen_ok,List.map_toArray,List.map_cons,List.map_nil,hs,hx,hrun]
 exact h v' w' h2 h3 h4

theorem wpList_append_any {ops:Array Oper} {rest:List Oper} {o:Oper} {a:Act} {Q:Exit→Act→World→Prop} (hgd:o.guard=none) (s x:Operand) (t:TypeId)
 (ho:o.op=.call { callee:=.builtin .append,args:=#[s,x],argTypes:=#[t,t] })
 (base:Nat) (e:TypeId) (i:TypeInfo) (z:Value) (size bytes:Nat) (ht:P.underlying t=some (.slice e)) (hi:P.info? e=some i) (hz:i.zero=some z)
 (hsize:i.size=size) (hby:i.bytes=bytes) (hzs:z.cells.size=size) (hsz:0 < size)
 (v:Value) (n:Nat) (xs:List Value) (hs:a.eval s=v) (hown:w.ownsRow base e size v n xs)
 (B:Nat) (A:Option Addr) (m c:Nat) (news:List Value) (hx:a.eval x=.slice A m c) (hr:Reads w B size A m news) (h1:∀ u ∈ news,u.oneCell' = true)
 (h63:n + m≤maxLen) (hbytes:(n + m) * bytes≤140737488355328) (hbase:base≤w.heap.size)
 (h:∀ v' w', w'.ownsRow base e size v' (n + m) (xs ++ news)→w.grownBy w' v.ownBlock→(v'.ownBlock=v.ownBlock ∨ v'.ownBlock=some w.heap.size)→wpList P ops Q rest (a.put o.dst v') w'):wpList P ops Q (o :: rest) a w :=
 wpList_plain hgd fun _ hK=>wp_append_any w s x t ho base e i z size bytes ht hi hz hsize hby hzs hsz v n xs hs hown B A m c news hx hr h1 h63 hbytes hbase fun v' w' h2 h3 h4=>hK _ _ (h v' w' h2 h3 h4)

end
def bc (x:UInt8):Value:=.int .u8 (x.toNat:Int)
def bcs (l:List UInt8):List Value:=l.map bc
theorem bcs_length (l:List UInt8):(bcs l).length=l.length:=by simp [bcs]
theorem bcs_append (l m:List UInt8):bcs (l ++ m)=bcs l ++ bcs m:=by simp [bcs]
theorem bcs_one (l:List UInt8):∀ u ∈ bcs l,u.oneCell' = true:=by
 intro u hu
 simp only [bcs,List.mem_map] at hu
 obtain ⟨x,_,rfl⟩:=hu
 rfl
def Rd (w:World) (A:Option Addr) (l:List UInt8):Prop :=
 0 < l.length→∃ b off,A=some ⟨b,off,none⟩∧∀ j,j < l.length→w.cell? ⟨b,off + j,none⟩=some (bc (l.getD j 0))
def Rds (w:World) (v:Value) (l:List UInt8):Prop:=∃ A cap,v=.slice A l.length cap∧l.length≤cap∧cap≤maxLen∧Rd w A l
def Own (w:World) (base:Nat) (v:Value) (l:List UInt8):Prop:=w.ownsRow base 5 1 v l.length (bcs l)

theorem Rd.keep {w w' : World} {A:Option Addr} {l:List UInt8} (h:Rd w A l) (hk:∀ b off,A=some ⟨b,off,none⟩→b < w.heap.size→∀ o,w'.cell? ⟨b,o,none⟩=w.cell? ⟨b,o,none⟩):Rd w' A l:=by
 intro hl
 obtain ⟨b,off,rfl,hc⟩:=h hl
 have hb:=World.block_lt_of_cell? w _ (hc 0 hl)
 exact ⟨b,off,rfl,fun j hj=>(hk b off rfl hb _).trans (hc j hj)⟩
def Apart (u:Value) (m:List UInt8) (row:Option Nat):Prop:=row=none ∨ u.ownBlock ≠ row ∨ m=[]
theorem Rd.nil_ (w:World) (A:Option Addr):Rd w A []:=fun h=>absurd h (by simp)
theorem Rds.grown {w w' : World} {v:Value} {l:List UInt8} (h:Rds w v l) {row:Option Nat} (hg:w.grownBy w' row) (hne:Apart v l row):Rds w' v l:=by
 obtain ⟨A,cap,rfl,h1,h2,h3⟩:=h
 rcases hne with rfl | hne | rfl
 · refine ⟨A,cap,rfl,h1,h2,h3.keep ?_⟩
   rintro b off rfl hb o
   exact World.cell?_of_block (hg.block b hb (by simp))
 · refine ⟨A,cap,rfl,h1,h2,h3.keep ?_⟩
   rintro b off rfl hb o
   exact World.cell?_of_block (hg.block b hb (by simpa [Value.ownBlock] using hne))
 · exact ⟨A,cap,rfl,h1,h2,Rd.nil_ _ _⟩
theorem Rds.apart_new {w:World} {u:Value} {m:List UInt8} (h:Rds w u m) {g:Nat} (hg:w.heap.size≤g):Apart u m (some g):=by
 by_cases h0:0 < m.length
 · refine .inr (.inl ?_)
   obtain ⟨A,cap,rfl,h1,h2,h3⟩:=h
   obtain ⟨b,off,rfl,hc⟩:=h3 h0
   have hb:=World.block_lt_of_cell? w _ (hc 0 h0)
   simp only [Value.ownBlock,ne_eq,Option.some.injEq]
   simp only at hb
   omega
 · exact .inr (.inr (List.eq_nil_of_length_eq_zero (by omega)))
theorem Rds.below {w w' : World} {v:Value} {l:List UInt8} (h:Rds w v l) (hb:Below w.heap.size w w'):Rds w' v l:=by
 obtain ⟨A,cap,rfl,h1,h2,h3⟩:=h
 refine ⟨A,cap,rfl,h1,h2,h3.keep ?_⟩
 rintro b off rfl hlt o
 exact World.cell?_of_block (hb.block b hlt)
theorem Rds.alloc {w:World} {v:Value} {l:List UInt8} (h:Rds w v l) (o:Obj):Rds (w.alloc o) v l:=h.below ((Below.refl _ _).alloc (Nat.le_refl _) o)
theorem addr_add (b off j:Nat):(⟨b,off,none⟩:Addr).add j=⟨b,off + j,none⟩:=by
 unfold Addr.add;split <;> simp_all
theorem Rds.reads {w:World} {v:Value} {l:List UInt8} (h:Rds w v l):∃ A cap,v=.slice A l.length cap∧Reads w w.heap.size 1 A l.length (bcs l):=by
 obtain ⟨A,cap,rfl,h1,h2,h3⟩:=h
 refine ⟨A,cap,rfl,by simp [bcs_length],fun hl=>?_⟩
 obtain ⟨b,off,rfl,hc⟩:=h3 hl
 refine ⟨_,rfl,World.block_lt_of_cell? w _ (hc 0 hl),fun j u hu=>?_⟩
 rw [addr_add]
 have hj:j < l.length:=by
  have := (List.getElem?_eq_some_iff.1 hu).1
  rwa [bcs_length] at this
 rw [hc j hj]
 simp only [bcs,List.getElem?_map] at hu
 rw [← hu]
 simp [hj]
theorem Rds.len {w:World} {v:Value} {l:List UInt8} (h:Rds w v l):l.length≤maxLen:=by
 obtain ⟨A,cap,rfl,h1,h2,h3⟩:=h;omega
theorem Own.rds {w:World} {base:Nat} {v:Value} {l:List UInt8} (h:Own w base v l):Rds w v l:=by
 have hcells:=@World.ownsRow.cells w base 5 1 v l.length (bcs l) h
 rcases h.2 with ⟨rfl,hn⟩ | ⟨g,cap,cur,rfl,hb,hh,hc,hm,hs,ht⟩
 · exact ⟨none,0,by rw [hn],by omega,by simp [maxLen],fun h0=>by omega⟩
 · refine ⟨_,cap,rfl,hc,hm,fun _=>⟨g,0,rfl,fun j hj=>?_⟩⟩
   have := hcells (g:=g) rfl j (bc (l.getD j 0)) (by simp [bcs,hj])
   rw [addr_add] at this
   exact this
theorem Own.nil_ (w:World) (base:Nat):Own w base (.slice none 0 0) []:=World.ownsRow_nil w base 5 1
theorem Own.grown {w w' : World} {base:Nat} {v:Value} {l:List UInt8} (h:Own w base v l) {row:Option Nat} (hg:w.grownBy w' row) (hne:v.ownBlock=none ∨ v.ownBlock ≠ row):Own w' base v l:=World.ownsRow.kept h hg hne
theorem grownBy_of_below {w w' : World} (h:Below w.heap.size w w') (row:Option Nat):w.grownBy w' row:=⟨h.os,h.tape,h.output,h.size,fun i hi _=>h.block i hi⟩
theorem Own.below {w w' : World} {base:Nat} {v:Value} {l:List UInt8} (h:Own w base v l) (hb:Below w.heap.size w w'):Own w' base v l :=
 h.grown (grownBy_of_below hb none) (by cases hv:v.ownBlock <;> simp)
theorem Own.alloc {w:World} {base:Nat} {v:Value} {l:List UInt8} (h:Own w base v l) (o:Obj):Own (w.alloc o) base v l:=World.ownsRow.alloc h o
theorem Own.more {w:World} {base base' : Nat} {v:Value} {l:List UInt8} (h:Own w base v l) (hb:base' ≤ base):Own w base' v l:=by
 refine ⟨h.1,?_⟩
 rcases h.2 with h2 | ⟨g,cap,cur,hv,hg,r⟩
 · exact .inl h2
 · exact .inr ⟨g,cap,cur,hv,by omega,r⟩
theorem Own.lt {w:World} {base:Nat} {v:Value} {l:List UInt8} (h:Own w base v l):∀ k,v.ownBlock=some k→base≤k∧k < w.heap.size:=World.ownsRow.lt h
theorem Own.built (w:World) (l:List UInt8) (base:Nat) (hb:base≤w.heap.size) (hl:l.length≤maxLen):Own (w.alloc (.cells (bcs l).toArray 5)) base (.slice (some ⟨w.heap.size,0,none⟩) l.length l.length) l:=by
 refine ⟨by simp [bcs_length],.inr ⟨w.heap.size,l.length,(bcs l).toArray,rfl,hb,heap_alloc_new w _,Nat.le_refl _,hl,by simp [bcs_length],?_⟩⟩
 simp only [Nat.mul_one]
 exact List.take_of_length_le (by simp [bcs_length])

theorem byte_info:(Tryz.prog.info? 5).map (fun i=>(i.zero,i.size,i.bytes))=some (some (.int .u8 0),1,1):=by kernel_rfl

theorem wpList_app {w:World} {ops:Array Oper} {rest:List Oper} {o:Oper} {a:Act} {Q:Exit→Act→World→Prop} (hgd:o.guard=none) (s x:Operand)
 (ho:o.op=.call { callee:=.builtin .append,args:=#[s,x],argTypes:=#[152,152] })
 (base:Nat) (v u:Value) (l m:List UInt8) (hs:a.eval s=v) (hx:a.eval x=u) (hown:Own w base v l) (hr:Rds w u m) (hlen:l.length + m.length≤140737488355328) (hbase:base≤w.heap.size)
 (h:∀ v' w', Own w' base v' (l ++ m)→w.grownBy w' v.ownBlock→(v'.ownBlock=v.ownBlock ∨ v'.ownBlock=some w.heap.size)→wpList Tryz.prog ops Q rest (a.put o.dst v') w'):wpList Tryz.prog ops Q (o :: rest) a w:=by
 obtain ⟨i0,hi,hz0,hz1,hz2⟩:=info_parts byte_info
 obtain ⟨A,cap,rfl,hreads⟩:=hr.reads
 refine wpList_append_any w hgd s x 152 ho base 5 i0 _ 1 1 Tryz.underlying152 hi hz0 hz1 hz2 rfl (by omega) v l.length (bcs l) hs hown w.heap.size A m.length cap (bcs m) hx hreads (bcs_one m) (by simp only [maxLen];omega) (by omega) hbase ?_
 intro v' w' h1 h2 h3
 exact h v' w' (by unfold Own;rw [List.length_append,bcs_append];exact h1) h2 h3

theorem byte_infoS:(Tryz.prog.info? 5).map (·.size)=some 1:=by kernel_rfl
theorem wpList_copyB {w:World} {ops:Array Oper} {rest:List Oper} {o:Oper} {a:Act} {Q:Exit→Act→World→Prop} (hgd:o.guard=none) (d s:Operand)
 (ho:o.op=.call { callee:=.builtin .copy,args:=#[d,s],argTypes:=#[152,152] }) (g c base:Nat) (w0:World) (cur:Array Value) (u:Value) (m:List UInt8)
 (hd:a.eval d=.slice (some ⟨g,0,none⟩) m.length c) (hs:a.eval s=u) (hg:w.heap[g]?=some (.cells cur 5 (0,0))) (hsz:cur.size=c) (hmc:m.length≤c) (hcm:c≤maxLen) (hr:Rds w u m)
 (hb:Below base w0 w) (hbg:base≤g)
 (h:∀ w', Own w' base (.slice (some ⟨g,0,none⟩) m.length c) m→Below base w0 w' → wpList Tryz.prog ops Q rest (a.put o.dst (goInt m.length)) w'):wpList Tryz.prog ops Q (o :: rest) a w:=by
 obtain ⟨A,cap,rfl,hreads⟩:=hr.reads
 refine wpList_copy_splice hgd d s 152 152 ho 5 Tryz.underlying152 byte_infoS _ A m.length c m.length cap hd hs g 0 cur.toList 5 (by simpa using hg) (bcs m) (by simp [bcs_length]) (fun hp=>⟨rfl,?_⟩) (by simp [bcs_length];omega) (bcs_one m) base w0 hb hbg ?_
 · obtain ⟨ad,h1,_,h2⟩:=hreads.2 (by rw [bcs_length] at hp;exact hp)
   exact ⟨ad,h1,h2⟩
 · intro w' hh hb'
   rw [bcs_length]
   refine h w' ⟨by simp [bcs_length],.inr ⟨g,c,_,rfl,hbg,hh,hmc,hcm,?_,?_⟩⟩ hb'
   · simp [splice,bcs_length,hsz]
     omega
   · simp only [splice,Nat.mul_one,List.take_zero,List.nil_append]
     rw [← bcs_length m,List.take_left']
     rfl

theorem run_str {w:World} {v:Value} {l:List UInt8} (h:Rds w v l):(convert 152 9 v).run Tryz.prog w=.ok (.string ⟨l.toArray⟩) w:=by
 obtain ⟨A,cap,rfl,h1,h2,h3⟩:=h
 rcases l with _ | ⟨x,l⟩
 · rw [run_convert_bytes_string w 152 9 5 A _ cap Tryz.underlying152 Tryz.underlying5 Tryz.underlying9]
   rcases A with _ | a
   · simp [Conv.bytesToString]
     rfl
   · have := run_bytesToString (P:=Tryz.prog) w a 0 cap [] (by simpa using run_loadCells_list (P:=Tryz.prog) w a [] (fun j v h=>by simp at h))
     exact this
 · obtain ⟨b,off,rfl,hc⟩:=h3 (by simp)
   refine run_convert_bytes_back w 152 9 5 _ cap (x :: l) Tryz.underlying152 Tryz.underlying5 Tryz.underlying9 fun j hj=>?_
   rw [addr_add,hc j hj,bc,List.getD_eq_getElem?_getD,List.getElem?_eq_getElem hj]
   rfl
theorem below_drewN {B:Nat} {a w:World} (h:Below B a w) (n:Nat):Below B a (w.drewN n):=⟨h.os,h.tape,h.output,h.size,h.block⟩

theorem grown_trans {w w1 w2:World} {row row1:Option Nat} (h:w.grownBy w1 row) (h1:w1.grownBy w2 row1) (hr:row1=row ∨ ∀ g,row1=some g→w.heap.size≤g):w.grownBy w2 row:=by
 refine ⟨h1.os.trans h.os,h1.tape.trans h.tape,h1.output.trans h.output,Nat.le_trans h.size h1.size,fun k hk hne=>?_⟩
 refine (h1.block k (Nat.lt_of_lt_of_le hk h.size) ?_).trans (h.block k hk hne)
 rintro e
 rcases hr with rfl | hr
 · exact hne e
 · have := hr k e.symm
   omega
def Onto (w:World) (base:Nat) (v:Value) (w' : World) (v' : Value) (l:List UInt8):Prop :=
 Own w' base v' l∧w.grownBy w' v.ownBlock∧(v'.ownBlock=v.ownBlock ∨ ∃ g,v'.ownBlock=some g∧w.heap.size≤g)
theorem grownBy_refl (w:World) (row:Option Nat):w.grownBy w row:=⟨rfl,rfl,rfl,Nat.le_refl _,fun _ _ _=>rfl⟩
theorem Onto.start {w:World} {base:Nat} {v:Value} {l:List UInt8} (h:Own w base v l):Onto w base v w v l:=⟨h,grownBy_refl w _,.inl rfl⟩
theorem Onto.app {w w1 w1' w2:World} {base:Nat} {v v1 v2:Value} {l l2:List UInt8} (h:Onto w base v w1 v1 l) (hb:Below w1.heap.size w1 w1') (h2:Own w2 base v2 l2) (hg:w1'.grownBy w2 v1.ownBlock)
 (hat:v2.ownBlock=v1.ownBlock ∨ v2.ownBlock=some w1'.heap.size):Onto w base v w2 v2 l2:=by
 obtain ⟨ho,hg1,ha1⟩:=h
 have hz:=hg1.size
 have hz1:=hb.size
 refine ⟨h2,?_,?_⟩
 · refine grown_trans (grown_trans hg1 (grownBy_of_below hb none) (.inr (by simp))) hg ?_
   rcases ha1 with e | ⟨g,e,hge⟩
   · exact .inl e
   · right
     intro g' hg'
     rw [e] at hg'
     injection hg' with hg'
     omega
 · rcases hat with e | e
   · rw [e];exact ha1
   · right
     exact ⟨_,e,by omega⟩
theorem Onto.below {w w' : World} {base:Nat} {v v' : Value} {l:List UInt8} (h:Onto w base v w' v' l) (hv:v.ownBlock=none ∨ base≤w.heap.size∧∀ g,v.ownBlock=some g→base≤g):w.heap.size≤w'.heap.size∧∀ B,B≤base→B≤w.heap.size→Below B w w' := by
 obtain ⟨_,hg,_⟩:=h
 refine ⟨hg.size,fun B h1 h2=>⟨hg.os,hg.tape,hg.output,hg.size,fun k hk=>hg.block k (by omega) ?_⟩⟩
 rcases hv with e | ⟨_,hv⟩
 · rw [e];simp
 · intro e
   have := hv k e.symm
   omega
theorem Onto.trans {w w1 w1' w2:World} {base:Nat} {v v1 v2:Value} {l l2:List UInt8} (h:Onto w base v w1 v1 l) (hb:Below w1.heap.size w1 w1') (h2:Onto w1' base v1 w2 v2 l2):Onto w base v w2 v2 l2:=by
 obtain ⟨ho,hg1,ha1⟩:=h
 obtain ⟨ho2,hg2,ha2⟩:=h2
 have hz:=hg1.size
 have hz1:=hb.size
 refine ⟨ho2,?_,?_⟩
 · refine grown_trans (grown_trans hg1 (grownBy_of_below hb none) (.inr (by simp))) hg2 ?_
   rcases ha1 with e | ⟨g,e,hge⟩
   · exact .inl e
   · right
     intro g' hg'
     rw [e] at hg'
     injection hg' with hg'
     omega
 · rcases ha2 with e | ⟨g,e,hge⟩
   · rw [e];exact ha1
   · right
     exact ⟨g,e,by omega⟩
theorem Own.apart {w w' : World} {base base' : Nat} {v u:Value} {l m:List UInt8} (h:Own w base v l) (h' : Own w' base' u m) (hb:w.heap.size≤base'):Apart u m v.ownBlock:=by
 rcases hv:v.ownBlock with _ | g
 · exact .inl rfl
 · refine .inr (.inl fun e=>?_)
   have h1:=h.lt g hv
   have h2:=h'.lt g e
   omega
theorem bal {a w:World} (h:Below a.heap.size a w) (o:Obj):Below a.heap.size a (w.alloc o):=h.alloc h.size o
theorem bel0 (w:World):Below w.heap.size w w:=Below.refl _ _
theorem retb {a b:Bool} (h:a=b):Ending.returned (.bool a)=.returned (.bool b):=by rw [h]
end Go.Proofs.YtjddbjmcjhjpiaaGreatDoor
namespace Go.Proofs.YtjddbjmcjhjpiaaGreatDoor
set_option maxHeartbeats 1000000
open Go.RowKit

def Ext (w w' : World):Prop:=Below w.heap.size w w'
theorem Ext.refl (w:World):Ext w w:=Below.refl _ _
theorem Ext.trans {a b c:World} (h:Ext a b) (k:Ext b c):Ext a c:=Below.trans h (k.mono h.size)
theorem Ext.drew (w:World):Ext w w.drew:=(Below.refl _ _).drew

section
variable {P:Program} {ops:Array Oper} {Q:Exit→Act→World→Prop} {md:Region.Mode} {S S' : World→Prop}

theorem wpAnyH_mono (hS:∀ w,S' w→S w):∀ (fuel:Nat) (listed:Array Bool) (a:Act) (w:World),wpAnyH P md ops Q S' fuel listed a w→wpAnyH P md ops Q S fuel listed a w
 | 0,_,_,_,h=>h
 | fuel + 1,_,_,_,h=>⟨h.1,fun i hi=>wpOp_mono (fun a' w' h' => ⟨hS _ h'.1,wpAnyH_mono hS fuel _ a' w' h'.2⟩) (h.2 i hi)⟩

def Rest (P:Program) (ops:Array Oper) (Q:Exit→Act→World→Prop) (fuel:Nat) (listed:Array Bool) (a:Act) (w:World):Prop:=wpAnyH P .any ops Q (Ext w) fuel listed a w

theorem rest_begin {id:Nat} {a:Act} {w:World} (hm:P.follows .mixedOrders=true) (h:Rest P ops Q ops.size (Array.replicate ops.size false) a w.drew):(Code.region id ops true).wp P Q a w :=
 wp_region_held (S:=Ext w.drew) hm h

theorem rest_take {fuel:Nat} {listed:Array Bool} {a:Act} {w:World} (i:Nat) {oi:Oper} {v:Value} (hi:ops[i]?=some oi)
 (hs:Region.noSelect ops=true) (hf:Region.free .any ops listed i=true) (hr:(Region.ready .any ops listed).contains i=true)
 (hQ:∀ c a w,Q (.panic c) (a.put oi.dst v) w→Q (.panic c) a w) (hw:Region.wanted oi (yielded ops a.tmps)=true) (hy:∀ w', Ext w w' → (execOp a.eval oi).run P w' = .ok (.value v) w')
 (h:Rest P ops Q fuel (listed.setIfInBounds i true) (a.put oi.dst v) w):Rest P ops Q (fuel + 1) listed a w :=
 wpAnyH_take hi hs hf hr hQ (.inl ⟨hw,hy⟩) (Ext.refl w) h

theorem rek {fuel:Nat} {listed:Array Bool} {a a' : Act} {w:World} (i:Nat) {oi:Oper} {v:Value} (h:Rest P ops Q fuel (listed.setIfInBounds i true) a' w)
 (hi:ops[i]?=some oi:=by simp only [List.getElem?_toArray,List.getElem?_cons_succ,List.getElem?_cons_zero];rfl) (hs:Region.noSelect ops=true:=by kernel_rfl) (hf:Region.free .any ops listed i=true:=by kernel_rfl) (hr:(Region.ready .any ops listed).contains i=true:=by kernel_rfl)
 (hQ:∀ c a w,Q (.panic c) (a.put oi.dst v) w→Q (.panic c) a w:=by exact fun _ _ _ h=>h) (hw:Region.wanted oi (yielded ops a.tmps)=true:=by rfl)
 (hy:∀ w', Ext w w' → (execOp a.eval oi).run P w' = .ok (.value v) w' := by intro W HW;go_simp;try with_reducible rfl) (ha:a.put oi.dst v=a' := by simp only [Act.put,List.setIfInBounds_toArray,List.set_cons_zero,List.set_cons_succ];rfl):Rest P ops Q (fuel + 1) listed a w:=by
 subst ha
 exact wpAnyH_take hi hs hf hr hQ (.inl ⟨hw,hy⟩) (Ext.refl w) h
theorem rest_skip {fuel:Nat} {listed:Array Bool} {a:Act} {w:World} (i:Nat) {oi:Oper} (hi:ops[i]?=some oi)
 (hs:Region.noSelect ops=true) (hf:Region.free .any ops listed i=true) (hr:(Region.ready .any ops listed).contains i=true)
 (hQ:∀ c a w,Q (.panic c) (a.put oi.dst undef) w→Q (.panic c) a w) (hw:Region.wanted oi (yielded ops a.tmps)=false)
 (h:Rest P ops Q fuel (listed.setIfInBounds i true) (a.put oi.dst undef) w):Rest P ops Q (fuel + 1) listed a w :=
 wpAnyH_take hi hs hf hr hQ (.inr ⟨hw,rfl⟩) (Ext.refl w) h

theorem rest_done {fuel:Nat} {listed:Array Bool} {a:Act} {w:World} (hr:Region.ready .any ops listed=[]) (h:Q .normal a w):Rest P ops Q fuel listed a w:=wpAnyH_done hr h fuel

theorem rest_step {fuel:Nat} {listed:Array Bool} {a:Act} {w:World} (i:Nat) {oi:Oper} (hi:ops[i]?=some oi)
 (hr:Region.ready .any ops listed=[i]) (hw:Region.wanted oi (yielded ops a.tmps)=true)
 (h:oi.wp P a w (fun a' w' => Ext w w' ∧ Rest P ops Q fuel (listed.setIfInBounds i true) a' w') Q):Rest P ops Q (fuel + 1) listed a w:=by
 refine wpAnyH_all hr (by simp) fun j hj=>?_
 obtain rfl:j=i:=by simpa using hj
 unfold wpOp
 simp only [hi,hw,if_true]
 exact .inl (Oper.wp_mono (fun a' w' ⟨h1,h2⟩=>⟨h1,wpAnyH_mono (fun w'' h3=>Ext.trans h1 h3) _ _ _ _ h2⟩) h)

theorem rest_call {fuel:Nat} {listed:Array Bool} {a:Act} {w:World} (i:Nat) {oi:Oper} (hi:ops[i]?=some oi) (f:FuncId) (args:Array Value) (R:Ending→World→Prop)
 (hr:Region.ready .any ops listed=[i]) (hw:Region.wanted oi (yielded ops a.tmps)=true)
 (he:(execOp a.eval oi).run P w=.ok (.enter f args) w) (hc:Calls P f args w R)
 (h:∀ e w', R e w' → ∃ v,e=.returned v∧Ext w w' ∧ Rest P ops Q fuel (listed.setIfInBounds i true) (a.put oi.dst v) w'):Rest P ops Q (fuel + 1) listed a w:=by
 refine rest_step i hi hr hw ?_
 unfold Oper.wp
 rw [he,Oper.upon_enter]
 refine hc.mono fun e w' hR=>?_
 obtain ⟨v,rfl,h1,h2⟩:=h e w' hR
 exact ⟨h1,h2⟩
end

def RestS (S:World→Prop) (P:Program) (ops:Array Oper) (Q:Exit→Act→World→Prop) (fuel:Nat) (listed:Array Bool) (a:Act) (w:World):Prop:=wpAnyH P .any ops Q S fuel listed a w
section
variable {P:Program} {ops:Array Oper} {Q:Exit→Act→World→Prop} {S:World→Prop}
theorem rests_take {fuel:Nat} {listed:Array Bool} {a:Act} {w:World} (i:Nat) {oi:Oper} {v:Value} (hi:ops[i]?=some oi)
 (hs:Region.noSelect ops=true) (hf:Region.free .any ops listed i=true) (hr:(Region.ready .any ops listed).contains i=true)
 (hQ:∀ c a w,Q (.panic c) (a.put oi.dst v) w→Q (.panic c) a w) (hS:S w) (hw:Region.wanted oi (yielded ops a.tmps)=true) (hy:∀ w', S w' → (execOp a.eval oi).run P w' = .ok (.value v) w')
 (h:RestS S P ops Q fuel (listed.setIfInBounds i true) (a.put oi.dst v) w):RestS S P ops Q (fuel + 1) listed a w :=
 wpAnyH_take hi hs hf hr hQ (.inl ⟨hw,hy⟩) hS h
theorem rtk {fuel:Nat} {listed:Array Bool} {a a' : Act} {w:World} (i:Nat) {oi:Oper} {v:Value} (hS:S w) (h:RestS S P ops Q fuel (listed.setIfInBounds i true) a' w)
 (hi:ops[i]?=some oi:=by simp only [List.getElem?_toArray,List.getElem?_cons_succ,List.getElem?_cons_zero];rfl) (hs:Region.noSelect ops=true:=by kernel_rfl) (hf:Region.free .any ops listed i=true:=by kernel_rfl) (hr:(Region.ready .any ops listed).contains i=true:=by kernel_rfl)
 (hQ:∀ c a w,Q (.panic c) (a.put oi.dst v) w→Q (.panic c) a w:=by exact fun _ _ _ h=>h) (hw:Region.wanted oi (yielded ops a.tmps)=true:=by rfl)
 (hy:∀ w', S w' → (execOp a.eval oi).run P w' = .ok (.value v) w' := by intro W HW;go_simp;try with_reducible rfl) (ha:a.put oi.dst v=a' := by simp only [Act.put,List.setIfInBounds_toArray,List.set_cons_zero,List.set_cons_succ];rfl):RestS S P ops Q (fuel + 1) listed a w:=by
 subst ha
 exact wpAnyH_take hi hs hf hr hQ (.inl ⟨hw,hy⟩) hS h
theorem rests_done {fuel:Nat} {listed:Array Bool} {a:Act} {w:World} (hr:Region.ready .any ops listed=[]) (h:Q .normal a w):RestS S P ops Q fuel listed a w:=wpAnyH_done hr h fuel
theorem rests_step {fuel:Nat} {listed:Array Bool} {a:Act} {w:World} (i:Nat) {oi:Oper} (hi:ops[i]?=some oi)
 (hr:Region.ready .any ops listed=[i]) (hw:Region.wanted oi (yielded ops a.tmps)=true)
 (h:oi.wp P a w (fun a' w' => S w' ∧ RestS S P ops Q fuel (listed.setIfInBounds i true) a' w') Q):RestS S P ops Q (fuel + 1) listed a w:=by
 refine wpAnyH_all hr (by simp) fun j hj=>?_
 obtain rfl:j=i:=by simpa using hj
 unfold wpOp
 simp only [hi,hw,if_true]
 exact .inl h
theorem rests_call {fuel:Nat} {listed:Array Bool} {a:Act} {w:World} (i:Nat) {oi:Oper} (hi:ops[i]?=some oi) (f:FuncId) (args:Array Value) (R:Ending→World→Prop)
 (hr:Region.ready .any ops listed=[i]) (hw:Region.wanted oi (yielded ops a.tmps)=true)
 (he:(execOp a.eval oi).run P w=.ok (.enter f args) w) (hc:Calls P f args w R)
 (h:∀ e w', R e w' → ∃ v,e=.returned v∧S w' ∧ RestS S P ops Q fuel (listed.setIfInBounds i true) (a.put oi.dst v) w'):RestS S P ops Q (fuel + 1) listed a w:=by
 refine rests_step i hi hr hw ?_
 unfold Oper.wp
 rw [he,Oper.upon_enter]
 refine hc.mono fun e w' hR=>?_
 obtain ⟨v,rfl,h1,h2⟩:=h e w' hR
 exact ⟨h1,h2⟩
end
section
variable {ops:Array Oper} {Q:Exit→Act→World→Prop} {S:World→Prop}
theorem rests_app {fuel:Nat} {listed:Array Bool} {a:Act} {w:World} (i:Nat) {oi:Oper} (hi:ops[i]?=some oi) (s x:Operand)
 (hr:Region.ready .any ops listed=[i]) (hw:Region.wanted oi (yielded ops a.tmps)=true)
 (ho:oi.op=.call { callee:=.builtin .append,args:=#[s,x],argTypes:=#[152,152] })
 (base:Nat) (v u:Value) (l m:List UInt8) (hs:a.eval s=v) (hx:a.eval x=u) (hown:Own w base v l) (hrd:Rds w u m) (hlen:l.length + m.length≤140737488355328) (hbase:base≤w.heap.size)
 (h:∀ v' w', Own w' base v' (l ++ m)→w.grownBy w' v.ownBlock→(v'.ownBlock=v.ownBlock ∨ v'.ownBlock=some w.heap.size)→S w' ∧ RestS S Tryz.prog ops Q fuel (listed.setIfInBounds i true) (a.put oi.dst v') w'):RestS S Tryz.prog ops Q (fuel + 1) listed a w:=by
 refine rests_step i hi hr hw ?_
 obtain ⟨i0,hi0,hz0,hz1,hz2⟩:=info_parts byte_info
 obtain ⟨A,cap,rfl,hreads⟩:=hrd.reads
 refine wp_append_any w s x 152 ho base 5 i0 _ 1 1 Tryz.underlying152 hi0 hz0 hz1 hz2 rfl (by omega) v l.length (bcs l) hs hown w.heap.size A m.length cap (bcs m) hx hreads (bcs_one m) (by simp only [maxLen];omega) (by omega) hbase ?_
 intro v' w' h1 h2 h3
 exact h v' w' (by unfold Own;rw [List.length_append,bcs_append];exact h1) h2 h3
end
end Go.Proofs.YtjddbjmcjhjpiaaGreatDoor
namespace Go.Proofs.YtjddbjmcjhjpiaaGreatDoor
set_option maxHeartbeats 1000000
open Go.RowKit

theorem cell_at {w:World} {g:Nat} {cs:Array Value} {t:TypeId} (h:w.heap[g]?=some (.cells cs t (0,0))) (i:Nat) (v:Value) (hi:cs[i]?=some v):w.cell? ⟨g,i,none⟩=some v:=by
 unfold World.cell?
 simp [h,hi]
theorem frz_at {w:World} {g:Nat} {cs:Array Value} {t:TypeId} (h:w.heap[g]?=some (.cells cs t (0,0))) (i:Nat):w.frozen? ⟨g,i,none⟩=false:=by
 simp [World.frozen?,h]
theorem lt_at {w:World} {g:Nat} {o:Obj} (h:w.heap[g]?=some o):g < w.heap.size:=(Array.getElem?_eq_some_iff.1 h).1
theorem below_cell {W w1:World} (hb:Below W.heap.size W w1):(∀ b o,b < W.heap.size→w1.cell? ⟨b,o,none⟩=W.cell? ⟨b,o,none⟩)∧(∀ b o,b < W.heap.size→w1.frozen? ⟨b,o,none⟩=W.frozen? ⟨b,o,none⟩) :=
 ⟨fun b o h=>hb.cell (p:=⟨b,o,none⟩) h,fun b o h=>hb.frozen (p:=⟨b,o,none⟩) h⟩
theorem keep_at {w w' : World} {g:Nat} {o:Obj} (h:w.heap[g]?=some o) (hb:Below w.heap.size w w'):w'.heap[g]?=some o:=(hb.block g (lt_at h)).trans h
theorem keep_grown {w w' : World} {g k:Nat} {o:Obj} (h:w.heap[g]?=some o) (hb:w.grownBy w' (some k)) (hne:g ≠ k):w'.heap[g]?=some o:=(hb.block g (lt_at h) (by simpa using hne)).trans h
theorem bel_grown {a w w' : World} {k:Nat} (h:Below a.heap.size a w) (hg:w.grownBy w' (some k)) (hk:a.heap.size≤k):Below a.heap.size a w' :=
 h.grown hg h.size (fun j hj=>by injection hj with hj;omega)
theorem bel_trans {a w w' : World} (h:Below a.heap.size a w) (hb:Below w.heap.size w w'):Below a.heap.size a w' := h.trans (hb.mono h.size)

theorem grown_setRow (w:World) (g:Nat) (cs:Array Value):w.grownBy (w.setRow g cs) (some g) :=
 ⟨rfl,rfl,rfl,by simp,fun k _ hk=>by
  have hne:g ≠ k:=fun e=>hk (by rw [e])
  simp [World.setRow,Array.getElem?_modify,hne]⟩

section
variable {P:Program} {ops:Array Oper} {rest:List Oper} {o:Oper} {a:Act} {w:World} {Q:Exit→Act→World→Prop}
theorem wpList_storeB (hgd:o.guard=none) (ty:TypeId) (x y:Operand) (ho:o.op=.store ty x y)
 (g:Nat) (cells:Array Value) (hx:a.eval x=.pointer (some ⟨g,0,none⟩)) (hy:a.eval y=.agg cells)
 (t:TypeId) (old:Array Value) (hg:w.heap[g]?=some (.cells old t (0,0))) (hi:(P.info? ty).map (·.size)=some cells.size)
 (hold:old.size=cells.size) (h1:cells.all (·.oneCell')=true)
 (h:∀ w', w.grownBy w' (some g)→w'.heap.size=w.heap.size→w'.heap[g]?=some (.cells cells t (0,0))→wpList P ops Q rest (a.put o.dst undef) w'):wpList P ops Q (o :: rest) a w :=
 wpList_store_row hgd ty x y ho g cells hx hy t old hg hi hold h1 (h _ (grown_setRow w g cells) (by simp) (setRow_heap w g old cells t (0,0) hg))
theorem wpList_loadB (hgd:o.guard=none) (ty:TypeId) (x:Operand) (ho:o.op=.load ty x)
 (g:Nat) (hx:a.eval x=.pointer (some ⟨g,0,none⟩)) (t:TypeId) (cs:Array Value) (hg:w.heap[g]?=some (.cells cs t (0,0))) (d:TypeDesc)
 (hu:P.underlying ty=some d) (hd:(match d with | .struct _ | .array _ _=>true | _=>false)=true) (hi:(P.info? ty).map (·.size)=some cs.size)
 (h:wpList P ops Q rest (a.put o.dst (.agg cs)) w):wpList P ops Q (o :: rest) a w :=
 wpList_load_row hgd ty x ho g hx t cs (0,0) d hg hu hd hi h
end

section
variable {P:Program} {ops:Array Oper} {Q:Exit→Act→World→Prop}
theorem rest_loadB {fuel:Nat} {listed:Array Bool} {a:Act} {w:World} (i:Nat) {oi:Oper} (hi:ops[i]?=some oi)
 (hs:Region.noSelect ops=true) (hf:Region.free .any ops listed i=true) (hr:(Region.ready .any ops listed).contains i=true) (cs:Array Value)
 (hQ:∀ c a w,Q (.panic c) (a.put oi.dst (.agg cs)) w→Q (.panic c) a w) (hw:Region.wanted oi (yielded ops a.tmps)=true)
 (ty:TypeId) (x:Operand) (ho:oi.op=.load ty x) (g:Nat) (hx:a.eval x=.pointer (some ⟨g,0,none⟩)) (t:TypeId) (hg:w.heap[g]?=some (.cells cs t (0,0))) (d:TypeDesc)
 (hu:P.underlying ty=some d) (hd:(match d with | .struct _ | .array _ _=>true | _=>false)=true) (hsz:(P.info? ty).map (·.size)=some cs.size)
 (h:Rest P ops Q fuel (listed.setIfInBounds i true) (a.put oi.dst (.agg cs)) w):Rest P ops Q (fuel + 1) listed a w:=by
 refine rest_take i hi hs hf hr hQ hw (fun w' hw' => ?_) h
 simp only [execOp,ho,hx,Instr.loadAt,Instr.sureAddr,Sem.run_bind,Sem.run_pure,Result.andThen_ok,run_loadVar_row w' g t ty cs (0,0) d (keep_at hg hw') hu hd hsz]
end

abbrev From (w0:World) (w:World):Prop:=Below w0.heap.size w0 w
section
variable {P:Program} {ops:Array Oper} {Q:Exit→Act→World→Prop} {S:World→Prop}
theorem rests_begin {id:Nat} {a:Act} {w:World} (S:World→Prop) (hm:P.follows .mixedOrders=true) (h:RestS S P ops Q ops.size (Array.replicate ops.size false) a w.drew):(Code.region id ops true).wp P Q a w :=
 wp_region_held (S:=S) hm h
theorem rests_skip {fuel:Nat} {listed:Array Bool} {a:Act} {w:World} (i:Nat) {oi:Oper} (hi:ops[i]?=some oi)
 (hs:Region.noSelect ops=true) (hf:Region.free .any ops listed i=true) (hr:(Region.ready .any ops listed).contains i=true)
 (hQ:∀ c a w,Q (.panic c) (a.put oi.dst undef) w→Q (.panic c) a w) (hS:S w) (hw:Region.wanted oi (yielded ops a.tmps)=false)
 (h:RestS S P ops Q fuel (listed.setIfInBounds i true) (a.put oi.dst undef) w):RestS S P ops Q (fuel + 1) listed a w :=
 wpAnyH_take hi hs hf hr hQ (.inr ⟨hw,rfl⟩) hS h
theorem rsk {fuel:Nat} {listed:Array Bool} {a a' : Act} {w:World} (i:Nat) {oi:Oper} (hS:S w) (h:RestS S P ops Q fuel (listed.setIfInBounds i true) a' w)
 (hi:ops[i]?=some oi:=by simp only [List.getElem?_toArray,List.getElem?_cons_succ,List.getElem?_cons_zero];rfl) (hs:Region.noSelect ops=true:=by kernel_rfl) (hf:Region.free .any ops listed i=true:=by kernel_rfl) (hr:(Region.ready .any ops listed).contains i=true:=by kernel_rfl)
 (hQ:∀ c a w,Q (.panic c) (a.put oi.dst undef) w→Q (.panic c) a w:=by exact fun _ _ _ h=>h) (hw:Region.wanted oi (yielded ops a.tmps)=false:=by rfl) (ha:a.put oi.dst undef=a' := by simp only [Act.put,List.setIfInBounds_toArray,List.set_cons_zero,List.set_cons_succ];rfl):RestS S P ops Q (fuel + 1) listed a w:=by
 subst ha
 exact wpAnyH_take hi hs hf hr hQ (.inr ⟨hw,rfl⟩) hS h
theorem rests_store1 {fuel:Nat} {listed:Array Bool} {a:Act} {w:World} (i:Nat) {oi:Oper} (hi:ops[i]?=some oi)
 (hr:Region.ready .any ops listed=[i]) (hw:Region.wanted oi (yielded ops a.tmps)=true) (ty:TypeId) (x y:Operand) (ho:oi.op=.store ty x y)
 (g k:Nat) (v:Value) (hx:a.eval x=.pointer (some ⟨g,k,none⟩)) (hy:a.eval y=v) (t:TypeId) (cs:Array Value) (hg:w.heap[g]?=some (.cells cs t (0,0))) (hk:k < cs.size)
 (hrun:∀ w,(∃ u,w.cell? ⟨g,k,none⟩=some u)→w.frozen? ⟨g,k,none⟩=false→(Instr.storeAt ty (.pointer (some ⟨g,k,none⟩)) v).run P w=.ok () (w.setCell ⟨g,k,none⟩ v))
 (h:∀ w', w.grownBy w' (some g)→w'.heap[g]?=some (.cells (cs.setIfInBounds k v) t (0,0))→S w' ∧ RestS S P ops Q fuel (listed.setIfInBounds i true) (a.put oi.dst undef) w'):RestS S P ops Q (fuel + 1) listed a w:=by
 refine rests_step i hi hr hw ?_
 have hc:w.cell? ⟨g,k,none⟩=some cs[k]:=cell_at hg k _ (by simp [hk])
 have hrr:=hrun w ⟨_,hc⟩ (frz_at hg k)
 have hgb:w.grownBy (w.setCell ⟨g,k,none⟩ v) (some g):=⟨rfl,rfl,rfl,by simp [World.setCell],fun j _ hj=>by
  have hne:g ≠ j:=fun e=>hj (by rw [e])
  simp [World.setCell,Array.getElem?_modify,hne]⟩
 have hh:(w.setCell ⟨g,k,none⟩ v).heap[g]?=some (.cells (cs.setIfInBounds k v) t (0,0)):=by
  simp [World.setCell,Array.getElem?_modify,hg]
 unfold Oper.wp execOp
 simp only [ho,hx,hy,Sem.run_bind,hrr,Result.andThen_ok,Sem.run_pure]
 exact h _ hgb hh
theorem rests_store2 {fuel:Nat} {listed:Array Bool} {a:Act} {w:World} (i:Nat) {oi:Oper} (hi:ops[i]?=some oi)
 (hr:Region.ready .any ops listed=[i]) (hw:Region.wanted oi (yielded ops a.tmps)=true) (ty:TypeId) (x y:Operand) (ho:oi.op=.store ty x y)
 (g:Nat) (u v:Value) (hx:a.eval x=.pointer (some ⟨g,0,none⟩)) (hy:a.eval y=.agg #[u,v]) (t:TypeId) (cs:Array Value) (hg:w.heap[g]?=some (.cells cs t (0,0))) (hk:1 < cs.size)
 (hrun:∀ w,(∃ u,w.cell? ⟨g,0,none⟩=some u)→(∃ u,w.cell? ⟨g,1,none⟩=some u)→w.frozen? ⟨g,0,none⟩=false→w.frozen? ⟨g,1,none⟩=false→(Instr.storeAt ty (.pointer (some ⟨g,0,none⟩)) (.agg #[u,v])).run P w=.ok () ((w.setCell ⟨g,0,none⟩ u).setCell ⟨g,1,none⟩ v))
 (h:∀ w', w.grownBy w' (some g)→w'.heap[g]?=some (.cells ((cs.setIfInBounds 0 u).setIfInBounds 1 v) t (0,0))→S w' ∧ RestS S P ops Q fuel (listed.setIfInBounds i true) (a.put oi.dst undef) w'):RestS S P ops Q (fuel + 1) listed a w:=by
 refine rests_step i hi hr hw ?_
 have hc0:w.cell? ⟨g,0,none⟩=some (cs[0]'(by omega)):=cell_at hg 0 _ (Array.getElem?_eq_getElem (by omega))
 have hc1:w.cell? ⟨g,1,none⟩=some cs[1]:=cell_at hg 1 _ (by simp [hk])
 have hrr:=hrun w ⟨_,hc0⟩ ⟨_,hc1⟩ (frz_at hg 0) (frz_at hg 1)
 have hgb:w.grownBy ((w.setCell ⟨g,0,none⟩ u).setCell ⟨g,1,none⟩ v) (some g):=⟨rfl,rfl,rfl,by simp [World.setCell],fun j _ hj=>by
  have hne:g ≠ j:=fun e=>hj (by rw [e])
  simp [World.setCell,Array.getElem?_modify,hne]⟩
 have hh:((w.setCell ⟨g,0,none⟩ u).setCell ⟨g,1,none⟩ v).heap[g]?=some (.cells ((cs.setIfInBounds 0 u).setIfInBounds 1 v) t (0,0)):=by
  simp [World.setCell,Array.getElem?_modify,hg]
 unfold Oper.wp execOp
 simp only [ho,hx,hy,Sem.run_bind,hrr,Result.andThen_ok,Sem.run_pure]
 exact h _ hgb hh
end
section
variable {P:Program} {ops:Array Oper} {Q:Exit→Act→World→Prop} {S:World→Prop}
theorem rests_run {fuel:Nat} {listed:Array Bool} {a:Act} {w:World} (i:Nat) {oi:Oper} (hi:ops[i]?=some oi)
 (hr:Region.ready .any ops listed=[i]) (hw:Region.wanted oi (yielded ops a.tmps)=true) (v:Value) (w' : World) (hrun:(execOp a.eval oi).run P w=.ok (.value v) w')
 (h:S w' ∧ RestS S P ops Q fuel (listed.setIfInBounds i true) (a.put oi.dst v) w'):RestS S P ops Q (fuel + 1) listed a w:=by
 refine rests_step i hi hr hw ?_
 unfold Oper.wp
 rw [hrun,Oper.upon_value]
 exact h
end
theorem rests_convT {ops:Array Oper} {Q:Exit→Act→World→Prop} {S:World→Prop} {fuel:Nat} {listed:Array Bool} {a:Act} {w:World} (i:Nat) {oi:Oper} (hi:ops[i]?=some oi) (x:Operand) (u:Value) (m:List UInt8)
 (hs:Region.noSelect ops=true) (hf:Region.free .any ops listed i=true) (hr:(Region.ready .any ops listed).contains i=true)
 (hQ:∀ c a w,Q (.panic c) (a.put oi.dst (.string ⟨m.toArray⟩)) w→Q (.panic c) a w) (hS:S w) (hw:Region.wanted oi (yielded ops a.tmps)=true)
 (ho:oi.op=.convert 152 9 x) (hx:a.eval x=u) (hu:∀ W,S W→Rds W u m)
 (h:RestS S Tryz.prog ops Q fuel (listed.setIfInBounds i true) (a.put oi.dst (.string ⟨m.toArray⟩)) w):RestS S Tryz.prog ops Q (fuel + 1) listed a w:=by
 refine rests_take i hi hs hf hr hQ hS hw (fun w' hw' => ?_) h
 simp only [execOp,ho,hx,Sem.run_bind,run_str (hu w' hw'),Result.andThen_ok,Sem.run_pure]
end Go.Proofs.YtjddbjmcjhjpiaaGreatDoor
namespace Go.Proofs.YtjddbjmcjhjpiaaGreatDoor
set_option maxHeartbeats 1000000
open Go.RowKit M

theorem u16_not (c:Nat) (hc:c < 65536):bits .xor .u16 IntKind.u16.max (c:Int)=((65535 - c:Nat):Int):=by
 show bits .xor .u16 ((65535:Nat):Int) (c:Int)=_
 rw [u16_xor_nat 65535 c (by decide) hc]
 have h:65535 ^^^ c=65535 - c:=by
  have h1:(65535#16 ^^^ BitVec.ofNat 16 c).toNat=(~~~ (BitVec.ofNat 16 c)).toNat:=by
   rw [show (65535#16)=BitVec.allOnes 16 by decide,BitVec.allOnes_xor]
  rw [BitVec.toNat_xor,BitVec.toNat_not] at h1
  simpa [Nat.mod_eq_of_lt hc] using h1
 rw [h]
theorem u16_and_one (s:Nat) (hs:s < 65536):bits .and .u16 (s:Int) 1=((s % 2:Nat):Int):=by
 rw [u16_and s 1 (by omega) (by omega) (by omega) (by omega)]
 simp

theorem Add_any (c b:Nat) (w:World) (hc:c < 65536) (hb:b < 256) :
 Calls Tryz.prog 207 #[.int .u16 (c:Int),.int .u8 (b:Int)] w fun e w' => e=.returned (.int .u16 (cadd c b:Nat))∧w=w' := by
 go_enter Tryz.func207,Tryz.ntmps207
 go_wp2
 go_loop [0,10] (fun t i=>∃ k:Nat,k≤8∧i=.int .i64 k∧t=.int .u16 (csteps k (c ^^^ b):Nat)) (fun _ i=>8 - (intOf i).toNat)
 case atStart=>exact ⟨0,by omega,rfl,by rw [u16_xor_nat c b hc (by omega)];rfl⟩
 case round =>
  obtain ⟨k,hk,rfl,rfl⟩:=hrel
  have hs:=csteps_lt (xor_lt hc (show b < 65536 by omega)) k
  generalize hS:csteps k (c ^^^ b)=s at *
  have HS:=jzD hS
  clear hS
  have hst:csteps (k + 1) (c ^^^ b)=cstep s:=by rw [← HS.out];rfl
  have HST:=jzD hst
  clear hst
  by_cases hlt:k < 8
  · by_cases h1:s % 2=1
    · have e1:(bits .and .u16 (s:Int) 1 == 1)=true:=by rw [u16_and_one s hs,h1];rfl
      have e2:bits .xor .u16 ((s:Int) / 2) 33800=((s / 2 ^^^ 33800:Nat):Int):=u16_xor_nat (s / 2) 33800 (by omega) (by decide)
      have H1:=jzD h1
      clear h1
      go_wp2
      go_round
      case rel=>exact ⟨k + 1,by omega,by go_num,by rw [HST.out];unfold cstep;rw [if_pos H1.out]⟩
      case measure=>simp [intOf];omega
    · have e1:(bits .and .u16 (s:Int) 1 == 1)=false:=by rw [u16_and_one s hs,show s % 2=0 by omega];rfl
      have H1:=jzD h1
      clear h1
      go_wp2
      go_round
      case rel=>exact ⟨k + 1,by omega,by go_num,by rw [HST.out];unfold cstep;rw [if_neg H1.out];go_num⟩
      case measure=>simp [intOf];omega
  · obtain rfl:k=8:=by omega
    go_wp2
    go_ret
    exact ⟨by rw [← HS.out];rfl,rfl⟩

theorem getD_eq_getElem (l:List UInt8) (k:Nat) (h:k < l.length):l.getD k 0=l[k]:=by simp [h]

theorem Of_any (v:Value) (l:List UInt8) (w:World) (hv:Rds w v l) :
 Calls Tryz.prog 190 #[v] w fun e w' => e=.returned (.int .u16 (cof l:Nat))∧w=w' := by
 have hl:=hv.len
 obtain ⟨A,cap,rfl,h1,h2,hr⟩:=hv
 unfold maxLen at hl
 have HR:=jzD hr
 clear hr h1 h2
 go_enter Tryz.func190,Tryz.ntmps190
 go_wp2
 go_loop [3,8] (fun t i=>∃ k:Nat,k≤l.length∧i=.int .i64 k∧t=.int .u16 (caddAll 65535 (l.take k):Nat)) (fun _ i=>l.length - (intOf i).toNat)
 case atStart=>exact ⟨0,by omega,rfl,rfl⟩
 case round =>
  obtain ⟨k,hk,rfl,rfl⟩:=hrel
  have hs:=caddAll_lt (l.take k) (c:=65535) (by decide)
  by_cases hlt:k < l.length
  · obtain ⟨b,off,rfl,hc⟩:=HR.out (by omega)
    have hcell:=hc k hlt
    unfold bc at hcell
    clear hc
    have hx:=(l.getD k 0).toNat_lt
    have ht:caddAll 65535 (l.take (k + 1))=cadd (caddAll 65535 (l.take k)) (l.getD k 0).toNat:=by
     rw [List.take_succ_eq_append_getElem hlt,caddAll_snoc,getD_eq_getElem l k hlt]
    have HT:=jzD ht
    clear ht
    generalize (l.getD k 0).toNat=x at *
    generalize caddAll 65535 (l.take k)=s at *
    go_wp2_with (go_at_call 207;refine (Add_any s x _ hs hx).mono ?_;rintro e w' ⟨rfl,rfl⟩)
    go_round
    case rel=>exact ⟨k + 1,by omega,by go_num,by rw [HT.out]⟩
    case measure=>simp [intOf];omega
  · obtain rfl:k=l.length:=by omega
    go_wp2
    go_ret
    exact ⟨by
     exact congrArg (fun n=>Ending.returned (.int .u16 n)) (u16_not _ (caddAll_lt l (by decide))),rfl⟩
end Go.Proofs.YtjddbjmcjhjpiaaGreatDoor
namespace Go.Proofs.YtjddbjmcjhjpiaaGreatDoor
set_option maxHeartbeats 1000000
open Go.RowKit M

def Makes (w:World) (l:List UInt8) (e:Ending) (w' : World):Prop:=∃ v,e=.returned v∧Own w' w.heap.size v l∧Below w.heap.size w w'

theorem Rds.take {w:World} {A:Option Addr} {n cap:Nat} {l:List UInt8} (h:Rds w (.slice A n cap) l) (k:Nat) (hk:k≤n):Rds w (.slice A k cap) (l.take k):=by
 obtain ⟨A', cap', he,h1,h2,h3⟩:=h
 injection he with e1 e2 e3
 subst e1 e3 e2
 have hl:(l.take k).length=k:=by rw [List.length_take];omega
 refine ⟨A,cap,by rw [hl],by omega,h2,fun h0=>?_⟩
 obtain ⟨b,off,rfl,hc⟩:=h3 (by omega)
 refine ⟨b,off,rfl,fun j hj=>?_⟩
 rw [hc j (by omega)]
 simp [show j < k by omega]

theorem u16_lo (c:Nat):IntKind.u8.wrap (c:Int)=(((UInt8.ofNat (c % 256)).toNat:Nat):Int):=by
 rw [IntKind.wrap_u8]
 simp
theorem u16_hi (c:Nat) (_:c < 65536):IntKind.u8.wrap ((c:Int) / 256)=(((UInt8.ofNat (c / 256)).toNat:Nat):Int):=by
 rw [IntKind.wrap_u8]
 simp

theorem Put_any (v:Value) (l:List UInt8) (w:World) (hv:Rds w v l) (hlen:l.length≤1000000) :
 Calls Tryz.prog 192 #[v] w (Makes w (cput l)):=by
 have hv0:=hv
 obtain ⟨A,cap,rfl,hc,hm,hr⟩:=hv
 have HS:=jzD hv0
 clear hv0
 have hof:=cof_lt l
 obtain ⟨i0,hi,hz0,hz1,hz2⟩:=info_parts byte_info
 have hmk:=fun w=>run_make (P:=Tryz.prog) w 152 5 i0 (.int .u8 0) Tryz.underlying152 hi hz0 .i64 .i64 l.length (l.length + 2) (by omega) (by omega) (by rw [hz2];omega) (by omega)
 rw [hz1] at hmk
 clear hi hz0 hz1 hz2
 unfold maxLen at hm
 obtain ⟨x,hx⟩:∃ x,x=UInt8.ofNat (cof l % 256):=⟨_,rfl⟩
 obtain ⟨y,hy⟩:∃ y,y=UInt8.ofNat (cof l / 256):=⟨_,rfl⟩
 have e1:IntKind.u8.wrap (cof l:Int)=(x.toNat:Int):=by rw [hx];exact u16_lo _
 have e2:IntKind.u8.wrap ((cof l:Int) / 256)=(y.toNat:Int):=by rw [hy];exact u16_hi _ hof
 have hput:cput l=l ++ [x,y]:=by rw [hx,hy];rfl
 have HP:=jzD hput
 clear hput hx hy
 go_enter Tryz.func192,Tryz.ntmps192
 go_wp2_with (first
  | (at_builtin;(refine wpList_app rfl (.tmp 16) (.tmp 22) rfl w.heap.size (.slice (some ⟨w.heap.size,0,none⟩) l.length (l.length + 2)) (.slice (some ⟨w1.heap.size,0,none⟩) 2 2) l _ rfl rfl (hown.alloc _) (Own.rds (Own.built w1 [x,y] 0 (by omega) (by simp [maxLen]))) (by simp;omega) (by have := hb1.size;simp;omega) ?_;intro v2 w2 hown2 hg2 hat2))
  | (with_reducible refine wpList_copyB rfl (.tmp 11) (.tmp 12) rfl w.heap.size (l.length + 2) w.heap.size w _ (.slice A l.length cap) l rfl rfl (heap_alloc_new w _) (size_madeCells _ _) (by omega) (by unfold maxLen;omega) (HS.out.alloc _) ((Below.refl _ _).alloc (Nat.le_refl _) _) (Nat.le_refl _) ?_;intro w1 hown hb1)
  | (go_at_call 190;refine (Of_any _ l _ (HS.out.below hb1)).mono ?_;rintro e w' ⟨rfl,rfl⟩))
 go_ret
 exact ⟨v2,rfl,by rw [HP.out];exact hown2,(hb1.alloc (by have := hb1.size;omega) _).grown hg2 (by have := hb1.size;simp;omega) (by simp [Value.ownBlock])⟩

theorem toNat_beq (x y:UInt8):((x.toNat:Int) == (y.toNat:Int))=decide (x=y):=by
 rw [Bool.eq_iff_iff,beq_iff_eq,decide_eq_true_eq]
 constructor
 · intro h
   exact UInt8.toNat_inj.1 (by omega)
 · rintro rfl
   rfl

theorem Fine_any (v:Value) (l:List UInt8) (w:World) (hv:Rds w v l) :
 Calls Tryz.prog 191 #[v] w fun e w' => e=.returned (.bool (cfine l))∧w=w' := by
 have hl:=hv.len
 have hv0:=hv
 obtain ⟨A,cap,rfl,hc,hm,hr⟩:=hv
 unfold maxLen at hl hm
 by_cases h2:l.length < 2
 · have hf:=cfine_short l h2
   have HF:=jzD hf
   clear hf hr hv0
   go_enter Tryz.func191,Tryz.ntmps191
   go_wp2
   go_ret
   exact ⟨retb HF.out.symm,rfl⟩
 · obtain ⟨n,hn⟩:∃ n,l.length=n + 2:=⟨l.length - 2,by omega⟩
   obtain ⟨b,off,rfl,hcell⟩:=hr (by omega)
   have c1:=hcell n (by omega)
   have c2:=hcell (n + 1) (by omega)
   have hf:=cfine_long l (by omega)
   have hs:=hv0.take n (by omega)
   have hof:=cof_lt (l.take n)
   rw [show l.length - 2=n by omega,show l.length - 1=n + 1 by omega] at hf
   rw [hn] at hc hl ⊢
   clear hcell hr hv0 h2 hn
   obtain ⟨x,hx⟩:∃ x,x=UInt8.ofNat (cof (l.take n) % 256):=⟨_,rfl⟩
   obtain ⟨y,hy⟩:∃ y,y=UInt8.ofNat (cof (l.take n) / 256):=⟨_,rfl⟩
   have e1:IntKind.u8.wrap (cof (l.take n):Int)=(x.toNat:Int):=by rw [hx];exact u16_lo _
   have e2:IntKind.u8.wrap ((cof (l.take n):Int) / 256)=(y.toNat:Int):=by rw [hy];exact u16_hi _ hof
   rw [← hx,← hy] at hf
   unfold bc at c1 c2
   generalize l.getD n 0=p at *
   generalize l.getD (n + 1) 0=q at *
   generalize l.take n=t at *
   have HF:=jzD hf
   have HS:=jzD hs
   clear hf hs hx hy
   have b1:=toNat_beq p x
   have b2:=toNat_beq q y
   by_cases h1:p=x
   · by_cases h2:q=y
     · rw [decide_eq_true h1] at b1
       rw [decide_eq_true h2] at b2
       have H1:=jzD h1
       have H2:=jzD h2
       clear h1 h2
       go_enter Tryz.func191,Tryz.ntmps191
       go_wp2_with (go_at_call 190;refine (Of_any _ _ _ HS.out).mono ?_;rintro e w' ⟨rfl,rfl⟩)
       go_ret
       exact ⟨retb (by rw [HF.out,decide_eq_true H1.out,decide_eq_true H2.out];rfl),rfl⟩
     · rw [decide_eq_true h1] at b1
       rw [decide_eq_false h2] at b2
       have H1:=jzD h1
       have H2:=jzD h2
       clear h1 h2
       go_enter Tryz.func191,Tryz.ntmps191
       go_wp2_with (go_at_call 190;refine (Of_any _ _ _ HS.out).mono ?_;rintro e w' ⟨rfl,rfl⟩)
       go_ret
       exact ⟨retb (by rw [HF.out,decide_eq_true H1.out,decide_eq_false H2.out];rfl),rfl⟩
   · rw [decide_eq_false h1] at b1
     have H1:=jzD h1
     clear h1 b2
     go_enter Tryz.func191,Tryz.ntmps191
     go_wp2_with (go_at_call 190;refine (Of_any _ _ _ HS.out).mono ?_;rintro e w' ⟨rfl,rfl⟩)
     go_ret
     exact ⟨retb (by rw [HF.out,decide_eq_false H1.out];rfl),rfl⟩
end Go.Proofs.YtjddbjmcjhjpiaaGreatDoor
namespace Go.Proofs.YtjddbjmcjhjpiaaGreatDoor
set_option maxHeartbeats 1000000
open Go.RowKit M
end Go.Proofs.YtjddbjmcjhjpiaaGreatDoor
namespace Go.Proofs.YtjddbjmcjhjpiaaGreatDoor
set_option maxHeartbeats 1000000
open Go.RowKit M

theorem sp_tests (x:UInt8):(x=192 ∨ x=193 ∨ x=125) ∨ special x=false∧((x.toNat:Int) == 192)=false∧((x.toNat:Int) == 193)=false∧((x.toNat:Int) == 125)=false:=by
 by_cases h1:x=192
 · exact .inl (.inl h1)
 · by_cases h2:x=193
   · exact .inl (.inr (.inl h2))
   · by_cases h3:x=125
     · exact .inl (.inr (.inr h3))
     · refine .inr ⟨by simp [special,h1,h2,h3],?_,?_,?_⟩
       · have := toNat_beq x 192;rw [decide_eq_false h1] at this;exact this
       · have := toNat_beq x 193;rw [decide_eq_false h2] at this;exact this
       · have := toNat_beq x 125;rw [decide_eq_false h3] at this;exact this

theorem cesc_snoc_sp (l:List UInt8) (x:UInt8) (h:special x=true):cesc (l ++ [x])=cesc l ++ [125,x ^^^ 32]:=by rw [cesc_append];simp [cesc,h]
theorem cesc_snoc (l:List UInt8) (x:UInt8) (h:special x=false):cesc (l ++ [x])=cesc l ++ [x]:=by rw [cesc_append];simp [cesc,h]
theorem take_snoc (l:List UInt8) (k:Nat) (h:k < l.length):l.take (k + 1)=l.take k ++ [l.getD k 0]:=by
 rw [List.take_succ_eq_append_getElem h,getD_eq_getElem l k h]

theorem Rds.cell {w:World} {A:Option Addr} {n cap k:Nat} {m:List UInt8} (h:Rds w (.slice A n cap) m) (hk:k < m.length):∃ b off,A=some ⟨b,off,none⟩∧w.cell? ⟨b,off + k,none⟩=some (bc (m.getD k 0)):=by
 obtain ⟨A', cap', he,_,_,hr⟩:=h
 injection he with e1 e2 e3
 subst e1
 obtain ⟨b,off,rfl,hc⟩:=hr (by omega)
 exact ⟨b,off,rfl,hc k hk⟩
def Escs (w:World) (base:Nat) (v:Value) (l:List UInt8) (e:Ending) (w' : World):Prop:=∃ v', e=.returned v' ∧ Onto w base v w' v' l

theorem addEscaped_any (v u:Value) (l m:List UInt8) (base:Nat) (w:World) (hv:Own w base v l) (hu:Rds w u m) (hne:Apart u m v.ownBlock) (hb:base≤w.heap.size) (hl:l.length≤1000000) (hm:m.length≤1000000) :
 Calls Tryz.prog 203 #[v,u] w (Escs w base v (l ++ cesc m)):=by
 have HU:=jzD hu
 have HN:=jzD hne
 obtain ⟨A,cap,rfl,_,_,hr⟩:=hu
 have HR:=jzD hr
 clear hne hr
 have h0:Onto w base v w v (l ++ cesc (m.take 0)):=Onto.start (by simpa [cesc] using hv)
 have H0:=jzD h0
 clear h0 hv
 go_enter Tryz.func203,Tryz.ntmps203
 go_wp2
 go_loopw [0,9] (fun t i wr=>∃ k:Nat,k≤m.length∧i=.int .i64 k∧Onto w base v wr t (l ++ cesc (m.take k))) (fun _ i _=>m.length - (intOf i).toNat)
 case atStart=>exact ⟨0,by omega,rfl,H0.out⟩
 case round =>
  obtain ⟨k,hk,rfl,hon⟩:=hrel
  have hz:=hon.2.1.size
  have hlen:(l ++ cesc (m.take k)).length≤4000000:=by
   have := cesc_length (m.take k)
   rw [List.length_take] at this
   rw [List.length_append]
   omega
  have HO:=jzD hon
  have hR:=HU.out.grown hon.2.1 HN.out
  clear hon
  by_cases hlt:k < m.length
  · obtain ⟨b,off,rfl,hcell⟩:=hR.cell hlt
    clear hR
    have hxl:=(m.getD k 0).toNat_lt
    generalize hx:m.getD k 0=x at *
    have HX:=jzD hx
    clear hx
    rcases sp_tests x with (rfl | rfl | rfl) | ⟨hs,t1,t2,t3⟩
    · have hx' : special 192=true:=by decide
      have hfin:l ++ cesc (m.take (k + 1))=l ++ cesc (m.take k) ++ [125,224]:=by rw [take_snoc m k hlt,HX.out,cesc_snoc_sp _ _ hx', List.append_assoc];rfl
      have HF:=jzD hfin
      clear hfin hx'
      replace hcell:wr.cell? ⟨b,off + k,none⟩=some (.int .u8 192):=hcell
      go_wp2_with (at_builtin;refine wpList_app rfl (.tmp 22) (.tmp 25) rfl base u0 (.slice (some ⟨wr.heap.size,0,none⟩) 2 2) (l ++ cesc (m.take k)) [125,224] rfl rfl (HO.out.1.alloc _) (Own.rds (Own.built wr [125,224] 0 (by omega) (by simp [maxLen]))) (by simp only [List.length_cons,List.length_nil];omega) (by simp;omega) ?_;intro v2 w2 hown2 hg2 hat2)
      go_roundw
      case rel=>exact ⟨k + 1,by omega,by go_num,by rw [HF.out];exact HO.out.app ((Below.refl _ _).alloc (Nat.le_refl _) _) hown2 hg2 hat2⟩
      case measure=>simp [intOf];omega
    · have hx' : special 193=true:=by decide
      have hfin:l ++ cesc (m.take (k + 1))=l ++ cesc (m.take k) ++ [125,225]:=by rw [take_snoc m k hlt,HX.out,cesc_snoc_sp _ _ hx', List.append_assoc];rfl
      have HF:=jzD hfin
      clear hfin hx'
      replace hcell:wr.cell? ⟨b,off + k,none⟩=some (.int .u8 193):=hcell
      go_wp2_with (at_builtin;refine wpList_app rfl (.tmp 22) (.tmp 25) rfl base u0 (.slice (some ⟨wr.heap.size,0,none⟩) 2 2) (l ++ cesc (m.take k)) [125,225] rfl rfl (HO.out.1.alloc _) (Own.rds (Own.built wr [125,225] 0 (by omega) (by simp [maxLen]))) (by simp only [List.length_cons,List.length_nil];omega) (by simp;omega) ?_;intro v2 w2 hown2 hg2 hat2)
      go_roundw
      case rel=>exact ⟨k + 1,by omega,by go_num,by rw [HF.out];exact HO.out.app ((Below.refl _ _).alloc (Nat.le_refl _) _) hown2 hg2 hat2⟩
      case measure=>simp [intOf];omega
    · have hx' : special 125=true:=by decide
      have hfin:l ++ cesc (m.take (k + 1))=l ++ cesc (m.take k) ++ [125,93]:=by rw [take_snoc m k hlt,HX.out,cesc_snoc_sp _ _ hx', List.append_assoc];rfl
      have HF:=jzD hfin
      clear hfin hx'
      replace hcell:wr.cell? ⟨b,off + k,none⟩=some (.int .u8 125):=hcell
      go_wp2_with (at_builtin;refine wpList_app rfl (.tmp 22) (.tmp 25) rfl base u0 (.slice (some ⟨wr.heap.size,0,none⟩) 2 2) (l ++ cesc (m.take k)) [125,93] rfl rfl (HO.out.1.alloc _) (Own.rds (Own.built wr [125,93] 0 (by omega) (by simp [maxLen]))) (by simp only [List.length_cons,List.length_nil];omega) (by simp;omega) ?_;intro v2 w2 hown2 hg2 hat2)
      go_roundw
      case rel=>exact ⟨k + 1,by omega,by go_num,by rw [HF.out];exact HO.out.app ((Below.refl _ _).alloc (Nat.le_refl _) _) hown2 hg2 hat2⟩
      case measure=>simp [intOf];omega
    · have hfin:l ++ cesc (m.take (k + 1))=l ++ cesc (m.take k) ++ [x]:=by rw [take_snoc m k hlt,HX.out,cesc_snoc _ _ hs,List.append_assoc]
      have HF:=jzD hfin
      clear hfin hs
      unfold bc at hcell
      go_wp2_with (at_builtin;refine wpList_app rfl (.tmp 14) (.tmp 16) rfl base u0 (.slice (some ⟨wr.heap.size,0,none⟩) 1 1) (l ++ cesc (m.take k)) [x] rfl rfl (HO.out.1.alloc _) (Own.rds (Own.built wr [x] 0 (by omega) (by simp [maxLen]))) (by simp only [List.length_cons,List.length_nil];omega) (by simp;omega) ?_;intro v2 w2 hown2 hg2 hat2)
      go_roundw
      case rel=>exact ⟨k + 1,by omega,by go_num,by rw [HF.out];exact HO.out.app ((Below.refl _ _).alloc (Nat.le_refl _) _) hown2 hg2 hat2⟩
      case measure=>simp [intOf];omega
  · obtain rfl:k=m.length:=by omega
    clear hR
    go_wp2
    go_ret
    exact ⟨u0,rfl,by have := HO.out;rwa [List.take_length] at this⟩

theorem onto_makes {w w' : World} {v' : Value} {l:List UInt8} (h:Onto w w.heap.size (.slice none 0 0) w' v' l):Own w' w.heap.size v' l∧Below w.heap.size w w' :=
 ⟨h.1,(h.below (.inl rfl)).2 _ (Nat.le_refl _) (Nat.le_refl _)⟩

theorem Escape_any (v:Value) (l:List UInt8) (w:World) (hv:Rds w v l) (hl:l.length≤1000000):Calls Tryz.prog 193 #[v] w (Makes w (cesc l)):=by
 have HV:=jzD hv
 clear hv
 go_enter Tryz.func193,Tryz.ntmps193
 go_wp2_with (go_at_call 203;refine (addEscaped_any (.slice none 0 0) v [] l w.heap.size w (Own.nil_ w _) HV.out (.inl rfl) (Nat.le_refl _) (by simp) hl).mono ?_;rintro e w1 ⟨v1,rfl,hon⟩)
 go_ret
 exact ⟨v1,rfl,(onto_makes hon).1,(onto_makes hon).2⟩

theorem Abort_any (v:Value) (l:List UInt8) (w:World) (hv:Rds w v l) (hl:l.length≤1000000):Calls Tryz.prog 194 #[v] w (Makes w (cabort l)):=by
 have HV:=jzD hv
 have hlt:Apart v l (some w.heap.size):=hv.apart_new (Nat.le_refl _)
 have HA:=jzD hlt
 have hcl:=cesc_length l
 clear hlt
 clear hv
 go_enter Tryz.func194,Tryz.ntmps194
 go_wp2_with (first
  | (go_at_call 203;(refine (addEscaped_any (.slice (some ⟨w.heap.size,0,none⟩) 1 1) v [192] l w.heap.size _ (Own.built w [192] _ (Nat.le_refl _) (by simp [maxLen])) (HV.out.alloc _) HA.out (by simp) (by simp) hl).mono ?_;rintro e w1 ⟨v1,rfl,hon⟩;have hb1:=(hon.below (.inr ⟨by simp,by simp [Value.ownBlock]⟩)).2 w.heap.size (Nat.le_refl _) (by simp);have hz1:w.heap.size < w1.heap.size:=Nat.lt_of_lt_of_le (by simp) hb1.size))
  | (at_builtin;(refine wpList_app rfl (.tmp 7) (.tmp 8) rfl w.heap.size v1 (.slice (some ⟨w1.heap.size,0,none⟩) 2 2) ([192] ++ cesc l) [125,193] rfl rfl (hon.1.alloc _) (Own.rds (Own.built w1 [125,193] 0 (by omega) (by simp [maxLen]))) (by simp;omega) (by simp;omega) ?_;intro v2 w2 hown2 hg2 hat2)))
 go_ret
 refine ⟨v2,rfl,hown2,?_⟩
 exact (((Below.refl _ _).alloc (Nat.le_refl _) _).trans (hb1.alloc (by omega) _)).grown hg2 (by simp;omega) (fun k hk=>(hon.1.lt k hk).1)

theorem Wrap_any (v:Value) (l:List UInt8) (extra:Int) (w:World) (hv:Rds w v l) (hl:l.length≤300000):Calls Tryz.prog 185 #[v,.int .i64 extra] w (Makes w (cwrap l extra)):=by
 have HV:=jzD hv
 have hpl:(cput l).length≤l.length + 2:=by simp [cput]
 have hcl:(cesc (cput l)).length≤2 * l.length + 4:=by have := cesc_length (cput l);omega
 clear hv
 rcases (show extra≤0 ∨ (0 < extra∧extra≤10) ∨ 10 < extra by omega) with h | h | h
 · go_enter Tryz.func185,Tryz.ntmps185
   go_wp2
   all_goals
    go_loopw [5,9] (fun t i wr=>∃ k:Nat,k≤0∧i=.int .i64 k∧Onto w w.heap.size (.slice none 0 0) wr t (List.replicate k 255)) (fun _ i _=>0 - (intOf i).toNat)
    case atStart=>exact ⟨0,by omega,rfl,Onto.start (Own.nil_ w _)⟩
    case round =>
     obtain ⟨k,hk,rfl,hon⟩:=hrel
     have hz:=hon.2.1.size
     have hlen:(List.replicate k (255:UInt8)).length≤10:=by rw [List.length_replicate];omega
     have HO:=jzD hon
     clear hon
     by_cases hlt:k < 0
     · exact absurd hlt (by omega)
     · obtain rfl:k=0:=by omega
       have hex:cwrap l extra=List.replicate 0 255 ++ [192] ++ cesc (cput l) ++ [193]:=by
        unfold cwrap
        rw [show extras extra=0 by unfold extras;omega,List.append_assoc (List.replicate _ _) [192]]
        rfl
       have HE:=jzD hex
       clear hex
       generalize List.replicate 0 (255:UInt8)=r at *
       go_wp2_with (first
        | (at_builtin;refine wpList_app rfl (.tmp 15) (.tmp 16) rfl w.heap.size u5 (.slice (some ⟨wr.heap.size,0,none⟩) 1 1) r [192] rfl rfl (HO.out.1.alloc _) (Own.rds (Own.built wr [192] 0 (by omega) (by simp [maxLen]))) (by simp only [List.length_cons,List.length_nil];omega) (by simp;omega) ?_;intro v2 w2 hown2 hg2 hat2;have hon2:=HO.out.app ((Below.refl _ _).alloc (Nat.le_refl _) _) hown2 hg2 hat2;have HO2:=jzD hon2;have hz2:=hon2.2.1.size;clear hon2 hown2 hg2 hat2)
        | (go_at_call 192;refine (Put_any v l w2 (HV.out.below (onto_makes HO2.out).2) (by omega)).mono ?_;rintro e w3 ⟨v3,rfl,hown3,hb3⟩;have HW3:=jzD hown3;have HB3:=jzD hb3;have hz3:=hb3.size;clear hown3 hb3)
        | (go_at_call 203;refine (addEscaped_any v2 v3 (r ++ [192]) (cput l) w.heap.size w3 (HO2.out.1.below HB3.out) HW3.out.rds (HO2.out.1.apart HW3.out (Nat.le_refl _)) (by omega) (by simp;omega) (by omega)).mono ?_;rintro e w4 ⟨v4,rfl,hon4⟩;have HO4:=jzD (HO2.out.trans HB3.out hon4);have hz4:=HO4.out.2.1.size;clear hon4)
        | (at_builtin;refine wpList_app rfl (.tmp 22) (.tmp 23) rfl w.heap.size v4 (.slice (some ⟨w4.heap.size,0,none⟩) 1 1) (r ++ [192] ++ cesc (cput l)) [193] rfl rfl (HO4.out.1.alloc _) (Own.rds (Own.built w4 [193] 0 (by omega) (by simp [maxLen]))) (by simp;omega) (by simp;omega) ?_;intro v5 w5 hown5 hg5 hat5))
       go_ret
       have hon5:=HO4.out.app ((Below.refl _ _).alloc (Nat.le_refl _) _) hown5 hg5 hat5
       exact ⟨v5,rfl,by rw [HE.out];exact (onto_makes hon5).1,(onto_makes hon5).2⟩
 · obtain ⟨h1,h2⟩:=h
   obtain ⟨n,rfl⟩:∃ n:Nat,extra=n:=⟨extra.toNat,by omega⟩
   go_enter Tryz.func185,Tryz.ntmps185
   go_wp2
   all_goals
    go_loopw [5,9] (fun t i wr=>∃ k:Nat,k≤n∧i=.int .i64 k∧Onto w w.heap.size (.slice none 0 0) wr t (List.replicate k 255)) (fun _ i _=>n - (intOf i).toNat)
    case atStart=>exact ⟨0,by omega,rfl,Onto.start (Own.nil_ w _)⟩
    case round =>
     obtain ⟨k,hk,rfl,hon⟩:=hrel
     have hz:=hon.2.1.size
     have hlen:(List.replicate k (255:UInt8)).length≤10:=by rw [List.length_replicate];omega
     have HO:=jzD hon
     clear hon
     by_cases hlt:k < n
     · have HL:=jzD hlen
       clear hlen
       go_wp2_with (at_builtin;refine wpList_app rfl (.tmp 11) (.tmp 12) rfl w.heap.size u5 (.slice (some ⟨wr.heap.size,0,none⟩) 1 1) (List.replicate k 255) [255] rfl rfl (HO.out.1.alloc _) (Own.rds (Own.built wr [255] 0 (by omega) (by simp [maxLen]))) (by have := HL.out;simp only [List.length_cons,List.length_nil];omega) (by simp;omega) ?_;intro v2 w2 hown2 hg2 hat2)
       go_roundw
       case rel=>exact ⟨k + 1,by omega,by go_num,by rw [List.replicate_succ'];exact HO.out.app ((Below.refl _ _).alloc (Nat.le_refl _) _) hown2 hg2 hat2⟩
       case measure=>simp [intOf];omega
     · obtain rfl:k=n:=by omega
       have hex:cwrap l (k:Int)=List.replicate k 255 ++ [192] ++ cesc (cput l) ++ [193]:=by
        unfold cwrap
        rw [show extras (k:Int)=k by unfold extras;omega,List.append_assoc (List.replicate _ _) [192]]
        rfl
       have HE:=jzD hex
       clear hex
       generalize List.replicate k (255:UInt8)=r at *
       go_wp2_with (first
        | (at_builtin;refine wpList_app rfl (.tmp 15) (.tmp 16) rfl w.heap.size u5 (.slice (some ⟨wr.heap.size,0,none⟩) 1 1) r [192] rfl rfl (HO.out.1.alloc _) (Own.rds (Own.built wr [192] 0 (by omega) (by simp [maxLen]))) (by simp only [List.length_cons,List.length_nil];omega) (by simp;omega) ?_;intro v2 w2 hown2 hg2 hat2;have hon2:=HO.out.app ((Below.refl _ _).alloc (Nat.le_refl _) _) hown2 hg2 hat2;have HO2:=jzD hon2;have hz2:=hon2.2.1.size;clear hon2 hown2 hg2 hat2)
        | (go_at_call 192;refine (Put_any v l w2 (HV.out.below (onto_makes HO2.out).2) (by omega)).mono ?_;rintro e w3 ⟨v3,rfl,hown3,hb3⟩;have HW3:=jzD hown3;have HB3:=jzD hb3;have hz3:=hb3.size;clear hown3 hb3)
        | (go_at_call 203;refine (addEscaped_any v2 v3 (r ++ [192]) (cput l) w.heap.size w3 (HO2.out.1.below HB3.out) HW3.out.rds (HO2.out.1.apart HW3.out (Nat.le_refl _)) (by omega) (by simp;omega) (by omega)).mono ?_;rintro e w4 ⟨v4,rfl,hon4⟩;have HO4:=jzD (HO2.out.trans HB3.out hon4);have hz4:=HO4.out.2.1.size;clear hon4)
        | (at_builtin;refine wpList_app rfl (.tmp 22) (.tmp 23) rfl w.heap.size v4 (.slice (some ⟨w4.heap.size,0,none⟩) 1 1) (r ++ [192] ++ cesc (cput l)) [193] rfl rfl (HO4.out.1.alloc _) (Own.rds (Own.built w4 [193] 0 (by omega) (by simp [maxLen]))) (by simp;omega) (by simp;omega) ?_;intro v5 w5 hown5 hg5 hat5))
       go_ret
       have hon5:=HO4.out.app ((Below.refl _ _).alloc (Nat.le_refl _) _) hown5 hg5 hat5
       exact ⟨v5,rfl,by rw [HE.out];exact (onto_makes hon5).1,(onto_makes hon5).2⟩
 · go_enter Tryz.func185,Tryz.ntmps185
   go_wp2
   all_goals
    go_loopw [5,9] (fun t i wr=>∃ k:Nat,k≤10∧i=.int .i64 k∧Onto w w.heap.size (.slice none 0 0) wr t (List.replicate k 255)) (fun _ i _=>10 - (intOf i).toNat)
    case atStart=>exact ⟨0,by omega,rfl,Onto.start (Own.nil_ w _)⟩
    case round =>
     obtain ⟨k,hk,rfl,hon⟩:=hrel
     have hz:=hon.2.1.size
     have hlen:(List.replicate k (255:UInt8)).length≤10:=by rw [List.length_replicate];omega
     have HO:=jzD hon
     clear hon
     by_cases hlt:k < 10
     · have HL:=jzD hlen
       clear hlen
       go_wp2_with (at_builtin;refine wpList_app rfl (.tmp 11) (.tmp 12) rfl w.heap.size u5 (.slice (some ⟨wr.heap.size,0,none⟩) 1 1) (List.replicate k 255) [255] rfl rfl (HO.out.1.alloc _) (Own.rds (Own.built wr [255] 0 (by omega) (by simp [maxLen]))) (by have := HL.out;simp only [List.length_cons,List.length_nil];omega) (by simp;omega) ?_;intro v2 w2 hown2 hg2 hat2)
       go_roundw
       case rel=>exact ⟨k + 1,by omega,by go_num,by rw [List.replicate_succ'];exact HO.out.app ((Below.refl _ _).alloc (Nat.le_refl _) _) hown2 hg2 hat2⟩
       case measure=>simp [intOf];omega
     · obtain rfl:k=10:=by omega
       have hex:cwrap l extra=List.replicate 10 255 ++ [192] ++ cesc (cput l) ++ [193]:=by
        unfold cwrap
        rw [show extras extra=10 by unfold extras;omega,List.append_assoc (List.replicate _ _) [192]]
        rfl
       have HE:=jzD hex
       clear hex
       generalize List.replicate 10 (255:UInt8)=r at *
       go_wp2_with (first
        | (at_builtin;refine wpList_app rfl (.tmp 15) (.tmp 16) rfl w.heap.size u5 (.slice (some ⟨wr.heap.size,0,none⟩) 1 1) r [192] rfl rfl (HO.out.1.alloc _) (Own.rds (Own.built wr [192] 0 (by omega) (by simp [maxLen]))) (by simp only [List.length_cons,List.length_nil];omega) (by simp;omega) ?_;intro v2 w2 hown2 hg2 hat2;have hon2:=HO.out.app ((Below.refl _ _).alloc (Nat.le_refl _) _) hown2 hg2 hat2;have HO2:=jzD hon2;have hz2:=hon2.2.1.size;clear hon2 hown2 hg2 hat2)
        | (go_at_call 192;refine (Put_any v l w2 (HV.out.below (onto_makes HO2.out).2) (by omega)).mono ?_;rintro e w3 ⟨v3,rfl,hown3,hb3⟩;have HW3:=jzD hown3;have HB3:=jzD hb3;have hz3:=hb3.size;clear hown3 hb3)
        | (go_at_call 203;refine (addEscaped_any v2 v3 (r ++ [192]) (cput l) w.heap.size w3 (HO2.out.1.below HB3.out) HW3.out.rds (HO2.out.1.apart HW3.out (Nat.le_refl _)) (by omega) (by simp;omega) (by omega)).mono ?_;rintro e w4 ⟨v4,rfl,hon4⟩;have HO4:=jzD (HO2.out.trans HB3.out hon4);have hz4:=HO4.out.2.1.size;clear hon4)
        | (at_builtin;refine wpList_app rfl (.tmp 22) (.tmp 23) rfl w.heap.size v4 (.slice (some ⟨w4.heap.size,0,none⟩) 1 1) (r ++ [192] ++ cesc (cput l)) [193] rfl rfl (HO4.out.1.alloc _) (Own.rds (Own.built w4 [193] 0 (by omega) (by simp [maxLen]))) (by simp;omega) (by simp;omega) ?_;intro v5 w5 hown5 hg5 hat5))
       go_ret
       have hon5:=HO4.out.app ((Below.refl _ _).alloc (Nat.le_refl _) _) hown5 hg5 hat5
       exact ⟨v5,rfl,by rw [HE.out];exact (onto_makes hon5).1,(onto_makes hon5).2⟩
end Go.Proofs.YtjddbjmcjhjpiaaGreatDoor
