/- Of layer 4: RxA, RxB, RxC, Begun. -/
import Derived.Test.YtjddbjmcjhjpiaaGreatDoorM4A
import Derived.WalkSpells
import Derived.Lib.SlBytesConst

set_option linter.all false

namespace Go.Proofs.YtjddbjmcjhjpiaaGreatDoor
set_option maxRecDepth 100000
set_option maxHeartbeats 4000000
open Go.RowKit M

def IsRx (w:World) (g:Nat) (r:R):Prop :=
 ∃ cs:List Value,w.heap[g]?=some (.cells (Value.int .i64 (r.most:Int) :: .bool r.ins :: .bool r.esc :: .int .i64 (r.f.length:Int) :: cs).toArray 275 (0,0))∧cs.length=202∧cs.take r.f.length=bcs r.f∧r.ok

theorem set_block {w:World} {g:Nat} {cs:List Value} {t:TypeId} (h:w.heap[g]?=some (.cells cs.toArray t (0,0))) (i:Nat) (u:Value):(w.setCell ⟨g,i,none⟩ u).heap[g]?=some (.cells (cs.set i u).toArray t (0,0)):=by
 simp [World.setCell,Array.getElem?_modify,h]
theorem block_cell {w:World} {g:Nat} {cs:List Value} {t:TypeId} (h:w.heap[g]?=some (.cells cs.toArray t (0,0))) (i:Nat):w.cell? ⟨g,i,none⟩=cs[i]?:=by
 have := cell_of_row w g i cs.toArray t (0,0) h
 simpa using this
theorem block_free {w:World} {g:Nat} {cs:Array Value} {t:TypeId} (h:w.heap[g]?=some (.cells cs t (0,0))) (i:Nat):w.frozen? ⟨g,i,none⟩=false:=by
 simp [World.frozen?,h]

section
variable {w:World} {g:Nat} {r:R}
theorem IsRx.c0 (h:IsRx w g r):w.cell? ⟨g,0,none⟩=some (.int .i64 (r.most:Int)):=by
 obtain ⟨cs,hh,_⟩:=h;rw [block_cell hh];rfl
theorem IsRx.c1 (h:IsRx w g r):w.cell? ⟨g,1,none⟩=some (.bool r.ins):=by
 obtain ⟨cs,hh,_⟩:=h;rw [block_cell hh];rfl
theorem IsRx.c2 (h:IsRx w g r):w.cell? ⟨g,2,none⟩=some (.bool r.esc):=by
 obtain ⟨cs,hh,_⟩:=h;rw [block_cell hh];rfl
theorem IsRx.c3 (h:IsRx w g r):w.cell? ⟨g,3,none⟩=some (.int .i64 (r.f.length:Int)):=by
 obtain ⟨cs,hh,_⟩:=h;rw [block_cell hh];rfl
theorem IsRx.held (h:IsRx w g r) (j:Nat) (hj:j < r.f.length):w.cell? ⟨g,4 + j,none⟩=some (bc (r.f.getD j 0)):=by
 obtain ⟨cs,hh,hl,ht,_⟩:=h
 rw [block_cell hh,show 4 + j=j + 1 + 1 + 1 + 1 by omega]
 simp only [List.getElem?_cons_succ]
 have : (cs.take r.f.length)[j]?=(bcs r.f)[j]?:=by rw [ht]
 rw [List.getElem?_take_of_lt hj] at this
 rw [this]
 simp [bcs,hj]
theorem IsRx.room (h:IsRx w g r) (j:Nat) (hj:j < 202):∃ u,w.cell? ⟨g,4 + j,none⟩=some u:=by
 obtain ⟨cs,hh,hl,ht,_⟩:=h
 rw [block_cell hh,show 4 + j=j + 1 + 1 + 1 + 1 by omega]
 simp only [List.getElem?_cons_succ]
 exact ⟨cs[j],List.getElem?_eq_getElem (by omega)⟩
theorem IsRx.free (h:IsRx w g r) (i:Nat):w.frozen? ⟨g,i,none⟩=false:=by
 obtain ⟨cs,hh,_⟩:=h;exact block_free hh i
theorem IsRx.lt (h:IsRx w g r):g < w.heap.size:=World.block_lt_of_cell? w _ h.c0
theorem IsRx.ok (h:IsRx w g r):r.ok:=by obtain ⟨cs,hh,_,_,h⟩:=h;exact h
theorem IsRx.set1 (h:IsRx w g r) (b:Bool):IsRx (w.setCell ⟨g,1,none⟩ (.bool b)) g ⟨r.most,b,r.esc,r.f⟩:=by
 obtain ⟨cs,hh,hl,ht,ho⟩:=h
 exact ⟨cs,set_block hh 1 _,hl,ht,ho⟩
theorem IsRx.set2 (h:IsRx w g r) (b:Bool):IsRx (w.setCell ⟨g,2,none⟩ (.bool b)) g ⟨r.most,r.ins,b,r.f⟩:=by
 obtain ⟨cs,hh,hl,ht,ho⟩:=h
 exact ⟨cs,set_block hh 2 _,hl,ht,ho⟩
theorem IsRx.clear (h:IsRx w g r):IsRx (w.setCell ⟨g,3,none⟩ (.int .i64 0)) g ⟨r.most,r.ins,r.esc,[]⟩:=by
 obtain ⟨cs,hh,hl,ht,ho⟩:=h
 exact ⟨cs,set_block hh 3 _,hl,rfl,ho.1,ho.2.1,by simp⟩
theorem IsRx.more (h:IsRx w g r) (x:UInt8) (hr:r.f.length < r.most + 2):IsRx ((w.setCell ⟨g,4 + r.f.length,none⟩ (bc x)).setCell ⟨g,3,none⟩ (.int .i64 ((r.f.length:Int) + 1))) g ⟨r.most,r.ins,r.esc,r.f ++ [x]⟩:=by
 obtain ⟨cs,hh,hl,ht,ho⟩:=h
 have h1:=set_block hh (4 + r.f.length) (bc x)
 rw [show 4 + r.f.length=r.f.length + 1 + 1 + 1 + 1 by omega] at h1 ⊢
 simp only [List.set_cons_succ] at h1
 have h2:=set_block h1 3 (.int .i64 ((r.f.length:Int) + 1))
 have hm:=ho.2.1
 refine ⟨cs.set r.f.length (bc x),by simpa using h2,by simpa using hl,?_,ho.1,ho.2.1,by simp;omega⟩
 simp only [List.length_append,List.length_cons,List.length_nil,bcs_append]
 rw [List.take_succ_eq_append_getElem (by simp;omega),List.take_set_of_le (Nat.le_refl _),ht]
 simp [bcs]
theorem IsRx.keep {w' : World} (h:IsRx w g r) (hk:w'.heap[g]?=w.heap[g]?):IsRx w' g r:=by
 obtain ⟨cs,hh,hl,ht,ho⟩:=h
 exact ⟨cs,hk.trans hh,hl,ht,ho⟩
theorem IsRx.below {w' : World} (h:IsRx w g r) (hb:Below w.heap.size w w'):IsRx w' g r:=h.keep (hb.block g h.lt)
theorem grown_set {w w1:World} {p:Addr} (h:w.grownBy w1 (some g)) (hp:p.block=g) (u:Value):w.grownBy (w1.setCell p u) (some g) :=
 ⟨h.os,h.tape,h.output,by simpa [World.setCell] using h.size,fun i hi hne=>(Below.heap_setCell w1 p u i (by
  rintro rfl
  exact hne (by rw [hp]))).trans (h.block i hi hne)⟩
end

theorem start_any (g:Nat) (r:R) (w:World) (h:IsRx w g r) :
 Calls Tryz.prog 204 #[.pointer (some ⟨g,0,none⟩)] w fun e w' => e=.returned (.tuple #[])∧IsRx w' g ⟨r.most,true,false,[]⟩∧w.grownBy w' (some g):=by
 have h1:=h.c1
 have h2:=h.c2
 have h3:=h.c3
 have f1:=h.free 1
 have f2:=h.free 2
 have f3:=h.free 3
 have H:=jzD h
 clear h
 go_enter Tryz.func204,Tryz.ntmps204
 go_wp2
 go_end0
 have g1:=grown_set (p:=⟨g,1,none⟩) (grownBy_refl w (some g)) rfl (.bool true)
 have g2:=grown_set (p:=⟨g,2,none⟩) g1 rfl (.bool false)
 have g3:=grown_set (p:=⟨g,3,none⟩) g2 rfl (.int .i64 0)
 have i1:=H.out.set1 true
 have i2:=i1.set2 false
 have i3:=i2.clear
 exact ⟨rfl,i3,g3⟩

def RxDone (w:World) (g:Nat) (r:R) (l:List UInt8) (err:Nat) (ok:Bool) (e:Ending) (w' : World):Prop :=
 ∃ v,e=.returned (.tuple #[v,.int .i64 (err:Int),.bool ok])∧Own w' w.heap.size v l∧IsRx w' g r∧w.grownBy w' (some g)

theorem IsRx.drewN {w:World} {g:Nat} {r:R} (h:IsRx w g r) (n:Nat):IsRx (w.drewN n) g r:=h
theorem grown_drewN {a w:World} {row:Option Nat} (h:a.grownBy w row) (n:Nat):a.grownBy (w.drewN n) row:=⟨h.os,h.tape,h.output,h.size,h.block⟩

theorem add_range (g:Nat) (r:R) (b:UInt8) (w:World) (h:IsRx w g r) (hr:r.most + 2≤r.f.length) :
 Calls Tryz.prog 206 #[.pointer (some ⟨g,0,none⟩),.int .u8 (b.toNat:Int)] w (RxDone w g ⟨r.most,false,r.esc,r.f⟩ [] 7 true):=by
 have h0:=h.c0
 have h1:=h.c1
 have h3:=h.c3
 have f1:=h.free 1
 have hok:=h.ok
 obtain ⟨_,hm,hl⟩:=hok
 have H:=jzD h
 clear h
 have hw:IntKind.i64.wrap ((r.most:Int) + 2)=(r.most:Int) + 2:=IntWalk.i64_in _ (by omega)
 have hd:decide (((r.most:Int) + 2)≤(r.f.length:Int))=true:=by simp;omega
 go_enter Tryz.func206,Tryz.ntmps206
 go_wp2
 go_quiet (fail)
 go_wp2
 go_ret3
 exact ⟨_,rfl,Own.nil_ _ _,(H.out.drewN _).set1 false,grown_set (grown_drewN (grownBy_refl w _) _) rfl _⟩

theorem add_fits (g:Nat) (r:R) (b:UInt8) (w:World) (h:IsRx w g r) (hr:r.f.length < r.most + 2) :
 Calls Tryz.prog 206 #[.pointer (some ⟨g,0,none⟩),.int .u8 (b.toNat:Int)] w (RxDone w g ⟨r.most,r.ins,false,r.f ++ [if r.esc=true then b ^^^ 32 else b]⟩ [] 0 false):=by
 obtain ⟨most,ins,esc,f⟩:=r
 have h0:=h.c0
 have h2:=h.c2
 have h3:=h.c3
 have f2:=h.free 2
 have f3:=h.free 3
 have hok:=h.ok
 obtain ⟨_,hm,hl⟩:=hok
 obtain ⟨u,hu⟩:=h.room f.length (by simp only at hr hm;omega)
 have fu:=h.free (4 + f.length)
 have H:=jzD h
 clear h
 simp only at *
 have hw:IntKind.i64.wrap ((most:Int) + 2)=(most:Int) + 2:=IntWalk.i64_in _ (by omega)
 have hd:decide (((most:Int) + 2)≤(f.length:Int))=false:=by simp;omega
 have hx:bits .xor .u8 (b.toNat:Int) 32=((b ^^^ 32).toNat:Int):=by
  have := u8_xor_nat b.toNat 32 b.toNat_lt (by decide)
  rw [UInt8.toNat_xor]
  exact this
 have q1:(0:Int)≤(f.length:Int):=by omega
 have q2:(f.length:Int) < 202:=by omega
 generalize b ^^^ 32=y at *
 cases esc
 · go_enter Tryz.func206,Tryz.ntmps206
   go_wp2
   go_quiet (fail)
   go_wp2
   go_region
   all_goals
    go_wp2
    go_ret3
    have g1:=grown_set (p:=⟨g,4 + f.length,none⟩) (grown_drewN (grownBy_refl w (some g)) (nq + 1)) rfl (bc b)
    have g2:=grown_set (p:=⟨g,3,none⟩) g1 rfl (.int .i64 ((f.length:Int) + 1))
    exact ⟨_,rfl,Own.nil_ _ _,(H.out.drewN (nq + 1)).more b hr,g2⟩
 · go_enter Tryz.func206,Tryz.ntmps206
   go_wp2
   go_quiet (fail)
   go_wp2
   go_region
   all_goals
    go_wp2
    go_ret3
    have i1:=((H.out.drewN nq).set2 false).more y hr
    have g0:=grown_set (p:=⟨g,2,none⟩) (grown_drewN (grownBy_refl w (some g)) nq) rfl (.bool false)
    have g1:=grown_set (p:=⟨g,4 + f.length,none⟩) g0 rfl (bc y)
    have g2:=grown_set (p:=⟨g,3,none⟩) g1 rfl (.int .i64 ((f.length:Int) + 1))
    exact ⟨_,rfl,Own.nil_ _ _,i1,g2.os,g2.tape,g2.output,g2.size,g2.block⟩

theorem Clone_any (a:Addr) (n cap:Nat) (l:List UInt8) (w:World) (hv:Rds w (.slice (some a) n cap) l) (hl:l.length≤1000000) :
 Calls Tryz.prog 211 #[.slice (some a) n cap] w (Makes w l):=by
 have HV:=jzD hv
 clear hv
 have hnil:=Lib.run_eql_slice_nil (P:=Tryz.prog) w 152 5 (some a) n cap 0 0 Tryz.underlying152
 go_enter Tryz.func211,Tryz.ntmps211
 go_wp2_with (at_builtin;(refine wpList_app rfl (.tmp 5) (.tmp 6) rfl w.heap.size (.slice (some ⟨w.heap.size,0,none⟩) 0 0) (.slice (some a) n cap) [] l rfl rfl (Own.built w [] _ (Nat.le_refl _) (by simp)) (HV.out.alloc _) (by simp;omega) (by simp) ?_;intro v2 w2 hown2 hg2 hat2))
 go_ret
 exact ⟨v2,rfl,hown2,((Below.refl _ _).alloc (Nat.le_refl _) _).grown hg2 (by simp) (by simp [Value.ownBlock])⟩

def rxCells (m:Int):Array Value:=(Value.int .i64 m :: .bool false :: .bool false :: .int .i64 0 :: List.replicate 202 (.int .u8 0)).toArray
theorem run_build54 (m:Int) (w:World):(Instr.build 275 #[(0,.int .i64 m)]).run Tryz.prog w=.ok (.agg (rxCells m)) w:=by kernel_rfl
theorem run_box54 (m:Int) (w:World):(Instr.box 275 (.agg (rxCells m))).run Tryz.prog w=.ok (.pointer (some ⟨w.heap.size,0,none⟩)) (w.alloc (.cells (rxCells m) 275)):=by kernel_rfl
theorem rxCells_is (w:World) (n:Nat) (h1:1≤n) (h2:n≤200):IsRx (w.alloc (.cells (rxCells n) 275)) w.heap.size ⟨n,false,false,[]⟩ :=
 ⟨List.replicate 202 (.int .u8 0),heap_alloc_new w _,List.length_replicate,rfl,h1,h2,Nat.zero_le _⟩

theorem wpList_build54 {w:World} {ops:Array Oper} {rest:List Oper} {o:Oper} {a:Act} {Q:Exit→Act→World→Prop} (hgd:o.guard=none) (x:Operand) (ho:o.op=.build 275 #[(0,x)]) (m:Int) (hx:a.eval x=.int .i64 m)
 (h:wpList Tryz.prog ops Q rest (a.put o.dst (.agg (rxCells m))) w):wpList Tryz.prog ops Q (o :: rest) a w:=by
 refine wpList_plain hgd fun K hK=>?_
 have hrun:(execOp a.eval o).run Tryz.prog w=.ok (.value (.agg (rxCells m))) w:=by
  have h1:#[(0,x)].map (fun (i,x)=>(i,a.eval x))=#[(0,.int .i64 m)]:=by simp [hx]
  simp only [execOp,ho,h1,Sem.run_bind,run_build54,Result.andThen_ok,Sem.run_pure]
 unfold Oper.wp
 rw [hrun,Oper.upon_value]
 exact hK _ _ h
theorem wpList_box54 {w:World} {ops:Array Oper} {rest:List Oper} {o:Oper} {a:Act} {Q:Exit→Act→World→Prop} (hgd:o.guard=none) (x:Operand) (ho:o.op=.box 275 x) (m:Int) (hx:a.eval x=.agg (rxCells m))
 (h:wpList Tryz.prog ops Q rest (a.put o.dst (.pointer (some ⟨w.heap.size,0,none⟩))) (w.alloc (.cells (rxCells m) 275))):wpList Tryz.prog ops Q (o :: rest) a w:=by
 refine wpList_plain hgd fun K hK=>?_
 have hrun:(execOp a.eval o).run Tryz.prog w=.ok (.value (.pointer (some ⟨w.heap.size,0,none⟩))) (w.alloc (.cells (rxCells m) 275)):=by
  simp only [execOp,ho,hx,Sem.run_bind,run_box54,Result.andThen_ok,Sem.run_pure]
 unfold Oper.wp
 rw [hrun,Oper.upon_value]
 exact hK _ _ h

theorem New_any (most:Int) (w:World) :
 Calls Tryz.prog 187 #[.int .i64 most] w fun e w' => e=.returned (.pointer (some ⟨w.heap.size,0,none⟩))∧IsRx w' w.heap.size (R.new most)∧Below w.heap.size w w' := by
 have hfin:∀ n:Nat,(min (max most 1) 200).toNat=n→IsRx (w.alloc (.cells (rxCells n) 275)) w.heap.size (R.new most):=by
  rintro n rfl
  exact rxCells_is w _ (by omega) (by omega)
 have HF:=jzD hfin
 clear hfin
 rcases (show most < 1 ∨ (1≤most∧most≤200) ∨ 200 < most by omega) with h | h | h
 · go_enter Tryz.func187,Tryz.ntmps187
   go_wp2_with (first | (with_reducible refine wpList_build54 rfl (.tmp 5) rfl _ rfl ?_) | (with_reducible refine wpList_box54 rfl (.tmp 6) rfl _ rfl ?_))
   go_ret
   exact ⟨rfl,HF.out 1 (by omega),(Below.refl _ _).alloc (Nat.le_refl _) _⟩
 · obtain ⟨h1,h2⟩:=h
   obtain ⟨n,rfl⟩:∃ n:Nat,most=n:=⟨most.toNat,by omega⟩
   go_enter Tryz.func187,Tryz.ntmps187
   go_wp2_with (first | (with_reducible refine wpList_build54 rfl (.tmp 5) rfl _ rfl ?_) | (with_reducible refine wpList_box54 rfl (.tmp 6) rfl _ rfl ?_))
   all_goals
    go_ret
    exact ⟨rfl,HF.out _ (by omega),(Below.refl _ _).alloc (Nat.le_refl _) _⟩
 · go_enter Tryz.func187,Tryz.ntmps187
   go_wp2_with (first | (with_reducible refine wpList_build54 rfl (.tmp 5) rfl _ rfl ?_) | (with_reducible refine wpList_box54 rfl (.tmp 6) rfl _ rfl ?_))
   go_ret
   exact ⟨rfl,HF.out 200 (by omega),(Below.refl _ _).alloc (Nat.le_refl _) _⟩

theorem finish_esc (g:Nat) (r:R) (w:World) (h:IsRx w g r) (hr:r.esc=true) :
 Calls Tryz.prog 205 #[.pointer (some ⟨g,0,none⟩)] w fun e w' => e=.returned (.tuple #[.slice none 0 0,.int .i64 9])∧IsRx w' g ⟨r.most,false,r.esc,r.f⟩∧w.grownBy w' (some g):=by
 obtain ⟨most,ins,esc,f⟩:=r
 have h1:=h.c1
 have h2:=h.c2
 have h3:=h.c3
 have f1:=h.free 1
 have hok:=h.ok
 obtain ⟨_,hm,hl⟩:=hok
 have H:=jzD h
 clear h
 simp only at *
 subst hr
 have q1:(0:Int)≤(f.length:Int):=by omega
 have q2:(f.length:Int)≤202:=by omega
 go_enter Tryz.func205,Tryz.ntmps205
 go_wp2
 go_quiet (fail)
 go_wp2
 go_ret2
 have i1:=H.out.set1 false
 have g1:=grown_set (p:=⟨g,1,none⟩) (grownBy_refl w (some g)) rfl (.bool false)
 exact ⟨rfl,i1,g1.os,g1.tape,g1.output,g1.size,g1.block⟩
end Go.Proofs.YtjddbjmcjhjpiaaGreatDoor
namespace Go.Proofs.YtjddbjmcjhjpiaaGreatDoor
set_option maxRecDepth 100000
set_option maxHeartbeats 4000000
open Go.RowKit M

def FinDone (w:World) (g:Nat) (r:R) (l:List UInt8) (err:Nat) (e:Ending) (w' : World):Prop :=
 ∃ v,e=.returned (.tuple #[v,.int .i64 (err:Int)])∧Own w' w.heap.size v l∧IsRx w' g r∧w.grownBy w' (some g)

theorem IsRx.rds {w:World} {g:Nat} {r:R} (h:IsRx w g r):Rds w (.slice (some ⟨g,4,none⟩) r.f.length 202) r.f :=
 ⟨_,202,rfl,by have := h.ok;obtain ⟨_,h1,h2⟩:=this;omega,by simp [maxLen],fun _=>⟨g,4,rfl,fun j hj=>h.held j hj⟩⟩

theorem finish_any (g:Nat) (r:R) (w:World) (h:IsRx w g r) :
 Calls Tryz.prog 205 #[.pointer (some ⟨g,0,none⟩)] w (FinDone w g ⟨r.most,false,r.esc,r.f⟩ (rend r.esc r.f).1 (rend r.esc r.f).2):=by
 obtain ⟨most,ins,esc,f⟩:=r
 rcases esc with _ | _
 · have h1:=h.c1
   have h2:=h.c2
   have h3:=h.c3
   have f1:=h.free 1
   have hok:=h.ok
   obtain ⟨_,hm,hl⟩:=hok
   have i1:=h.set1 false
   have g1:=grown_set (p:=⟨g,1,none⟩) (grownBy_refl w (some g)) rfl (.bool false)
   have hz:g < w.heap.size:=h.lt
   have hzs:(w.setCell ⟨g,1,none⟩ (.bool false)).heap.size=w.heap.size:=by simp [World.setCell]
   have HZ:=jzD hzs
   clear hzs
   have I1:=jzD i1
   have G1:=jzD g1
   clear h i1 g1
   simp only at *
   have q1:(0:Int)≤(f.length:Int):=by omega
   have q2:(f.length:Int)≤202:=by omega
   by_cases hs:f.length≤2
   · have hd:decide ((f.length:Int)≤2)=true:=by simp;omega
     have hend:rend false f=([],8):=by simp [rend,hs]
     have HE:=jzD hend
     clear hend
     rw [HE.out]
     go_enter Tryz.func205,Tryz.ntmps205
     go_wp2
     go_quiet (fail)
     go_wp2
     go_ret2
     have g2:=G1.out
     exact ⟨_,rfl,Own.nil_ _ _,I1.out,g2.os,g2.tape,g2.output,g2.size,g2.block⟩
   · have hd:decide ((f.length:Int)≤2)=false:=by simp;omega
     have hrd:Rds (w.setCell ⟨g,1,none⟩ (.bool false)) (.slice (some ⟨g,4,none⟩) f.length 202) f:=I1.out.rds
     have hrt:=hrd.take (f.length - 2) (by omega)
     have HRT:=jzD hrt
     have HR:=jzD hrd
     clear hrt hrd
     have hlt:(f.take (f.length - 2)).length≤1000000:=by rw [List.length_take];omega
     rcases hf:cfine f with _ | _
     · have hend:rend false f=([],8):=by simp [rend,hf]
       have HE:=jzD hend
       clear hend
       rw [HE.out]
       go_enter Tryz.func205,Tryz.ntmps205
       go_wp2
       go_quiet (fail)
       go_wp2_with (go_at_call 191;refine (Fine_any _ f _ (HR.out.below (below_drewN (Below.refl _ _) nq))).mono ?_;rintro e w' ⟨rfl,rfl⟩)
       go_ret2
       have g2:=G1.out
       exact ⟨_,rfl,Own.nil_ _ _,I1.out,g2.os,g2.tape,g2.output,g2.size,g2.block⟩
     · have hend:rend false f=(f.take (f.length - 2),0):=by simp [rend,hf];omega
       have HE:=jzD hend
       clear hend
       rw [HE.out]
       have q3:(0:Int)≤(f.length:Int) - 2:=by omega
       go_enter Tryz.func205,Tryz.ntmps205
       go_wp2
       go_quiet (fail)
       go_wp2_with (first
        | (go_at_call 191;refine (Fine_any _ f _ (HR.out.below (below_drewN (Below.refl _ _) nq))).mono ?_;rintro e w' ⟨rfl,rfl⟩)
        | (go_at_call 211;(refine (Clone_any _ _ 202 (f.take (f.length - 2)) _ (HRT.out.below (below_drewN (Below.refl _ _) nq)) hlt).mono ?_;rintro e w1 ⟨v1,rfl,hown,hb⟩)))
       go_ret2
       have g2:=G1.out
       refine ⟨v1,rfl,hown.more (by rw [show ((w.setCell ⟨g,1,none⟩ (.bool false)).drewN nq).heap.size=w.heap.size from HZ.out];exact Nat.le_refl _),(I1.out.drewN nq).below hb,?_⟩
       exact grown_trans (grown_drewN g2 nq) (grownBy_of_below hb none) (.inr (by simp))
 · have hend:rend true f=([],9):=rfl
   simp only [hend]
   refine (finish_esc g _ w h rfl).mono ?_
   rintro e w' ⟨rfl,hi,hg⟩
   exact ⟨_,rfl,Own.nil_ _ _,hi,hg⟩

theorem In_any (g:Nat) (r:R) (w:World) (h:IsRx w g r) :
 Calls Tryz.prog 189 #[.pointer (some ⟨g,0,none⟩)] w fun e w' => e=.returned (.bool r.ins)∧w=w' := by
 have h1:=h.c1
 have hn:∀ w,(binOp .neq 253 (.pointer (some ⟨g,0,none⟩)) (.pointer none)).run Tryz.prog w=.ok (.bool true) w:=by intro w;kernel_rfl
 clear h
 go_enter Tryz.func189,Tryz.ntmps189
 go_wp2
 go_ret
 exact ⟨rfl,rfl⟩

theorem rxdone_add {most:Nat} {ins esc:Bool} {f:List UInt8} {b:UInt8} (h1:b ≠ 192) (h2:ins=true) (h3:b ≠ 193) (h4:¬ (b=125∧esc=false)) :
 rput ⟨most,ins,esc,f⟩ b=if most + 2≤f.length then (⟨most,false,esc,f⟩,[],7,true) else (⟨most,ins,false,f ++ [if esc=true then b ^^^ 32 else b]⟩,[],0,false):=by
 unfold rput
 simp only [h1,h2,h3,if_false,h4]
 simp

theorem add_any (g:Nat) (most:Nat) (ins esc:Bool) (f:List UInt8) (b:UInt8) (w:World) (h:IsRx w g ⟨most,ins,esc,f⟩) (h1:b ≠ 192) (h2:ins=true) (h3:b ≠ 193) (h4:¬ (b=125∧esc=false)) :
 Calls Tryz.prog 206 #[.pointer (some ⟨g,0,none⟩),.int .u8 (b.toNat:Int)] w (RxDone w g (rput ⟨most,ins,esc,f⟩ b).1 (rput ⟨most,ins,esc,f⟩ b).2.1 (rput ⟨most,ins,esc,f⟩ b).2.2.1 (rput ⟨most,ins,esc,f⟩ b).2.2.2):=by
 rw [rxdone_add h1 h2 h3 h4]
 by_cases hr:most + 2≤f.length
 · rw [if_pos hr]
   exact add_range g _ b w h hr
 · rw [if_neg hr]
   exact add_fits g _ b w h (by simp only;omega)

theorem RxPut_any (g:Nat) (r:R) (b:UInt8) (w:World) (h:IsRx w g r) :
 Calls Tryz.prog 188 #[.pointer (some ⟨g,0,none⟩),.int .u8 (b.toNat:Int)] w (RxDone w g (rput r b).1 (rput r b).2.1 (rput r b).2.2.1 (rput r b).2.2.2):=by
 obtain ⟨most,ins,esc,f⟩:=r
 have h1:=h.c1
 have h2:=h.c2
 have f2:=h.free 2
 have H:=jzD h
 clear h
 simp only at h1 h2
 by_cases b1:b=192
 · subst b1
   have e:rput ⟨most,ins,esc,f⟩ 192=(⟨most,true,false,[]⟩,[],0,false):=by simp [rput]
   rw [e]
   clear e
   go_enter Tryz.func188,Tryz.ntmps188
   go_wp2_with (go_at_call 204;refine (start_any g _ _ H.out).mono ?_;rintro e w1 ⟨rfl,hi,hg⟩)
   go_ret3
   exact ⟨_,rfl,Own.nil_ _ _,hi,hg⟩
 · have t1:=toNat_beq b 192
   rw [decide_eq_false b1] at t1
   replace t1:((b.toNat:Int) == 192)=false:=t1
   rcases ins with _ | _
   · have e:rput ⟨most,false,esc,f⟩ b=(⟨most,false,esc,f⟩,[],0,false):=by simp [rput,b1]
     rw [e]
     clear e b1
     go_enter Tryz.func188,Tryz.ntmps188
     go_wp2
     go_ret3
     exact ⟨_,rfl,Own.nil_ _ _,H.out,grownBy_refl w _⟩
   · by_cases b2:b=193
     · subst b2
       have e:rput ⟨most,true,esc,f⟩ 193=(⟨most,false,esc,f⟩,(rend esc f).1,(rend esc f).2,true):=by simp [rput]
       rw [e]
       clear e b1
       go_enter Tryz.func188,Tryz.ntmps188
       go_wp2_with (go_at_call 205;refine (finish_any g _ _ H.out).mono ?_;rintro e w1 ⟨v1,rfl,ho,hi,hg⟩)
       go_ret3
       exact ⟨_,rfl,ho,hi,hg⟩
     · have t2:=toNat_beq b 193
       rw [decide_eq_false b2] at t2
       replace t2:((b.toNat:Int) == 193)=false:=t2
       by_cases b3:b=125
       · subst b3
         rcases esc with _ | _
         · have e:rput ⟨most,true,false,f⟩ 125=(⟨most,true,true,f⟩,[],0,false):=by simp [rput]
           rw [e]
           clear e b1 b2
           go_enter Tryz.func188,Tryz.ntmps188
           go_wp2
           go_ret3
           exact ⟨_,rfl,Own.nil_ _ _,H.out.set2 true,grown_set (p:=⟨g,2,none⟩) (grownBy_refl w (some g)) rfl (.bool true)⟩
         · have hadd:=add_any g most true true f 125 w H.out b1 rfl b2 (by simp)
           have HA:=jzD hadd
           clear hadd b1 b2
           generalize rput ⟨most,true,true,f⟩ 125=x at *
           go_enter Tryz.func188,Tryz.ntmps188
           go_wp2_with (go_at_call 206;refine HA.out.mono ?_;rintro e w1 ⟨v1,rfl,ho,hi,hg⟩)
           go_ret3
           exact ⟨_,rfl,ho,hi,hg⟩
       · have t3:=toNat_beq b 125
         rw [decide_eq_false b3] at t3
         replace t3:((b.toNat:Int) == 125)=false:=t3
         have hadd:=add_any g most true esc f b w H.out b1 rfl b2 (by simp [b3])
         have HA:=jzD hadd
         clear hadd b1 b2 b3
         generalize rput ⟨most,true,esc,f⟩ b=x at *
         go_enter Tryz.func188,Tryz.ntmps188
         go_wp2_with (go_at_call 206;refine HA.out.mono ?_;rintro e w1 ⟨v1,rfl,ho,hi,hg⟩)
         go_ret3
         exact ⟨_,rfl,ho,hi,hg⟩
end Go.Proofs.YtjddbjmcjhjpiaaGreatDoor
namespace Go.Proofs.YtjddbjmcjhjpiaaGreatDoor
set_option maxRecDepth 100000
set_option maxHeartbeats 4000000
open Go.RowKit M

def OwnL (w:World) (base:Nat) (v:Value) (ll:List (List UInt8)):Prop :=
 ∃ vs:List Value,w.ownsRow base 152 1 v ll.length vs∧vs.length=ll.length∧∀ i,i < ll.length→Own w base (vs.getD i undef) (ll.getD i [])

theorem row_ne {w:World} {base base' : Nat} {e e' : TypeId} {s s' : Nat} {v v' : Value} {n n' : Nat} {xs xs' : List Value} (h:w.ownsRow base e s v n xs) (h' : w.ownsRow base' e' s' v' n' xs') (hne:e ≠ e'):v.ownBlock=none ∨ v.ownBlock ≠ v'.ownBlock:=by
 rcases h.2 with ⟨rfl,_⟩ | ⟨g,cap,cur,rfl,_,hh,_⟩
 · exact .inl rfl
 · right
   rcases h'.2 with ⟨rfl,_⟩ | ⟨g', cap', cur', rfl,_,hh', _⟩
   · simp [Value.ownBlock]
   · intro he
     simp only [Value.ownBlock,Option.some.injEq] at he
     subst he
     rw [hh] at hh'
     injection hh' with hh'
     injection hh' with _ ht
     exact hne ht
theorem row_ne_block {w:World} {base:Nat} {e t:TypeId} {s:Nat} {v:Value} {n g:Nat} {xs:List Value} {cs:Array Value} (h:w.ownsRow base e s v n xs) (hg:w.heap[g]?=some (.cells cs t (0,0))) (hne:e ≠ t):v.ownBlock=none ∨ v.ownBlock ≠ some g:=by
 rcases h.2 with ⟨rfl,_⟩ | ⟨g', cap,cur,rfl,_,hh,_⟩
 · exact .inl rfl
 · right
   intro he
   simp only [Value.ownBlock,Option.some.injEq] at he
   subst he
   rw [hh] at hg
   injection hg with hg
   injection hg with _ ht
   exact hne ht
theorem OwnL.nil_ (w:World) (base:Nat):OwnL w base (.slice none 0 0) []:=⟨[],World.ownsRow_nil w base 152 1,rfl,fun i h=>absurd h (by simp)⟩
theorem OwnL.grown {w w' : World} {base:Nat} {v:Value} {ll:List (List UInt8)} (h:OwnL w base v ll) {g:Nat} {t:TypeId} {cs:Array Value} (hb:w.heap[g]?=some (.cells cs t (0,0))) (h5:5 ≠ t) (h22:152 ≠ t) (hg:w.grownBy w' (some g)):OwnL w' base v ll:=by
 obtain ⟨vs,h1,h2,h3⟩:=h
 exact ⟨vs,World.ownsRow.kept h1 hg (row_ne_block h1 hb h22),h2,fun i hi=>(h3 i hi).grown hg (row_ne_block (h3 i hi) hb h5)⟩
theorem OwnL.below {w w' : World} {base:Nat} {v:Value} {ll:List (List UInt8)} (h:OwnL w base v ll) (hb:Below w.heap.size w w'):OwnL w' base v ll:=by
 obtain ⟨vs,h1,h2,h3⟩:=h
 exact ⟨vs,World.ownsRow.kept h1 (grownBy_of_below hb none) (by cases hv:v.ownBlock <;> simp),h2,fun i hi=>(h3 i hi).below hb⟩
theorem OwnL.alloc {w:World} {base:Nat} {v:Value} {ll:List (List UInt8)} (h:OwnL w base v ll) (o:Obj):OwnL (w.alloc o) base v ll:=h.below ((Below.refl _ _).alloc (Nat.le_refl _) o)
theorem OwnL.more {w:World} {base base' : Nat} {v:Value} {ll:List (List UInt8)} (h:OwnL w base v ll) (hb:base' ≤ base):OwnL w base' v ll:=by
 obtain ⟨vs,h1,h2,h3⟩:=h
 refine ⟨vs,⟨h1.1,?_⟩,h2,fun i hi=>(h3 i hi).more hb⟩
 rcases h1.2 with h2 | ⟨g,cap,cur,hv,hg,r⟩
 · exact .inl h2
 · exact .inr ⟨g,cap,cur,hv,by omega,r⟩
theorem OwnL.lt {w:World} {base:Nat} {v:Value} {ll:List (List UInt8)} (h:OwnL w base v ll):∀ k,v.ownBlock=some k→base≤k∧k < w.heap.size:=by
 obtain ⟨vs,h1,_⟩:=h
 exact World.ownsRow.lt h1
theorem OwnL.at_ {w:World} {base:Nat} {v:Value} {ll:List (List UInt8)} (h:OwnL w base v ll) {i:Nat} (hi:i < ll.length):∃ g cap u,v=.slice (some ⟨g,0,none⟩) ll.length cap∧ll.length≤cap∧cap≤maxLen∧w.cell? ⟨g,i,none⟩=some u∧Own w base u (ll.getD i []):=by
 obtain ⟨vs,h1,h2,h3⟩:=h
 rcases h1.2 with ⟨rfl,hn⟩ | ⟨g,cap,cur,rfl,hb,hh,hc,hm,hs,ht⟩
 · omega
 · have := World.ownsRow.cells h1 (g:=g) rfl i (vs.getD i undef) (by simp [show i < vs.length by omega])
   rw [addr_add,Nat.zero_add] at this
   exact ⟨g,cap,_,rfl,hc,hm,this,h3 i hi⟩
theorem OwnL.shape {w:World} {base:Nat} {v:Value} {ll:List (List UInt8)} (h:OwnL w base v ll):∃ A cap,v=.slice A ll.length cap∧ll.length≤cap∧cap≤maxLen:=by
 obtain ⟨vs,h1,_⟩:=h
 rcases h1.2 with ⟨rfl,hn⟩ | ⟨g,cap,cur,rfl,hb,hh,hc,hm,hs,ht⟩
 · exact ⟨none,0,by rw [hn],by omega,by simp [maxLen]⟩
 · exact ⟨_,cap,rfl,hc,hm⟩

theorem slice_info:(Tryz.prog.info? 152).map (fun i=>(i.zero,i.size,i.bytes))=some (some (.slice none 0 0),1,24):=by kernel_rfl

theorem wpList_appL {w:World} {ops:Array Oper} {rest:List Oper} {o:Oper} {a:Act} {Q:Exit→Act→World→Prop} (hgd:o.guard=none) (s x:Operand)
 (ho:o.op=.call { callee:=.builtin .append,args:=#[s,x],argTypes:=#[251,251] })
 (base g:Nat) (v u:Value) (ll:List (List UInt8)) (l:List UInt8) (hs:a.eval s=v) (hx:a.eval x=.slice (some ⟨g,0,none⟩) 1 1) (hg:w.heap[g]?=some (.cells #[u] 152 (0,0))) (hown:OwnL w base v ll) (hu:Own w base u l)
 (hlen:ll.length≤1000000) (hbase:base≤w.heap.size)
 (h:∀ v' w', OwnL w' base v' (ll ++ [l])→w.grownBy w' v.ownBlock→(v'.ownBlock=v.ownBlock ∨ v'.ownBlock=some w.heap.size)→wpList Tryz.prog ops Q rest (a.put o.dst v') w'):wpList Tryz.prog ops Q (o :: rest) a w:=by
 obtain ⟨i0,hi,hz0,hz1,hz2⟩:=info_parts slice_info
 obtain ⟨vs,h1,h2,h3⟩:=hown
 have hone:u.oneCell' = true:=by
  obtain ⟨A,cap,rfl,_⟩:=hu.rds
  rfl
 have hreads:Reads w w.heap.size 1 (some ⟨g,0,none⟩) 1 [u]:=by
  refine ⟨rfl,fun _=>⟨_,rfl,?_,fun j y hy=>?_⟩⟩
  · rcases Nat.lt_or_ge g w.heap.size with hlt | hge
    · exact hlt
    · rw [Array.getElem?_eq_none hge] at hg;cases hg
  · rw [addr_add,cell_of_row w g _ _ 152 (0,0) hg]
    rcases j with _ | j
    · simpa using hy
    · simp at hy
 refine wpList_append_any w hgd s x 251 ho base 152 i0 _ 1 24 Tryz.underlying251 hi hz0 hz1 hz2 rfl (by omega) v ll.length vs hs h1 w.heap.size (some ⟨g,0,none⟩) 1 1 [u] hx hreads (by simp [hone]) (by simp only [maxLen];omega) (by omega) hbase ?_
 intro v' w' k1 k2 k3
 refine h v' w' ⟨vs ++ [u],by simpa using k1,by simp [h2],fun i hi' => ?_⟩ k2 k3
 have keep:∀ y m,Own w base y m→Own w' base y m:=fun y m hy=>hy.grown k2 (row_ne hy h1 (by decide))
 rcases Nat.lt_or_ge i ll.length with hlt | hge
 · have := keep _ _ (h3 i hlt)
   simpa [List.getElem?_append_left,hlt,show i < vs.length by omega] using this
 · have e:i=ll.length:=by simp at hi'; omega
   subst e
   have := keep _ _ hu
   simpa [← h2] using this

def MakesL (w:World) (ll:List (List UInt8)) (e:Ending) (w' : World):Prop:=∃ v,e=.returned v∧OwnL w' w.heap.size v ll∧Below w.heap.size w w'


theorem IsRx.keepOwnL {w w' : World} {base:Nat} {v:Value} {ll:List (List UInt8)} {g:Nat} {r:R} (h:IsRx w g r) (ho:OwnL w base v ll) (hg:w.grownBy w' (some g)):OwnL w' base v ll:=by
 obtain ⟨cs,hh,_⟩:=h
 exact ho.grown hh (by decide) (by decide) hg
theorem below_of_grownSome {w w1 w2:World} {B g:Nat} (h:Below B w w1) (hg:w1.grownBy w2 (some g)) (hB:B≤w1.heap.size) (hg' : B≤g):Below B w w2 :=
 h.grown hg hB (by rintro k hk;injection hk with hk;omega)

theorem IsRx.keepRow {w w' : World} {base:Nat} {v:Value} {ll:List (List UInt8)} {g:Nat} {r:R} (h:IsRx w g r) (ho:OwnL w base v ll) (hg:w.grownBy w' v.ownBlock):IsRx w' g r:=by
 have hlt:=h.lt
 have hb:some g ≠ v.ownBlock:=by
  obtain ⟨cs,hh,_⟩:=h
  obtain ⟨vs,h1,_⟩:=ho
  rcases row_ne_block h1 hh (by decide) with e | e
  · rw [e];simp
  · exact fun he=>e he.symm
 exact h.keep (hg.block g hlt hb)
theorem IsRx.alloc {w:World} {g:Nat} {r:R} (h:IsRx w g r) (o:Obj):IsRx (w.alloc o) g r:=h.below ((Below.refl _ _).alloc (Nat.le_refl _) o)

structure AllSt (w:World) (most:Int) (b:List UInt8) (k:Nat) (fs:Value) (wr:World):Prop where
 own:OwnL wr w.heap.size fs (rall (R.new most) (b.take k)).1
 rx:IsRx wr w.heap.size (rall (R.new most) (b.take k)).2
 bel:Below w.heap.size w wr

theorem All_any (most:Int) (v:Value) (b:List UInt8) (w:World) (hv:Rds w v b) (hl:b.length≤900000) :
 Calls Tryz.prog 186 #[.int .i64 most,v] w (MakesL w (rall (R.new most) b).1):=by
 have HV:=jzD hv
 obtain ⟨A,cap,rfl,hc,hm,hr⟩:=hv
 clear hr hc hm
 go_enter Tryz.func186,Tryz.ntmps186
 go_wp2_with (go_at_call 187;refine (New_any most w).mono ?_;rintro e w1 ⟨rfl,hrx,hb1⟩)
 have hst:AllSt w most b 0 (.slice none 0 0) w1:=⟨OwnL.nil_ _ _,hrx,hb1⟩
 clear hrx hb1
 go_loopw [5,16] (fun t i wr=>∃ k:Nat,k≤b.length∧i=.int .i64 k∧AllSt w most b k t wr) (fun _ i _=>b.length - (intOf i).toNat)
 case atStart=>exact ⟨0,by omega,rfl,hst⟩
 case round =>
  obtain ⟨k,hk,rfl,hst'⟩:=hrel
  have HS:=jzD hst'
  have hz:=hst'.bel.size
  have hR:=HV.out.below hst'.bel
  clear hst' hst
  by_cases hlt:k < b.length
  · obtain ⟨bb,off,rfl,hcell⟩:=hR.cell hlt
    clear hR
    unfold bc at hcell
    have hxl:=(b.getD k 0).toNat_lt
    have hs:=rall_snoc (b.take k) (R.new most) (b.getD k 0)
    rw [← take_snoc b k hlt] at hs
    have hlen:=rall_len (b.take k) (R.new most)
    rw [List.length_take] at hlen
    have HX:=jzD hs
    clear hs
    generalize b.getD k 0=x at *
    have hput:=RxPut_any w.heap.size _ x wr HS.out.rx
    have HP:=jzD hput
    clear hput
    generalize hp:rput (rall (R.new most) (b.take k)).2 x=y at *
    obtain ⟨r', l', err,ok⟩:=y
    clear hp
    simp only at HP
    rcases ok with _ | _
    · have hst2:∀ w', IsRx w' w.heap.size r' → wr.grownBy w' (some w.heap.size)→AllSt w most b (k + 1) u5 w' := by
       intro w' h1 h2
       have e:=HX.out
       rw [show told (r', l', err,false)=[] by cases err <;> rfl,List.append_nil] at e
       exact ⟨by rw [e];exact HS.out.rx.keepOwnL HS.out.own h2,by rw [e];exact h1,below_of_grownSome HS.out.bel h2 hz (Nat.le_refl _)⟩
      have H2:=jzD hst2
      clear hst2
      go_wp2_with (go_at_call 188;refine HP.out.mono ?_;rintro e w2 ⟨v2,rfl,ho,hi,hg⟩)
      go_roundw
      case rel=>exact ⟨k + 1,by omega,by go_num,H2.out w2 hi hg⟩
      case measure=>simp [intOf];omega
    · by_cases he:err=0
      · subst he
        have hst2:∀ w2 w3 v2 v3 o,IsRx w2 w.heap.size r' → wr.grownBy w2 (some w.heap.size)→OwnL w3 w.heap.size v3 ((rall (R.new most) (b.take k)).1 ++ [l'])→(w2.alloc o).grownBy w3 u5.ownBlock→Own w2 wr.heap.size v2 l' → AllSt w most b (k + 1) v3 w3:=by
         intro w2 w3 v2 v3 o h1 h2 h3 h4 _
         have e:=HX.out
         rw [show told (r', l', 0,true)=[l'] from rfl] at e
         have ho:=HS.out.rx.keepOwnL HS.out.own h2
         refine ⟨by rw [e];exact h3,by rw [e];exact (h1.alloc o).keepRow (ho.alloc o) h4,?_⟩
         have hb2:=below_of_grownSome HS.out.bel h2 hz (Nat.le_refl _)
         have hz2:=h2.size
         exact (hb2.alloc (by omega) o).grown h4 (by simp;omega) (fun k' hk' => (ho.lt k' hk').1)
        have H2:=jzD hst2
        clear hst2
        go_wp2_with (first
         | (go_at_call 188;refine HP.out.mono ?_;rintro e w2 ⟨v2,rfl,ho,hi,hg⟩;have HG:=jzD hg;have hz2:=hg.size;obtain ⟨A2,n2,rfl,_,_,_⟩:=ho.rds;clear hg)
         | (at_builtin;(refine wpList_appL rfl (.tmp 32) (.tmp 34) rfl w.heap.size w2.heap.size u5 (.slice A2 l'.length n2) (rall (R.new most) (b.take k)).1 l' rfl rfl (heap_alloc_new w2 _) ((HS.out.rx.keepOwnL HS.out.own HG.out).alloc _) ((ho.more hz).alloc _) (by omega) (by simp;omega) ?_;intro v3 w3 hown3 hg3 hat3)))
        go_roundw
        case rel=>exact ⟨k + 1,by omega,by go_num,H2.out w2 w3 _ v3 _ hi HG.out hown3 hg3 ho⟩
        case measure=>simp [intOf];omega
      · have hst2:∀ w', IsRx w' w.heap.size r' → wr.grownBy w' (some w.heap.size)→AllSt w most b (k + 1) u5 w' := by
         intro w' h1 h2
         have e:=HX.out
         rw [show told (r', l', err,true)=[] by cases err with | zero=>exact absurd rfl he | succ n=>rfl,List.append_nil] at e
         exact ⟨by rw [e];exact HS.out.rx.keepOwnL HS.out.own h2,by rw [e];exact h1,below_of_grownSome HS.out.bel h2 hz (Nat.le_refl _)⟩
        have H2:=jzD hst2
        have hd:((err:Int) == 0)=false:=by rw [beq_eq_false_iff_ne];omega
        clear hst2 he
        go_wp2_with (go_at_call 188;refine HP.out.mono ?_;rintro e w2 ⟨v2,rfl,ho,hi,hg⟩)
        go_roundw
        case rel=>exact ⟨k + 1,by omega,by go_num,H2.out w2 hi hg⟩
        case measure=>simp [intOf];omega
  · obtain rfl:k=b.length:=by omega
    clear hR
    go_wp2
    go_ret
    exact ⟨u5,rfl,by have := HS.out.own;rwa [List.take_length] at this,HS.out.bel⟩
end Go.Proofs.YtjddbjmcjhjpiaaGreatDoor
namespace Go.Proofs.YtjddbjmcjhjpiaaGreatDoor
set_option maxRecDepth 100000
set_option maxHeartbeats 4000000
open Go.RowKit M

theorem b_wrap:cwrap [1,192] 1=[255,192,1,125,224,147,208,193]:=by decide +kernel
theorem b_all:(rall (R.new 20) [5,193,255,192,1,125,224,147,208,193]).1=[[1,192]]:=by decide +kernel
theorem b_of:cof [49,50,51,52,53,54,55,56,57]=36974:=by decide +kernel
theorem b_put7:cfine (cput [7])=true:=by decide +kernel
theorem b_put0:cput []=[0,0]:=by decide +kernel
theorem b_esc:cesc [125]=[125,93]:=by decide +kernel
theorem b_abort:cabort []=[192,125,193]:=by decide +kernel

theorem Rds.nil_ (w:World):Rds w (.slice none 0 0) []:=(Own.nil_ w 0).rds
theorem makes_to {w:World} {l m:List UInt8} {f:FuncId} {args:Array Value} (h:Calls Tryz.prog f args w (Makes w l)) (e:l=m):Calls Tryz.prog f args w (Makes w m):=by rw [← e];exact h

theorem bg1 (w:World) (u:Value) (h:Rds w u [1,192]):Calls Tryz.prog 185 #[u,.int .i64 1] w (Makes w [255,192,1,125,224,147,208,193]):=makes_to (Wrap_any u _ 1 w h (by simp)) b_wrap
theorem bg2 (w:World) (u:Value) (h:Rds w u [5,193,255,192,1,125,224,147,208,193]):Calls Tryz.prog 186 #[.int .i64 20,u] w (MakesL w [[1,192]]):=by
 rw [← b_all];exact All_any 20 u _ w h (by simp)
theorem bg3 (w:World) (u:Value) (h:Rds w u [49,50,51,52,53,54,55,56,57]):Calls Tryz.prog 190 #[u] w fun e w' => e=.returned (.int .u16 36974)∧w=w' := by
 have := Of_any u _ w h
 rw [b_of] at this
 exact this
theorem bg4 (w:World) (u:Value) (h:Rds w u (cput [7])):Calls Tryz.prog 191 #[u] w fun e w' => e=.returned (.bool true)∧w=w' := by
 have := Fine_any u _ w h
 rw [b_put7] at this
 exact this

theorem bg5 (w:World) (g:Nat) (h:IsRx w g (R.new 5)):Calls Tryz.prog 188 #[.pointer (some ⟨g,0,none⟩),.int .u8 192] w (RxDone w g ⟨5,true,false,[]⟩ [] 0 false):=RxPut_any g _ 192 w h
theorem bg6 (w:World) (g:Nat) (h:IsRx w g ⟨5,true,false,[]⟩):Calls Tryz.prog 188 #[.pointer (some ⟨g,0,none⟩),.int .u8 193] w (RxDone w g ⟨5,false,false,[]⟩ [] 8 true):=RxPut_any g _ 193 w h
theorem bg7 (w:World) (u:Value) (h:Rds w u [125]):Calls Tryz.prog 193 #[u] w (Makes w [125,93]):=makes_to (Escape_any u _ w h (by simp)) b_esc
theorem bg8 (w:World):Calls Tryz.prog 194 #[.slice none 0 0] w (Makes w [192,125,193]):=makes_to (Abort_any _ [] w (Rds.nil_ w) (by simp)) b_abort
theorem bg9 (w:World):Calls Tryz.prog 192 #[.slice none 0 0] w (Makes w [0,0]):=makes_to (Put_any _ [] w (Rds.nil_ w) (by simp)) b_put0

theorem Own.shape {w:World} {base:Nat} {v:Value} {l:List UInt8} (h:Own w base v l) (hl:0 < l.length) :
 ∃ g cap,v=.slice (some ⟨g,0,none⟩) l.length cap∧l.length≤cap∧cap≤maxLen∧base≤g∧g < w.heap.size∧∀ j,j < l.length→w.cell? ⟨g,j,none⟩=some (bc (l.getD j 0)):=by
 have hcells:=@World.ownsRow.cells w base 5 1 v l.length (bcs l) h
 rcases h.2 with ⟨rfl,hn⟩ | ⟨g,cap,cur,rfl,hb,hh,hc,hm,hs,ht⟩
 · omega
 · refine ⟨g,cap,rfl,hc,hm,hb,(Array.getElem?_eq_some_iff.1 hh).1,fun j hj=>?_⟩
   have := hcells (g:=g) rfl j (bc (l.getD j 0)) (by simp [bcs,hj])
   rw [addr_add,Nat.zero_add] at this
   exact this
theorem below_rx {w w1 w2:World} {g:Nat} {B:Nat} (h:Below B w w1) (hg:w1.grownBy w2 (some g)) (hB:B≤w1.heap.size) (hB' : B≤g):Below B w w2:=below_of_grownSome h hg hB hB'

theorem Own.built2 (w:World) (A:Obj) (l:List UInt8) (base:Nat) (hb:base≤w.heap.size + 1) (hl:l.length≤maxLen):Own ((w.alloc A).alloc (.cells (bcs l).toArray 5)) base (.slice (some ⟨w.heap.size + 1,0,none⟩) l.length l.length) l:=by
 have hz:(w.alloc A).heap.size=w.heap.size + 1:=by simp
 have := Own.built (w.alloc A) l base (by rw [hz];exact hb) hl
 rw [hz] at this
 exact this

theorem rds_marked (w:World) (l:List UInt8) (fr:Nat × Nat) (hl:l.length≤maxLen):Rds (w.alloc (.cells (bcs l).toArray 5 fr)) (.slice (some ⟨w.heap.size,0,none⟩) l.length l.length) l :=
 ⟨_,l.length,rfl,Nat.le_refl _,hl,fun _=>⟨w.heap.size,0,rfl,fun j hj=>by
  have := World.cell?_alloc_mark w (bcs l).toArray 5 fr j
  rw [Nat.zero_add,this]
  simp [bcs,hj]⟩⟩

theorem begun_any (w:World):Calls Tryz.prog 161 #[] w fun e w' => e=.returned (.bool true)∧Below w.heap.size w w' := by
 go_enter Tryz.func161,Tryz.ntmps161
 go_wp2_with (first
  | (go_at_call 185;(refine (bg1 _ _ (Own.built w [1,192] 0 (by omega) (by simp [maxLen])).rds).mono ?_;rintro e w1 ⟨v1,rfl,hown1,hb1⟩;have HO1:=jzD hown1;have HB1:=jzD (((Below.refl _ _).alloc (Nat.le_refl _) _).trans (hb1.mono (show w.heap.size≤_ by simp)));have hz1:=HB1.out.size;have hz1' : w.heap.size < w1.heap.size:=Nat.lt_of_lt_of_le (by simp) hb1.size;clear hown1 hb1))
  | (at_builtin;(refine wpList_app rfl (.tmp 13) (.tmp 14) rfl w.heap.size (.slice (some ⟨w1.heap.size,0,none⟩) 2 2) v1 [5,193] _ rfl rfl (Own.built w1 [5,193] _ (by omega) (by simp [maxLen])) (HO1.out.rds.alloc _) (by simp) (by simp;omega) ?_;intro v2 w2 hown2 hg2 hat2;have HB2:=jzD ((HB1.out.alloc (by omega) _).grown hg2 (by simp;omega) (by simp [Value.ownBlock];omega));have hz2:=HB2.out.size;have HO12:=jzD ((HO1.out.alloc _).grown hg2 (by right;intro hh;have := HO1.out.lt _ (hh.trans (show (Value.slice (some ⟨w1.heap.size,0,none⟩) 2 2).ownBlock=some w1.heap.size from rfl));omega));clear hg2 hat2))
  | (go_at_call 186;(refine (bg2 _ _ hown2.rds).mono ?_;rintro e w3 ⟨v3,rfl,hown3,hb3⟩;have HB3:=jzD (HB2.out.trans (hb3.mono hz2));have HO13:=jzD (HO12.out.below hb3);have HO3:=jzD hown3;have hz3:=HB3.out.size;clear hown3 hb3 hown2)))
 obtain ⟨g1,n1,rfl,hn1,hm1,hgb1,hgl1,hc1⟩:=HO13.out.shape (by simp)
 obtain ⟨g3,n3,u3,rfl,hn3,hm3,hc3,hu3⟩:=HO3.out.at_ (i:=0) (by simp)
 have ca:w3.cell? ⟨g1,0,none⟩=some (.int .u8 255):=hc1 0 (by simp)
 have cb:w3.cell? ⟨g1,1,none⟩=some (.int .u8 192):=hc1 1 (by simp)
 have hg3:=World.block_lt_of_cell? w3 _ hc3
 have CA:=jzD ca
 have CB:=jzD cb
 have CC:=jzD hc3
 have HU:=jzD hu3.rds
 clear ca cb hc1 hc3 hu3
 simp only [List.length_cons,List.length_nil] at hn1 hn3
 have kc:=fun (w:World) (C:Array Value) (n c:Nat)=>Lib.run_convert_bytes_const (P:=Tryz.prog) w 152 5 C n c Tryz.underlying152 Tryz.underlying5
 go_wp2_with (first
  | (go_at_call 187;(refine (New_any 5 w3).mono ?_;rintro e w4 ⟨rfl,hi4,hb4⟩;have HB4:=jzD hb4;have HI4:=jzD hi4;have hz4:=hb4.size;clear hb4 hi4))
  | (go_at_call_of 188 (Value.int IntKind.u8 192);(refine (bg5 _ _ HI4.out).mono ?_;rintro e w5 ⟨v5,rfl,ho5,hi5,hg5⟩;have HB5:=jzD (below_rx HB4.out hg5 hz4 (Nat.le_refl _));have HI5:=jzD hi5;have hz5:=HB5.out.size;clear ho5 hi5 hg5))
  | (go_at_call 189;(refine (In_any _ _ _ HI5.out).mono ?_;rintro e w' ⟨rfl,rfl⟩))
  | (go_at_call_of 188 (Value.int IntKind.u8 193);(refine (bg6 _ _ HI5.out).mono ?_;rintro e w6 ⟨v6,rfl,ho6,hi6,hg6⟩;have HB6:=jzD (below_rx HB5.out hg6 hz5 (Nat.le_refl _));have hz6:=HB6.out.size;clear ho6 hi6 hg6))
  | (go_at_call 190;(refine (bg3 _ _ (rds_marked w6 [49,50,51,52,53,54,55,56,57] _ (by simp [maxLen]))).mono ?_;rintro e w' ⟨rfl,rfl⟩))
  | (go_at_call_of 192 (Value.slice none 0 0);(refine (bg9 _).mono ?_;rintro e w8 ⟨v8,rfl,ho8,hb8⟩;have HB8:=jzD (HB7.out.trans (hb8.mono hz7));have hz8:=HB8.out.size;obtain ⟨A8,n8,rfl,_,_,_⟩:=ho8.rds;have ca:=(HB8.out.cell (p:=⟨g1,0,none⟩) hgl1).trans CA.out;have cb:=(HB8.out.cell (p:=⟨g1,1,none⟩) hgl1).trans CB.out;have cc:=(HB8.out.cell (p:=⟨g3,0,none⟩) hg3).trans CC.out;have k3:=run_str (HU.out.below HB8.out);clear ho8 hb8))
  | (go_at_call 192;(refine (Put_any _ [7] _ (Own.built2 _ _ [7] 0 (Nat.zero_le _) (by simp [maxLen])).rds (by simp)).mono ?_;rintro e w7 ⟨v7,rfl,ho7,hb7⟩;have HB7:=jzD (((HB6.out.alloc hz6 _).alloc (by simp;omega) _).trans (hb7.mono (by simp;omega)));have HO7:=jzD ho7;have hz7:=HB7.out.size;clear ho7 hb7))
  | (go_at_call 191;(refine (bg4 _ _ HO7.out.rds).mono ?_;rintro e w' ⟨rfl,rfl⟩))
  | (go_at_call 193;(refine (bg7 _ _ (Own.built _ [125] 0 (Nat.zero_le _) (by simp [maxLen])).rds).mono ?_;rintro e w9 ⟨v9,rfl,ho9,hb9⟩;have HB9:=jzD ((HB8.out.alloc hz8 _).trans (hb9.mono (by simp;omega)));have hz9:=HB9.out.size;have k9:=run_str ho9.rds;clear ho9 hb9))
  | (go_at_call 194;(refine (bg8 _).mono ?_;rintro e w10 ⟨v10,rfl,ho10,hb10⟩;have HB10:=jzD (HB9.out.trans (hb10.mono hz9));have k10:=run_str ho10.rds;clear ho10 hb10)))
 go_ret
 exact ⟨rfl,HB3.out.trans (HB10.out.mono hz3)⟩
end Go.Proofs.YtjddbjmcjhjpiaaGreatDoor
