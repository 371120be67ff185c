/- Of layer 4: Frame5, Frame6, Frame7, LawF0. -/
import Derived.Test.YtjddbjmcjhjpiaaGreatDoorM4G
import Derived.BigFrame

set_option linter.all false

namespace Go.Proofs.YtjddbjmcjhjpiaaGreatDoor
set_option maxRecDepth 100000
set_option maxHeartbeats 4000000
open Go.RowKit M

section
variable {P:Program} {ops:Array Oper} {Q:Exit→Act→World→Prop} {S:World→Prop}
theorem rests_storeB {fuel:Nat} {listed:Array Bool} {a:Act} {w:World} (i:Nat) {oi:Oper} (hi:ops[i]?=some oi)
 (hr:Region.ready .any ops listed=[i]) (hw:Region.wanted oi (yielded ops a.tmps)=true) (ty:TypeId) (x y:Operand) (ho:oi.op=.store ty x y)
 (g:Nat) (cells:Array Value) (hx:a.eval x=.pointer (some ⟨g,0,none⟩)) (hy:a.eval y=.agg cells)
 (t:TypeId) (old:Array Value) (hg:w.heap[g]?=some (.cells old t (0,0))) (hsz:(P.info? ty).map (·.size)=some cells.size)
 (hold:old.size=cells.size) (h1:cells.all (·.oneCell')=true)
 (h:∀ w', w.grownBy w' (some g)→w'.heap.size=w.heap.size→w'.heap[g]?=some (.cells cells t (0,0))→S w' ∧ RestS S P ops Q fuel (listed.setIfInBounds i true) (a.put oi.dst undef) w'):RestS S P ops Q (fuel + 1) listed a w :=
 rests_step i hi hr hw (wp_store_row ty x y ho g cells hx hy t old hg hsz hold h1 (h _ (grown_setRow w g cells) (by simp) (setRow_heap w g old cells t (0,0) hg)))
end
theorem isAny_one {v:Value} {c:Cn} (h:IsAny v c):v.oneCell' = true:=by
 rcases h with ⟨_,_,_,rfl,_⟩ | ⟨_,_,_,rfl,_⟩ | ⟨_,_,rfl,_⟩ | ⟨_,rfl | ⟨_,_,rfl,_⟩⟩ <;> rfl
theorem frOne (s1 s2:Int) (s3:Bool) {v:Value} (hv:v.oneCell' = true) (s5:ByteArray):(#[.int .i64 s1,.int .i64 s2,.bool s3,v,.string s5]:Array Value).all (·.oneCell')=true:=by
 rw [Array.all_eq_true_iff_forall_mem]
 intro x hx
 simp only [List.mem_toArray,List.mem_cons,List.not_mem_nil,or_false] at hx
 rcases hx with rfl | rfl | rfl | rfl | rfl
 · rfl
 · rfl
 · rfl
 · exact hv
 · rfl
theorem and1_all:(List.range 256).all (fun k=>bits BinOp.and IntKind.u8 (k:Nat) 1 == ((k % 2:Nat):Int))=true:=by decide +kernel
theorem and1 {k:Nat} (h:k < 256):bits BinOp.and IntKind.u8 (k:Nat) 1=((k % 2:Nat):Int):=by
 have := List.all_eq_true.1 and1_all k (List.mem_range.2 h)
 exact beq_iff_eq.1 this

theorem FGet_is (bk off n cap:Nat) (x y z:UInt8) (r:List UInt8) (w:World) (hr:Rds w (.slice (some ⟨bk,off,none⟩) n cap) (x :: y :: z :: r)) (hn67:n≤67) (xb:Bool) (hxb:(((x.toNat % 2:Nat):Int) != 0)=xb) (tt:TypeId) (u:Value) (c:Cn) (ok:Bool) (hv:IsAny (.iface tt u) c) (hC:Codes w)
 (hcg:∀ w,Codes w→Calls Tryz.prog 141 #[.int .u8 z.toNat] w fun e w' => e=.returned (.tuple #[.iface tt u,.bool ok])∧w=w')
 (hm:(decide (adr ((x.toNat:Int) / 2) y.toNat) && ((cb c).isSome && decide (((⟨r.toArray⟩:ByteArray).size:Int)≤roomN c)))=true) :
 Calls Tryz.prog 138 #[.slice (some ⟨bk,off,none⟩) n cap] w fun e w' => e=.returned (.tuple #[.agg #[.int .i64 ((x.toNat:Int) / 2),.int .i64 y.toNat,.bool xb,.iface tt u,.string ⟨r.toArray⟩],.bool true])∧Below w.heap.size w w' := by
 have hmy:=fun w=>FMay_any ((x.toNat:Int) / 2) y.toNat xb (.iface tt u) c ⟨r.toArray⟩ hv w
 unfold MayFP at hmy
 rw [hm] at hmy
 have hone:=frOne ((x.toNat:Int) / 2) y.toNat xb (isAny_one hv) ⟨r.toArray⟩
 have HMY:=jzD hmy
 have HCG:=jzD hcg
 have HC:=jzD hC
 have HONE:=jzD hone
 have hn:n=r.length + 3:=by obtain ⟨A,cap', he,_⟩:=hr;injection he
 have hcn:n≤cap∧cap≤maxLen:=by obtain ⟨A,cap', he,h1,h2,_⟩:=hr;injection he with _ he1 he2;subst he1;subst he2;exact ⟨h1,h2⟩
 have HRD:=jzD (hr.from_ 3 (by omega) (by omega))
 have hcell:∀ j,j < n→w.cell? ⟨bk,off + j,none⟩=some (bc ((x :: y :: z :: r).getD j 0)):=fun j hj=>by
  obtain ⟨b', off', he,hc⟩:=hr.cell (k:=j) (by rw [List.length_cons,List.length_cons,List.length_cons];omega)
  injection he with he
  injection he with h1 h2 h3
  subst h1;subst h2
  exact hc
 have c0:w.cell? ⟨bk,off,none⟩=some (bc x):=hcell 0 (by omega)
 have c1:w.cell? ⟨bk,off + 1,none⟩=some (bc y):=hcell 1 (by omega)
 have c2:w.cell? ⟨bk,off + 2,none⟩=some (bc z):=hcell 2 (by omega)
 have hlt:bk < w.heap.size:=World.block_lt_of_cell? w _ c0
 obtain ⟨hcn1,hcn2⟩:=hcn
 unfold maxLen at hcn2
 have hn3:3≤n:=by omega
 have hn0:0 < n:=by omega
 have hn1:1 < n:=by omega
 have hn2:2 < n:=by omega
 have hi1:(1:Int) < (n:Int):=by omega
 have t1:¬ (n:Int) < 3:=by omega
 have t2:¬ (67:Int) < (n:Int):=by omega
 have hx2:=x.toNat_lt
 have hy2:=y.toNat_lt
 have q1:IntKind.i64.wrap (x.toNat:Int)=(x.toNat:Int):=IntWalk.i64_in _ (by omega)
 have q2:IntKind.i64.wrap (y.toNat:Int)=(y.toNat:Int):=IntWalk.i64_in _ (by omega)
 have q3:(x.toNat:Int).tdiv 2=(x.toNat:Int) / 2:=Int.tdiv_eq_ediv_of_nonneg (by omega)
 have q4:IntKind.i64.wrap ((x.toNat:Int) / 2)=(x.toNat:Int) / 2:=IntWalk.i64_in _ (by omega)
 have q5:IntKind.u8.wrap ((x.toNat:Int) / 2)=(x.toNat:Int) / 2:=IntWalk.u8_in _ (by omega)
 have q6:(bits BinOp.and IntKind.u8 (x.toNat:Int) 1 != 0)=xb:=by rw [and1 hx2];exact hxb
 have hi2:(2:Int) < (n:Int):=by omega
 have hi3:(3:Int)≤(n:Int):=by omega
 have hi4:(n:Int)≤(cap:Int):=by omega
 unfold bc at c0 c1 c2
 clear hmy hcg hC hone hv hm hcell hr hn hxb
 go_enter Tryz.func138,Tryz.ntmps138
 go_wp2_with (go_at_call 141;((with_reducible refine (HCG.out _ (HC.out.below (bal (bel0 w) _))).mono ?_);rintro e wq ⟨rfl,rfl⟩))
 obtain ⟨w3,hw3⟩:∃ w3,w3=w.alloc (.cells #[.int .i64 0,.int .i64 0,.bool false,.nilIface,.string ⟨#[]⟩] 198):=⟨_,rfl⟩
 have HB3:Hid (Below w.heap.size w w3):=by show Below _ _ _;rw [hw3];exact bal (bel0 w) _
 have HR3:Hid (w3.heap[w.heap.size]?=some (.cells #[.int .i64 0,.int .i64 0,.bool false,.nilIface,.string ⟨#[]⟩] 198 (0,0))):=by show _=_;rw [hw3];exact heap_alloc_new w _
 rw [← hw3]
 clear hw3
 refine rests_begin (From w) (by kernel_rfl) ?_
 refine rtk 0 HB3.out.drew ?_
 refine rtk 1 HB3.out.drew ?_
 refine rtk 2 HB3.out.drew ?_ (hy:=by intro W HW;have cw:W.cell? ⟨bk,off,none⟩=some (bc x):=(HW.cell (p:=⟨bk,off,none⟩) hlt).trans c0;unfold bc at cw;go_simp;try with_reducible rfl)
 refine rtk 3 HB3.out.drew ?_
 refine rtk 4 HB3.out.drew ?_
 refine rtk 5 HB3.out.drew ?_
 refine rtk 6 HB3.out.drew ?_
 refine rtk 7 HB3.out.drew ?_ (hy:=by intro W HW;have cw:W.cell? ⟨bk,off + 1,none⟩=some (bc y):=(HW.cell (p:=⟨bk,off + 1,none⟩) hlt).trans c1;unfold bc at cw;go_simp;try with_reducible rfl)
 refine rtk 8 HB3.out.drew ?_
 refine rtk 9 HB3.out.drew ?_
 refine rtk 10 HB3.out.drew ?_
 refine rtk 11 HB3.out.drew ?_
 refine rtk 12 HB3.out.drew ?_ (hy:=by intro W HW;have cw:W.cell? ⟨bk,off,none⟩=some (bc x):=(HW.cell (p:=⟨bk,off,none⟩) hlt).trans c0;unfold bc at cw;go_simp;try with_reducible rfl)
 refine rtk 13 HB3.out.drew ?_
 refine rtk 14 HB3.out.drew ?_
 refine rtk 15 HB3.out.drew ?_
 refine rtk 16 HB3.out.drew ?_
 refine rtk 17 HB3.out.drew ?_
 refine rests_convT 18 (oi:=_) (by simp only [jzG,jzH,jzI];rfl) (.tmp 40) _ r (by kernel_rfl) (by kernel_rfl) (by kernel_rfl) (by exact fun _ _ _ h=>h) (HB3.out.drew) (by rfl) rfl rfl (fun W HW=>(HRD.out.below HW)) ?_
 simp only [Act.put,jzU,jzV,jzW]
 refine rtk 19 HB3.out.drew ?_
 refine rests_run 20 (oi:=_) (by simp only [jzG,jzH,jzI];rfl) (by kernel_rfl) (by rfl) (.pointer (some ⟨w3.heap.size,0,none⟩)) (w3.drew.alloc (.cells #[.int .i64 0,.int .i64 0,.bool false,.nilIface,.string ⟨#[]⟩] 198)) (by go_simp) ⟨bal HB3.out.drew _,?_⟩
 simp only [Act.put,jzU,jzV,jzW]
 refine rests_storeB 21 (oi:=_) (by simp only [jzG,jzH,jzI];rfl) (by kernel_rfl) (by rfl) 198 (.tmp 6) (.tmp 42) rfl w3.heap.size #[.int .i64 ((x.toNat:Int) / 2),.int .i64 y.toNat,.bool xb,.iface tt u,.string ⟨r.toArray⟩] rfl rfl 198 _ (heap_alloc_new w3.drew _) (by kernel_rfl) rfl HONE.out ?_
 intro w5 hg5 hz5 hh5;have HB5:=jzD (bel_grown (bal HB3.out.drew _) hg5 HB3.out.size);have HP5:=jzD hh5;have hne:w.heap.size ≠ w3.heap.size:=by (have := lt_at HR3.out;omega)
 have HR5:Hid (w5.heap[w.heap.size]?=some (.cells #[.int .i64 0,.int .i64 0,.bool false,.nilIface,.string ⟨#[]⟩] 198 (0,0))):=keep_grown (keep_at (w:=w3.drew) HR3.out (bal (bel0 w3.drew) _)) hg5 hne
 refine ⟨HB5.out,?_⟩;clear hg5 hz5 hh5
 simp only [Act.put,jzU,jzV,jzW]
 refine rests_done (by kernel_rfl) ?_
 go_wp2_with (first
  | (go_at_call 155;((with_reducible refine (HMY.out _).mono ?_);rintro e w7 ⟨rfl,hb⟩;have HB7:=jzD (bel_trans HB5.out hb);have HP7:=jzD (keep_at HP5.out hb);have HR7:=jzD (keep_at HR5.out hb);clear hb))
  | (with_reducible refine wpList_loadB rfl 198 (.tmp 6) rfl w3.heap.size rfl 198 #[.int .i64 ((x.toNat:Int) / 2),.int .i64 y.toNat,.bool xb,.iface tt u,.string ⟨r.toArray⟩] HP5.out _ Tryz.underlying198 rfl (by kernel_rfl) ?_)
  | (with_reducible refine wpList_loadB rfl 198 (.tmp 6) rfl w3.heap.size rfl 198 #[.int .i64 ((x.toNat:Int) / 2),.int .i64 y.toNat,.bool xb,.iface tt u,.string ⟨r.toArray⟩] HP7.out _ Tryz.underlying198 rfl (by kernel_rfl) ?_)
  | ((with_reducible refine wpList_storeB rfl 198 (.tmp 2) _ rfl w.heap.size #[.int .i64 ((x.toNat:Int) / 2),.int .i64 y.toNat,.bool xb,.iface tt u,.string ⟨r.toArray⟩] rfl rfl 198 _ HR7.out (by kernel_rfl) (by kernel_rfl) HONE.out ?_);intro w8 hg8 hz8 hh8;have HB8:=jzD (bel_grown HB7.out hg8 (Nat.le_refl _));have HR8:=jzD hh8;clear hg8 hz8 hh8))
 all_goals exact ⟨rfl,_,results_cell2 rfl _ _ w.heap.size _ _ _ _ (.bool true) rfl rfl HR8.out Tryz.underlying198 rfl (by kernel_rfl),rfl,HB8.out⟩

theorem getF_long {l:List UInt8} (h:67 < l.length):getF l=none:=by
 unfold getF
 split
 · rename_i x y z r
   split
   · rename_i c hc
     rw [if_neg]
     rintro ⟨_,_,_,_,_,h6,_⟩
     simp only [List.length_cons] at h h6
     omega
   · rfl
 · rfl
theorem getF_short {l:List UInt8} (h:l.length < 3):getF l=none:=by
 unfold getF
 split
 · simp only [List.length_cons] at h;omega
 · rfl
theorem get_says (x y z:UInt8) (r:List UInt8):∃ v c ok,IsAny v c∧(∀ w,Codes w→Calls Tryz.prog 141 #[.int .u8 z.toNat] w fun e w' => e=.returned (.tuple #[v,.bool ok])∧w=w') ∧
 ((
  (decide (adr ((x.toNat:Int) / 2) y.toNat) && ((cb c).isSome && decide (((⟨r.toArray⟩:ByteArray).size:Int)≤roomN c)))=true∧v=cv c∧getF (x :: y :: z :: r)=some ⟨(x.toNat:Int) / 2,y.toNat,x.toNat % 2=1,c,r⟩) ∨
  ((decide (adr ((x.toNat:Int) / 2) y.toNat) && ((cb c).isSome && decide (((⟨r.toArray⟩:ByteArray).size:Int)≤roomN c)))=false∧getF (x :: y :: z :: r)=none)):=by
 have hz:=z.toNat_lt
 rcases hg:gb (z.toNat:Int) with _ | c
 · refine ⟨.nilIface,⟨0,0,0,0,false⟩,false,.inr (.inr (.inr ⟨rfl,.inl rfl⟩)),fun w hC=>?_,.inr ⟨?_,?_⟩⟩
   · have := CGet_any (z.toNat:Int) (by omega) w hC
     unfold GetP at this
     rw [hg] at this
     exact this
   · rw [mayZ,Bool.false_and,Bool.and_false]
   · unfold getF;simp only [hg]
 · have hcb:=cb_gb (by omega) hg
   have hi:IsAny (cv c) c:=by
    have := isAny_cv c
    rwa [nm_of_cb hcb] at this
   refine ⟨cv c,c,true,hi,fun w hC=>?_,?_⟩
   · have := CGet_any (z.toNat:Int) (by omega) w hC
     unfold GetP at this
     rw [hg] at this
     exact this
   · have hm:=may_iff ⟨(x.toNat:Int) / 2,y.toNat,decide (x.toNat % 2=1),c.kind,c.sort,c.nr,c.ns,c.pf,⟨r.toArray⟩⟩
     change (decide (adr ((x.toNat:Int) / 2) y.toNat) && ((cb c).isSome && decide (((⟨r.toArray⟩:ByteArray).size:Int)≤roomN c)))=decide (mayF ⟨(x.toNat:Int) / 2,y.toNat,decide (x.toNat % 2=1),c,r⟩) at hm
     rw [hm]
     by_cases h:mayF ⟨(x.toNat:Int) / 2,y.toNat,decide (x.toNat % 2=1),c,r⟩
     · exact .inl ⟨decide_eq_true h,rfl,by unfold getF;simp only [hg];rw [if_pos h]⟩
     · exact .inr ⟨decide_eq_false h,by unfold getF;simp only [hg];rw [if_neg h]⟩
theorem odd_bit (x:UInt8):(((x.toNat % 2:Nat):Int) != 0)=decide (x.toNat % 2=1):=by
 rw [Bool.eq_iff_iff,bne_iff_ne,decide_eq_true_iff];omega
theorem rds_at {w:World} {v:Value} {l:List UInt8} (hr:Rds w v l) (h:0 < l.length):∃ bk off cap,v=.slice (some ⟨bk,off,none⟩) l.length cap:=by
 obtain ⟨A,cap,rfl,_,_,h3⟩:=hr
 obtain ⟨b,off,rfl,_⟩:=h3 h
 exact ⟨b,off,cap,rfl⟩
theorem FGet_yes (v:Value) (l:List UInt8) (p:Pl) (w:World) (hr:Rds w v l) (hg:getF l=some p) (hC:Codes w):Calls Tryz.prog 138 #[v] w fun e w' => e=.returned (.tuple #[frI (PIn.of p),.bool true])∧Below w.heap.size w w' := by
 rcases Nat.lt_or_ge l.length 3 with hl | hl
 · rw [getF_short hl] at hg;cases hg
 · rcases Nat.lt_or_ge 67 l.length with h67 | h67
   · rw [getF_long h67] at hg;cases hg
   · obtain ⟨bk,off,cap,rfl⟩:=rds_at hr (by omega)
     match l,hl,h67,hr,hg with
     | x :: y :: z :: r,hl,h67,hr,hg =>
      obtain ⟨u,c,ok,hv,hcg,⟨h1,rfl,h2⟩ | ⟨h1,h2⟩⟩:=get_says x y z r
      · rw [hg] at h2
        injection h2 with h2
        subst h2
        have hs:(cb c).isSome=true:=by
         simp only [Bool.and_eq_true] at h1
         exact h1.2.1
        obtain ⟨nn,hnn⟩:=Option.isSome_iff_exists.1 hs
        obtain ⟨tt,uu,_,_,e1,_,_⟩:=ifIn_cv hnn hnn w
        show Calls _ _ _ _ fun e w' => e=.returned (.tuple #[frV ((x.toNat:Int) / 2) y.toNat (decide (x.toNat % 2=1)) (cv c) ⟨r.toArray⟩,.bool true])∧_
        rw [e1] at hv hcg ⊢
        exact FGet_is bk off _ cap x y z r w hr h67 _ (odd_bit x) tt uu c ok hv hC hcg h1
      · rw [hg] at h2;cases h2
end Go.Proofs.YtjddbjmcjhjpiaaGreatDoor
namespace Go.Proofs.YtjddbjmcjhjpiaaGreatDoor
set_option maxRecDepth 100000
set_option maxHeartbeats 4000000
open Go.RowKit M

theorem run_boxPl (seat count:Int) (cmd:Bool) (kind sort nr ns:Int) (pf:Bool) (body:ByteArray) (w:World) :
 (Instr.box 204 (.agg #[.int .i64 seat,.int .i64 count,.bool cmd,.int .i64 kind,.int .i64 sort,.int .i64 nr,.int .i64 ns,.bool pf,.string body])).run Tryz.prog w=.ok (.pointer (some ⟨w.heap.size,0,none⟩)) (w.alloc (.cells (yN seat count cmd kind sort nr ns pf body) 204)):=by kernel_rfl
theorem neq_agg {P:Program} {w:World} {t:TypeId} {x y:Array Value} {b:Bool} (h:(binOp .eql t (.agg x) (.agg y)).run P w=.ok (.bool b) w):(binOp .neq t (.agg x) (.agg y)).run P w=.ok (.bool (!b)) w:=by
 simp only [binOp,Sem.run_bind,Sem.run_pure] at h ⊢
 cases hr:(Op.equal t (.agg x) (.agg y)).run P w with
 | ok v w2 =>
  rw [hr] at h
  simp only [Result.andThen_ok,Sem.run_pure] at h ⊢
  injection h with h1 h2
  injection h1 with h1
  subst h1;subst h2;rfl
 | _=>rw [hr] at h;cases h
theorem exec_cmp {P:Program} {a:Act} {oi:Oper} {W:World} {op:BinOp} {t t2:TypeId} {x y:Operand} {u v:Value} {b:Bool} (ho:oi.op=.binOp op t x y t2) (hx:a.eval x=u) (hy:a.eval y=v) (hg:(eqGuard op t x y u v).run P W=.ok () W) (hb:(binOp op t u v).run P W=.ok (.bool b) W) :
 (execOp a.eval oi).run P W=.ok (.value (.bool b)) W:=by
 simp only [execOp,ho,hx,hy,Sem.run_bind,hg,hb,Result.andThen_ok,Sem.run_pure]
section
variable {P:Program} {ops:Array Oper} {Q:Exit→Act→World→Prop} {S:World→Prop}
theorem rests_two {fuel:Nat} {listed:Array Bool} {a:Act} {w:World} (i j:Nat) {oi oj:Oper} (hi:ops[i]?=some oi) (hj:ops[j]?=some oj)
 (hr:Region.ready .any ops listed=[i,j]) (hwi:Region.wanted oi (yielded ops a.tmps)=true) (hwj:Region.wanted oj (yielded ops a.tmps)=true)
 (h1:oi.wp P a w (fun a' w' => S w' ∧ RestS S P ops Q fuel (listed.setIfInBounds i true) a' w') Q)
 (h2:oj.wp P a w (fun a' w' => S w' ∧ RestS S P ops Q fuel (listed.setIfInBounds j true) a' w') Q):RestS S P ops Q (fuel + 1) listed a w:=by
 refine wpAnyH_all hr (by simp) fun k hk=>?_
 have : k=i ∨ k=j:=by simpa using hk
 rcases this with rfl | rfl
 · unfold wpOp;simp only [hi,hwi,if_true];exact .inl h1
 · unfold wpOp;simp only [hj,hwj,if_true];exact .inl h2
end
theorem wp_enter {P:Program} {oi:Oper} {a:Act} {w:World} {K:Act→World→Prop} {Q:Exit→Act→World→Prop} {f:FuncId} {args:Array Value} {R:Ending→World→Prop} (he:(execOp a.eval oi).run P w=.ok (.enter f args) w) (hc:Calls P f args w R)
 (h:∀ e w', R e w' → ∃ v,e=.returned v∧K (a.put oi.dst v) w'):oi.wp P a w K Q:=by
 unfold Oper.wp
 rw [he,Oper.upon_enter]
 refine hc.mono fun e w' hR=>?_
 obtain ⟨v,rfl,h1⟩:=h e w' hR
 exact h1
theorem wp_val {P:Program} {oi:Oper} {a:Act} {w:World} {K:Act→World→Prop} {Q:Exit→Act→World→Prop} {v:Value} {w' : World} (hrun:(execOp a.eval oi).run P w=.ok (.value v) w') (h:K (a.put oi.dst v) w'):oi.wp P a w K Q:=by
 unfold Oper.wp
 rw [hrun,Oper.upon_value]
 exact h
theorem neq_pin (p q:PIn) (w:World):(binOp .neq 204 p.val q.val).run Tryz.prog w=.ok (.bool (!decide (p.pl=q.pl))) w:=neq_agg (eql_pin p q w)

theorem FOf_CI (seat count:Int) (cmd:Bool) (kind sort nr ns:Int) (pf:Bool) (body:ByteArray) (tt:TypeId) (u:Value) (w:World)
 (htg:∀ w,Calls Tryz.prog 159 #[.agg #[.int .i64 seat,.int .i64 count,.bool cmd,.int .i64 kind,.int .i64 sort,.int .i64 nr,.int .i64 ns,.bool pf,.string body]] w fun e w' => e=.returned (.iface tt u)∧Below w.heap.size w w')
 (hmy:∀ w,Calls Tryz.prog 155 #[.agg #[.int .i64 seat,.int .i64 count,.bool cmd,.iface tt u,.string body]] w fun e w' => e=.returned (.bool true)∧Below w.heap.size w w')
 (q:PIn) (hpn:∀ w,Calls Tryz.prog 139 #[.agg #[.int .i64 seat,.int .i64 count,.bool cmd,.iface tt u,.string body]] w fun e w' => e=.returned q.val∧Below w.heap.size w w')
 (hne:∀ W,(binOp .neq 204 q.val (.agg #[.int .i64 seat,.int .i64 count,.bool cmd,.int .i64 kind,.int .i64 sort,.int .i64 nr,.int .i64 ns,.bool pf,.string body])).run Tryz.prog W=.ok (.bool false) W) (hbs:body.size≤1000000) :
 Calls Tryz.prog 140 #[.agg #[.int .i64 seat,.int .i64 count,.bool cmd,.int .i64 kind,.int .i64 sort,.int .i64 nr,.int .i64 ns,.bool pf,.string body]] w fun e w' => e=.returned (.tuple #[.agg #[.int .i64 seat,.int .i64 count,.bool cmd,.iface tt u,.string body],.bool true])∧Below w.heap.size w w' := by
 have HTG:=jzD htg
 have HMY:=jzD hmy
 have HONE:=jzD (frOne seat count cmd (v:=.iface tt u) rfl body)
 have HPN:=jzD hpn
 have HNE:=jzD hne
 clear hpn hne
 have HCL:=jzD (fun w=>SClone_any body w hbs)
 clear htg hmy
 go_enter Tryz.func140,Tryz.ntmps140
 go_wp2_with ((with_reducible refine wpList_boxS rfl 204 _ (.tmp 0) rfl rfl (run_boxPl seat count cmd kind sort nr ns pf body) ?_);intro w1 hb1 hlt1 hh1;have HB1:=jzD hb1;have HP1:=jzD hh1;clear hb1 hh1)
 obtain ⟨w2,hw2⟩:∃ w2,w2=w1.alloc (.cells #[.int .i64 0,.int .i64 0,.bool false,.nilIface,.string ⟨#[]⟩] 198):=⟨_,rfl⟩
 have HB2:Hid (Below w.heap.size w w2):=by show Below _ _ _;rw [hw2];exact bal HB1.out _
 have HE2:Hid (Below w1.heap.size w1 w2):=by show Below _ _ _;rw [hw2];exact bal (bel0 w1) _
 have HR2:Hid (w2.heap[w1.heap.size]?=some (.cells #[.int .i64 0,.int .i64 0,.bool false,.nilIface,.string ⟨#[]⟩] 198 (0,0))):=by show _=_;rw [hw2];exact heap_alloc_new w1 _
 have hlt:w.heap.size < w1.heap.size:=lt_at HP1.out
 have HZ1:Hid (w.heap.size≤w1.heap.size):=Nat.le_of_lt hlt
 have HKP:Hid (∀ W,From w1 W→W.heap[w.heap.size]?=some (.cells (yN seat count cmd kind sort nr ns pf body) 204 (0,0))):=by show ∀ _,_;exact fun W HW=>keep_at HP1.out HW
 rw [← hw2]
 clear hw2
 refine rests_begin (From w1) (by kernel_rfl) ?_
 refine rtk 0 HE2.out.drew ?_
 refine rtk 1 HE2.out.drew ?_ (hy:=by intro W HW;have cw0:W.cell? ⟨w.heap.size,0,none⟩=some (.int .i64 seat):=cell_at (HKP.out W HW) 0 _ rfl;have cw1:W.cell? ⟨w.heap.size,1,none⟩=some (.int .i64 count):=cell_at (HKP.out W HW) 1 _ rfl;go_simp;try with_reducible rfl)
 refine rtk 2 HE2.out.drew ?_
 refine rtk 3 HE2.out.drew ?_ (hy:=by intro W HW;have cw2:W.cell? ⟨w.heap.size,2,none⟩=some (.bool cmd):=cell_at (HKP.out W HW) 2 _ rfl;go_simp;try with_reducible rfl)
 refine rests_loadB 4 (oi:=_) (by simp only [jzG,jzH,jzI];rfl) (by kernel_rfl) (by kernel_rfl) (by kernel_rfl) #[.int .i64 seat,.int .i64 count,.bool cmd,.int .i64 kind,.int .i64 sort,.int .i64 nr,.int .i64 ns,.bool pf,.string body] (by exact fun _ _ _ h=>h) (HE2.out.drew) (by rfl) 204 (.tmp 1) rfl w.heap.size rfl 204 HKP.out _ Tryz.underlying204 rfl (by kernel_rfl) ?_
 simp only [Act.put,jzU,jzV,jzW]
 refine rtk 6 HE2.out.drew ?_
 refine rtk 7 HE2.out.drew ?_ (hy:=by intro W HW;have cw8:W.cell? ⟨w.heap.size,8,none⟩=some (.string body):=cell_at (HKP.out W HW) 8 _ rfl;go_simp;try with_reducible rfl)
 refine rests_two 5 9 (oi:=_) (oj:=_) (by simp only [jzG,jzH,jzI];rfl) (by simp only [jzG,jzH,jzI];rfl) (by kernel_rfl) (by rfl) (by rfl) ?_ ?_
 · refine wp_enter (f:=159) (args:=#[.agg #[.int .i64 seat,.int .i64 count,.bool cmd,.int .i64 kind,.int .i64 sort,.int .i64 nr,.int .i64 ns,.bool pf,.string body]]) (by go_simp) (HTG.out w2.drew) ?_
   rintro e w3 ⟨rfl,hb⟩;have HB3:=jzD (bel_trans HB2.out.drew hb);have HE3:=jzD (bel_trans HE2.out.drew hb);have HR3:=jzD (keep_at (w:=w2.drew) HR2.out hb);refine ⟨_,rfl,HE3.out,?_⟩;clear hb
   simp only [Act.put,jzU,jzV,jzW]
   refine rtk 8 HE3.out ?_
   refine rests_run 9 (oi:=_) (by simp only [jzG,jzH,jzI];rfl) (by kernel_rfl) (by rfl) (.pointer (some ⟨w3.heap.size,0,none⟩)) (w3.alloc (.cells #[.int .i64 0,.int .i64 0,.bool false,.nilIface,.string ⟨#[]⟩] 198)) (by go_simp) ⟨bal HE3.out _,?_⟩
   have HBA:=jzD (bal HB3.out (.cells #[.int .i64 0,.int .i64 0,.bool false,.nilIface,.string ⟨#[]⟩] 198));have HEA:=jzD (bal HE3.out (.cells #[.int .i64 0,.int .i64 0,.bool false,.nilIface,.string ⟨#[]⟩] 198));have HRA:=jzD (keep_at HR3.out (bal (bel0 w3) (.cells #[.int .i64 0,.int .i64 0,.bool false,.nilIface,.string ⟨#[]⟩] 198)));have HFA:=jzD (heap_alloc_new w3 (.cells #[.int .i64 0,.int .i64 0,.bool false,.nilIface,.string ⟨#[]⟩] 198));have HGE:=jzD HE3.out.size;have HGB:=jzD HB3.out.size;have hne:w1.heap.size ≠ w3.heap.size:=by (have := lt_at HR3.out;omega)
   simp only [Act.put,jzU,jzV,jzW]
   refine rests_storeB 10 (oi:=_) (by simp only [jzG,jzH,jzI];rfl) (by kernel_rfl) (by rfl) 198 (.tmp 4) (.tmp 13) rfl w3.heap.size #[.int .i64 seat,.int .i64 count,.bool cmd,.iface tt u,.string body] rfl rfl 198 _ HFA.out (by kernel_rfl) rfl HONE.out ?_
   intro w4 hg4 hz4 hh4;have HE4:=jzD (bel_grown HEA.out hg4 HGE.out);have HB4:=jzD (bel_grown HBA.out hg4 HGB.out);have HK4:=jzD hh4
   have HR4:Hid (w4.heap[w1.heap.size]?=some (.cells #[.int .i64 0,.int .i64 0,.bool false,.nilIface,.string ⟨#[]⟩] 198 (0,0))):=keep_grown HRA.out hg4 hne
   have HP4:=jzD (HKP.out w4 HE4.out);refine ⟨HE4.out,?_⟩;clear hg4 hz4 hh4
   simp only [Act.put,jzU,jzV,jzW]
   refine rests_done (by kernel_rfl) ?_
   go_wp2
   refine rest_begin (by kernel_rfl) ?_
   refine rest_loadB 0 (oi:=_) (by simp only [jzG,jzH,jzI];rfl) (by kernel_rfl) (by kernel_rfl) (by kernel_rfl) #[.int .i64 seat,.int .i64 count,.bool cmd,.iface tt u,.string body] (by exact fun _ _ _ h=>h) (by rfl) 198 (.tmp 4) rfl _ rfl _ (HK4.out) _ Tryz.underlying198 rfl (by kernel_rfl) ?_
   simp only [Act.put,jzU,jzV,jzW]
   refine rest_call 1 (oi:=_) (by simp only [jzG,jzH,jzI];rfl) 155 #[.agg #[.int .i64 seat,.int .i64 count,.bool cmd,.iface tt u,.string body]] _ (by kernel_rfl) (by rfl) (by go_simp) (HMY.out w4.drew) ?_
   rintro e w5 ⟨rfl,hb⟩;refine ⟨_,rfl,hb,?_⟩;have HB5:=jzD (bel_trans HB4.out.drew hb);have HK5:=jzD (keep_at (w:=w4.drew) HK4.out hb);have HR5:=jzD (keep_at (w:=w4.drew) HR4.out hb);have HP5:=jzD (keep_at (w:=w4.drew) HP4.out hb);clear hb
   simp only [Act.put,jzU,jzV,jzW]
   refine rek 2 ?_
   refine rek 3 ?_
   refine rest_loadB 4 (oi:=_) (by simp only [jzG,jzH,jzI];rfl) (by kernel_rfl) (by kernel_rfl) (by kernel_rfl) #[.int .i64 seat,.int .i64 count,.bool cmd,.iface tt u,.string body] (by exact fun _ _ _ h=>h) (by rfl) 198 (.tmp 4) rfl _ rfl _ (HK5.out) _ Tryz.underlying198 rfl (by kernel_rfl) ?_
   simp only [Act.put,jzU,jzV,jzW]
   refine rest_loadB 6 (oi:=_) (by simp only [jzG,jzH,jzI];rfl) (by kernel_rfl) (by kernel_rfl) (by kernel_rfl) #[.int .i64 seat,.int .i64 count,.bool cmd,.int .i64 kind,.int .i64 sort,.int .i64 nr,.int .i64 ns,.bool pf,.string body] (by exact fun _ _ _ h=>h) (by rfl) 204 (.tmp 1) rfl _ rfl _ (HP5.out) _ Tryz.underlying204 rfl (by kernel_rfl) ?_
   simp only [Act.put,jzU,jzV,jzW]
   refine rest_call 5 (oi:=_) (by simp only [jzG,jzH,jzI];rfl) 139 #[.agg #[.int .i64 seat,.int .i64 count,.bool cmd,.iface tt u,.string body]] _ (by kernel_rfl) (by rfl) (by go_simp) (HPN.out w5) ?_
   rintro e w6 ⟨rfl,hb⟩;refine ⟨_,rfl,hb,?_⟩;have HB6:=jzD (bel_trans HB5.out hb);have HK6:=jzD (keep_at HK5.out hb);have HR6:=jzD (keep_at HR5.out hb);have HP6:=jzD (keep_at HP5.out hb);clear hb
   simp only [Act.put,jzU,jzV,jzW]
   refine rest_take 7 (oi:=_) (v:=.bool false) (by simp only [jzG,jzH,jzI];rfl) (by kernel_rfl) (by kernel_rfl) (by kernel_rfl) (by exact fun _ _ _ h=>h) (by rfl) (fun W HW=>exec_cmp rfl rfl rfl (guard_Pl .neq _ _ _ _ W) (HNE.out W)) ?_
   simp only [Act.put,jzU,jzV,jzW]
   refine rek 8 ?_
   refine rest_done (by kernel_rfl) ?_
   have e4:=cell_at HK6.out 4 _ rfl
   go_wp2_with (first
    | (go_at_call 58;((with_reducible refine (HCL.out _).mono ?_);rintro e w7 ⟨rfl,hb⟩;have HB7:=jzD (bel_trans HB6.out hb);have HK7:=jzD (keep_at HK6.out hb);have HR7:=jzD (keep_at HR6.out hb);clear hb))
    | ((with_reducible refine wpList_store1 rfl 9 (.tmp 27) (.tmp 26) rfl w3.heap.size 4 (.string body) rfl rfl 198 _ HK7.out (by simp) (storeStr w3.heap.size 4 _) ?_);intro w9 hg9 hh9;have HB9:=jzD (bel_grown HB7.out hg9 HGB.out);have HK9:Hid (w9.heap[w3.heap.size]?=some (.cells #[.int .i64 seat,.int .i64 count,.bool cmd,.iface tt u,.string body] 198 (0,0))):=hh9;have HR9:=jzD (keep_grown HR7.out hg9 hne);clear hg9 hh9)
    | (with_reducible refine wpList_loadB rfl 198 (.tmp 4) rfl w3.heap.size rfl 198 #[.int .i64 seat,.int .i64 count,.bool cmd,.iface tt u,.string body] HK9.out _ Tryz.underlying198 rfl (by kernel_rfl) ?_)
    | ((with_reducible refine wpList_storeB rfl 198 (.tmp 2) _ rfl w1.heap.size #[.int .i64 seat,.int .i64 count,.bool cmd,.iface tt u,.string body] rfl rfl 198 _ HR9.out (by kernel_rfl) (by kernel_rfl) HONE.out ?_);intro w8 hg8 hz8 hh8;have HB8:=jzD (bel_grown HB9.out hg8 HZ1.out);have HR8:=jzD hh8;clear hg8 hz8 hh8))
   exact ⟨rfl,_,results_cell2 rfl _ _ w1.heap.size _ _ _ _ (.bool true) rfl rfl HR8.out Tryz.underlying198 rfl (by kernel_rfl),rfl,HB8.out⟩
 · refine wp_val (v:=.pointer (some ⟨w2.heap.size,0,none⟩)) (w' := w2.drew.alloc (.cells #[.int .i64 0,.int .i64 0,.bool false,.nilIface,.string ⟨#[]⟩] 198)) (by go_simp) ⟨bal HE2.out.drew _,?_⟩
   have HBZ:=jzD (bal HB2.out.drew (.cells #[.int .i64 0,.int .i64 0,.bool false,.nilIface,.string ⟨#[]⟩] 198));have HEZ:=jzD (bal HE2.out.drew (.cells #[.int .i64 0,.int .i64 0,.bool false,.nilIface,.string ⟨#[]⟩] 198));have HRZ:=jzD (keep_at (w:=w2.drew) HR2.out (bal (bel0 w2.drew) (.cells #[.int .i64 0,.int .i64 0,.bool false,.nilIface,.string ⟨#[]⟩] 198)));have HFZ:=jzD (heap_alloc_new w2.drew (.cells #[.int .i64 0,.int .i64 0,.bool false,.nilIface,.string ⟨#[]⟩] 198));have HGE:=jzD HE2.out.size;have HGB:=jzD HB2.out.size;have hne:w1.heap.size ≠ w2.heap.size:=by (have := lt_at HR2.out;omega)
   simp only [Act.put,jzU,jzV,jzW]
   refine rests_call 5 (oi:=_) (by simp only [jzG,jzH,jzI];rfl) 159 #[.agg #[.int .i64 seat,.int .i64 count,.bool cmd,.int .i64 kind,.int .i64 sort,.int .i64 nr,.int .i64 ns,.bool pf,.string body]] _ (by kernel_rfl) (by rfl) (by go_simp) (HTG.out _) ?_
   rintro e w3 ⟨rfl,hb⟩;have HBA:=jzD (bel_trans HBZ.out hb);have HEA:=jzD (bel_trans HEZ.out hb);have HRA:=jzD (keep_at HRZ.out hb);have HFA:=jzD (keep_at HFZ.out hb);refine ⟨_,rfl,HEA.out,?_⟩;clear hb
   simp only [Act.put,jzU,jzV,jzW]
   refine rtk 8 HEA.out ?_
   refine rests_storeB 10 (oi:=_) (by simp only [jzG,jzH,jzI];rfl) (by kernel_rfl) (by rfl) 198 (.tmp 4) (.tmp 13) rfl w2.heap.size #[.int .i64 seat,.int .i64 count,.bool cmd,.iface tt u,.string body] rfl rfl 198 _ HFA.out (by kernel_rfl) rfl HONE.out ?_
   intro w4 hg4 hz4 hh4;have HE4:=jzD (bel_grown HEA.out hg4 HGE.out);have HB4:=jzD (bel_grown HBA.out hg4 HGB.out);have HK4:=jzD hh4
   have HR4:Hid (w4.heap[w1.heap.size]?=some (.cells #[.int .i64 0,.int .i64 0,.bool false,.nilIface,.string ⟨#[]⟩] 198 (0,0))):=keep_grown HRA.out hg4 hne
   have HP4:=jzD (HKP.out w4 HE4.out);refine ⟨HE4.out,?_⟩;clear hg4 hz4 hh4
   simp only [Act.put,jzU,jzV,jzW]
   refine rests_done (by kernel_rfl) ?_
   go_wp2
   refine rest_begin (by kernel_rfl) ?_
   refine rest_loadB 0 (oi:=_) (by simp only [jzG,jzH,jzI];rfl) (by kernel_rfl) (by kernel_rfl) (by kernel_rfl) #[.int .i64 seat,.int .i64 count,.bool cmd,.iface tt u,.string body] (by exact fun _ _ _ h=>h) (by rfl) 198 (.tmp 4) rfl _ rfl _ (HK4.out) _ Tryz.underlying198 rfl (by kernel_rfl) ?_
   simp only [Act.put,jzU,jzV,jzW]
   refine rest_call 1 (oi:=_) (by simp only [jzG,jzH,jzI];rfl) 155 #[.agg #[.int .i64 seat,.int .i64 count,.bool cmd,.iface tt u,.string body]] _ (by kernel_rfl) (by rfl) (by go_simp) (HMY.out w4.drew) ?_
   rintro e w5 ⟨rfl,hb⟩;refine ⟨_,rfl,hb,?_⟩;have HB5:=jzD (bel_trans HB4.out.drew hb);have HK5:=jzD (keep_at (w:=w4.drew) HK4.out hb);have HR5:=jzD (keep_at (w:=w4.drew) HR4.out hb);have HP5:=jzD (keep_at (w:=w4.drew) HP4.out hb);clear hb
   simp only [Act.put,jzU,jzV,jzW]
   refine rek 2 ?_
   refine rek 3 ?_
   refine rest_loadB 4 (oi:=_) (by simp only [jzG,jzH,jzI];rfl) (by kernel_rfl) (by kernel_rfl) (by kernel_rfl) #[.int .i64 seat,.int .i64 count,.bool cmd,.iface tt u,.string body] (by exact fun _ _ _ h=>h) (by rfl) 198 (.tmp 4) rfl _ rfl _ (HK5.out) _ Tryz.underlying198 rfl (by kernel_rfl) ?_
   simp only [Act.put,jzU,jzV,jzW]
   refine rest_loadB 6 (oi:=_) (by simp only [jzG,jzH,jzI];rfl) (by kernel_rfl) (by kernel_rfl) (by kernel_rfl) #[.int .i64 seat,.int .i64 count,.bool cmd,.int .i64 kind,.int .i64 sort,.int .i64 nr,.int .i64 ns,.bool pf,.string body] (by exact fun _ _ _ h=>h) (by rfl) 204 (.tmp 1) rfl _ rfl _ (HP5.out) _ Tryz.underlying204 rfl (by kernel_rfl) ?_
   simp only [Act.put,jzU,jzV,jzW]
   refine rest_call 5 (oi:=_) (by simp only [jzG,jzH,jzI];rfl) 139 #[.agg #[.int .i64 seat,.int .i64 count,.bool cmd,.iface tt u,.string body]] _ (by kernel_rfl) (by rfl) (by go_simp) (HPN.out w5) ?_
   rintro e w6 ⟨rfl,hb⟩;refine ⟨_,rfl,hb,?_⟩;have HB6:=jzD (bel_trans HB5.out hb);have HK6:=jzD (keep_at HK5.out hb);have HR6:=jzD (keep_at HR5.out hb);have HP6:=jzD (keep_at HP5.out hb);clear hb
   simp only [Act.put,jzU,jzV,jzW]
   refine rest_take 7 (oi:=_) (v:=.bool false) (by simp only [jzG,jzH,jzI];rfl) (by kernel_rfl) (by kernel_rfl) (by kernel_rfl) (by exact fun _ _ _ h=>h) (by rfl) (fun W HW=>exec_cmp rfl rfl rfl (guard_Pl .neq _ _ _ _ W) (HNE.out W)) ?_
   simp only [Act.put,jzU,jzV,jzW]
   refine rek 8 ?_
   refine rest_done (by kernel_rfl) ?_
   have e4:=cell_at HK6.out 4 _ rfl
   go_wp2_with (first
    | (go_at_call 58;((with_reducible refine (HCL.out _).mono ?_);rintro e w7 ⟨rfl,hb⟩;have HB7:=jzD (bel_trans HB6.out hb);have HK7:=jzD (keep_at HK6.out hb);have HR7:=jzD (keep_at HR6.out hb);clear hb))
    | ((with_reducible refine wpList_store1 rfl 9 (.tmp 27) (.tmp 26) rfl w2.heap.size 4 (.string body) rfl rfl 198 _ HK7.out (by simp) (storeStr w2.heap.size 4 _) ?_);intro w9 hg9 hh9;have HB9:=jzD (bel_grown HB7.out hg9 HGB.out);have HK9:Hid (w9.heap[w2.heap.size]?=some (.cells #[.int .i64 seat,.int .i64 count,.bool cmd,.iface tt u,.string body] 198 (0,0))):=hh9;have HR9:=jzD (keep_grown HR7.out hg9 hne);clear hg9 hh9)
    | (with_reducible refine wpList_loadB rfl 198 (.tmp 4) rfl w2.heap.size rfl 198 #[.int .i64 seat,.int .i64 count,.bool cmd,.iface tt u,.string body] HK9.out _ Tryz.underlying198 rfl (by kernel_rfl) ?_)
    | ((with_reducible refine wpList_storeB rfl 198 (.tmp 2) _ rfl w1.heap.size #[.int .i64 seat,.int .i64 count,.bool cmd,.iface tt u,.string body] rfl rfl 198 _ HR9.out (by kernel_rfl) (by kernel_rfl) HONE.out ?_);intro w8 hg8 hz8 hh8;have HB8:=jzD (bel_grown HB9.out hg8 HZ1.out);have HR8:=jzD hh8;clear hg8 hz8 hh8))
   exact ⟨rfl,_,results_cell2 rfl _ _ w1.heap.size _ _ _ _ (.bool true) rfl rfl HR8.out Tryz.underlying198 rfl (by kernel_rfl),rfl,HB8.out⟩

theorem FOf_yes (p:PIn) (w:World) (_:p.ok) (hm:mayF p.pl) (_:Codes w):Calls Tryz.prog 140 #[p.val] w fun e w' => e=.returned (.tuple #[frI p,.bool true])∧Below w.heap.size w w' := by
 have hmy:=fun w=>FMay_yes p w hm
 have hpn:=fun w=>FPlain_yes p w hm
 have htg:=fun w=>together_any p w
 have hb:p.body.size≤1000000:=by
  have := hm.2.2.2.2.2.1
  rw [show p.pl.body=p.body.data.toList from rfl,len_data] at this
  omega
 have hne:∀ W,(binOp .neq 204 p.val p.val).run Tryz.prog W=.ok (.bool false) W:=fun W=>by
  rw [neq_pin,decide_eq_true rfl];rfl
 obtain ⟨n,hn⟩:=Option.isSome_iff_exists.1 hm.1
 obtain ⟨tt,u,_,_,e1,_,_⟩:=ifIn_cv hn hn w
 have e2:cv p.c=.iface tt u:=e1
 show Calls _ _ _ _ fun e w' => e=.returned (.tuple #[frV p.seat p.count p.cmd (cv p.c) p.body,.bool true])∧_
 change ∀ w,Calls _ _ #[frV p.seat p.count p.cmd (cv p.c) p.body] w _ at hmy hpn
 rw [e2] at htg hmy hpn ⊢
 exact FOf_CI p.seat p.count p.cmd p.kind p.sort p.nr p.ns p.pf p.body tt u w htg hmy p hpn hne hb
end Go.Proofs.YtjddbjmcjhjpiaaGreatDoor
namespace Go.Proofs.YtjddbjmcjhjpiaaGreatDoor
set_option maxRecDepth 100000
set_option maxHeartbeats 4000000
open Go.RowKit M

theorem same_cv {c d:Cn} {n m:Int} (hc:cb c=some n) (hd:cb d=some m) (w:World):Calls Tryz.prog 162 #[cv c,cv d] w fun e w' => e=.returned (.bool (decide (c=d)))∧Below w.heap.size w w' := by
 have hi:IsAny (cv c) c:=by
  have := isAny_cv c
  rwa [nm_of_cb hc] at this
 have ha:=fun w=>fapart_any hi w
 unfold AptF at ha
 have hk:=fun W=>fieldKind c W
 have hq:=fun W=>eql_cv hc hd W
 have hgd:=fun (op:BinOp) (t:TypeId) (x y:Operand) (u:Value) (W:World)=>guard_cv hc op t x y u W
 have hne:(c.kind != 0)=true:=by
  rw [bne_iff_ne]
  rcases cb_kind hc with ⟨h,_⟩ | ⟨h,_⟩ | ⟨h,_⟩ <;> omega
 have HA:=jzD ha
 clear ha hi hc hd
 obtain ⟨b,hbb⟩:∃ b,b=decide (c=d):=⟨_,rfl⟩
 rw [← hbb] at hq ⊢
 clear hbb
 go_enter Tryz.func162,Tryz.ntmps162
 go_wp2_with (go_at_call 158;refine (HA.out _).mono ?_;rintro e w1 ⟨rfl,hb⟩;have HB:=jzD hb;clear hb)
 go_ret
 exact ⟨rfl,HB.out⟩

theorem FEq_raw (s c:Int) (m:Bool) (v:Value) (b:ByteArray) (s' c' : Int) (m' : Bool) (v' : Value) (b' : ByteArray) (r:Bool) (w:World)
 (hs:∀ w,Calls Tryz.prog 162 #[v,v'] w fun e w' => e=.returned (.bool r)∧Below w.heap.size w w') :
 Calls Tryz.prog 143 #[frV s c m v b,frV s' c' m' v' b'] w fun e w' => e=.returned (.bool ((s == s' && c == c') && ((m == m') && ((b.toList == b'.toList) && r))))∧Below w.heap.size w w' := by
 have HS:=jzD hs
 obtain ⟨R,hR⟩:∃ R:Bool,R=((s == s' && c == c') && ((m == m') && ((b.toList == b'.toList) && r))):=⟨_,rfl⟩
 rw [← hR]
 clear hs
 rcases h1:(s == s') with _ | _
 · have HF:Hid (false=R):=by show _=_;rw [hR,h1];rfl
   clear hR
   go_enter Tryz.func143,Tryz.ntmps143
   go_wp2_with (first
    | ((with_reducible refine wpList_boxS rfl 198 _ (.tmp 0) rfl rfl (run_boxFrame s c _ v b) ?_);intro w1 hb1 hlt1 hh1;have HB1:=jzD hb1;have HP1:=jzD hh1;clear hb1 hh1)
    | ((with_reducible refine wpList_boxS rfl 198 _ (.tmp 1) rfl rfl (run_boxFrame s' c' _ v' b') ?_);intro w2 hb2 hlt2 hh2;have HB2:=jzD (bel_trans HB1.out hb2);have HP2:=jzD (keep_at HP1.out hb2);have HQ2:=jzD hh2;clear hb2 hh2;have p0:=cell_at HP2.out 0 _ rfl;have p1:=cell_at HP2.out 1 _ rfl;have p2:=cell_at HP2.out 2 _ rfl;have p3:=cell_at HP2.out 3 _ rfl;have p4:=cell_at HP2.out 4 _ rfl;have q0:=cell_at HQ2.out 0 _ rfl;have q1:=cell_at HQ2.out 1 _ rfl;have q2:=cell_at HQ2.out 2 _ rfl;have q3:=cell_at HQ2.out 3 _ rfl;have q4:=cell_at HQ2.out 4 _ rfl)
    | (go_at_call 162;refine (HS.out _).mono ?_;rintro e w3 ⟨rfl,hb⟩;have HB3:=jzD (bel_trans HB2.out hb);clear hb))
   go_ret
   exact ⟨retb HF.out,HB2.out⟩
 · rcases h2:(c == c') with _ | _
   · have HF:Hid (false=R):=by show _=_;rw [hR,h1,h2];rfl
     clear hR
     go_enter Tryz.func143,Tryz.ntmps143
     go_wp2_with (first
      | ((with_reducible refine wpList_boxS rfl 198 _ (.tmp 0) rfl rfl (run_boxFrame s c _ v b) ?_);intro w1 hb1 hlt1 hh1;have HB1:=jzD hb1;have HP1:=jzD hh1;clear hb1 hh1)
      | ((with_reducible refine wpList_boxS rfl 198 _ (.tmp 1) rfl rfl (run_boxFrame s' c' _ v' b') ?_);intro w2 hb2 hlt2 hh2;have HB2:=jzD (bel_trans HB1.out hb2);have HP2:=jzD (keep_at HP1.out hb2);have HQ2:=jzD hh2;clear hb2 hh2;have p0:=cell_at HP2.out 0 _ rfl;have p1:=cell_at HP2.out 1 _ rfl;have p2:=cell_at HP2.out 2 _ rfl;have p3:=cell_at HP2.out 3 _ rfl;have p4:=cell_at HP2.out 4 _ rfl;have q0:=cell_at HQ2.out 0 _ rfl;have q1:=cell_at HQ2.out 1 _ rfl;have q2:=cell_at HQ2.out 2 _ rfl;have q3:=cell_at HQ2.out 3 _ rfl;have q4:=cell_at HQ2.out 4 _ rfl)
      | (go_at_call 162;refine (HS.out _).mono ?_;rintro e w3 ⟨rfl,hb⟩;have HB3:=jzD (bel_trans HB2.out hb);clear hb))
     go_ret
     exact ⟨retb HF.out,HB2.out⟩
   · rcases hm:(m == m') with _ | _
     · have HF:Hid (false=R):=by show _=_;rw [hR,h1,h2,hm];rfl
       clear hR
       go_enter Tryz.func143,Tryz.ntmps143
       go_wp2_with (first
        | ((with_reducible refine wpList_boxS rfl 198 _ (.tmp 0) rfl rfl (run_boxFrame s c _ v b) ?_);intro w1 hb1 hlt1 hh1;have HB1:=jzD hb1;have HP1:=jzD hh1;clear hb1 hh1)
        | ((with_reducible refine wpList_boxS rfl 198 _ (.tmp 1) rfl rfl (run_boxFrame s' c' _ v' b') ?_);intro w2 hb2 hlt2 hh2;have HB2:=jzD (bel_trans HB1.out hb2);have HP2:=jzD (keep_at HP1.out hb2);have HQ2:=jzD hh2;clear hb2 hh2;have p0:=cell_at HP2.out 0 _ rfl;have p1:=cell_at HP2.out 1 _ rfl;have p2:=cell_at HP2.out 2 _ rfl;have p3:=cell_at HP2.out 3 _ rfl;have p4:=cell_at HP2.out 4 _ rfl;have q0:=cell_at HQ2.out 0 _ rfl;have q1:=cell_at HQ2.out 1 _ rfl;have q2:=cell_at HQ2.out 2 _ rfl;have q3:=cell_at HQ2.out 3 _ rfl;have q4:=cell_at HQ2.out 4 _ rfl)
        | (go_at_call 162;refine (HS.out _).mono ?_;rintro e w3 ⟨rfl,hb⟩;have HB3:=jzD (bel_trans HB2.out hb);clear hb))
       go_ret
       exact ⟨retb HF.out,HB2.out⟩
     · rcases hb3:(b.toList == b'.toList) with _ | _
       · have HF:Hid (false=R):=by show _=_;rw [hR,h1,h2,hm,hb3];rfl
         clear hR
         go_enter Tryz.func143,Tryz.ntmps143
         go_wp2_with (first
          | ((with_reducible refine wpList_boxS rfl 198 _ (.tmp 0) rfl rfl (run_boxFrame s c _ v b) ?_);intro w1 hb1 hlt1 hh1;have HB1:=jzD hb1;have HP1:=jzD hh1;clear hb1 hh1)
          | ((with_reducible refine wpList_boxS rfl 198 _ (.tmp 1) rfl rfl (run_boxFrame s' c' _ v' b') ?_);intro w2 hb2 hlt2 hh2;have HB2:=jzD (bel_trans HB1.out hb2);have HP2:=jzD (keep_at HP1.out hb2);have HQ2:=jzD hh2;clear hb2 hh2;have p0:=cell_at HP2.out 0 _ rfl;have p1:=cell_at HP2.out 1 _ rfl;have p2:=cell_at HP2.out 2 _ rfl;have p3:=cell_at HP2.out 3 _ rfl;have p4:=cell_at HP2.out 4 _ rfl;have q0:=cell_at HQ2.out 0 _ rfl;have q1:=cell_at HQ2.out 1 _ rfl;have q2:=cell_at HQ2.out 2 _ rfl;have q3:=cell_at HQ2.out 3 _ rfl;have q4:=cell_at HQ2.out 4 _ rfl)
          | (go_at_call 162;refine (HS.out _).mono ?_;rintro e w3 ⟨rfl,hb⟩;have HB3:=jzD (bel_trans HB2.out hb);clear hb))
         go_ret
         exact ⟨retb HF.out,HB2.out⟩
       · have HF:Hid (r=R):=by show _=_;rw [hR,h1,h2,hm,hb3];rfl
         clear hR
         go_enter Tryz.func143,Tryz.ntmps143
         go_wp2_with (first
          | ((with_reducible refine wpList_boxS rfl 198 _ (.tmp 0) rfl rfl (run_boxFrame s c _ v b) ?_);intro w1 hb1 hlt1 hh1;have HB1:=jzD hb1;have HP1:=jzD hh1;clear hb1 hh1)
          | ((with_reducible refine wpList_boxS rfl 198 _ (.tmp 1) rfl rfl (run_boxFrame s' c' _ v' b') ?_);intro w2 hb2 hlt2 hh2;have HB2:=jzD (bel_trans HB1.out hb2);have HP2:=jzD (keep_at HP1.out hb2);have HQ2:=jzD hh2;clear hb2 hh2;have p0:=cell_at HP2.out 0 _ rfl;have p1:=cell_at HP2.out 1 _ rfl;have p2:=cell_at HP2.out 2 _ rfl;have p3:=cell_at HP2.out 3 _ rfl;have p4:=cell_at HP2.out 4 _ rfl;have q0:=cell_at HQ2.out 0 _ rfl;have q1:=cell_at HQ2.out 1 _ rfl;have q2:=cell_at HQ2.out 2 _ rfl;have q3:=cell_at HQ2.out 3 _ rfl;have q4:=cell_at HQ2.out 4 _ rfl)
          | (go_at_call 162;refine (HS.out _).mono ?_;rintro e w3 ⟨rfl,hb⟩;have HB3:=jzD (bel_trans HB2.out hb);clear hb))
         go_ret
         exact ⟨retb HF.out,HB3.out⟩

theorem FEq_any (p q:PIn) (w:World) (hp:mayF p.pl) (hq:mayF q.pl):Calls Tryz.prog 143 #[frI p,frI q] w fun e w' => e=.returned (.bool (decide (p.pl=q.pl)))∧Below w.heap.size w w' := by
 obtain ⟨n,hn⟩:=Option.isSome_iff_exists.1 hp.1
 obtain ⟨m,hm⟩:=Option.isSome_iff_exists.1 hq.1
 have h:=FEq_raw p.seat p.count p.cmd (cv p.pl.c) p.body q.seat q.count q.cmd (cv q.pl.c) q.body _ w (fun w=>same_cv hn hm w)
 have e:((p.seat == q.seat && p.count == q.count) && ((p.cmd == q.cmd) && ((p.body.toList == q.body.toList) && decide (p.pl.c=q.pl.c))))=decide (p.pl=q.pl):=by
  obtain ⟨s,c,m,k,t,r,n,f,b⟩:=p
  obtain ⟨s', c', m', k', t', r', n', f', b'⟩:=q
  rw [Bool.eq_iff_iff]
  simp only [Bool.and_eq_true,beq_iff_eq,decide_eq_true_iff,PIn.pl,Pl.mk.injEq,Cn.mk.injEq,ByteArray.toList_eq]
  constructor
  · rintro ⟨⟨h1,h2⟩,h3,h9,h4,h5,h6,h7,h8⟩;exact ⟨h1,h2,h3,⟨h4,h5,h6,h7,h8⟩,h9⟩
  · rintro ⟨h1,h2,h3,⟨h4,h5,h6,h7,h8⟩,h9⟩;exact ⟨⟨h1,h2⟩,h3,h9,h4,h5,h6,h7,h8⟩
 rw [e] at h
 exact h
theorem FAll_any (w:World):Calls Tryz.prog 136 #[] w fun e w' => e=.returned (addrV 127 255)∧Below w.heap.size w w' := by
 go_enter Tryz.func136,Tryz.ntmps136
 go_wp2
 exact bodyPost_ret (v:=addrV 127 255) (by simp [results,Tryz.results136,go_sem]) rfl ⟨rfl,bal (bel0 _) _⟩
end Go.Proofs.YtjddbjmcjhjpiaaGreatDoor
namespace Go.Proofs.YtjddbjmcjhjpiaaGreatDoor
set_option maxRecDepth 100000
set_option maxHeartbeats 4000000
open Go.RowKit M

theorem exec_loadB {P:Program} {a:Act} {oi:Oper} {w:World} {ty:TypeId} {x:Operand} {g:Nat} {cs:Array Value} {t:TypeId} {d:TypeDesc} (ho:oi.op=.load ty x) (hx:a.eval x=.pointer (some ⟨g,0,none⟩)) (hg:w.heap[g]?=some (.cells cs t (0,0)))
 (hu:P.underlying ty=some d) (hd:(match d with | .struct _ | .array _ _=>true | _=>false)=true) (hi:(P.info? ty).map (·.size)=some cs.size):(execOp a.eval oi).run P w=.ok (.value (.agg cs)) w:=by
 simp only [execOp,ho,hx,Instr.loadAt,Instr.sureAddr,Sem.run_bind,Sem.run_pure,Result.andThen_ok,run_loadVar_row w g t ty cs (0,0) d hg hu hd hi]
theorem region_shared {P:Program} {id:Nat} {ops:Array Oper} {a:Act} {w:World} {Q:Exit→Act→World→Prop} (F:World→Prop) (A:Act) (hcont:∀ w5,F w5→Q .normal A w5) (h:(∀ w5,F w5→Q .normal A w5)→(Code.region id ops true).wp P Q a w):(Code.region id ops true).wp P Q a w:=h hcont
section
variable {P:Program} {ops:Array Oper} {rest:List Oper} {o:Oper} {a:Act} {w:World} {Q:Exit→Act→World→Prop}
theorem wpList_loadG (hw:Region.wanted o (yielded ops a.tmps)=true) (ty:TypeId) (x:Operand) (ho:o.op=.load ty x)
 (g:Nat) (hx:a.eval x=.pointer (some ⟨g,0,none⟩)) (t:TypeId) (cs:Array Value) (hg:w.heap[g]?=some (.cells cs t (0,0))) (d:TypeDesc)
 (hu:P.underlying ty=some d) (hd:(match d with | .struct _ | .array _ _=>true | _=>false)=true) (hi:(P.info? ty).map (·.size)=some cs.size)
 (h:wpList P ops Q rest (a.put o.dst (.agg cs)) w):wpList P ops Q (o :: rest) a w :=
 Go.BigFrame.wpList_want hw fun K hK=>wp_val (exec_loadB ho hx hg hu hd hi) (hK _ _ h)
theorem wpList_cmpG (hw:Region.wanted o (yielded ops a.tmps)=true) {op:BinOp} {t t2:TypeId} {x y:Operand} {u v:Value} {b:Bool} (ho:o.op=.binOp op t x y t2) (hx:a.eval x=u) (hy:a.eval y=v)
 (hg:(eqGuard op t x y u v).run P w=.ok () w) (hb:(binOp op t u v).run P w=.ok (.bool b) w) (h:wpList P ops Q rest (a.put o.dst (.bool b)) w):wpList P ops Q (o :: rest) a w :=
 Go.BigFrame.wpList_want hw fun K hK=>wp_val (exec_cmp ho hx hy hg hb) (hK _ _ h)
end
end Go.Proofs.YtjddbjmcjhjpiaaGreatDoor
