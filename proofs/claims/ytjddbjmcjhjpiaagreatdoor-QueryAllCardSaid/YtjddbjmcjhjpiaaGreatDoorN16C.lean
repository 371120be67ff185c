/- Of layer 12: ZB3, ZB4, ZB5, BitM, TickM, MeetM, Ref8a, Q8W, Ref8b, Ref8c, Ref8e, Ref8f, ZA1, LogA2. -/
import Derived.Test.YtjddbjmcjhjpiaaGreatDoorN16B
import Derived.Test.YtjddbjmcjhjpiaaGreatDoorN16A
import Derived.Test.YtjddbjmcjhjpiaaGreatDoorM4A
import Derived.Test.YtjddbjmcjhjpiaaGreatDoorM4I
import Derived.Test.YtjddbjmcjhjpiaaGreatDoorM4G
import Derived.Test.YtjddbjmcjhjpiaaGreatDoorM4F
import Derived.BigRegion
import Derived.Laws.BitsAllLaws
import Derived.Laws.BitsLemmas

set_option linter.all false

namespace Go.Proofs.YtjddbjmcjhjpiaaGreatDoor
set_option maxRecDepth 100000
set_option maxHeartbeats 4000000
open Go.RowKit

theorem Xins_any (g cap:Nat) (l:List Int) (w:World) (hl:l.length≤1000) (hR:Row w g l) :
 Calls Tryz.prog 168 #[.slice (some ⟨g,0,none⟩) l.length cap,.int .i64 0,.int .i64 (l.length:Int)] w fun e w' => e=.returned (.tuple #[])∧∃ m,m.length=l.length∧(∀ x,x ∈ m ↔ x ∈ l)∧Srt m m.length∧Row w' g m∧Below g w w' := by
 obtain ⟨n,hn⟩:∃ n,n=l.length:=⟨_,rfl⟩
 have HL:=jzD hn
 have HR:=jzD hR
 rw [← hn] at hl ⊢
 clear hR hn
 go_enter Tryz.func168,Tryz.ntmps168
 go_wp2
 go_loopw [6] (fun i wr=>∃ (k:Nat) (m:List Int),i=.int .i64 (k:Int)∧1≤k∧(k≤n ∨ k=1)∧m.length=n∧(∀ x,x ∈ m ↔ x ∈ l)∧Srt m k∧Row wr g m∧Below g w wr) (fun i _=>n + 1 - (intOf i).toNat)
 case atStart=>exact ⟨1,l,rfl,by omega,by omega,HL.out.symm,fun _=>Iff.rfl,srt_one l,HR.out,Below.refl _ _⟩
 case round =>
  obtain ⟨k,m,rfl,hk1,hkn,hm,hmem,hs,hr,hb⟩:=hrel
  have HM:=jzD hm
  have HMEM:=jzD hmem
  have HS:=jzD hs
  have HROW:=jzD hr
  have HB:=jzD hb
  clear hm hmem hs hr hb
  by_cases hlt:k < n
  · have td:decide ((k:Int) < (n:Int))=true:=decide_eq_true (by omega)
    go_wp2
    go_loopw [7] (fun i wr=>∃ (j:Nat) (m:List Int),i=.int .i64 (j:Int)∧j≤k∧m.length=n∧(∀ x,x ∈ m ↔ x ∈ l)∧Ins m k j∧Row wr g m∧Below g w wr) (fun i _=>(intOf i).toNat)
    case atStart=>exact ⟨k,m,rfl,Nat.le_refl _,HM.out,HMEM.out,srt_ins HS.out,HROW.out,HB.out⟩
    case round =>
     clear HM HMEM HS HROW HB m
     obtain ⟨j,m,rfl,hjk,hm,hmem,hins,hr,hb⟩:=hrel
     have HM:=jzD hm
     have HMEM:=jzD hmem
     have HINS:=jzD hins
     have HB:=jzD hb
     have HROW:=jzD hr
     clear hm hmem hins hb hr
     rcases Nat.eq_zero_or_pos j with hj | hj
     · have HJ:=jzD hj
       have td0:decide ((0:Int) < (j:Int))=false:=decide_eq_false (by omega)
       have td1:¬ (0:Int) < (j:Int):=by omega
       have td2:¬ 0 < j:=by omega
       clear hj
       go_wp2_with fail
       refine regq (fun W=>Row W g m∧Below g w W) (by kernel_rfl) (by kernel_rfl) (⟨HROW.out,HB.out.drew⟩) ?_
       iterate 4 refine qtk ?_
       iterate 10 refine qsk ?_
       refine qtk ?_
       refine q_done ?_
       rintro w' ⟨hr', hb'⟩
       have HR' := jzD hr'
       have HB' := jzD hb'
       clear hr' hb'
       go_wp2
       go_roundw
       case rel=>exact ⟨k + 1,m,by go_num,by omega,.inl (by omega),HM.out,HMEM.out,ins_stop HINS.out hjk (.inl HJ.out),HR'.out,HB'.out⟩
       case measure=>simp [intOf] <;> omega
     · obtain ⟨p,rfl⟩:∃ p,j=p + 1:=⟨j - 1,by omega⟩
       have hp1:p + 1 < m.length:=by rw [HM.out];omega
       have hp0:p < m.length:=by omega
       have hless:=fun w=>Xless_any (gd m (p + 1)) (gd m p) w
       have hwp:IntKind.i64.wrap (p:Int)=(p:Int):=IntWalk.i64_in _ (by omega)
       have jz:(p:Int) + 1 < (n:Int):=by omega
       have jz1:(p:Int) < (n:Int):=by omega
       have p0:(0:Int)≤(p:Int) + 1:=by omega
       have p1:(0:Int) < (p:Int) + 1:=by omega
       have e0:((p:Int) + 1).toNat=p + 1:=by omega
       by_cases hq:gd m (p + 1) < gd m p
       · have hless2:=hless
         rw [decide_eq_true hq] at hless2
         have HLESS:=jzD hless2
         clear hless2
         go_wp2_with fail
         refine regq (fun W=>Row W g m∧Below g w W) (by kernel_rfl) (by kernel_rfl) (⟨HROW.out,HB.out.drew⟩) ?_
         iterate 7 refine qtk ?_
         refine qtk ?_ (hy:=by intro W HW;have cw1:=(HW.1 (p + 1) hp1).1;go_simp;try with_reducible rfl)
         iterate 4 refine qtk ?_
         refine qtk ?_ (hy:=by intro W HW;have cw0:=(HW.1 p hp0).1;go_simp;try with_reducible rfl)
         refine q_call 99 #[.int .u32 (gd m (p + 1)),.int .u32 (gd m p)] (by rfl) (by intro W HW;go_simp) (fun W HW=>(HLESS.out W).mono fun e W2 h2=>⟨h2.1,by rw [h2.2];exact HW⟩) ?_
         simp only [Act.put,jzU,jzV,jzW]
         refine qtk ?_
         refine q_done ?_
         rintro w' ⟨hr', hb'⟩
         obtain ⟨c1,f1⟩:=hr' (p + 1) hp1
         obtain ⟨c0,f0⟩:=hr' p hp0
         have HSW:=jzD (Row.swap hr' hp1)
         have HBS:=jzD ((hb'.setCell (p:=⟨g,p + 1,none⟩) (Nat.le_refl _) (.int .u32 (gd m p))).setCell (p:=⟨g,p,none⟩) (Nat.le_refl _) (.int .u32 (gd m (p + 1))))
         have HSTEP:=jzD (ins_step HINS.out hjk (by rw [HM.out];omega) hq)
         have HMS:Hid ((sw m p).length=n):=by show _=_;rw [sw_len];exact HM.out
         have HMM:Hid (∀ x,x ∈ sw m p ↔ x ∈ l):=by show ∀ _,_;intro x;rw [mem_sw hp1];exact HMEM.out x
         have HQ:=jzD hq
         clear hr' hb' hq hless HLESS HINS HM HMEM HROW HB
         obtain ⟨j1,hj1⟩:∃ j1,j1=p + 1:=⟨_,rfl⟩
         rw [← hj1] at c1 f1 e0
         have J1:=jzD hj1
         obtain ⟨x1,hx1⟩:∃ x,x=gd m (p + 1):=⟨_,rfl⟩
         obtain ⟨x0,hx0⟩:∃ x,x=gd m p:=⟨_,rfl⟩
         rw [hj1,← hx1] at c1
         rw [← hx0] at c0
         rw [← hx1,← hx0] at HSW HBS
         have X1:=jzD hx1
         have X0:=jzD hx0
         rw [← hj1] at c1
         clear hj1 hx1 hx0
         go_wp2_with fail
         go_big_region
         all_goals go_wp2
         refine ⟨⟨p,sw m p,rfl,by omega,HMS.out,HMM.out,HSTEP.out,?_,?_⟩,by simp [intOf] <;> omega⟩
         · rw [J1.out];exact HSW.out.drew
         · rw [J1.out];exact HBS.out.drew
       · have hq2:decide (gd m (p + 1) < gd m p)=false:=decide_eq_false hq
         have hless2:=hless
         rw [hq2] at hless2
         have HLESS:=jzD hless2
         have HQ:=jzD hq
         clear hless hless2 hq2 hq
         go_wp2_with fail
         refine regq (fun W=>Row W g m∧Below g w W) (by kernel_rfl) (by kernel_rfl) (⟨HROW.out,HB.out.drew⟩) ?_
         iterate 7 refine qtk ?_
         refine qtk ?_ (hy:=by intro W HW;have cw1:=(HW.1 (p + 1) hp1).1;go_simp;try with_reducible rfl)
         iterate 4 refine qtk ?_
         refine qtk ?_ (hy:=by intro W HW;have cw0:=(HW.1 p hp0).1;go_simp;try with_reducible rfl)
         refine q_call 99 #[.int .u32 (gd m (p + 1)),.int .u32 (gd m p)] (by rfl) (by intro W HW;go_simp) (fun W HW=>(HLESS.out W).mono fun e W2 h2=>⟨h2.1,by rw [h2.2];exact HW⟩) ?_
         simp only [Act.put,jzU,jzV,jzW]
         refine qtk ?_
         refine q_done ?_
         rintro w' ⟨hr', hb'⟩
         have HR' := jzD hr'
         have HB' := jzD hb'
         clear hr' hb'
         go_wp2
         go_roundw
         case rel=>exact ⟨k + 1,m,by go_num,by omega,.inl (by omega),HM.out,HMEM.out,ins_stop HINS.out hjk (.inr (by show gd m (p + 1 - 1)≤_;rw [Nat.add_sub_cancel];have := HQ.out;omega)),HR'.out,HB'.out⟩
         case measure=>simp [intOf] <;> omega
  · have td:decide ((k:Int) < (n:Int))=false:=decide_eq_false (by omega)
    go_wp2
    go_end0
    refine ⟨rfl,m,HM.out,HMEM.out,?_,HROW.out,HB.out⟩
    rw [HM.out]
    intro a b h1 h2
    rcases hkn with h | h
    · exact HS.out a b h1 (by omega)
    · omega
end Go.Proofs.YtjddbjmcjhjpiaaGreatDoor

namespace Go.Proofs.YtjddbjmcjhjpiaaGreatDoor
set_option maxRecDepth 1000000
set_option maxHeartbeats 2000000
open Go.RowKit

theorem Xlen64_any (n:Nat) (w:World) (hn:n≤12):Calls Tryz.prog 177 #[.int .u64 (n:Int)] w fun e w' => (∃ k,e=.returned (.int .i64 k))∧w' = w:=by
 rcases (show n=0 ∨ n=1 ∨ n=2 ∨ n=3 ∨ n=4 ∨ n=5 ∨ n=6 ∨ n=7 ∨ n=8 ∨ n=9 ∨ n=10 ∨ n=11 ∨ n=12 by omega) with rfl | rfl | rfl | rfl | rfl | rfl | rfl | rfl | rfl | rfl | rfl | rfl | rfl <;>
 · go_enter Tryz.func177,Tryz.ntmps177
   go_wp2
   go_ret
   exact ⟨⟨_,rfl⟩,rfl⟩
theorem Xlen_any (n:Nat) (w:World) (hn:n≤12):Calls Tryz.prog 152 #[.int .u64 (n:Int)] w fun e w' => (∃ k,e=.returned (.int .i64 k))∧w' = w:=by
 have h:=fun w=>Xlen64_any n w hn
 have H:=jzD h
 clear h
 go_enter Tryz.func152,Tryz.ntmps152
 go_wp2_with (go_at_call 177;(with_reducible refine (H.out _).mono ?_);rintro e w2 ⟨⟨k,rfl⟩,rfl⟩)
 go_ret
 exact ⟨⟨k,rfl⟩,rfl⟩
theorem Xins_nil (w:World):Calls Tryz.prog 168 #[.slice none 0 0,.int .i64 0,.int .i64 0] w fun e w' => e=.returned (.tuple #[])∧w' = w:=by
 go_enter Tryz.func168,Tryz.ntmps168
 go_wp2
 go_loopw [6] (fun i wr=>wr=w∧i=.int .i64 1) (fun _ _=>0)
 case atStart=>exact ⟨rfl,rfl⟩
 case round =>
  obtain ⟨rfl,rfl⟩:=hrel
  go_wp2
  go_end0
  exact ⟨rfl,rfl⟩
theorem Xpdq_of (A:Option Addr) (n cap:Nat) (lim:Int) (w:World) (hn:n≤12) (R:World→Prop)
 (h:Calls Tryz.prog 168 #[.slice A n cap,.int .i64 0,.int .i64 (n:Int)] w fun e w' => e=.returned (.tuple #[])∧R w') :
 Calls Tryz.prog 151 #[.slice A n cap,.int .i64 0,.int .i64 (n:Int),.int .i64 lim] w fun e w' => e=.returned (.tuple #[])∧R w' := by
 have td:decide ((n:Int)≤(12:Int))=true:=decide_eq_true (by omega)
 have wn:IntKind.i64.wrap (n:Int)=(n:Int):=IntWalk.i64_in _ (by omega)
 have H:=jzD h
 clear h hn
 go_enter Tryz.func151,Tryz.ntmps151
 go_wp2
 go_loopw [1,2] (fun a b wr=>wr=w∧a=.int .i64 0∧b=.int .i64 (n:Int)) (fun _ _ _=>0)
 case atStart=>exact ⟨rfl,rfl,rfl⟩
 case round =>
  obtain ⟨rfl,rfl,rfl⟩:=hrel
  go_wp2_with (go_at_call 168;(with_reducible refine (H.out).mono ?_);rintro e w2 ⟨rfl,hr⟩;have HR:=jzD hr;clear hr)
  refine bodyPost_ret (results_none rfl _ _ _) rfl ?_
  exact ⟨rfl,HR.out⟩
def SlU (base:Nat) (w:World) (v:Value) (l:List Int):Prop:=(v=.slice none 0 0∧l=[]) ∨ ∃ g cap,v=.slice (some ⟨g,0,none⟩) l.length cap∧base≤g∧g < w.heap.size∧Row w g l
theorem SlU.of_own {base:Nat} {w:World} {v:Value} {l:List Int} (h:OwnU w base v l):SlU base w v l:=by
 have h' := h
 rcases h'.2 with ⟨hv,hl⟩ | ⟨g,cap,cur,rfl,hb,hg,hc,-⟩
 · exact .inl ⟨hv,by cases l with | nil=>rfl | cons x l=>simp at hl⟩
 · refine .inr ⟨g,cap,rfl,hb,lt_at hg,fun k hk=>⟨?_,by simp [World.frozen?,hg]⟩⟩
   have hx:(l.map (Value.int .u32))[k]?=some (.int .u32 (gd l k)):=by
    rw [gd_at hk];simp [hk]
   have := World.ownsRow.cells h (g:=g) rfl k _ hx
   rw [addr_add,Nat.zero_add] at this
   exact this
theorem SlU.below {base:Nat} {w w' : World} {v:Value} {l:List Int} (h:SlU base w v l) (hb:Below w.heap.size w w'):SlU base w' v l:=by
 rcases h with h | ⟨g,cap,e,h1,h2,h3⟩
 · exact .inl h
 · exact .inr ⟨g,cap,e,h1,Nat.lt_of_lt_of_le h2 hb.size,fun k hk=>⟨(hb.cell (p:=⟨g,k,none⟩) h2).trans (h3 k hk).1,((below_cell hb).2 g k h2).trans (h3 k hk).2⟩⟩
def Sorts (base:Nat) (l:List Int) (v:Value) (w w' : World):Prop:=∃ m,m.length=l.length∧(∀ x,x ∈ m ↔ x ∈ l)∧Srt m m.length∧SlU base w' v m∧Below base w w'
theorem Xins_sorts (base:Nat) (A:Option Addr) (cap:Nat) (l:List Int) (w:World) (hl:l.length≤1000) (h:SlU base w (.slice A l.length cap) l) (hb:base≤w.heap.size) :
 Calls Tryz.prog 168 #[.slice A l.length cap,.int .i64 0,.int .i64 (l.length:Int)] w fun e w' => e=.returned (.tuple #[])∧Sorts base l (.slice A l.length cap) w w' := by
 rcases h with ⟨h,rfl⟩ | ⟨g,cap', h,h1,h2,h3⟩
 · injection h with hA _ hC
   subst hA;subst hC
   refine (Xins_nil w).mono ?_
   rintro e w' ⟨rfl,rfl⟩
   exact ⟨rfl,[],rfl,fun _=>Iff.rfl,fun a b h1 h2=>absurd h2 (by simp),.inl ⟨rfl,rfl⟩,Below.refl _ _⟩
 · injection h with hA _ hC
   subst hA;subst hC
   refine (Xins_any g cap l w hl h3).mono ?_
   rintro e w' ⟨rfl,m,hm,hmem,hs,hr,hbl⟩
   exact ⟨rfl,m,hm,hmem,hs,.inr ⟨g,cap,by rw [hm],h1,Nat.lt_of_lt_of_le h2 hbl.size,hr⟩,hbl.mono h1⟩
theorem Xsort_any (base:Nat) (A:Option Addr) (cap:Nat) (l:List Int) (w:World) (hl:l.length≤12) (h:SlU base w (.slice A l.length cap) l) (hb:base≤w.heap.size) :
 Calls Tryz.prog 121 #[.slice A l.length cap] w fun e w' => e=.returned (.tuple #[])∧Sorts base l (.slice A l.length cap) w w' := by
 have hp:=fun lim=>Xpdq_of A l.length cap lim w hl _ (Xins_sorts base A cap l w (by omega) h hb)
 have hq:=fun w=>Xlen_any l.length w hl
 have wn:IntKind.u64.wrap (l.length:Int)=(l.length:Int):=by rw [IntKind.wrap_u64];omega
 have HP:=jzD hp
 have HQ:=jzD hq
 clear hp hq h hb
 go_enter Tryz.func121,Tryz.ntmps121
 go_wp2_with (first
  | (go_at_call 152;(with_reducible refine (HQ.out _).mono ?_);rintro e w2 ⟨⟨k,rfl⟩,rfl⟩)
  | (go_at_call 151;(with_reducible refine (HP.out _).mono ?_);rintro e w2 ⟨rfl,hr⟩;have HR:=jzD hr;clear hr))
 go_end0
 exact ⟨rfl,HR.out⟩
theorem Xsorted_any (Bs:Nat) (A:Option Addr) (cap:Nat) (zs:List Int) (hlen:zs.length≤12) (w:World) (hBs:Bs < w.heap.size)
 (hc:w.cell? ⟨Bs,0,none⟩=some (.slice A zs.length cap)) (hI:RdB w.heap.size w A zs) :
 Calls Tryz.prog 96 #[.func (.func 122) #[] #[.pointer (some ⟨Bs,0,none⟩)]] w fun e w' => ∃ v,e=.returned v∧Sorts w.heap.size zs v w w' := by
 have HA:=jzD (Xcol_any Bs A cap zs (by omega) w hBs hc hI)
 have hs:∀ w2,∀ A2 cap2,SlU w.heap.size w2 (.slice A2 zs.length cap2) zs→Below w.heap.size w w2→Calls Tryz.prog 121 #[.slice A2 zs.length cap2] w2 fun e w' => e=.returned (.tuple #[])∧Sorts w.heap.size zs (.slice A2 zs.length cap2) w2 w' := fun w2 A2 cap2 h hb=>Xsort_any w.heap.size A2 cap2 zs w2 hlen h hb.size
 have HS:=jzD hs
 clear hc hI hs
 go_enter Tryz.func96,Tryz.ntmps96
 go_wp2_with (first
  | (go_at_call 120;(with_reducible refine (HA.out).mono ?_);rintro e w2 ⟨v,rfl,ho,hb⟩;obtain ⟨A2,cap2,rfl⟩:∃ A2 cap2,v=.slice A2 zs.length cap2:=(by rcases SlU.of_own ho with ⟨h1,h2⟩ | ⟨g,c,h1,_⟩;(· exact ⟨none,0,by rw [h1,h2];rfl⟩);(· exact ⟨_,c,h1⟩));have HO:=jzD (SlU.of_own ho);have HB:=jzD hb;clear ho hb)
  | (go_at_call 121;(with_reducible refine (HS.out _ _ _ HO.out HB.out).mono ?_);rintro e w3 ⟨rfl,hr⟩;have HR:=jzD hr;clear hr))
 go_ret
 obtain ⟨m,h1,h2,h3,h4,h5⟩:=HR.out
 exact ⟨_,rfl,m,h1,h2,h3,h4,HB.out.trans h5⟩
end Go.Proofs.YtjddbjmcjhjpiaaGreatDoor

namespace Go.Proofs.YtjddbjmcjhjpiaaGreatDoor
set_option maxRecDepth 100000
set_option maxHeartbeats 4000000
open Go.RowKit

theorem SlU.at_ {base:Nat} {w:World} {A:Option Addr} {cap:Nat} {l:List Int} (h:SlU base w (.slice A l.length cap) l) {k:Nat} (hk:k < l.length):∃ g,A=some ⟨g,0,none⟩∧w.cell? ⟨g,k,none⟩=some (.int .u32 (gd l k)):=by
 rcases h with ⟨_,rfl⟩ | ⟨g,cap', h,_,_,h3⟩
 · simp at hk
 · injection h with hA
   exact ⟨g,hA,(h3 k hk).1⟩
theorem Xbin_any (base:Nat) (A:Option Addr) (cap:Nat) (l:List Int) (x:Int) (w:World) (hl:l.length≤1000) (h:SlU base w (.slice A l.length cap) l) (hs:Srt l l.length) :
 Calls Tryz.prog 81 #[.slice A l.length cap,.int .u32 x] w fun e w' => (∃ k,e=.returned (.tuple #[.int .i64 k,.bool (decide (x ∈ l))]))∧w' = w:=by
 have HH:=jzD h
 have HS:=jzD hs
 have hn:=fun w=>XsNaN_any x w
 obtain ⟨q,hq⟩:∃ q,q=decide (x ∈ l):=⟨_,rfl⟩
 rw [← hq]
 have HQ:=jzD hq
 clear h hs hq
 go_enter Tryz.func81,Tryz.ntmps81
 go_wp2
 go_loopw [7,8] (fun i j wr=>wr=w∧∃ a b:Nat,i=.int .i64 (a:Int)∧j=.int .i64 (b:Int)∧Half l x a b) (fun i j _=>(intOf j).toNat - (intOf i).toNat)
 case atStart=>exact ⟨rfl,0,l.length,rfl,rfl,half_start l x⟩
 case round =>
  obtain ⟨rfl,a,b,rfl,rfl,hh⟩:=hrel
  have hab:=hh.1
  have hbl:=hh.2.1
  have HF:=jzD hh
  clear hh
  by_cases hlt:a < b
  · have td:decide ((a:Int) < (b:Int))=true:=decide_eq_true (by omega)
    obtain ⟨m,hm⟩:∃ m,m=(a + b) / 2:=⟨_,rfl⟩
    have m1:a≤m∧m < b:=by omega
    have w1:IntKind.i64.wrap ((a:Int) + (b:Int))=(a:Int) + (b:Int):=IntWalk.i64_in _ (by omega)
    have w2:IntKind.u64.wrap ((a:Int) + (b:Int))=(a:Int) + (b:Int):=by rw [IntKind.wrap_u64];omega
    have w3:((a:Int) + (b:Int)) / 2=(m:Int):=by omega
    have w4:IntKind.i64.wrap (m:Int)=(m:Int):=IntWalk.i64_in _ (by omega)
    have w5:IntKind.i64.wrap ((m:Int) + 1)=(m:Int) + 1:=IntWalk.i64_in _ (by omega)
    obtain ⟨g,rfl,c1⟩:=HH.out.at_ (k:=m) (by omega)
    have jz:(m:Int) < (l.length:Int):=by omega
    have HM:=jzD hm
    clear hm
    have hless:=fun w=>Xless_any (gd l m) x w
    by_cases hc:gd l m < x
    · rw [decide_eq_true hc] at hless
      have HL:=jzD hless
      have HU:=jzD (half_up HS.out HF.out m1.1 m1.2 hc)
      clear hless hc
      go_wp2_with (go_at_call 99;(with_reducible refine (HL.out _).mono ?_);rintro e w' ⟨rfl,rfl⟩)
      go_roundw
      case rel=>exact ⟨trivial,m + 1,b,by go_num,rfl,HU.out⟩
      case measure=>simp [intOf] <;> omega
    · rw [decide_eq_false hc] at hless
      have HL:=jzD hless
      have HU:=jzD (half_down HS.out HF.out m1.1 m1.2 hc)
      clear hless hc
      go_wp2_with (go_at_call 99;(with_reducible refine (HL.out _).mono ?_);rintro e w' ⟨rfl,rfl⟩)
      go_roundw
      case rel=>exact ⟨trivial,a,m,rfl,rfl,HU.out⟩
      case measure=>simp [intOf] <;> omega
  · have td:decide ((a:Int) < (b:Int))=false:=decide_eq_false (by omega)
    obtain rfl:a=b:=by omega
    have hin:=half_in HS.out HF.out
    by_cases hal:a < l.length
    · have t2:decide ((a:Int) < (l.length:Int))=true:=decide_eq_true (by omega)
      have jz:(a:Int) < (l.length:Int):=by omega
      obtain ⟨g,rfl,c1⟩:=HH.out.at_ hal
      obtain ⟨y,hy⟩:∃ y,gd l a=y:=⟨_,rfl⟩
      rw [hy] at c1 hin
      clear hy
      rcases he:(y == x) with _ | _
      · have HQ2:Hid (q=false):=by show q=false;rw [HQ.out];exact decide_eq_false (fun h=>beq_eq_false_iff_ne.1 he (hin.1 h).2)
        have HN:=jzD (fun w=>XsNaN_any y w)
        clear hin
        go_wp2_with (go_at_call 100;(with_reducible refine (HN.out _).mono ?_);rintro e w' ⟨rfl,rfl⟩)
        go_ret2
        exact ⟨⟨(a:Int),by rw [HQ2.out];rfl⟩,rfl⟩
      · have HQ2:Hid (q=true):=by show q=true;rw [HQ.out];exact decide_eq_true (hin.2 ⟨hal,beq_iff_eq.1 he⟩)
        clear hin
        go_wp2
        go_ret2
        exact ⟨⟨(a:Int),by rw [HQ2.out];rfl⟩,rfl⟩
    · have t2:decide ((a:Int) < (l.length:Int))=false:=decide_eq_false (by omega)
      have HQ2:Hid (q=false):=by show q=false;rw [HQ.out];exact decide_eq_false (fun h=>hal (hin.1 h).1)
      clear hin
      go_wp2
      go_ret2
      exact ⟨⟨(a:Int),by rw [HQ2.out];rfl⟩,rfl⟩

theorem Xleast_any (base:Nat) (A:Option Addr) (cap:Nat) (l:List Int) (w:World) (hl:l.length≤1000) (h:SlU base w (.slice A l.length cap) l) :
 Calls Tryz.prog 98 #[.slice A l.length cap] w fun e w' => e=.returned (.int .u32 (leastS l 1))∧w' = w:=by
 have HH:=jzD h
 clear h
 go_enter Tryz.func98,Tryz.ntmps98
 go_wp2
 go_loopw [3,8] (fun n i wr=>wr=w∧∃ k:Nat,k≤l.length∧i=.int .i64 (k:Int)∧n=.int .u32 (leastS (l.take k) 1)) (fun _ i _=>l.length - (intOf i).toNat)
 case atStart=>exact ⟨rfl,0,by omega,rfl,rfl⟩
 case round =>
  obtain ⟨rfl,k,hk,rfl,rfl⟩:=hrel
  have hb:=leastS_len l k
  by_cases hlt:k < l.length
  · have td:decide ((k:Int) < (l.length:Int))=true:=decide_eq_true (by omega)
    obtain ⟨g,rfl,c1⟩:=HH.out.at_ hlt
    have hst:=leastS_take l k 1 hlt
    obtain ⟨n,hn⟩:∃ n,n=leastS (l.take k) 1:=⟨_,rfl⟩
    rw [← hn] at hst hb ⊢
    have wn:IntKind.u32.wrap (n + 1)=n + 1:=by rw [IntKind.wrap_u32'];omega
    clear hn
    obtain ⟨y,hy⟩:∃ y,gd l k=y:=⟨_,rfl⟩
    rw [hy] at c1 hst
    clear hy
    rcases he:(y == n) with _ | _
    · have HN:Hid (n=leastS (l.take (k + 1)) 1):=by show _=_;rw [hst,if_neg (beq_eq_false_iff_ne.1 he)]
      clear hst
      go_wp2
      go_roundw
      case rel=>exact ⟨trivial,k + 1,by omega,by go_num,by rw [← HN.out]⟩
      case measure=>simp [intOf] <;> omega
    · have HN:Hid (n + 1=leastS (l.take (k + 1)) 1):=by show _=_;rw [hst,if_pos (beq_iff_eq.1 he)]
      clear hst
      go_wp2
      go_roundw
      case rel=>exact ⟨trivial,k + 1,by omega,by go_num,by rw [← HN.out]⟩
      case measure=>simp [intOf] <;> omega
  · have td:decide ((k:Int) < (l.length:Int))=false:=decide_eq_false (by omega)
    have HT:Hid (l.take k=l):=by show _=_;exact List.take_of_length_le (by omega)
    obtain ⟨n,hn⟩:∃ n,n=leastS (l.take k) 1:=⟨_,rfl⟩
    rw [← hn]
    have HN:=jzD hn
    clear hn hb
    go_wp2
    go_ret
    exact ⟨by rw [show leastS l 1=n by rw [HN.out,HT.out]];rfl,rfl⟩
end Go.Proofs.YtjddbjmcjhjpiaaGreatDoor

namespace Go.Proofs.YtjddbjmcjhjpiaaGreatDoor

theorem i64_and_mask (k:Nat) (hk:k≤62) (n:Int):bits .and .i64 n (2 ^ k - 1)=n % 2 ^ k:=by
 have hp:(2:Nat) ^ k≤2 ^ 62:=Nat.pow_le_pow_right (by decide) hk
 have hp1:1≤(2:Nat) ^ k:=Nat.one_le_two_pow
 have e62:(2:Nat) ^ 62=4611686018427387904:=by decide
 have hm:(BitVec.ofInt 64 ((2:Int) ^ k - 1)).toNat=2 ^ k - 1:=by
  rw [BitVec.toNat_ofInt,show ((2:Int) ^ k - 1)=((2 ^ k - 1:Nat):Int) by push_cast [Int.natCast_sub hp1];rfl]
  have : ((2 ^ 64:Nat):Int)=18446744073709551616:=by decide
  rw [this]
  omega
 have key:(BitVec.ofInt 64 n &&& BitVec.ofInt 64 ((2:Int) ^ k - 1)).toNat=(n % ((2 ^ 64:Nat):Int)).toNat % 2 ^ k:=by
  rw [BitVec.toNat_and,BitVec.toNat_ofInt,hm,Nat.and_two_pow_sub_one_eq_mod]
 show IntKind.i64.wrap ((BitVec.ofInt 64 n &&& BitVec.ofInt 64 ((2:Int) ^ k - 1)).toNat:Nat)=_
 have hd:((2:Int) ^ k) ∣ ((2 ^ 64:Nat):Int):=by
  rw [show ((2 ^ 64:Nat):Int)=(2:Int) ^ 64 by decide]
  exact ⟨(2:Int) ^ (64 - k),by rw [← Int.pow_add,show k + (64 - k)=64 by omega]⟩
 have hn0:0≤n % ((2 ^ 64:Nat):Int):=Int.emod_nonneg _ (by decide)
 have e:(((n % ((2 ^ 64:Nat):Int)).toNat % 2 ^ k:Nat):Int)=n % 2 ^ k:=by
  rw [Int.natCast_emod,Int.toNat_of_nonneg hn0,show (((2:Nat) ^ k:Nat):Int)=(2:Int) ^ k by push_cast;rfl,Int.emod_emod_of_dvd _ hd]
 rw [key,e,IntKind.wrap_i64]
 have h1:0≤n % (2:Int) ^ k:=Int.emod_nonneg _ (by have : (0:Int) < 2 ^ k:=Int.pow_pos (by decide);omega)
 have h2:n % (2:Int) ^ k < 2 ^ k:=Int.emod_lt_of_pos _ (Int.pow_pos (by decide))
 have hc:(2:Int) ^ k=(((2:Nat) ^ k:Nat):Int):=by push_cast;rfl
 rw [e62] at hp
 rw [hc] at h1 h2 ⊢
 omega
theorem i64_and1 (n:Int):bits .and .i64 n 1=n % 2:=i64_and_mask 1 (by decide) n
theorem i64_and_nat (a b:Nat) (ha:a < 9223372036854775808) (hb:b < 9223372036854775808):bits .and .i64 (a:Int) (b:Int)=((a &&& b:Nat):Int):=by
 show IntKind.i64.wrap ((BitVec.ofInt 64 (a:Int) &&& BitVec.ofInt 64 (b:Int)).toNat:Nat)=_
 rw [BitVec.toNat_and,ofInt_u64 a (by omega),ofInt_u64 b (by omega),IntKind.wrap_i64]
 have : a &&& b≤a:=Nat.and_le_left
 omega
theorem atB_small {n:Int} {m i:Nat} (h0:0≤n) (h:n < 2 ^ m) (hi:m≤i):atB n i=false:=by
 unfold atB
 have h2:(2:Int) ^ m≤2 ^ i:=by
  have : (2:Nat) ^ m≤2 ^ i:=Nat.pow_le_pow_right (by decide) hi
  exact_mod_cast this
 rw [Int.ediv_eq_zero_of_lt h0 (by omega)]
 rfl
theorem highB_div {n:Int} (h0:0≤n):∀ k,n < 2 ^ k→(n=0∧highB n k=-1) ∨ (0≤highB n k∧n / 2 ^ (highB n k).toNat=1)
 | 0,h=>by left;exact ⟨by simp at h;omega,rfl⟩
 | k + 1,h=>by
  have hp:(0:Int) < 2 ^ k:=Int.pow_pos (by decide)
  rw [Int.pow_succ] at h
  by_cases hb:atB n k=true
  · right
    unfold highB
    rw [if_pos hb]
    refine ⟨by omega,?_⟩
    show n / 2 ^ ((k:Int).toNat)=1
    rw [Int.toNat_natCast]
    have h1:n / 2 ^ k < 2:=Int.ediv_lt_of_lt_mul hp (by omega)
    have h2:0≤n / 2 ^ k:=Int.ediv_nonneg h0 (by omega)
    unfold atB at hb
    rw [beq_iff_eq] at hb
    omega
  · have hn:n < 2 ^ k:=by
     unfold atB at hb
     rw [beq_iff_eq] at hb
     have h1:n / 2 ^ k < 2:=Int.ediv_lt_of_lt_mul hp (by omega)
     have h2:0≤n / 2 ^ k:=Int.ediv_nonneg h0 (by omega)
     have h3:n / 2 ^ k=0:=by omega
     have := Int.emod_add_mul_ediv n (2 ^ k)
     rw [h3] at this
     have h4:=Int.emod_lt_of_pos n hp
     omega
    unfold highB
    rw [if_neg hb]
    exact highB_div h0 k hn
end Go.Proofs.YtjddbjmcjhjpiaaGreatDoor

namespace Go.Proofs.YtjddbjmcjhjpiaaGreatDoor

end Go.Proofs.YtjddbjmcjhjpiaaGreatDoor

namespace Go.Proofs.YtjddbjmcjhjpiaaGreatDoor

theorem high_bound {n:Int} (h1:1≤n) (m:Nat) (hm:m≤16) (h2:n < 2 ^ m):0≤high n∧high n < m:=by
 have h16:n < 2 ^ 16:=by
  have : (2:Nat) ^ m≤2 ^ 16:=Nat.pow_le_pow_right (by decide) hm
  have : (2:Int) ^ m≤2 ^ 16:=by exact_mod_cast this
  omega
 rcases highB_div (show 0≤n by omega) 16 h16 with ⟨h,_⟩ | ⟨h,hd⟩
 · omega
 · refine ⟨h,?_⟩
   unfold high
   rcases Int.lt_or_le (highB n 16) m with hl | hl
   · exact hl
   · have h3:=highB_at n 16 (by omega)
     rw [atB_small (m:=m) (by omega) h2 (by omega)] at h3
     cases h3
theorem mayO_parts {o:Of5} (h:mayO o=true):(1≤o.baud∧o.baud≤15∧o.baud % 2=1)∧(1≤o.silent∧o.silent≤7∧o.silent % 2=1)∧(1≤o.win∧o.win≤127)∧(1≤o.size∧o.size≤15)∧(1≤o.wait∧o.wait≤7):=by
 unfold mayO at h
 exact of_decide_eq_true h
theorem dealD_bounds {a b:Of5} (ha:mayO a=true) (hb:mayO b=true) :
 (32≤(dealD a b).baud∧(dealD a b).baud≤256)∧(0≤(dealD a b).size∧(dealD a b).size≤64)∧(1≤frameM (dealD a b).size (dealD a b).baud∧frameM (dealD a b).size (dealD a b).baud≤5)∧(1≤(dealD a b).win∧(dealD a b).win≤high b.win + 1∧(dealD a b).win≤7)∧(dealD a b).win * frameM (dealD a b).size (dealD a b).baud≤30:=by
 have ba:=(mayO_bits ha).1
 have bb:=(mayO_bits hb).1
 obtain ⟨_,_,b1,b2⟩:=baud_pos ba bb
 have hs:=sizeQ_bound (high b.size)
 have hf:=frameM_bound hs b1
 have hw:=high_bound (mayO_parts hb).2.2.1.1 7 (by decide) (by have := (mayO_parts hb).2.2.1.2;show b.win < 128;omega)
 have hg:=winM_ge (frameM (sizeQ (high b.size)) (baud (hi2 a.baud b.baud 4))) (high b.win + 1).toNat
 exact ⟨⟨b1,b2⟩,hs,hf,⟨hg.1,by show winM _ _≤_;omega,by show winM _ _≤_;omega⟩,winM_fits (by omega) _⟩
end Go.Proofs.YtjddbjmcjhjpiaaGreatDoor

namespace Go.Proofs.YtjddbjmcjhjpiaaGreatDoor
open Go.RowKit

theorem highB_f {n:Int} {k:Nat} (h:atB n k=false):highB n (k + 1)=highB n k:=by
 show (if atB n k then (k:Int) else highB n k)=_
 rw [h];rfl
theorem highB_t {n:Int} {k:Nat} (h:atB n k=true):highB n (k + 1)=(k:Int):=by
 show (if atB n k then (k:Int) else highB n k)=_
 rw [h];rfl
theorem lowB_f {n:Int} {k:Nat} (h:atB n (15 - k)=false):lowB n (k + 1)=lowB n k:=by
 show (if atB n (15 - k) then ((15 - k:Nat):Int) else lowB n k)=_
 rw [h];rfl
theorem lowB_t {n:Int} {k:Nat} (h:atB n (15 - k)=true):lowB n (k + 1)=((15 - k:Nat):Int):=by
 show (if atB n (15 - k) then ((15 - k:Nat):Int) else lowB n k)=_
 rw [h];rfl
end Go.Proofs.YtjddbjmcjhjpiaaGreatDoor

namespace Go.Proofs.YtjddbjmcjhjpiaaGreatDoor
open Go.RowKit

abbrev Of5.zero:Of5:=⟨0,0,0,0,0⟩
abbrev De5.zero:De5:=⟨0,0,0,0,0⟩
abbrev Xd.zero:Xd:=⟨0,0,0,0,false,[]⟩
abbrev St.zero:St:=⟨0,0,0,0,Of5.zero⟩
def PutR (r:Option (List UInt8)) (w:World) (e:Ending) (w' : World):Prop:=e=.returned (.tuple #[.string ⟨(r.getD []).toArray⟩,.bool r.isSome])∧Below w.heap.size w w'
def OfferR (r:Option Of5) (w:World) (e:Ending) (w' : World):Prop:=e=.returned (.tuple #[(r.getD Of5.zero).val,.bool r.isSome])∧Below w.heap.size w w'
def DealR (r:Option De5) (w:World) (e:Ending) (w' : World):Prop:=e=.returned (.tuple #[(r.getD De5.zero).val,.bool r.isSome])∧Below w.heap.size w w'
def XidR (r:Option Xd) (w:World) (e:Ending) (w' : World):Prop:=e=.returned (.tuple #[(r.getD Xd.zero).xin.val,.bool r.isSome])∧Below w.heap.size w w'
def SetupR (r:Option St) (w:World) (e:Ending) (w' : World):Prop:=e=.returned (.tuple #[(r.getD St.zero).val,.bool r.isSome])∧Below w.heap.size w w'
def FreshR (l m:List Int) (w:World) (e:Ending) (w' : World):Prop:=e=.returned (.tuple #[.int .u32 (freshM l m).1,.int .i64 ((freshM l m).2:Int)])∧Below w.heap.size w w'
theorem putR_none {r:Option (List UInt8)} {w w' : World} (h:r=none) (hb:Below w.heap.size w w'):PutR r w (.returned (.tuple #[.string ⟨#[]⟩,.bool false])) w' := by subst h;exact ⟨rfl,hb⟩
theorem putR_some {r:Option (List UInt8)} {s:ByteArray} {w w' : World} (h:r=some s.data.toList) (hb:Below w.heap.size w w'):PutR r w (.returned (.tuple #[.string s,.bool true])) w' := by subst h;exact ⟨rfl,hb⟩
theorem offerR_none {r:Option Of5} {w w' : World} (h:r=none) (hb:Below w.heap.size w w'):OfferR r w (.returned (.tuple #[Of5.zero.val,.bool false])) w' := by subst h;exact ⟨rfl,hb⟩
theorem offerR_some {r:Option Of5} {o:Of5} {w w' : World} (h:r=some o) (hb:Below w.heap.size w w'):OfferR r w (.returned (.tuple #[o.val,.bool true])) w' := by subst h;exact ⟨rfl,hb⟩
theorem dealR_none {r:Option De5} {w w' : World} (h:r=none) (hb:Below w.heap.size w w'):DealR r w (.returned (.tuple #[De5.zero.val,.bool false])) w' := by subst h;exact ⟨rfl,hb⟩
theorem dealR_some {r:Option De5} {o:De5} {w w' : World} (h:r=some o) (hb:Below w.heap.size w w'):DealR r w (.returned (.tuple #[o.val,.bool true])) w' := by subst h;exact ⟨rfl,hb⟩
theorem xidR_none {r:Option Xd} {w w' : World} (h:r=none) (hb:Below w.heap.size w w'):XidR r w (.returned (.tuple #[Xd.zero.xin.val,.bool false])) w' := by subst h;exact ⟨rfl,hb⟩
theorem setupR_none {r:Option St} {w w' : World} (h:r=none) (hb:Below w.heap.size w w'):SetupR r w (.returned (.tuple #[St.zero.val,.bool false])) w' := by subst h;exact ⟨rfl,hb⟩
theorem setupR_some {r:Option St} {s:St} {w w' : World} (h:r=some s) (hb:Below w.heap.size w w'):SetupR r w (.returned (.tuple #[s.val,.bool true])) w' := by subst h;exact ⟨rfl,hb⟩
theorem XIn.u {x:XIn} (h:x.ok):u32 x.xd.from_∧u32 x.xd.to_:=by
 obtain ⟨h1,h2,_⟩:=h
 have := bounds_u32 h1
 have := bounds_u32 h2
 show u32 x.from_∧u32 x.to_
 unfold u32
 omega
theorem St.u {s:St} (h:s.ok):u32 s.from_∧u32 s.to_:=by
 obtain ⟨h1,h2,_⟩:=h
 have := bounds_u32 h1
 have := bounds_u32 h2
 unfold u32
 omega
theorem XIn.back (x:XIn):x.xd.xin.val=x.val:=by
 obtain ⟨a,b,c,d,e,⟨⟨n⟩⟩⟩:=x
 rfl
theorem wf64 {n:Int} (h:-9223372036854775808≤n∧n≤9223372036854775807):(Lit.int .i64 n).wf=true:=by
 have h1:IntKind.i64.min=-9223372036854775808:=by decide
 have h2:IntKind.i64.max=9223372036854775807:=by decide
 show (decide (IntKind.i64.min≤n) && decide (n≤IntKind.i64.max))=true
 rw [h1,h2,decide_eq_true h.1,decide_eq_true h.2]
 rfl
end Go.Proofs.YtjddbjmcjhjpiaaGreatDoor

namespace Go.Proofs.YtjddbjmcjhjpiaaGreatDoor
open Go.RowKit

theorem run_boxOf (o:Of5) (w:World):(Instr.box 133 o.val).run Tryz.prog w=.ok (.pointer (some ⟨w.heap.size,0,none⟩)) (w.alloc (.cells o.cs 133)):=by
 obtain ⟨a,b,c,d,e⟩:=o
 kernel_rfl
end Go.Proofs.YtjddbjmcjhjpiaaGreatDoor

namespace Go.Proofs.YtjddbjmcjhjpiaaGreatDoor
open Go.RowKit

theorem wpList_strB {w:World} {ops:Array Oper} {rest:List Oper} {o:Oper} {a:Act} {Q:Exit→Act→World→Prop} (hgd:o.guard=none) (x:Operand) (ho:o.op=.convert 152 9 x) (u:Value) (m:List UInt8) (hx:a.eval x=u) (hu:Rds w u m)
 (h:wpList Tryz.prog ops Q rest (a.put o.dst (.string ⟨m.toArray⟩)) w):wpList Tryz.prog ops Q (o :: rest) a w:=by
 refine wpList_plain hgd fun K hK=>?_
 have hr:(execOp a.eval o).run Tryz.prog w=.ok (.value (.string ⟨m.toArray⟩)) w:=by
  simp only [execOp,ho,hx,Sem.run_bind,run_str hu,Result.andThen_ok,Sem.run_pure]
 unfold Oper.wp
 rw [hr,Oper.upon_value]
 exact hK _ _ h

end Go.Proofs.YtjddbjmcjhjpiaaGreatDoor

namespace Go.Proofs.YtjddbjmcjhjpiaaGreatDoor
open Go.RowKit

theorem four_at {s:ByteArray} {a b c d:UInt8} {r:List UInt8} (h:s.data.toList=a :: b :: c :: d :: r):∃ h0:3 < s.size,s[0]=a∧s[1]=b∧s[2]=c∧s[3]=d:=by
 have hl:s.data.toList.length=s.size:=by rw [Array.length_toList];rfl
 rw [h] at hl
 simp only [List.length_cons] at hl
 refine ⟨by omega,?_,?_,?_,?_⟩
 · show s.data[0]'(show 0 < s.size by omega)=a
   rw [← Array.getElem_toList];simp [h]
 · show s.data[1]'(show 1 < s.size by omega)=b
   rw [← Array.getElem_toList];simp [h]
 · show s.data[2]'(show 2 < s.size by omega)=c
   rw [← Array.getElem_toList];simp [h]
 · show s.data[3]'(show 3 < s.size by omega)=d
   rw [← Array.getElem_toList];simp [h]
theorem ROwn_any (n:Int) (w:World):Calls Tryz.prog 37 #[.int .u32 n] w fun e w' => e=.returned (.bool (ownN n))∧w' = w:=by
 by_cases h:n=0
 · subst h
   go_enter Tryz.func37,Tryz.ntmps37
   go_wp2
   go_ret
   exact ⟨rfl,rfl⟩
 · have h1:(n != 0)=true:=by rw [bne_iff_ne];exact h
   have e:ownN n=(n != 4294967295):=by unfold ownN;rw [h1];rfl
   rw [e]
   clear e h
   generalize hq:(n != 4294967295)=q
   go_enter Tryz.func37,Tryz.ntmps37
   go_wp2
   go_ret
   exact ⟨rfl,rfl⟩
end Go.Proofs.YtjddbjmcjhjpiaaGreatDoor

namespace Go.Proofs.YtjddbjmcjhjpiaaGreatDoor
set_option maxRecDepth 100000
set_option maxHeartbeats 4000000
open Go.RowKit M

theorem Ramong_any (v:Value) (l:List Int) (n:Int) (w:World) (hr:RdU w v l) (hl:l.length≤1000):Calls Tryz.prog 70 #[v,.int .u32 n] w fun e w' => e=.returned (.bool (l.contains n))∧w' = w:=by
 have hr2:=hr
 obtain ⟨A,cap,rfl,hcap,hcm,-⟩:=hr2
 have HR:=jzD hr
 unfold maxLen at hcm
 clear hr
 go_enter Tryz.func70,Tryz.ntmps70
 go_wp2
 go_loopw [4,5] (fun q i wr=>wr=w∧q=.bool false∧∃ k:Nat,k≤l.length∧i=.int .i64 k∧∀ x ∈ l.take k,x ≠ n) (fun _ i _=>l.length - (intOf i).toNat)
 case atStart=>exact ⟨rfl,rfl,0,by omega,rfl,fun t ht=>by simp at ht⟩
 case round =>
  obtain ⟨rfl,rfl,k,hk,rfl,hno⟩:=hrel
  have HNO:=jzD hno
  clear hno
  by_cases hlt:k < l.length
  · have td:decide ((k:Int) < (l.length:Int))=true:=decide_eq_true (by omega)
    obtain ⟨b,off,rfl,hbl,hc⟩:=HR.out.at_ hlt
    obtain ⟨x,hx⟩:∃ x,l[k]=x:=⟨_,rfl⟩
    rw [hx] at hc
    have HX:=jzD hx
    clear hx
    rcases he:(x == n) with _ | _
    · have HN2:Hid (∀ y ∈ l.take (k + 1),y ≠ n):=by
       show ∀ y ∈ l.take (k + 1),y ≠ n
       rw [List.take_succ_eq_append_getElem hlt]
       intro y hy
       rcases List.mem_append.1 hy with h | h
       · exact HNO.out y h
       · rw [List.mem_singleton.1 h,HX.out];exact beq_eq_false_iff_ne.1 he
      go_wp2
      go_roundw
      case rel=>exact ⟨trivial,rfl,k + 1,by omega,by go_num,HN2.out⟩
      case measure=>simp [intOf] <;> omega
    · have HIN:Hid (l.contains n=true):=by
       show l.contains n=true
       rw [List.contains_iff_mem,← beq_iff_eq.1 he,← HX.out]
       exact List.getElem_mem hlt
      go_wp2
      go_ret
      exact ⟨by rw [HIN.out];rfl,rfl⟩
  · have td:decide ((k:Int) < (l.length:Int))=false:=decide_eq_false (by omega)
    have HIN:Hid (l.contains n=false):=by
     show l.contains n=false
     rw [Bool.eq_false_iff]
     intro h
     rw [List.contains_iff_mem] at h
     exact HNO.out n (by rw [List.take_of_length_le (by omega)];exact h) rfl
    go_wp2
    go_ret
    exact ⟨by rw [HIN.out];rfl,rfl⟩

theorem drawn_at {nots draws:List Int} {k:Nat} (hk:k < draws.length):drawn nots (draws.drop k) k=if ownN draws[k] && !nots.contains draws[k] then some (draws[k],k + 1) else drawn nots (draws.drop (k + 1)) (k + 1):=by
 rw [List.drop_eq_getElem_cons hk];rfl

theorem RFresh_any (v u:Value) (l m:List Int) (w:World) (hv:RdU w v l) (hu:RdU w u m) (hl:l.length≤1000) (hm:m.length≤1000):Calls Tryz.prog 55 #[v,u] w (FreshR l m w):=by
 have hv2:=hv
 obtain ⟨A,cap,rfl,hcap,hcm,-⟩:=hv2
 have HV:=jzD hv
 have hu2:=hu
 obtain ⟨B,cb,rfl,-,-,-⟩:=hu2
 have HU:=jzD hu
 have HA:=jzD (fun (n:Int) (w' : World) (h:RdU w' (.slice B m.length cb) m)=>Ramong_any _ m n w' h hm)
 unfold maxLen at hcm
 clear hv hu
 go_enter Tryz.func55,Tryz.ntmps55
 go_wp2
 go_loopw [4,5,6] (fun q q5 i wr=>wr=w∧q=.int .u32 0∧q5=.int .i64 0∧∃ k:Nat,k≤l.length∧i=.int .i64 k∧drawn m l 0=drawn m (l.drop k) k) (fun _ _ i _=>l.length - (intOf i).toNat)
 case atStart=>exact ⟨rfl,rfl,rfl,0,by omega,rfl,by rw [List.drop_zero]⟩
 case round =>
  obtain ⟨rfl,rfl,rfl,k,hk,rfl,hd⟩:=hrel
  have HD:=jzD hd
  clear hd
  by_cases hlt:k < l.length
  · have td:decide ((k:Int) < (l.length:Int))=true:=decide_eq_true (by omega)
    obtain ⟨b,off,rfl,hbl,hc⟩:=HV.out.at_ hlt
    have hst:=drawn_at (nots:=m) hlt
    obtain ⟨x,hx⟩:∃ x,l[k]=x:=⟨_,rfl⟩
    rw [hx] at hc hst
    have HST:=jzD hst
    clear hx hst
    have hown:=fun w=>ROwn_any x w
    rcases ho:ownN x with _ | _
    · rw [ho] at hown
      have HOWN:=jzD hown
      have HN:Hid (drawn m l 0=drawn m (l.drop (k + 1)) (k + 1)):=by show drawn m l 0=_;rw [HD.out,HST.out,ho];rfl
      clear hown ho
      go_wp2_with (go_at_call 37;refine (HOWN.out _).mono ?_;rintro e w' ⟨rfl,rfl⟩)
      go_roundw
      case rel=>exact ⟨trivial,rfl,rfl,k + 1,by omega,by go_num,HN.out⟩
      case measure=>simp [intOf] <;> omega
    · rw [ho] at hown
      have HOWN:=jzD hown
      have hin:=fun w' h=>HA.out x w' h
      rcases hi:m.contains x with _ | _
      · rw [hi] at hin
        have HIN:=jzD hin
        have HN:Hid (drawn m l 0=some (x,k + 1)):=by show drawn m l 0=_;rw [HD.out,HST.out,ho,hi];rfl
        clear hown ho hin hi
        go_wp2_with (first
         | (go_at_call 37;refine (HOWN.out _).mono ?_;rintro e w' ⟨rfl,rfl⟩)
         | (go_at_call 70;refine (HIN.out _ HU.out).mono ?_;rintro e w' ⟨rfl,rfl⟩))
        go_ret2
        refine ⟨?_,Below.refl _ _⟩
        unfold freshM
        rw [HN.out]
        simp
      · rw [hi] at hin
        have HIN:=jzD hin
        have HN:Hid (drawn m l 0=drawn m (l.drop (k + 1)) (k + 1)):=by show drawn m l 0=_;rw [HD.out,HST.out,ho,hi];rfl
        clear hown ho hin hi
        go_wp2_with (first
         | (go_at_call 37;refine (HOWN.out _).mono ?_;rintro e w' ⟨rfl,rfl⟩)
         | (go_at_call 70;refine (HIN.out _ HU.out).mono ?_;rintro e w' ⟨rfl,rfl⟩))
        go_roundw
        case rel=>exact ⟨trivial,rfl,rfl,k + 1,by omega,by go_num,HN.out⟩
        case measure=>simp [intOf] <;> omega
  · have td:decide ((k:Int) < (l.length:Int))=false:=decide_eq_false (by omega)
    have HN:Hid (drawn m l 0=none):=by show drawn m l 0=_;rw [HD.out,List.drop_of_length_le (by omega)];rfl
    obtain ⟨L,hL⟩:∃ L,L=leastN m m.length 1:=⟨_,rfl⟩
    obtain ⟨s1,s2,s3,-⟩:=leastN_spec m m.length 1
    have s4:=leastN_not m 1
    rw [← hL] at s1 s2 s3 s4
    have HL:=jzD hL
    have HS3:=jzD s3
    have HS4:=jzD s4
    clear hL s3 s4
    go_wp2
    obtain ⟨wo,rfl⟩:∃ wo:World,wo=wr:=⟨_,rfl⟩
    go_loopw [7] (fun i wr=>wr=wo∧∃ n:Int,1≤n∧n≤L∧i=.int .u32 n) (fun i _=>(L - intOf i).toNat)
    case atStart=>exact ⟨rfl,1,by omega,s1,rfl⟩
    case round =>
     obtain ⟨rfl,n,hn1,hnL,rfl⟩:=hrel
     have hin:=fun w' h=>HA.out n w' h
     rcases hi:m.contains n with _ | _
     · rw [hi] at hin
       have HIN:=jzD hin
       have HE:Hid (L=n):=by
        show L=n
        rcases Int.lt_or_le n L with h | h
        · have := HS3.out n hn1 h
          rw [← List.contains_iff_mem,hi] at this
          cases this
        · omega
       clear hin hi
       go_wp2_with (go_at_call 70;refine (HIN.out _ HU.out).mono ?_;rintro e w' ⟨rfl,rfl⟩)
       go_ret2
       refine ⟨?_,Below.refl _ _⟩
       unfold freshM
       rw [HN.out,← HL.out,HE.out]
       rfl
     · rw [hi] at hin
       have HIN:=jzD hin
       have hne:n + 1≤L:=by
        rcases Int.lt_or_le n L with h | h
        · omega
        · have e:n=L:=by omega
          rw [e,List.contains_iff_mem] at hi
          exact absurd hi HS4.out
       have wn:IntKind.u32.wrap (n + 1)=n + 1:=by rw [IntKind.wrap_u32'];omega
       clear hin hi
       go_wp2_with (go_at_call 70;refine (HIN.out _ HU.out).mono ?_;rintro e w' ⟨rfl,rfl⟩)
       go_roundw
       case rel=>exact ⟨trivial,n + 1,by omega,hne,rfl⟩
       case measure=>simp [intOf] <;> omega

theorem run_boxX (x:XIn) (w:World):(Instr.box 32 x.val).run Tryz.prog w=.ok (.pointer (some ⟨w.heap.size,0,none⟩)) (w.alloc (.cells (yA x.from_ x.to_ x.slot x.slots x.anew x.nick) 32)):=by
 obtain ⟨a,b,c,d,e,f⟩:=x
 kernel_rfl
theorem mayX_iff (x:XIn):mayX x.xd=true ↔ ownN x.from_=true∧(x.slots=1 ∨ x.slots=6 ∨ x.slots=8)∧(-1≤x.slot∧x.slot < x.slots)∧mayL (bl x.nick)=true:=by
 unfold mayX
 show (ownN x.from_ && decide (x.slots=1 ∨ x.slots=6 ∨ x.slots=8) && decide (-1≤x.slot∧x.slot < x.slots) && mayL x.nick.data.toList)=true ↔ _
 rw [Bool.and_eq_true,Bool.and_eq_true,Bool.and_eq_true,decide_eq_true_eq,decide_eq_true_eq,and_assoc,and_assoc]
 rfl
theorem RMayX_any (x:XIn) (w:World) (hn:x.nick.size≤1000000):Calls Tryz.prog 38 #[x.val] w fun e w' => e=.returned (.bool (mayX x.xd))∧Below w.heap.size w w' := by
 have hi:=mayX_iff x
 obtain ⟨fr,tt,sl,sn,an,nk⟩:=x
 simp only at hi hn
 have hown:=fun w=>ROwn_any fr w
 have hmay:=fun w=>RefMay_any nk w hn
 generalize mayX (XIn.xd ⟨fr,tt,sl,sn,an,nk⟩)=res at *
 generalize ownN fr=ow at *
 generalize mayL (bl nk)=ml at *
 have hfin:∀ q:Bool,(q=true ↔ (ow=true∧(sn=1 ∨ sn=6 ∨ sn=8)∧(-1≤sl∧sl < sn)∧ml=true))→Ending.returned (.bool q)=.returned (.bool res):=by
  intro q h
  congr 2
  rw [Bool.eq_iff_iff,h,hi]
 have HF:=jzD hfin
 have HOWN:=jzD hown
 have HMAY:=jzD hmay
 clear hfin hown hmay hi
 go_enter Tryz.func38,Tryz.ntmps38
 go_wp2_with (with_reducible refine wpList_boxS rfl 32 _ (.tmp 0) rfl rfl (run_boxX ⟨fr,tt,sl,sn,an,nk⟩) ?_)
 intro w1 hb1 hlt1 hh1
 have c0:w1.cell? ⟨w.heap.size,0,none⟩=some (.int .u32 fr):=cell_at hh1 0 _ rfl
 have c2:w1.cell? ⟨w.heap.size,2,none⟩=some (.int .i64 sl):=cell_at hh1 2 _ rfl
 have c3:w1.cell? ⟨w.heap.size,3,none⟩=some (.int .i64 sn):=cell_at hh1 3 _ rfl
 have c5:w1.cell? ⟨w.heap.size,5,none⟩=some (.string nk):=cell_at hh1 5 _ rfl
 have HB:=jzD hb1
 clear hb1 hh1
 go_wp2_with (first
  | (go_at_call 37;(with_reducible refine (HOWN.out _).mono ?_);rintro e w' ⟨rfl,rfl⟩)
  | (go_at_call 61;(with_reducible refine (HMAY.out _).mono ?_);rintro e w' ⟨rfl,rfl⟩))
 all_goals
  go_ret
  refine ⟨HF.out _ ?_,HB.out⟩
  clear HF HB
  cases ow <;> cases ml <;> simp_all <;> omega
end Go.Proofs.YtjddbjmcjhjpiaaGreatDoor

namespace Go.Proofs.YtjddbjmcjhjpiaaGreatDoor
set_option maxRecDepth 100000
set_option maxHeartbeats 4000000
open Go.RowKit M

theorem XisId_any (n:Int) (w:World):Calls Tryz.prog 65 #[.int .u32 n] w fun e w' => e=.returned (.bool (ownN n))∧w' = w:=by
 obtain ⟨q,hq⟩:∃ q,q=ownN n:=⟨_,rfl⟩
 rw [← hq]
 unfold ownN at hq
 by_cases h1:n=0
 · have HQ:Hid (q=false):=by show q=false;rw [hq,h1];rfl
   have t1:(n != 0)=false:=by rw [h1];rfl
   clear hq h1
   go_enter Tryz.func65,Tryz.ntmps65
   go_wp2
   go_ret
   exact ⟨by rw [HQ.out];rfl,rfl⟩
 · by_cases h2:n=4294967295
   · have HQ:Hid (q=false):=by show q=false;rw [hq,h2];rfl
     have t1:(n != 0)=true:=by simpa using h1
     have t2:(n != 4294967295)=false:=by rw [h2];rfl
     clear hq h1 h2
     go_enter Tryz.func65,Tryz.ntmps65
     go_wp2
     go_ret
     exact ⟨by rw [HQ.out];rfl,rfl⟩
   · have t1:(n != 0)=true:=by simpa using h1
     have t2:(n != 4294967295)=true:=by simpa using h2
     have HQ:Hid (q=true):=by show q=true;rw [hq,t1,t2];rfl
     clear hq h1 h2
     go_enter Tryz.func65,Tryz.ntmps65
     go_wp2
     go_ret
     exact ⟨by rw [HQ.out];rfl,rfl⟩
theorem XisRound_any (n:Int) (w:World):Calls Tryz.prog 72 #[.int .i64 n] w fun e w' => e=.returned (.bool (decide (n=1 ∨ n=6 ∨ n=8)))∧w' = w:=by
 obtain ⟨q,hq⟩:∃ q,q=decide (n=1 ∨ n=6 ∨ n=8):=⟨_,rfl⟩
 rw [← hq]
 have HQ:Hid (∀ b:Bool,(b=true ↔ (n=1 ∨ n=6 ∨ n=8))→Ending.returned (.bool b)=.returned (.bool q)):=by
  show ∀ _,_
  intro b h
  congr 2
  rw [Bool.eq_iff_iff,h,hq,decide_eq_true_eq]
 clear hq
 go_enter Tryz.func72,Tryz.ntmps72
 go_wp2
 all_goals
  go_ret
  refine ⟨HQ.out _ ?_,rfl⟩
  clear HQ
  first | (simp at *;done) | (simp at *;omega) | omega
theorem XMay_all (x:XIn) (w:World):Calls Tryz.prog 57 #[x.val] w fun e w' => e=.returned (.bool (mayX x.xd))∧Below w.heap.size w w' := by
 have hi:=mayX_iff x
 obtain ⟨fr,tt,sl,sn,an,nk⟩:=x
 simp only at hi
 have hown:=fun w=>XisId_any fr w
 have hrnd:=fun w=>XisRound_any sn w
 have hmay:=fun w=>May_any nk w
 generalize mayX (XIn.xd ⟨fr,tt,sl,sn,an,nk⟩)=res at *
 generalize ownN fr=ow at *
 generalize mayL (bl nk)=ml at *
 have hfin:∀ q:Bool,(q=true ↔ (ow=true∧(sn=1 ∨ sn=6 ∨ sn=8)∧(-1≤sl∧sl < sn)∧ml=true))→Ending.returned (.bool q)=.returned (.bool res):=by
  intro q h
  congr 2
  rw [Bool.eq_iff_iff,h,hi]
 obtain ⟨rn,hrn⟩:∃ rn,rn=decide (sn=1 ∨ sn=6 ∨ sn=8):=⟨_,rfl⟩
 rw [← hrn] at hrnd
 have HRN:=jzD hrn
 have HF:=jzD hfin
 have HOWN:=jzD hown
 have HRND:=jzD hrnd
 have HMAY:=jzD hmay
 clear hfin hown hmay hi hrnd hrn
 go_enter Tryz.func57,Tryz.ntmps57
 go_wp2_with (with_reducible refine wpList_boxS rfl 32 _ (.tmp 0) rfl rfl (run_boxX ⟨fr,tt,sl,sn,an,nk⟩) ?_)
 intro w1 hb1 hlt1 hh1
 have c0:w1.cell? ⟨w.heap.size,0,none⟩=some (.int .u32 fr):=cell_at hh1 0 _ rfl
 have c2:w1.cell? ⟨w.heap.size,2,none⟩=some (.int .i64 sl):=cell_at hh1 2 _ rfl
 have c3:w1.cell? ⟨w.heap.size,3,none⟩=some (.int .i64 sn):=cell_at hh1 3 _ rfl
 have c5:w1.cell? ⟨w.heap.size,5,none⟩=some (.string nk):=cell_at hh1 5 _ rfl
 have HB:=jzD hb1
 clear hb1 hh1
 go_wp2_with (first
  | (go_at_call 65;(with_reducible refine (HOWN.out _).mono ?_);rintro e w' ⟨rfl,rfl⟩)
  | (go_at_call 72;(with_reducible refine (HRND.out _).mono ?_);rintro e w' ⟨rfl,rfl⟩)
  | (go_at_call 73;(with_reducible refine (HMAY.out _).mono ?_);rintro e w2 ⟨rfl,hb⟩;have HB2:=jzD (bel_trans HB.out hb);clear hb))
 all_goals
  go_ret
  refine ⟨HF.out _ ?_,by first | exact HB2.out | exact HB.out⟩
  have hrn:=HRN.out
  clear HF HB HOWN HRND HMAY c0 c2 c3 c5 HRN
  cases ow <;> cases ml <;> cases rn <;> (first | (simp at *;done) | (simp at *;omega) | (simp;omega) | omega)
theorem XMay_any (x:XIn) (w:World) (_:x.ok):Calls Tryz.prog 57 #[x.val] w fun e w' => e=.returned (.bool (mayX x.xd))∧Below w.heap.size w w' := XMay_all x w
end Go.Proofs.YtjddbjmcjhjpiaaGreatDoor

namespace Go.Proofs.YtjddbjmcjhjpiaaGreatDoor
set_option maxRecDepth 100000
set_option maxHeartbeats 4000000
open Go.RowKit M

theorem insC_at (x:Int):∀ (l:List Int) (k:Nat),k≤l.length→(∀ j,j < k→gd l j < x)→(∀ j,k≤j→j < l.length→x < gd l j)→insC x l=l.take k ++ [x] ++ l.drop k
 | [],k,hk,_,_=>by
  obtain rfl:k=0:=by simpa using hk
  rfl
 | y :: r,0,_,_,h2=>by
  have : x < y:=h2 0 (by omega) (by simp)
  unfold insC
  rw [if_pos this]
  rfl
 | y :: r,k + 1,hk,h1,h2=>by
  have h:y < x:=h1 0 (by omega)
  unfold insC
  rw [if_neg (by omega),if_neg (by omega),insC_at x r k (by simpa using hk) (fun j hj=>h1 (j + 1) (by omega)) (fun j hj hl=>h2 (j + 1) (by omega) (by simpa using hl))]
  rfl
theorem insC_in (x:Int):∀ l:List Int,l.Pairwise (· < ·)→x ∈ l→insC x l=l
 | [],_,h=>by cases h
 | y :: r,hp,h=>by
  obtain ⟨h1,h2⟩:=List.pairwise_cons.1 hp
  unfold insC
  rcases List.mem_cons.1 h with rfl | h
  · rw [if_neg (by omega),if_pos rfl]
  · have := h1 x h
    rw [if_neg (by omega),if_neg (by omega),insC_in x r h2 h]
theorem srt_of_rise {l:List Int} (h:l.Pairwise (· < ·)):Srt l l.length:=fun a b hab hb=>by
 have := List.pairwise_iff_getElem.1 h a b (by omega) hb hab
 rw [gd_at (by omega),gd_at hb]
 omega
theorem rise_len:∀ (l L:List Int),l.Pairwise (· < ·)→(∀ x ∈ l,x ∈ L)→l.length≤L.length
 | [],_,_,_=>Nat.zero_le _
 | a :: r,L,hp,h=>by
  obtain ⟨h1,h2⟩:=List.pairwise_cons.1 hp
  have ha:=h a List.mem_cons_self
  have := rise_len r (L.erase a) h2 (fun x hx=>(List.mem_erase_of_ne (by have := h1 x hx;omega)).2 (h x (List.mem_cons_of_mem _ hx)))
  rw [List.length_erase_of_mem ha] at this
  have := List.length_pos_of_mem ha
  simp only [List.length_cons]
  omega
def LogM.cov (m:LogM):Prop:=∀ n ∈ m.clash,n=m.me ∨ ∃ s ∈ m.l,s.id=n
theorem LogM.cov_len {m:LogM} (hk:m.ok) (h:m.cov):m.clash.length≤17:=by
 have := rise_len m.clash (m.me :: m.l.map SeenM.id) hk.rise (fun x hx=>by
  rcases h x hx with rfl | ⟨s,hs,rfl⟩
  · exact List.mem_cons_self
  · exact List.mem_cons_of_mem _ (List.mem_map_of_mem hs))
 have h2:=hk.len
 simp only [List.length_cons,List.length_map] at this
 omega
def FindR (l:List SeenM) (n r:Int):Prop:=(r=-1∧l.find? (fun s=>s.id == n)=none) ∨ ∃ (k:Nat) (s:SeenM),r=(k:Int)∧l[k]?=some s∧l.find? (fun s=>s.id == n)=some s
theorem find_none {l:List SeenM} {n:Int} (h:∀ (j:Nat) (s:SeenM),l[j]?=some s→(s.id == n)=false):l.find? (fun s=>s.id == n)=none:=by
 rw [List.find?_eq_none]
 intro s hs
 obtain ⟨j,hj,e⟩:=List.getElem_of_mem hs
 rw [h j s (by rw [← e];exact List.getElem?_eq_getElem hj)]
 decide
theorem find_at {n:Int}:∀ (l:List SeenM) (k:Nat) (s:SeenM),(∀ (j:Nat) (s:SeenM),j < k→l[j]?=some s→(s.id == n)=false)→l[k]?=some s→(s.id == n)=true→l.find? (fun s=>s.id == n)=some s
 | [],k,s,_,h,_=>by simp at h
 | y :: r,0,s,_,h,he=>by
  simp only [List.getElem?_cons_zero,Option.some.injEq] at h
  subst h
  rw [List.find?_cons,he]
 | y :: r,k + 1,s,hj,h,he=>by
  rw [List.find?_cons,hj 0 y (by omega) rfl]
  exact find_at r k s (fun j s hjk hs=>hj (j + 1) s (by omega) hs) h he

theorem Xbin_at (base:Nat) (A:Option Addr) (cap:Nat) (l:List Int) (x:Int) (w:World) (hl:l.length≤1000) (h:SlU base w (.slice A l.length cap) l) (hs:Srt l l.length) :
 Calls Tryz.prog 81 #[.slice A l.length cap,.int .u32 x] w fun e w' => (∃ k:Nat,k≤l.length∧(∀ j,j < k→gd l j < x)∧(∀ j,k≤j→j < l.length→x≤gd l j)∧e=.returned (.tuple #[.int .i64 (k:Int),.bool (decide (x ∈ l))]))∧w' = w:=by
 have HH:=jzD h
 have HS:=jzD hs
 have hn:=fun w=>XsNaN_any x w
 obtain ⟨q,hq⟩:∃ q,q=decide (x ∈ l):=⟨_,rfl⟩
 rw [← hq]
 have HQ:=jzD hq
 clear h hs hq
 go_enter Tryz.func81,Tryz.ntmps81
 go_wp2
 go_loopw [7,8] (fun i j wr=>wr=w∧∃ a b:Nat,i=.int .i64 (a:Int)∧j=.int .i64 (b:Int)∧Half l x a b) (fun i j _=>(intOf j).toNat - (intOf i).toNat)
 case atStart=>exact ⟨rfl,0,l.length,rfl,rfl,half_start l x⟩
 case round =>
  obtain ⟨rfl,a,b,rfl,rfl,hh⟩:=hrel
  have hab:=hh.1
  have hbl:=hh.2.1
  have HF:=jzD hh
  clear hh
  by_cases hlt:a < b
  · have td:decide ((a:Int) < (b:Int))=true:=decide_eq_true (by omega)
    obtain ⟨m,hm⟩:∃ m,m=(a + b) / 2:=⟨_,rfl⟩
    have m1:a≤m∧m < b:=by omega
    have w1:IntKind.i64.wrap ((a:Int) + (b:Int))=(a:Int) + (b:Int):=IntWalk.i64_in _ (by omega)
    have w2:IntKind.u64.wrap ((a:Int) + (b:Int))=(a:Int) + (b:Int):=by rw [IntKind.wrap_u64];omega
    have w3:((a:Int) + (b:Int)) / 2=(m:Int):=by omega
    have w4:IntKind.i64.wrap (m:Int)=(m:Int):=IntWalk.i64_in _ (by omega)
    have w5:IntKind.i64.wrap ((m:Int) + 1)=(m:Int) + 1:=IntWalk.i64_in _ (by omega)
    obtain ⟨g,rfl,c1⟩:=HH.out.at_ (k:=m) (by omega)
    have jz:(m:Int) < (l.length:Int):=by omega
    have HM:=jzD hm
    clear hm
    have hless:=fun w=>Xless_any (gd l m) x w
    by_cases hc:gd l m < x
    · rw [decide_eq_true hc] at hless
      have HL:=jzD hless
      have HU:=jzD (half_up HS.out HF.out m1.1 m1.2 hc)
      clear hless hc
      go_wp2_with (go_at_call 99;(with_reducible refine (HL.out _).mono ?_);rintro e w' ⟨rfl,rfl⟩)
      go_roundw
      case rel=>exact ⟨trivial,m + 1,b,by go_num,rfl,HU.out⟩
      case measure=>simp [intOf] <;> omega
    · rw [decide_eq_false hc] at hless
      have HL:=jzD hless
      have HU:=jzD (half_down HS.out HF.out m1.1 m1.2 hc)
      clear hless hc
      go_wp2_with (go_at_call 99;(with_reducible refine (HL.out _).mono ?_);rintro e w' ⟨rfl,rfl⟩)
      go_roundw
      case rel=>exact ⟨trivial,a,m,rfl,rfl,HU.out⟩
      case measure=>simp [intOf] <;> omega
  · have td:decide ((a:Int) < (b:Int))=false:=decide_eq_false (by omega)
    obtain rfl:a=b:=by omega
    have hin:=half_in HS.out HF.out
    have HP:Hid ((∀ j,j < a→gd l j < x)∧∀ j,a≤j→j < l.length→x≤gd l j):=⟨HF.out.2.2.1,HF.out.2.2.2⟩
    by_cases hal:a < l.length
    · have t2:decide ((a:Int) < (l.length:Int))=true:=decide_eq_true (by omega)
      have jz:(a:Int) < (l.length:Int):=by omega
      obtain ⟨g,rfl,c1⟩:=HH.out.at_ hal
      obtain ⟨y,hy⟩:∃ y,gd l a=y:=⟨_,rfl⟩
      rw [hy] at c1 hin
      clear hy
      rcases he:(y == x) with _ | _
      · have HQ2:Hid (q=false):=by show q=false;rw [HQ.out];exact decide_eq_false (fun h=>beq_eq_false_iff_ne.1 he (hin.1 h).2)
        have HN:=jzD (fun w=>XsNaN_any y w)
        clear hin
        go_wp2_with (go_at_call 100;(with_reducible refine (HN.out _).mono ?_);rintro e w' ⟨rfl,rfl⟩)
        go_ret2
        exact ⟨⟨a,hbl,HP.out.1,HP.out.2,by rw [HQ2.out];rfl⟩,rfl⟩
      · have HQ2:Hid (q=true):=by show q=true;rw [HQ.out];exact decide_eq_true (hin.2 ⟨hal,beq_iff_eq.1 he⟩)
        clear hin
        go_wp2
        go_ret2
        exact ⟨⟨a,hbl,HP.out.1,HP.out.2,by rw [HQ2.out];rfl⟩,rfl⟩
    · have t2:decide ((a:Int) < (l.length:Int))=false:=decide_eq_false (by omega)
      have HQ2:Hid (q=false):=by show q=false;rw [HQ.out];exact decide_eq_false (fun h=>hal (hin.1 h).1)
      clear hin
      go_wp2
      go_ret2
      exact ⟨⟨a,hbl,HP.out.1,HP.out.2,by rw [HQ2.out];rfl⟩,rfl⟩

def sncs (s:SeenM):List Value:=[.int .u32 s.id,.string s.nick,.int .i64 s.slot]
def lgcs (l:List SeenM):List Value:=l.flatMap sncs
theorem LEq_any (s:SeenM) (n:Int) (gi:Nat) (w:World) (hg:w.cell? ⟨gi,0,none⟩=some (.int .u32 n)):Calls Tryz.prog 80 #[.agg (sncs s).toArray,.pointer (some ⟨gi,0,none⟩)] w fun e w' => e=.returned (.bool (s.id == n))∧Below w.heap.size w w' := by
 obtain ⟨id,nick,slot⟩:=s
 have hlt:gi < w.heap.size:=World.block_lt_of_cell? w ⟨gi,0,none⟩ hg
 have c1:(w.alloc (.cells (yJ id nick slot) 103)).cell? ⟨gi,0,none⟩=some (.int .u32 n):=(((Below.refl _ _).alloc (Nat.le_refl _) _).cell (p:=⟨gi,0,none⟩) hlt).trans hg
 have c2:(w.alloc (.cells (yJ id nick slot) 103)).cell? ⟨w.heap.size,0,none⟩=some (.int .u32 id):=cell_at (heap_alloc_new w _) 0 _ rfl
 have HB:Hid (Below w.heap.size w (w.alloc (.cells (yJ id nick slot) 103))):=(Below.refl _ _).alloc (Nat.le_refl _) _
 clear hg hlt
 simp only [sncs]
 go_enter Tryz.func80,Tryz.ntmps80
 go_wp2
 go_ret
 exact ⟨rfl,HB.out⟩
theorem RdG.seen {n c b off i m:Nat} {l:List SeenM} {w:World} {s:SeenM} (h:RdG 3 w (.slice (some ⟨b,off,none⟩) n c) m (lgcs l)) (hs:l[i]?=some s):w.rangeAt b (off + i * 3) (sncs s):=by
 obtain ⟨hi,e⟩:=List.getElem?_eq_some_iff.1 hs
 have hm:l.length=m:=by have h1:=h.1;have h2:=flatLen (f:=sncs) (k:=3) (fun _=>rfl) l;unfold lgcs at h1;omega
 obtain ⟨b', off', e1,_,hc⟩:=h.at_ (i:=i) (by omega)
 injection e1 with e1
 injection e1 with e1 e2
 subst e1;subst e2
 intro r u hu
 have hr:r < 3:=(List.getElem?_eq_some_iff.1 hu).1
 refine hc r u hr ?_
 unfold lgcs
 rw [flatAt (f:=sncs) (k:=3) (fun _=>rfl) l i r hi hr,e]
 exact hu
theorem LIdx_any (A:Option Addr) (N cap:Nat) (l:List SeenM) (n:Int) (gi:Nat) (w:World) (hN:N=l.length) (h:RdG 3 w (.slice A N cap) N (lgcs l)) (hg:w.cell? ⟨gi,0,none⟩=some (.int .u32 n)) (hl:N≤1000) :
 Calls Tryz.prog 79 #[.slice A N cap,.func (.func 80) #[] #[.pointer (some ⟨gi,0,none⟩)]] w fun e w' => (∃ r,e=.returned (.int .i64 r)∧FindR l n r)∧Below w.heap.size w w' := by
 have hlt:gi < w.heap.size:=World.block_lt_of_cell? w ⟨gi,0,none⟩ hg
 have HG:=jzD hg
 have HLT:=jzD hlt
 have HR:=jzD h
 have HNL:=jzD hN
 have eg:∀ args w,(callFunc 80 args).run Tryz.prog w=.ok (.enter 80 args) w:=fun args w=>by go_simp
 clear h hg hlt hN
 go_enter Tryz.func79,Tryz.ntmps79
 go_wp2
 go_loopw [5,8] (fun _ i wr=>∃ k:Nat,k≤N∧i=.int .i64 (k:Int)∧Below w.heap.size w wr∧∀ (j:Nat) (s:SeenM),j < k→l[j]?=some s→(s.id == n)=false) (fun _ i _=>N - (intOf i).toNat)
 case atStart=>exact ⟨0,Nat.zero_le _,rfl,Below.refl _ _,fun j s h=>absurd h (Nat.not_lt_zero _)⟩
 case round =>
  obtain ⟨k,hk,rfl,hb,hno⟩:=hrel
  have HB:=jzD hb
  have HNO:=jzD hno
  have HK:=jzD hk
  by_cases hlt:k < N
  · have td:decide ((k:Int) < (N:Int))=true:=decide_eq_true (by omega)
    have jz:(k:Int) < (N:Int):=by omega
    have w5:IntKind.i64.wrap ((k:Int) + 1)=(k:Int) + 1:=IntWalk.i64_in _ (by omega)
    obtain ⟨s,hs⟩:∃ s,l[k]?=some s:=⟨_,List.getElem?_eq_getElem (by rw [HNL.out] at hlt;exact hlt)⟩
    obtain ⟨b,off,rfl,_,_⟩:=HR.out.at_ hlt
    have HRG:=jzD ((HR.out.below hb).seen hs)
    have HC:=jzD (LEq_any s n gi wr ((hb.cell (p:=⟨gi,0,none⟩) HLT.out).trans HG.out))
    have HS:=jzD hs
    rcases he:(s.id == n) with _ | _
    · have HF:Hid (Calls Tryz.prog 80 #[.agg (sncs s).toArray,.pointer (some ⟨gi,0,none⟩)] wr fun e w' => e=.returned (.bool false)∧Below wr.heap.size wr w'):=by rw [he] at HC;exact HC
      have HNX:Hid (∀ (j:Nat) (s:SeenM),j < k + 1→l[j]?=some s→(s.id == n)=false):=by
       intro j t hj ht
       by_cases e:j=k
       · subst e
         rw [hs] at ht
         injection ht with ht
         rw [← ht]
         exact he
       · exact hno j t (by omega) ht
      have HLT2:=jzD hlt
      clear hb hno hk he hs hlt
      go_wp2_with (first
       | (with_reducible refine wpList_load_mid rfl 103 (.tmp 14) rfl b (off + k * 3) rfl (sncs s) _ HRG.out Tryz.underlying103 rfl (by kernel_rfl) ?_)
       | (go_at_fn 80;(with_reducible refine HF.out.mono ?_);rintro e w2 ⟨rfl,hb⟩;have HB2:=jzD hb;clear hb))
      go_roundw
      case rel=>exact ⟨k + 1,by have := HLT2.out;omega,by go_num,HB.out.trans (HB2.out.mono HB.out.size),HNX.out⟩
      case measure=>have := HLT2.out;simp [intOf] <;> omega
    · have HF:Hid (Calls Tryz.prog 80 #[.agg (sncs s).toArray,.pointer (some ⟨gi,0,none⟩)] wr fun e w' => e=.returned (.bool true)∧Below wr.heap.size wr w'):=by rw [he] at HC;exact HC
      have HFD:Hid (l.find? (fun s=>s.id == n)=some s):=find_at l k s hno hs he
      clear hb hno hk he hs hlt
      go_wp2_with (first
       | (with_reducible refine wpList_load_mid rfl 103 (.tmp 14) rfl b (off + k * 3) rfl (sncs s) _ HRG.out Tryz.underlying103 rfl (by kernel_rfl) ?_)
       | (go_at_fn 80;(with_reducible refine HF.out.mono ?_);rintro e w2 ⟨rfl,hb⟩;have HB2:=jzD hb;clear hb))
      go_ret
      exact ⟨⟨_,rfl,.inr ⟨k,s,rfl,HS.out,HFD.out⟩⟩,HB.out.trans (HB2.out.mono HB.out.size)⟩
  · have td:decide ((k:Int) < (N:Int))=false:=decide_eq_false (by omega)
    have HFD:Hid (l.find? (fun s=>s.id == n)=none):=find_none fun j s hs=>hno j s (by have := (List.getElem?_eq_some_iff.1 hs).1;have := HNL.out;omega) hs
    have t2:decide (k < N)=false:=decide_eq_false hlt
    clear hb hno hk
    go_wp2
    go_ret
    exact ⟨⟨_,rfl,.inl ⟨rfl,HFD.out⟩⟩,HB.out⟩
theorem baEqB (a b:ByteArray):(a == b)=decide (a=b):=by
 obtain ⟨a⟩:=a
 obtain ⟨b⟩:=b
 show (a == b)=_
 rw [Bool.eq_iff_iff]
 simp
theorem baOfList {x y:ByteArray} (h:x.toList=y.toList):x=y:=by
 rw [ByteArray.toList_eq,ByteArray.toList_eq] at h
 exact ByteArray.ext (Array.toList_inj.1 h)
theorem LFits_any (s:SeenM) (x:XIn) (w:World):Calls Tryz.prog 68 #[.agg (sncs s).toArray,x.val] w fun e w' => e=.returned (.bool (LogM.same s x))∧Below w.heap.size w w' := by
 obtain ⟨id,nick,slot⟩:=s
 obtain ⟨xf,xt,xs,xn,xa,xk⟩:=x
 have HB:Hid (Below w.heap.size w ((w.alloc (.cells (yJ id nick slot) 103)).alloc (.cells (yA xf xt xs xn xa xk) 32))):=by
  show Below _ _ _
  exact ((Below.refl _ _).alloc (Nat.le_refl _) _).alloc (by simp) _
 simp only [sncs]
 by_cases hk:xk.toList=nick.toList
 · have e1:LogM.same ⟨id,nick,slot⟩ ⟨xf,xt,xs,xn,xa,xk⟩=(xs == slot):=by
    obtain rfl:=baOfList hk
    unfold LogM.same
    simp only [baEqB]
    rw [decide_eq_true trivial,Bool.true_and]
    exact Bool.beq_comm
   rw [e1]
   clear e1
   go_enter Tryz.func68,Tryz.ntmps68
   go_wp2
   go_ret
   exact ⟨rfl,HB.out⟩
 · have e1:LogM.same ⟨id,nick,slot⟩ ⟨xf,xt,xs,xn,xa,xk⟩=false:=by
    unfold LogM.same
    simp only [baEqB]
    rw [decide_eq_false (fun h=>hk (by rw [h])),Bool.false_and]
   rw [e1]
   clear e1
   go_enter Tryz.func68,Tryz.ntmps68
   go_wp2
   go_ret
   exact ⟨rfl,HB.out⟩
end Go.Proofs.YtjddbjmcjhjpiaaGreatDoor
