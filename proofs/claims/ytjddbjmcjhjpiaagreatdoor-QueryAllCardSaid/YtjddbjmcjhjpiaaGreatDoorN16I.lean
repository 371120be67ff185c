/- Of layer 12: S16, D16. -/
import Derived.Test.YtjddbjmcjhjpiaaGreatDoorN16A
import Derived.Test.YtjddbjmcjhjpiaaGreatDoorN16H
import Derived.Test.YtjddbjmcjhjpiaaGreatDoorQryA
import Derived.Test.YtjddbjmcjhjpiaaGreatDoorRpyA
import Derived.Test.YtjddbjmcjhjpiaaGreatDoorBoxA
import Derived.Test.YtjddbjmcjhjpiaaGreatDoorN16B

set_option linter.all false

namespace Go.Proofs.YtjddbjmcjhjpiaaGreatDoor
end Go.Proofs.YtjddbjmcjhjpiaaGreatDoor

namespace Go.Proofs.YtjddbjmcjhjpiaaGreatDoor
open Go.RowKit M

def Emp:Obj:=fun _ F=>F=[]
theorem Emp.stab:Stab Emp:=⟨fun h g hg=>(by rw [h] at hg;cases hg),fun h _ _=>h⟩
theorem Done.emp (w:World):Done w [] Emp w:=⟨[],rfl,Tch.refl _ _,Sub.refl _ _⟩
theorem Done.unemp {w0 w:World} {F0:List Nat} {H:Obj} (h:Done w0 F0 (Star Emp H) w):Done w0 F0 H w:=by
 obtain ⟨F,⟨F1,F2,rfl,rfl,h2,_⟩,ht,hs⟩:=h
 exact ⟨F2,h2,ht,fun g hg=>hs g (by simpa using hg)⟩
theorem Fr.cmp_ {C D:Obj→Obj} (hC:Fr C) (hD:Fr D):Fr (fun X=>C (D X)):=⟨fun h=>by
 obtain ⟨F1,h1,h2⟩:=hC.out h
 obtain ⟨F2,h3,h4⟩:=hD.out h1
 exact ⟨F2,h3,fun k=>h2 (h4 k)⟩⟩
theorem dcalls_lookA {P:Program} {f:FuncId} {args:Array Value} {ret:Value} {w0 w:World} {F0:List Nat} {C:Obj→Obj} {R:Obj} (hC:Fr C) (hH:Stab (C R)) (h:Done w0 F0 (C R) w)
 (hc:∀ F,R w F→Calls P f args w fun e w' => e=.returned ret∧Below w.heap.size w w'):Calls P f args w fun e w' => e=.returned ret∧Done w0 F0 (C R) w' := by
 obtain ⟨F1,h1⟩:=h.get hC
 exact dcalls_keep hH h (hc F1 h1)
theorem SlW.slice {k n:Nat} {a:Value} {xs:List Value} {w:World} {F:List Nat} (h:SlW k a n xs w F):∃ A c,a=.slice A n c∧(n≤c∧c≤maxLen):=by
 obtain ⟨A,c,e,h1,h2⟩:=h.shape
 exact ⟨A,c,e,h1,h2⟩
theorem rdU_one {w:World} {g:Nat} {n:Int} {t:TypeId} (hg:w.heap[g]?=some (.cells #[.int .u32 n] t (0,0))) (hn:u32 n):RdU w (.slice (some ⟨g,0,none⟩) 1 1) [n] :=
 rdU_new (l:=[n]) hg (by simp [maxLen]) (by intro x hx;rw [List.mem_singleton] at hx;rw [hx];exact hn)
theorem row_rng {w:World} {g:Nat} {cs:List Value} {t:TypeId} (h:w.heap[g]?=some (.cells cs.toArray t (0,0))):w.rangeAt g 0 cs:=fun j u hu=>by
 rw [Nat.zero_add]
 exact cell_at h j u (by simpa using hu)
section
variable {w0 w:World} {F0:List Nat} {C:Obj→Obj} {H:Obj} {v u:Value}
theorem dL_new {n:Int} (hn:(Lit.int .u32 n).wf=true) (hH:Stab H) (h:Done w0 F0 H w):Calls Tryz.prog 53 #[.int .u32 n] w fun e w' => ∃ a:Addr,e=.returned (.pointer (some a))∧Done w0 F0 (Star H (LogW (.pointer (some a)) (LogM.new n))) w' := by
 refine (LNew_any n w hn).mono ?_
 rintro e w' ⟨v,rfl,hd⟩
 have hs:=h.add hH hd
 obtain ⟨_,h0⟩:=hs.get (C:=fun X=>Star H X) (Fr.r hH Fr.id_)
 obtain ⟨a,rfl⟩:=h0.ptr
 exact ⟨a,rfl,hs⟩
theorem dQ_new {n k:Int} {s:ByteArray} (hn:(Lit.int .u32 n).wf=true) (hs:s.size≤maxLen) (hk:(Lit.int .i64 k).wf=true) (hm:QueryM.mayNew n s k=true) (hH:Stab H) (h:Done w0 F0 H w):Calls Tryz.prog 20 #[.int .u32 n,.string s,.int .i64 k] w fun e w' => ∃ a b:Addr,e=.returned (.pointer (some a))∧Done w0 F0 (Star H (QueryW (.pointer (some a)) (.pointer (some b)) (QueryM.new n s k))) w' := by
 refine (QNew_any n s k w hn hs hk hm).mono ?_
 rintro e w' ⟨v,u,rfl,hd⟩
 have hs:=h.add hH hd
 obtain ⟨_,h0⟩:=hs.get (C:=fun X=>Star H (Star X (LogW u _))) (Fr.r hH (Fr.l Fr.id_ (LogW.stab _ _)))
 obtain ⟨⟨a,rfl⟩,b,rfl⟩:=h0.ptr
 exact ⟨a,b,rfl,hs⟩
theorem dR_new {n:Int} {s:ByteArray} (hn:(Lit.int .u32 n).wf=true) (hs:s.size≤maxLen) (hm:ReplyM.mayNew n s=true) (hH:Stab H) (h:Done w0 F0 H w):Calls Tryz.prog 36 #[.int .u32 n,.string s] w fun e w' => ∃ a:Addr,e=.returned (.pointer (some a))∧Done w0 F0 (Star H (ReplyW (.pointer (some a)) (ReplyM.new n s))) w' := by
 refine (RpNew_any n s w hn hs hm).mono ?_
 rintro e w' ⟨v,rfl,hd⟩
 have hs:=h.add hH hd
 obtain ⟨_,h0⟩:=hs.get (C:=fun X=>Star H X) (Fr.r hH Fr.id_)
 obtain ⟨a,rfl⟩:=h0.ptr
 exact ⟨a,rfl,hs⟩
theorem dB_new (hH:Stab H) (h:Done w0 F0 H w):Calls Tryz.prog 44 #[] w fun e w' => ∃ a:Addr,e=.returned (.pointer (some a))∧Done w0 F0 (Star H (BoxW (.pointer (some a)) BoxM.new)) w' := by
 refine (BNew_any w).mono ?_
 rintro e w' ⟨v,rfl,hd⟩
 have hs:=h.add hH hd
 obtain ⟨_,h0⟩:=hs.get (C:=fun X=>Star H X) (Fr.r hH Fr.id_)
 obtain ⟨a,rfl⟩:=h0.ptr
 exact ⟨a,rfl,hs⟩
theorem dL_add {m m' : LogM} {x:XIn} {b:Bool} (hx:x.ok) (hb:b=m.addB x) (hm:m' = m.add x) (hC:Fr C) (h:Done w0 F0 (C (LogW v m)) w):Calls Tryz.prog 51 #[v,x.val] w fun e w' => e=.returned (.bool b)∧Done w0 F0 (C (LogW v m')) w' := by
 subst hb;subst hm
 exact dcalls_at (R' := LogW v (m.add x)) hC h (fun F hF=>LAdd_any v m F x w hF hx)
theorem dL_all {m:LogM} {n:Nat} {xs:List Value} (hn:n=m.l.length) (hx:xs=dvcs m.l) (hC:Fr C) (h:Done w0 F0 (C (LogW v m)) w):Calls Tryz.prog 29 #[v] w fun e w' => ∃ A c,e=.returned (.slice A n c)∧(n≤c∧c≤maxLen)∧Done w0 F0 (C (Star (LogW v m) (SlW 2 (.slice A n c) n xs))) w' := by
 subst hn;subst hx
 obtain ⟨F,hF,hu⟩:=h.upd hC
 refine (LAll_any v m F w hF).mono ?_
 rintro e w' ⟨a,rfl,hd⟩
 have hd' := hd
 obtain ⟨F', ⟨F2,F3,rfl,k1,k2,_⟩,_⟩:=hd'
 obtain ⟨A,c,rfl,hb⟩:=k2.slice
 exact ⟨A,c,rfl,hb,hu hd⟩
theorem dL_clash {m:LogM} {n:Nat} {xs:List Value} (hn:n=m.clash.length) (hx:xs=u32s m.clash) (hC:Fr C) (h:Done w0 F0 (C (LogW v m)) w):Calls Tryz.prog 32 #[v] w fun e w' => ∃ A c,e=.returned (.slice A n c)∧(n≤c∧c≤maxLen)∧Done w0 F0 (C (Star (LogW v m) (SlW 1 (.slice A n c) n xs))) w' := by
 subst hn;subst hx
 obtain ⟨F,hF,hu⟩:=h.upd hC
 refine (LClash_any v m F w hF).mono ?_
 rintro e w' ⟨a,rfl,hd⟩
 have hd' := hd
 obtain ⟨F', ⟨F2,F3,rfl,k1,k2,_⟩,_⟩:=hd'
 obtain ⟨A,c,rfl,hb⟩:=k2.slice
 exact ⟨A,c,rfl,hb,hu hd⟩
theorem dL_len {m:LogM} {n:Int} (hn:n=(m.l.length:Int)) (hC:Fr C) (hS:Stab (C (LogW v m))) (h:Done w0 F0 (C (LogW v m)) w):Calls Tryz.prog 52 #[v] w fun e w' => e=.returned (.int .i64 n)∧Done w0 F0 (C (LogW v m)) w' := by
 subst hn
 exact dcalls_lookA hC hS h (fun F hF=>LLen_any v m F w hF)
theorem dQ_tick {m m' : QueryM} {x:XIn} {b:Bool} (hx:x=m.xid) (hb:b=m.asks) (hm:m' = m.tick) (hC:Fr C) (h:Done w0 F0 (C (QueryW v u m)) w):Calls Tryz.prog 34 #[v] w fun e w' => e=.returned (.tuple #[x.val,.bool b])∧Done w0 F0 (C (QueryW v u m')) w' := by
 subst hx;subst hb;subst hm
 exact dcalls_at (R' := QueryW v u m.tick) hC h (fun F hF=>QTick_any v u m F w hF)
theorem dQ_hear {m m' : QueryM} {x:XIn} {b:Bool} (hx:x.ok) (hb:b=m.hearB x) (hm:m' = m.hear x) (hC:Fr C) (h:Done w0 F0 (C (QueryW v u m)) w):Calls Tryz.prog 23 #[v,x.val] w fun e w' => e=.returned (.bool b)∧Done w0 F0 (C (QueryW v u m')) w' := by
 subst hb;subst hm
 exact dcalls_at (R' := QueryW v u (m.hear x)) hC h (fun F hF=>QHear_any v u m F x w hF hx)
theorem dQ_over {m:QueryM} {b:Bool} (hb:b=m.over) (hC:Fr C) (hS:Stab (C (QueryW v u m))) (h:Done w0 F0 (C (QueryW v u m)) w):Calls Tryz.prog 25 #[v] w fun e w' => e=.returned (.bool b)∧Done w0 F0 (C (QueryW v u m)) w' := by
 subst hb
 exact dcalls_lookA hC hS h (fun F hF=>QOver_any v u m F w hF)
theorem dQ_log {m:QueryM} (hC:Fr C) (hS:Stab (C (QueryW v u m))) (h:Done w0 F0 (C (QueryW v u m)) w):Calls Tryz.prog 28 #[v] w fun e w' => e=.returned (u)∧Done w0 F0 (C (QueryW v u m)) w' := by

 exact dcalls_lookA hC hS h (fun F hF=>QLog_any v u m F w hF)
theorem dR_hear {d:Value} {m m' : ReplyM} {x y:XIn} {l:List Int} {n:Int} {b:Bool} (hx:x.ok) (hd:RdU w d l) (hl:l.length≤1000) (hy:y=m.xid x l) (hn:n=m.used x l) (hb:b=m.says x l) (hm:m' = m.hear x l) (hC:Fr C) (h:Done w0 F0 (C (ReplyW v m)) w):Calls Tryz.prog 39 #[v,x.val,d] w fun e w' => e=.returned (.tuple #[y.val,.int .i64 n,.bool b])∧Done w0 F0 (C (ReplyW v m')) w' := by
 subst hy;subst hn;subst hb;subst hm
 exact dcalls_at (R' := ReplyW v (m.hear x l)) hC h (fun F hF=>RpHear_any v d m F x l w hF hx hd hl)
theorem dR_id {m:ReplyM} {n:Int} (hn:n=m.id) (hC:Fr C) (hS:Stab (C (ReplyW v m))) (h:Done w0 F0 (C (ReplyW v m)) w):Calls Tryz.prog 41 #[v] w fun e w' => e=.returned (.int .u32 n)∧Done w0 F0 (C (ReplyW v m)) w' := by
 subst hn
 exact dcalls_lookA hC hS h (fun F hF=>RpId_any v m F w hF)
theorem dR_nick {m:ReplyM} {s:ByteArray} (hs:s=m.nick) (hC:Fr C) (hS:Stab (C (ReplyW v m))) (h:Done w0 F0 (C (ReplyW v m)) w):Calls Tryz.prog 42 #[v] w fun e w' => e=.returned (.string s)∧Done w0 F0 (C (ReplyW v m)) w' := by
 subst hs
 exact dcalls_lookA hC hS h (fun F hF=>RpNick_any v m F w hF)
theorem dB_put {m m' : BoxM} {a:AIn} {n:Int} (ha:a.ok) (hn:n=m.putE a) (hm:m' = m.put a) (hC:Fr C) (h:Done w0 F0 (C (BoxW v m)) w):Calls Tryz.prog 47 #[v,a.val] w fun e w' => e=.returned (.int .i64 n)∧Done w0 F0 (C (BoxW v m')) w' := by
 subst hn;subst hm
 exact dcalls_at (R' := BoxW v (m.put a)) hC h (fun F hF=>BPut_any v m F a w hF ha)
theorem dB_first {m:BoxM} {a:AIn} {b:Bool} (ha:a=m.first) (hb:b=m.some_) (hC:Fr C) (hS:Stab (C (BoxW v m))) (h:Done w0 F0 (C (BoxW v m)) w):Calls Tryz.prog 48 #[v] w fun e w' => e=.returned (.tuple #[a.val,.bool b])∧Done w0 F0 (C (BoxW v m)) w' := by
 subst ha;subst hb
 exact dcalls_lookA hC hS h (fun F hF=>BFirst_any v m F w hF)
theorem dB_take {m m' : BoxM} {a:AIn} {b:Bool} (ha:a=m.first) (hb:b=m.some_) (hm:m' = m.take) (hC:Fr C) (h:Done w0 F0 (C (BoxW v m)) w):Calls Tryz.prog 49 #[v] w fun e w' => e=.returned (.tuple #[a.val,.bool b])∧Done w0 F0 (C (BoxW v m')) w' := by
 subst ha;subst hb;subst hm
 exact dcalls_at (R' := BoxW v m.take) hC h (fun F hF=>BTake_any v m F w hF)
theorem dB_len {m:BoxM} {n:Int} (hn:n=(m.l.length:Int)) (hC:Fr C) (hS:Stab (C (BoxW v m))) (h:Done w0 F0 (C (BoxW v m)) w):Calls Tryz.prog 50 #[v] w fun e w' => e=.returned (.int .i64 n)∧Done w0 F0 (C (BoxW v m)) w' := by
 subst hn
 exact dcalls_lookA hC hS h (fun F hF=>BLen_any v m F w hF)
end
end Go.Proofs.YtjddbjmcjhjpiaaGreatDoor
