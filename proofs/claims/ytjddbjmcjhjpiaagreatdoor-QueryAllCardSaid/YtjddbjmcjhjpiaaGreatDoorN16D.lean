/- Of layer 12: LogA3, FreshM, ZB6, Eq16, QA1, QA2, Ref8g, QA3, Ref8d. -/
import Derived.Test.YtjddbjmcjhjpiaaGreatDoorN16B
import Derived.Test.YtjddbjmcjhjpiaaGreatDoorN16C
import Derived.Test.YtjddbjmcjhjpiaaGreatDoorM4H
import Derived.Test.YtjddbjmcjhjpiaaGreatDoorN16A
import Derived.Test.YtjddbjmcjhjpiaaGreatDoorM4G
import Derived.Test.YtjddbjmcjhjpiaaGreatDoorM4J
import Derived.Test.YtjddbjmcjhjpiaaGreatDoorM4B
import Derived.Test.YtjddbjmcjhjpiaaGreatDoorM4I

set_option linter.all false

namespace Go.Proofs.YtjddbjmcjhjpiaaGreatDoor
set_option maxRecDepth 100000
set_option maxHeartbeats 8000000
open Go.RowKit M

theorem region_shared1 {P:Program} {id:Nat} {ops:Array Oper} {a:Act} {w:World} {Q:Exit→Act→World→Prop} (F:Nat→World→Prop) (A:Nat→Act) (hcont:∀ g w5,F g w5→Q .normal (A g) w5) (h:(∀ g w5,F g w5→Q .normal (A g) w5)→(Code.region id ops true).wp P Q a w):(Code.region id ops true).wp P Q a w:=h hcont
theorem exec_loadMid {P:Program} {a:Act} {oi:Oper} {w:World} {ty:TypeId} {x:Operand} {b o:Nat} {cs:List Value} {d:TypeDesc} (ho:oi.op=.load ty x) (hx:a.eval x=.pointer (some ⟨b,o,none⟩)) (hc:w.rangeAt b o cs)
 (hu:P.underlying ty=some d) (hd:d.isRow=true) (hi:(P.info? ty).map (·.size)=some cs.length):(execOp a.eval oi).run P w=.ok (.value (.agg cs.toArray)) w:=by
 simp only [execOp,ho,hx,Instr.loadAt,Instr.sureAddr,Sem.run_bind,Sem.run_pure,Result.andThen_ok,run_loadVar_mid w b o ty cs d hc hu hd hi]
theorem u32_lit {n:Int} (h:(Lit.int .u32 n).wf=true):u32 n:=by
 have h2:=h
 simp [Lit.wf,IntKind.min,IntKind.max,IntKind.signed,IntKind.bits] at h2
 exact ⟨by omega,by omega⟩
namespace LogM
set_option maxRecDepth 100000
set_option maxHeartbeats 8000000
variable {m:LogM} {x:XIn}
theorem nick_len (h:mayX x.xd=true):x.nick.size≤20:=by
 unfold mayX at h
 simp only [Bool.and_eq_true] at h
 have h2:=h.2
 unfold M.mayL at h2
 simp only [Bool.and_eq_true,decide_eq_true_eq] at h2
 have h3:=h2.1
 simpa [XIn.xd] using h3
theorem who_mem {n:Int} {s:SeenM} (h:m.who n=some s):s ∈ m.l∧s.id=n:=by
 unfold who at h
 exact ⟨List.mem_of_find?_eq_some h,by simpa using List.find?_some h⟩
theorem ok_clash {n:Int} (h:m.ok) (hn:u32 n):({ m with clash:=insC n m.clash }:LogM).ok:=⟨h.len,insC_rise n _ h.rise,h.ids,h.nicks,fun y hy=>by
 rcases (insC_mem n _ y).1 hy with rfl | hy
 · exact hn
 · exact h.clashes y hy⟩
theorem cov_clash {n:Int} (h:m.cov) (hn:n=m.me ∨ ∃ s ∈ m.l,s.id=n):({ m with clash:=insC n m.clash }:LogM).cov:=fun y hy=>by
 rcases (insC_mem n _ y).1 hy with rfl | hy
 · exact hn
 · exact h y hy
theorem ok_note (h:m.ok) (hl:m.l.length < 16) (hx:x.ok):({ m with l:=m.l ++ [⟨x.from_,x.nick,x.slot⟩] }:LogM).ok:=⟨by show (m.l ++ [_]).length≤16;simp;omega,h.rise,fun s hs=>by
 rcases List.mem_append.1 hs with hs | hs
 · exact h.ids s hs
 · simp only [List.mem_singleton] at hs
   subst hs
   exact u32_lit hx.1,fun s hs=>by
 rcases List.mem_append.1 hs with hs | hs
 · exact h.nicks s hs
 · simp only [List.mem_singleton] at hs
   subst hs
   exact hx.2.2.2.2,h.clashes⟩
theorem cov_note (h:m.cov):({ m with l:=m.l ++ [⟨x.from_,x.nick,x.slot⟩] }:LogM).cov:=fun y hy=>by
 rcases h y hy with h1 | ⟨s,h1,h2⟩
 · exact .inl h1
 · exact .inr ⟨s,List.mem_append_left _ h1,h2⟩
end LogM

def u32s (l:List Int):List Value:=l.map (Value.int .u32)
theorem u32s_one (l:List Int):∀ v ∈ u32s l,v.oneCell' = true:=by
 intro v hv
 simp only [u32s,List.mem_map] at hv
 obtain ⟨x,_,rfl⟩:=hv
 rfl
def dvcs (l:List SeenM):List Value:=l.flatMap fun s=>[.int .u32 s.id,.string s.nick]
def LogX (gl:Nat) (A:Option Addr) (n ca:Nat) (B:Option Addr) (p cb:Nat) (me:Int) (l:List SeenM) (cl:List Int):Obj:=Star (Star (CellW gl (yG me A n ca B p cb) 101) (OwnK 103 3 (.slice A n ca) n (lgcs l))) (OwnK 22 1 (.slice B p cb) p (u32s cl))
theorem LogX.stab {gl:Nat} {A:Option Addr} {n ca:Nat} {B:Option Addr} {p cb:Nat} {me:Int} {l:List SeenM} {cl:List Int}:Stab (LogX gl A n ca B p cb me l cl):=((cS.star kS).star kS)
def LogO (gl:Nat) (u c:Value) (m:LogM):Obj:=Star (Star (CellW gl #[.int .u32 m.me,u,c] 101) (OwnK 103 3 u m.l.length (lgcs m.l))) (OwnK 22 1 c m.clash.length (u32s m.clash))
theorem LogO.stab (gl:Nat) (u c:Value) (m:LogM):Stab (LogO gl u c m):=(cS.star kS).star kS
def LogW (v:Value) (m:LogM):Obj:=fun w F=>m.ok∧m.cov∧∃ gl u c,v=.pointer (some ⟨gl,0,none⟩)∧LogO gl u c m w F
theorem LogW.stab (v:Value) (m:LogM):Stab (LogW v m) where
 in_:=fun ⟨_,_,gl,u,c,_,h⟩=>(LogO.stab gl u c m).in_ h
 tch:=fun ⟨h1,h2,gl,u,c,e,h⟩ ht hd=>⟨h1,h2,gl,u,c,e,(LogO.stab gl u c m).tch h ht hd⟩
section
variable {w:World} {v:Value} {F:List Nat}
theorem LogW.ptr {m:LogM} (h:LogW v m w F):∃ a:Addr,v=.pointer (some a):=by
 obtain ⟨_,_,gl,u,c,rfl,_⟩:=h
 exact ⟨_,rfl⟩
theorem LogW.ok {m:LogM} (h:LogW v m w F):m.ok:=h.1
theorem LogW.shape {m:LogM} (h:LogW v m w F):∃ gl A ca B cb,v=.pointer (some ⟨gl,0,none⟩)∧LogX gl A m.l.length ca B m.clash.length cb m.me m.l m.clash w F:=by
 obtain ⟨_,_,gl,u,c,rfl,F1,F2,rfl,⟨F3,F4,rfl,k1,k2,k3⟩,k4,k5⟩:=h
 obtain ⟨A,ca,rfl,_⟩:=k2.shape
 obtain ⟨B,cb,rfl,_⟩:=k4.shape
 exact ⟨gl,A,ca,B,cb,rfl,F3 ++ F4,F2,rfl,⟨F3,F4,rfl,k1,k2,k3⟩,k4,k5⟩
theorem LogX.toW {gl n ca p cb:Nat} {A B:Option Addr} {me:Int} {l:List SeenM} {cl:List Int} (h:LogX gl A n ca B p cb me l cl w F) (hn:n=l.length) (hp:p=cl.length) (hok:(⟨me,l,cl⟩:LogM).ok) (hcv:(⟨me,l,cl⟩:LogM).cov):LogW (.pointer (some ⟨gl,0,none⟩)) ⟨me,l,cl⟩ w F:=by
 subst hn;subst hp
 exact ⟨hok,hcv,gl,_,_,rfl,h⟩
end
theorem LLen_any (v:Value) (m:LogM) (F:List Nat) (w:World) (h:LogW v m w F):Calls Tryz.prog 52 #[v] w fun e w' => e=.returned (.int .i64 (m.l.length:Int))∧Below w.heap.size w w' := by
 obtain ⟨gl,A,ca,B,cb,rfl,hx⟩:=h.shape
 have q:w.cell? ⟨gl,1,none⟩=some (.slice A m.l.length ca):=cell_at (Done.at_ (C:=fun X=>Star (Star (X) (OwnK 103 3 (.slice A m.l.length ca) m.l.length (lgcs m.l))) (OwnK 22 1 (.slice B m.clash.length cb) m.clash.length (u32s m.clash))) (Fr.l (Fr.l Fr.id_ kS) kS) (Done.start hx)) 1 _ rfl
 generalize m.l.length=n at q ⊢
 clear hx h
 go_enter Tryz.func52,Tryz.ntmps52
 go_wp2
 go_ret
 exact ⟨rfl,Below.refl _ _⟩
theorem LLen_nil (w:World):Calls Tryz.prog 52 #[.pointer none] w fun e w' => e=.returned (.int .i64 0)∧Below w.heap.size w w' := by
 go_enter Tryz.func52,Tryz.ntmps52
 go_wp2
 go_ret
 exact ⟨rfl,Below.refl _ _⟩
theorem LClash_nil (w:World):Calls Tryz.prog 32 #[.pointer none] w fun e w' => ∃ A c,e=.returned (.slice A 0 c)∧Below w.heap.size w w' := by
 go_enter Tryz.func32,Tryz.ntmps32
 go_wp2
 go_ret
 exact ⟨none,0,rfl,Below.refl _ _⟩
theorem LNew_any (n:Int) (w:World) (_hn:(Lit.int .u32 n).wf=true):Calls Tryz.prog 53 #[.int .u32 n] w fun e w' => ∃ v,e=.returned v∧Done w [] (LogW v (LogM.new n)) w' := by
 have h:=(((CellW.new w #[.int .u32 n,.slice none 0 0,.slice none 0 0] 101).add cS (OwnK.nilD 103 3 _)).add (cS.star kS) (OwnK.nilD 22 1 _))
 have HH:=jzD h
 clear h
 go_enter Tryz.func53,Tryz.ntmps53
 go_wp2
 go_ret
 exact ⟨_,rfl,HH.out.mono fun F hF=>⟨LogM.ok_new n,fun y hy=>absurd hy (by simp [LogM.new]),w.heap.size,_,_,rfl,hF⟩⟩
theorem XClone_own (A:Option Addr) (n cap:Nat) (ys:List Value) (w:World) (F:List Nat) (h:OwnK 22 1 (.slice A n cap) n ys w F) (h1:∀ y ∈ ys,y.oneCell' = true) (hn:n≤1000) :
 Calls Tryz.prog 60 #[.slice A n cap] w fun e w' => ∃ a,e=.returned a∧Done w [] (OwnK 22 1 a n ys) w' := by
 have q0:=fun (w:World) (a:Option Addr) (n c n' c' : Nat)=>Lib.run_eql_slice_nil (P:=Tryz.prog) w 44 22 a n c n' c' Tryz.underlying44
 have hr:=h.rd
 have hl:ys.length=n:=by have := h.2.1;omega
 rcases own_form h.2 with ⟨h0,h2,h3⟩ | ⟨b,h3⟩
 · subst h0;subst h2;subst h3
   obtain rfl:ys=[]:=List.eq_nil_of_length_eq_zero hl
   clear h hr h1 hl
   go_enter Tryz.func60,Tryz.ntmps60
   go_wp2
   go_ret
   exact ⟨_,rfl,OwnK.nilD _ _ _⟩
 · subst h3
   have hD:Done w [] (OwnK 22 1 (.slice (some ⟨w.heap.size,0,none⟩) 0 0) 0 []) (w.alloc (.cells #[] 22)):=(CellW.new w #[] 22).mono fun F hF=>hF.ownN rfl (by simp [maxLen])
   have HD:=jzD hD
   have HR:=jzD (hr.below ((Below.refl _ _).alloc (Nat.le_refl _) (.cells #[] 22)))
   have H1:=jzD h1
   have HN:Hid (0 + n≤1000000):=by show _≤_;omega
   clear h hr h1 hl hD
   go_enter Tryz.func60,Tryz.ntmps60
   go_wp2_with ((with_reducible refine wpList_appD (C:=fun X=>X) Fr.id_ HD.out rfl (.tmp 5) (.tmp 6) 44 4 (.int .u32 0) rfl Tryz.underlying44 u32_infoL rfl (by decide) (.slice (some ⟨b,0,none⟩) n cap) n ys rfl rfl HR.out H1.out (0 + n) rfl HN.out ys rfl ?_);intro A c w' hs hc;have HS:=jzD hs;clear hs hc)
   go_ret
   exact ⟨_,rfl,by have := HS.out;rw [Nat.zero_add] at this;exact this⟩
theorem LClash_any (v:Value) (m:LogM) (F:List Nat) (w:World) (h:LogW v m w F):Calls Tryz.prog 32 #[v] w fun e w' => ∃ a,e=.returned a∧Done w F (Star (LogW v m) (SlW 1 a m.clash.length (u32s m.clash))) w' := by
 have h17:=LogM.cov_len h.1 h.2.1
 obtain ⟨gl,A,ca,B,cb,rfl,hx⟩:=h.shape
 have q:w.cell? ⟨gl,2,none⟩=some (.slice B m.clash.length cb):=cell_at (Done.at_ (C:=fun X=>Star (Star (X) (OwnK 103 3 (.slice A m.l.length ca) m.l.length (lgcs m.l))) (OwnK 22 1 (.slice B m.clash.length cb) m.clash.length (u32s m.clash))) (Fr.l (Fr.l Fr.id_ kS) kS) (Done.start hx)) 2 _ rfl
 obtain ⟨F1,F2,rfl,_,k4,_⟩:=hx
 have hc:=XClone_own B m.clash.length cb (u32s m.clash) w F2 k4 (u32s_one _) (by omega)
 have HC:=jzD hc
 have HS:=jzD (Done.start h)
 generalize m.clash.length=n at q HC ⊢
 clear k4 hc h h17
 go_enter Tryz.func32,Tryz.ntmps32
 go_wp2_with (go_at_call 60;((with_reducible refine (HC.out).mono ?_);rintro e w' ⟨a,rfl,hs⟩;have HA:=jzD hs;clear hs))
 go_ret
 exact ⟨_,rfl,HS.out.add (LogW.stab _ _) (HA.out.mono fun F hF=>hF.sl)⟩
theorem LFind_any (gl:Nat) (A:Option Addr) (n ca:Nat) (l:List SeenM) (q:Int) (w:World) (hc:w.cell? ⟨gl,1,none⟩=some (.slice A n ca)) (hr:RdG 3 w (.slice A n ca) n (lgcs l)) (hn:n=l.length) (hl:n≤1000) :
 Calls Tryz.prog 67 #[.pointer (some ⟨gl,0,none⟩),.int .u32 q] w fun e w' => (∃ r,e=.returned (.int .i64 r)∧FindR l q r)∧Below w.heap.size w w' := by
 have hb:Below w.heap.size w (w.alloc (.cells #[.int .u32 q] 22)):=(Below.refl _ _).alloc (Nat.le_refl _) _
 have HC:=jzD (LIdx_any A n ca l q w.heap.size _ hn (hr.below hb) (cell_at (heap_alloc_new w (.cells #[.int .u32 q] 22)) 0 _ rfl) hl)
 have c1:(w.alloc (.cells #[.int .u32 q] 22)).cell? ⟨gl,1,none⟩=some (.slice A n ca):=(hb.cell (p:=⟨gl,1,none⟩) (World.block_lt_of_cell? w ⟨gl,1,none⟩ hc)).trans hc
 have HB:=jzD hb
 clear hc hr hn hl hb
 go_enter Tryz.func67,Tryz.ntmps67
 go_wp2_with (go_at_call 79;((with_reducible refine (HC.out).mono ?_);rintro e w2 ⟨⟨r,rfl,hr⟩,hb⟩;have HF:=jzD hr;have HB2:=jzD hb;clear hr hb))
 go_ret
 exact ⟨⟨r,rfl,HF.out⟩,HB.out.trans (HB2.out.mono HB.out.size)⟩
theorem run_storeU32S (A:Option Addr) (n c g k:Nat):∀ w:World,(∃ u,w.cell? ⟨g,k,none⟩=some u)→w.frozen? ⟨g,k,none⟩=false→(Instr.storeAt 44 (.pointer (some ⟨g,k,none⟩)) (.slice A n c)).run Tryz.prog w=.ok () (w.setCell ⟨g,k,none⟩ (.slice A n c)):=by
 rintro w ⟨u,hu⟩ hf
 go_simp
theorem run_storeNS (A:Option Addr) (n c g k:Nat):∀ w:World,(∃ u,w.cell? ⟨g,k,none⟩=some u)→w.frozen? ⟨g,k,none⟩=false→(Instr.storeAt 99 (.pointer (some ⟨g,k,none⟩)) (.slice A n c)).run Tryz.prog w=.ok () (w.setCell ⟨g,k,none⟩ (.slice A n c)):=by
 rintro w ⟨u,hu⟩ hf
 go_simp
theorem XIns_any {n i cap g:Nat} {A:Option Addr} {ys:List Value} {x:Int} {w:World} {F:List Nat} (h:OwnK 22 1 (.slice A n cap) n ys w F) (ho:∀ y ∈ ys,y.oneCell' = true) (hR:CellW g #[.int .u32 x] 22 w [g]) (hgF:g ∉ F) (hi:i≤n) (hn:n≤1000) :
 Calls Tryz.prog 82 #[.slice A n cap,.int .i64 (i:Int),.slice (some ⟨g,0,none⟩) 1 1] w (InsR n i 1 ys [.int .u32 x] F w):=by
 have h1:∀ y ∈ [Value.int .u32 x],y.oneCell' = true:=by
  intro y hy
  simp only [List.mem_singleton] at hy
  subst hy
  rfl
 by_cases hin:i=n
 · subst hin
   exact XIns_end h (rdG_new hR.2 rfl) h1 (by decide) (by omega)
 · rcases own_form h.2 with ⟨h0,_,_⟩ | ⟨b,rfl⟩
   · omega
   · by_cases hc:n + 1≤cap
     · exact XIns_room h ho hR h1 rfl hgF (by decide) (by omega) hc
     · exact XIns_grow h ho hR h1 rfl (by decide) (by omega) (by omega) (by omega)
theorem dXIns {w0 w:World} {F0:List Nat} {R:Obj} {n i cap g:Nat} {A:Option Addr} {ys:List Value} {x:Int} (hR:Stab R) (ho:∀ y ∈ ys,y.oneCell' = true) (hi:i≤n) (hn:n≤1000) (h:Done w0 F0 (Star (Star R (OwnK 22 1 (.slice A n cap) n ys)) (CellW g #[.int .u32 x] 22)) w) :
 Calls Tryz.prog 82 #[.slice A n cap,.int .i64 (i:Int),.slice (some ⟨g,0,none⟩) 1 1] w fun e w' => ∃ A' c', e=.returned (.slice A' (n + 1) c')∧Done w0 F0 (Star (Star R (OwnK 22 1 (.slice A' (n + 1) c') (n + 1) (putAt ys i [.int .u32 x]))) (CellW g #[.int .u32 x] 22)) w' := by
 obtain ⟨F1,k1,hu⟩:=h.upd (C:=fun X=>Star (Star R X) (CellW g #[.int .u32 x] 22)) (Fr.l (Fr.r hR Fr.id_) cS)
 obtain ⟨F,⟨Fa,Fb,rfl,⟨Fc,Fd,rfl,_,e1,_⟩,e2,e3⟩,_,_⟩:=h
 have hgF:g ∉ F1:=by
  rw [k1.1,← e1.1]
  intro hg
  exact e3 g (List.mem_append_right _ hg) (by rw [e2.1];simp)
 refine (XIns_any k1 ho ⟨rfl,e2.2⟩ hgF hi hn).mono ?_
 rintro e w' ⟨A', c', rfl,_,hd⟩
 exact ⟨A', c', rfl,hu hd⟩
theorem slU_own {n cap:Nat} {A:Option Addr} {cl:List Int} {w:World} {F:List Nat} (h:OwnK 22 1 (.slice A n cap) n (u32s cl) w F) (hn:n=cl.length):SlU 0 w (.slice A cl.length cap) cl:=by
 subst hn
 exact SlU.of_own (base:=0) h.2
theorem LACl (gl:Nat) (A:Option Addr) (n ca:Nat) (B:Option Addr) (p cb:Nat) (me x:Int) (l:List SeenM) (cl:List Int) (w:World) (F:List Nat) (hp:p=cl.length) (hcl:cl.Pairwise (· < ·)) (h17:p≤17) (h:LogX gl A n ca B p cb me l cl w F) :
 Calls Tryz.prog 69 #[.pointer (some ⟨gl,0,none⟩),.int .u32 x] w fun e w' => e=.returned (.tuple #[])∧∃ B' cb', Done w F (LogX gl A n ca B' (insC x cl).length cb' me l (insC x cl)) w' := by
 have hS:Done w F (Star (Star (CellW gl (yG me A n ca B p cb) 101) (OwnK 103 3 (.slice A n ca) n (lgcs l))) (OwnK 22 1 (.slice B p cb) p (u32s cl))) w:=Done.start h
 have q2:w.cell? ⟨gl,2,none⟩=some (.slice B p cb):=cell_at (Done.at_ (C:=fun X=>Star (Star (X) (OwnK 103 3 (.slice A n ca) n (lgcs l))) (OwnK 22 1 (.slice B p cb) p (u32s cl))) (Fr.l (Fr.l Fr.id_ kS) kS) hS) 2 _ rfl
 have hsl:SlU 0 w (.slice B p cb) cl:=by
  obtain ⟨_,_,_,_,k4,_⟩:=h
  have := slU_own k4 hp
  rw [← hp] at this
  exact this
 have hbin:=Xbin_at 0 B cb cl x w (by omega) (by rw [← hp];exact hsl) (srt_of_rise hcl)
 rw [← hp] at hbin
 have HS:=jzD hS
 have HP:=jzD hp
 have HR:=jzD hcl
 have HH:=jzD h
 have H17:Hid (p≤1000):=by show _≤_;omega
 by_cases hin:x ∈ cl
 · rw [decide_eq_true hin] at hbin
   have e1:=insC_in x cl hcl hin
   rw [e1]
   have HB:=jzD hbin
   clear hS hp hcl h17 h hbin hsl hin e1
   go_enter Tryz.func69,Tryz.ntmps69
   go_wp2_with (go_at_call 81;((with_reducible refine (HB.out).mono ?_);rintro e w1 ⟨⟨k,hk,h1,h2,rfl⟩,rfl⟩;clear hk h1 h2))
   go_end0
   refine ⟨rfl,B,cb,?_⟩
   rw [← HP.out]
   exact HS.out
 · rw [decide_eq_false hin] at hbin
   have HB:=jzD hbin
   have HIN:=jzD hin
   have HA:=jzD (HS.out.add ((cS.star kS).star kS) (CellW.new w #[.int .u32 x] 22))
   clear hS hp hcl h17 h hbin hsl hin
   go_enter Tryz.func69,Tryz.ntmps69
   go_wp2_with (first
    | (go_at_call 81;((with_reducible refine (HB.out).mono ?_);rintro e w1 ⟨⟨k,hk,h1,h2,rfl⟩,hw1⟩;rw [hw1];clear hw1;have HK:=jzD hk;have HK1:=jzD h1;have HK2:=jzD h2;clear hk h1 h2))
    | (go_at_call 82;((with_reducible refine (dXIns (cS.star kS) (u32s_one _) HK.out H17.out HA.out).mono ?_);rintro e w2 ⟨B2,c2,rfl,hs⟩;have HS2:=jzD hs;clear hs))
    | ((with_reducible refine wpList_storeD (C:=fun X=>Star (Star (Star (X) (OwnK 103 3 (.slice A n ca) n (lgcs l))) (OwnK 22 1 (.slice B2 (p + 1) c2) (p + 1) (putAt (u32s cl) k [.int .u32 x]))) (CellW w.heap.size #[.int .u32 x] 22)) (Fr.l (Fr.l (Fr.l Fr.id_ kS) kS) cS) HS2.out rfl 44 (.tmp 27) (.tmp 25) rfl 2 (.slice B2 (p + 1) c2) rfl rfl (by simp) (run_storeU32S _ _ _ _ _) ?_);intro w3 hs;have HS3:Hid (Done w F (Star (Star (Star (CellW gl (yG me A n ca B2 (p + 1) c2) 101) (OwnK 103 3 (.slice A n ca) n (lgcs l))) (OwnK 22 1 (.slice B2 (p + 1) c2) (p + 1) (putAt (u32s cl) k [.int .u32 x]))) (CellW w.heap.size #[.int .u32 x] 22)) w3):=(by show Done _ _ _ _;exact hs);clear hs))
   go_end0
   have e1:insC x cl=cl.take k ++ [x] ++ cl.drop k:=insC_at x cl k (by have := HK.out;have := HP.out;omega) HK1.out (fun j h1 h2=>by
    have h3:=HK2.out j h1 (by have := HP.out;omega)
    have h4:gd cl j ≠ x:=fun e=>HIN.out (by rw [← e];exact gd_mem h2)
    omega)
   have e2:(insC x cl).length=p + 1:=by
    have := HK.out
    have := HP.out
    rw [e1,List.length_append,List.length_append,List.length_take,List.length_drop]
    simp
    omega
   have e3:u32s (insC x cl)=putAt (u32s cl) k [.int .u32 x]:=by rw [e1];simp [u32s,putAt]
   refine ⟨rfl,B2,c2,?_⟩
   unfold LogX
   rw [e2,e3]
   exact HS3.out.drop
theorem dACl {w0 w:World} {F0:List Nat} {R:Obj} {gl:Nat} {A:Option Addr} {n ca:Nat} {B:Option Addr} {p cb:Nat} {me x:Int} {l:List SeenM} {cl:List Int} (hR:Stab R) (hp:p=cl.length) (hcl:cl.Pairwise (· < ·)) (h17:p≤17) (h:Done w0 F0 (Star (Star (Star (CellW gl (yG me A n ca B p cb) 101) (OwnK 103 3 (.slice A n ca) n (lgcs l))) (OwnK 22 1 (.slice B p cb) p (u32s cl))) R) w) :
 Calls Tryz.prog 69 #[.pointer (some ⟨gl,0,none⟩),.int .u32 x] w fun e w' => e=.returned (.tuple #[])∧∃ B' cb', Done w0 F0 (Star (LogX gl A n ca B' (insC x cl).length cb' me l (insC x cl)) R) w' := by
 obtain ⟨F1,k1,hu⟩:=h.upd (C:=fun X=>Star X R) (Fr.l Fr.id_ hR)
 refine (LACl gl A n ca B p cb me x l cl w F1 hp hcl h17 k1).mono ?_
 rintro e w' ⟨rfl,B', cb', hd⟩
 exact ⟨rfl,B', cb', hu hd⟩
theorem dFind {w0 w:World} {F0:List Nat} {R:Obj} {gl:Nat} {A:Option Addr} {n ca:Nat} {B:Option Addr} {p cb:Nat} {me q:Int} {l:List SeenM} {cl:List Int} (hR:Stab R) (hn:n=l.length) (hl:n≤1000) (h:Done w0 F0 (Star (Star (Star (CellW gl (yG me A n ca B p cb) 101) (OwnK 103 3 (.slice A n ca) n (lgcs l))) (OwnK 22 1 (.slice B p cb) p (u32s cl))) R) w) :
 Calls Tryz.prog 67 #[.pointer (some ⟨gl,0,none⟩),.int .u32 q] w fun e w' => (∃ r,e=.returned (.int .i64 r)∧FindR l q r)∧Done w0 F0 (Star (Star (Star (CellW gl (yG me A n ca B p cb) 101) (OwnK 103 3 (.slice A n ca) n (lgcs l))) (OwnK 22 1 (.slice B p cb) p (u32s cl))) R) w' := by
 have hs:Stab (Star (Star (Star (CellW gl (yG me A n ca B p cb) 101) (OwnK 103 3 (.slice A n ca) n (lgcs l))) (OwnK 22 1 (.slice B p cb) p (u32s cl))) R):=(((cS.star kS).star kS)).star hR
 have q1:w.cell? ⟨gl,1,none⟩=some (.slice A n ca):=cell_at (Done.at_ (C:=fun X=>Star (Star (Star X (OwnK 103 3 (.slice A n ca) n (lgcs l))) (OwnK 22 1 (.slice B p cb) p (u32s cl))) R) (Fr.l (Fr.l (Fr.l Fr.id_ kS) kS) hR) h) 1 _ rfl
 obtain ⟨F1,k1⟩:=h.get (C:=fun X=>Star (Star (Star (CellW gl (yG me A n ca B p cb) 101) X) (OwnK 22 1 (.slice B p cb) p (u32s cl))) R) (Fr.l (Fr.l (Fr.r cS Fr.id_) kS) hR)
 refine (LFind_any gl A n ca l q w q1 k1.rd hn hl).mono ?_
 rintro e w' ⟨h1,hb⟩
 exact ⟨h1,h.keep hs hb⟩
end Go.Proofs.YtjddbjmcjhjpiaaGreatDoor

namespace Go.Proofs.YtjddbjmcjhjpiaaGreatDoor

theorem drawn_some {nots:List Int}:∀ (l:List Int) (k:Nat) {x:Int} {j:Nat},drawn nots l k=some (x,j)→∃ i,∃ h:i < l.length,j=k + i + 1∧l[i]=x∧ownN x=true∧nots.contains x=false∧∀ y ∈ l.take i,(ownN y && !nots.contains y)=false
 | [],_,_,_,h=>by cases h
 | d :: r,k,x,j,h=>by
  unfold drawn at h
  split at h
  · rename_i hd
    injection h with h
    injection h with h1 h2
    subst h1;subst h2
    rw [Bool.and_eq_true] at hd
    refine ⟨0,by simp,by omega,rfl,hd.1,by simpa using hd.2,fun y hy=>by simp at hy⟩
  · rename_i hd
    obtain ⟨i,hi,h1,h2,h3,h4,h5⟩:=drawn_some r (k + 1) h
    refine ⟨i + 1,by simpa using hi,by omega,by simpa using h2,h3,h4,fun y hy=>?_⟩
    rw [List.take_succ_cons] at hy
    rcases List.mem_cons.1 hy with rfl | hy
    · simpa using hd
    · exact h5 y hy
theorem drawn_none {nots:List Int}:∀ (l:List Int) (k:Nat),drawn nots l k=none→∀ y ∈ l,(ownN y && !nots.contains y)=false
 | [],_,_,y,hy=>by simp at hy
 | d :: r,k,h,y,hy=>by
  unfold drawn at h
  split at h
  · cases h
  · rename_i hd
    rcases List.mem_cons.1 hy with rfl | hy
    · simpa using hd
    · exact drawn_none r (k + 1) h y hy
theorem fresh_spec {l m:List Int} (hm:m.length≤1000):ownN (freshM l m).1=true∧(freshM l m).1 ∉ m∧(freshM l m).2≤l.length∧(∀ i (h:i < l.length),i + 1 < (freshM l m).2→l[i] ≠ (freshM l m).1) ∧
 ((freshM l m).2=l.length ∨ ∃ h:(freshM l m).2 - 1 < l.length,l[(freshM l m).2 - 1]=(freshM l m).1):=by
 cases hd:drawn m l 0 with
 | some p =>
  obtain ⟨x,j⟩:=p
  have e:freshM l m=(x,j):=by unfold freshM;rw [hd];rfl
  rw [e]
  obtain ⟨i,hi,h1,h2,h3,h4,h5⟩:=drawn_some l 0 hd
  simp only
  have hx:x ∉ m:=by
   intro h
   rw [← List.contains_iff_mem,h4] at h
   cases h
  refine ⟨h3,hx,by omega,fun i' h' hlt he=>?_,.inr ⟨by omega,?_⟩⟩
  · have := h5 l[i'] (by
     rw [List.mem_take_iff_getElem]
     exact ⟨i', by omega,rfl⟩)
    rw [he,h3,h4] at this
    cases this
  · have : j - 1=i:=by omega
    simp only [this]
    exact h2
 | none =>
  have e:freshM l m=(leastN m m.length 1,l.length):=by unfold freshM;rw [hd];rfl
  rw [e]
  obtain ⟨s1,s2,-,-⟩:=leastN_spec m m.length 1
  have s4:=leastN_not m 1
  simp only
  have ho:ownN (leastN m m.length 1)=true:=by
   unfold ownN
   rw [Bool.and_eq_true,bne_iff_ne,bne_iff_ne]
   omega
  refine ⟨ho,s4,Nat.le_refl _,fun i h _ he=>?_,.inl trivial⟩
  have := drawn_none l 0 hd l[i] (List.getElem_mem h)
  rw [he,ho] at this
  simp at this
  exact s4 this
end Go.Proofs.YtjddbjmcjhjpiaaGreatDoor

namespace Go.Proofs.YtjddbjmcjhjpiaaGreatDoor
set_option maxRecDepth 100000
set_option maxHeartbeats 4000000
open Go.RowKit

theorem SlU.zero {base:Nat} {w:World} {v:Value} {l:List Int} (h:SlU base w v l):SlU 0 w v l:=by
 rcases h with h | ⟨g,cap,e,_,h2,h3⟩
 · exact .inl h
 · exact .inr ⟨g,cap,e,Nat.zero_le _,h2,h3⟩
theorem RdU.gd {w:World} {A:Option Addr} {cap:Nat} {l:List Int} (h:RdU w (.slice A l.length cap) l) {k:Nat} (hk:k < l.length):∃ b off,A=some ⟨b,off,none⟩∧w.cell? ⟨b,off + k,none⟩=some (.int .u32 (gd l k)):=by
 obtain ⟨b,off,e,_,hc⟩:=h.at_ hk
 exact ⟨b,off,e,by rw [gd_at hk];exact hc⟩
theorem XFresh_any (v u:Value) (l m:List Int) (w:World) (hv:RdU w v l) (hu:RdU w u m) (hl:l.length≤1000) (hm:m.length≤12):Calls Tryz.prog 77 #[v,u] w (FreshR l m w):=by
 obtain ⟨B,cb,rfl,-,-,-,hB⟩:=hu
 have hv2:=hv
 obtain ⟨A,cap,rfl,-,-,-,-⟩:=hv2
 have hrb:∀ w2,Below w.heap.size w w2→RdB w2.heap.size w2 B m:=fun w2 hb h0=>by
  obtain ⟨b,off,e,hlt,hc⟩:=hB h0
  exact ⟨b,off,e,Nat.lt_of_lt_of_le hlt hb.size,fun j hj=>(hb.cell (p:=⟨b,off + j,none⟩) hlt).trans (hc j hj)⟩
 have HV:=jzD hv
 have HVAL:=jzD (Xval_any B m.length cb w)
 have hb1:Below w.heap.size w (w.alloc (.cells #[.slice B m.length cb] 44)):=bal (bel0 w) _
 have HB1:=jzD hb1
 have HSO:=jzD (Xsorted_any w.heap.size B cb m hm (w.alloc (.cells #[.slice B m.length cb] 44)) (by simp) (by simp) (hrb _ hb1))
 clear hB hrb hv hb1
 go_enter Tryz.func77,Tryz.ntmps77
 go_wp2_with (first
  | (go_at_call 97;(with_reducible refine (HVAL.out).mono ?_);rintro e w1 ⟨rfl,rfl⟩)
  | (go_at_call 96;(with_reducible refine (HSO.out).mono ?_);rintro e w2 ⟨v,rfl,S,hSl,hSm,hSs,hSu,hSb⟩;obtain ⟨C,cc,rfl⟩:∃ C cc,v=.slice C S.length cc:=(by rcases hSu with ⟨h1,h2⟩ | ⟨g,c,h1,_⟩;(· exact ⟨none,0,by rw [h1,h2];rfl⟩);(· exact ⟨_,c,h1⟩));have HSL:=jzD hSl;have HSM:=jzD hSm;have HSS:=jzD hSs;have HSU:=jzD hSu.zero;have HSB:=jzD (HB1.out.trans (hSb.mono HB1.out.size));clear hSl hSm hSs hSu hSb))
 have hS12:S.length≤1000:=by rw [HSL.out];omega
 have HVB:=jzD (HV.out.below HSB.out)
 go_loopw [4,5,16] (fun a b i wr=>wr=w2∧a=.int .u32 0∧b=.int .i64 0∧∃ k:Nat,k≤l.length∧i=.int .i64 (k:Int)∧∀ j,j < k→(ownN (gd l j) && !m.contains (gd l j))=false) (fun _ _ i _=>l.length - (intOf i).toNat)
 case atStart=>exact ⟨rfl,rfl,rfl,0,by omega,rfl,fun j h=>absurd h (by omega)⟩
 case round =>
  obtain ⟨rfl,rfl,rfl,k,hk,rfl,hno⟩:=hrel
  have HNO:=jzD hno
  clear hno
  by_cases hlt:k < l.length
  · have td:decide ((k:Int) < (l.length:Int))=true:=decide_eq_true (by omega)
    obtain ⟨b,off,rfl,c1⟩:=HVB.out.gd hlt
    have w5:IntKind.i64.wrap ((k:Int) + 1)=(k:Int) + 1:=IntWalk.i64_in _ (by omega)
    have hbin:=fun w h=>Xbin_any 0 C cc S (gd l k) w hS12 h HSS.out
    have hown:=fun w=>XisId_any (gd l k) w
    have hct:=contains_of HSM.out (gd l k)
    rcases ho:ownN (gd l k) with _ | _
    · have HN:Hid (∀ j,j < k + 1→(ownN (gd l j) && !m.contains (gd l j))=false):=by
       show ∀ _,_
       intro j hj
       by_cases e:j=k
       · subst e;rw [ho];rfl
       · exact HNO.out j (by omega)
      rw [ho] at hown
      have HBIN:=jzD hbin
      have HOWN:=jzD hown
      clear hbin hown hct ho
      generalize gd l k=y at *
      go_wp2_with (first
       | (go_at_call 81;(with_reducible refine (HBIN.out _ HSU.out).mono ?_);rintro e w' ⟨⟨q,rfl⟩,rfl⟩)
       | (go_at_call 65;(with_reducible refine (HOWN.out _).mono ?_);rintro e w' ⟨rfl,rfl⟩))
      go_roundw
      case rel=>exact ⟨trivial,rfl,rfl,k + 1,by omega,by go_num,HN.out⟩
      case measure=>simp [intOf] <;> omega
    · rw [ho] at hown
      have HOWN:=jzD hown
      rcases hi:decide (gd l k ∈ S) with _ | _
      · have HF:Hid (freshM l m=(gd l k,k + 1)):=by show _=_;exact fresh_found hlt HNO.out (by rw [ho,hct,hi];rfl)
        rw [hi] at hbin
        have HBIN:=jzD hbin
        clear hbin hown hct ho hi
        go_wp2_with (first
         | (go_at_call 81;(with_reducible refine (HBIN.out _ HSU.out).mono ?_);rintro e w' ⟨⟨q,rfl⟩,rfl⟩)
         | (go_at_call 65;(with_reducible refine (HOWN.out _).mono ?_);rintro e w' ⟨rfl,rfl⟩))
        go_ret2
        refine ⟨?_,HSB.out⟩
        rw [HF.out]
        rfl
      · have HN:Hid (∀ j,j < k + 1→(ownN (gd l j) && !m.contains (gd l j))=false):=by
         show ∀ _,_
         intro j hj
         by_cases e:j=k
         · subst e;rw [ho,hct,hi];rfl
         · exact HNO.out j (by omega)
        rw [hi] at hbin
        have HBIN:=jzD hbin
        clear hbin hown hct ho hi
        go_wp2_with (first
         | (go_at_call 81;(with_reducible refine (HBIN.out _ HSU.out).mono ?_);rintro e w' ⟨⟨q,rfl⟩,rfl⟩)
         | (go_at_call 65;(with_reducible refine (HOWN.out _).mono ?_);rintro e w' ⟨rfl,rfl⟩))
        go_roundw
        case rel=>exact ⟨trivial,rfl,rfl,k + 1,by omega,by go_num,HN.out⟩
        case measure=>simp [intOf] <;> omega
  · have td:decide ((k:Int) < (l.length:Int))=false:=decide_eq_false (by omega)
    have HF:Hid (freshM l m=(leastS S 1,l.length)):=by
     show _=_
     rw [least_sorted HSS.out HSM.out]
     exact fresh_none (fun i hi=>HNO.out i (by omega))
    have HLE:=jzD (fun w h=>Xleast_any 0 C cc S w hS12 h)
    go_wp2_with (go_at_call 98;(with_reducible refine (HLE.out _ HSU.out).mono ?_);rintro e w' ⟨rfl,rfl⟩)
    go_ret2
    refine ⟨?_,HSB.out⟩
    rw [HF.out]
    rfl
end Go.Proofs.YtjddbjmcjhjpiaaGreatDoor

namespace Go.Proofs.YtjddbjmcjhjpiaaGreatDoor
set_option maxRecDepth 100000
open Go.RowKit

theorem eql_A (a a' : Int) (b b' : Int) (c c' : Int) (f f' : ByteArray) (w:World) :
 (binOp .eql 68 (.agg #[.int .i64 a,.int .i64 b,.int .u32 c,.string f]) (.agg #[.int .i64 a', .int .i64 b', .int .u32 c', .string f'])).run Tryz.prog w =
  .ok (.bool (a == a' && (b == b' && (c == c' && f.toList == f'.toList)))) w:=by
 have u1:=Tryz.underlying22
 have u3:=Tryz.underlying3
 have u9:=Tryz.underlying9
 have hS:Tryz.prog.underlying 68=some (.struct (Tryz.prog.fieldsOf 68)):=by kernel_rfl
 have hp:Tryz.prog.stoodInHeld 68=false:=by kernel_rfl
 rw [run_eql_struct,show (10000:Nat)=9999 + 1 from rfl,run_equalIn_agg w 9999 68 _ _ hS hp]
 simp only [Program.fieldsOf,Tryz.underlying68]
 go_simp
 by_cases h0:a=a'
 · subst h0
   by_cases h1:b=b'
   · subst h1
     by_cases h2:c=c'
     · subst h2
       by_cases h3:f.toList=f'.toList <;> simp [h3]
     · simp [h2]
   · simp [h1]
 · simp [h0]
theorem neq_ask (x:AIn) (w:World):(binOp .neq 68 x.val x.val).run Tryz.prog w=.ok (.bool false) w:=by
 have h:=eql_A x.kind x.kind x.n x.n x.id x.id x.body x.body w
 simp only [beq_self_eq_true,Bool.and_self] at h
 exact neq_agg h
theorem guard_A (op:BinOp) (x y:Operand) (xs ys:Array Value) (W:World):(eqGuard op 68 x y (.agg xs) (.agg ys)).run Tryz.prog W=.ok () W:=run_eqGuard_agg W op 68 x y xs ys (by kernel_rfl)
theorem eql_D (c c' : Int) (f f' : ByteArray) (w:World) :
 (binOp .eql 89 (.agg #[.int .u32 c,.string f]) (.agg #[.int .u32 c', .string f'])).run Tryz.prog w =
  .ok (.bool (c == c' && f.toList == f'.toList)) w:=by
 have u1:=Tryz.underlying22
 have u3:=Tryz.underlying3
 have u9:=Tryz.underlying9
 have hS:Tryz.prog.underlying 89=some (.struct (Tryz.prog.fieldsOf 89)):=by kernel_rfl
 have hp:Tryz.prog.stoodInHeld 89=false:=by kernel_rfl
 rw [run_eql_struct,show (10000:Nat)=9999 + 1 from rfl,run_equalIn_agg w 9999 89 _ _ hS hp]
 simp only [Program.fieldsOf,Tryz.underlying89]
 go_simp
 by_cases h0:c=c'
 · subst h0
   by_cases h1:f.toList=f'.toList <;> simp [h1]
 · simp [h0]
theorem neq_dev (n:Int) (s:ByteArray) (w:World):(binOp .neq 89 (.agg #[.int .u32 n,.string s]) (.agg #[.int .u32 n,.string s])).run Tryz.prog w=.ok (.bool false) w:=by
 have h:=eql_D n n s s w
 simp only [beq_self_eq_true,Bool.and_self] at h
 exact neq_agg h
theorem guard_D (op:BinOp) (x y:Operand) (xs ys:Array Value) (W:World):(eqGuard op 89 x y (.agg xs) (.agg ys)).run Tryz.prog W=.ok () W:=run_eqGuard_agg W op 89 x y xs ys (by kernel_rfl)
end Go.Proofs.YtjddbjmcjhjpiaaGreatDoor

namespace Go.Proofs.YtjddbjmcjhjpiaaGreatDoor
set_option maxRecDepth 100000
open Go.RowKit

theorem Qhas_any (n:Int) (i:Nat) (w:World) (hi:i≤15):Calls Tryz.prog 117 #[.int .i64 n,.int .i64 (i:Int)] w fun e w' => e=.returned (.bool (atB n i))∧w' = w:=by
 have h1:min i 64=i:=by omega
 have h2:=i64_and1 (n / 2 ^ i)
 go_enter Tryz.func117,Tryz.ntmps117
 go_wp2
 go_ret
 exact ⟨rfl,rfl⟩
theorem Qset_any (n a:Int) (w:World):Calls Tryz.prog 125 #[.int .i64 n,.int .i64 a] w fun e w' => e=.returned (.bool (decide (1≤n∧n≤a)))∧w' = w:=by
 obtain ⟨q,hq⟩:∃ q,q=decide (1≤n∧n≤a):=⟨_,rfl⟩
 rw [← hq]
 by_cases h1:1≤n
 · by_cases h2:n≤a
   · have HQ:Hid (q=true):=by show q=true;rw [hq];exact decide_eq_true ⟨h1,h2⟩
     clear hq
     go_enter Tryz.func125,Tryz.ntmps125
     go_wp2
     go_ret
     exact ⟨by rw [HQ.out];rfl,rfl⟩
   · have HQ:Hid (q=false):=by show q=false;rw [hq];exact decide_eq_false (fun h=>h2 h.2)
     clear hq
     go_enter Tryz.func125,Tryz.ntmps125
     go_wp2
     go_ret
     exact ⟨by rw [HQ.out];rfl,rfl⟩
 · have HQ:Hid (q=false):=by show q=false;rw [hq];exact decide_eq_false (fun h=>h1 h.1)
   clear hq
   go_enter Tryz.func125,Tryz.ntmps125
   go_wp2
   go_ret
   exact ⟨by rw [HQ.out];rfl,rfl⟩

def pickL (l:List Int) (i:Int):Int:=if i < 0 then 0 else (l[i.toNat]?).getD 0
theorem baud_pick (i:Int):pickL [32,64,128,256] i=baud i:=by
 unfold pickL baud
 split
 · rw [if_neg (by omega),if_neg (by omega),if_neg (by omega),if_neg (by omega)]
 · obtain ⟨k,rfl⟩:∃ k:Nat,i=k:=⟨i.toNat,by omega⟩
   match k with
   | 0=>rfl
   | 1=>rfl
   | 2=>rfl
   | 3=>rfl
   | k + 4=>rw [if_neg (by omega),if_neg (by omega),if_neg (by omega),if_neg (by omega),Int.toNat_natCast];rfl
theorem size_pick (i:Int):pickL [8,16,32,64] i=sizeQ i:=by
 unfold pickL sizeQ
 split
 · rw [if_neg (by omega),if_neg (by omega),if_neg (by omega),if_neg (by omega)]
 · obtain ⟨k,rfl⟩:∃ k:Nat,i=k:=⟨i.toNat,by omega⟩
   match k with
   | 0=>rfl
   | 1=>rfl
   | 2=>rfl
   | 3=>rfl
   | k + 4=>rw [if_neg (by omega),if_neg (by omega),if_neg (by omega),if_neg (by omega),Int.toNat_natCast];rfl
theorem silent_pick (i:Int):pickL [200,300,500] i=silent i:=by
 unfold pickL silent
 split
 · rw [if_neg (by omega),if_neg (by omega),if_neg (by omega)]
 · obtain ⟨k,rfl⟩:∃ k:Nat,i=k:=⟨i.toNat,by omega⟩
   match k with
   | 0=>rfl
   | 1=>rfl
   | 2=>rfl
   | k + 3=>rw [if_neg (by omega),if_neg (by omega),if_neg (by omega),Int.toNat_natCast];rfl
theorem Qpick_any (i:Int) (g n:Nat) (cs:Array Value) (l:List Int) (t:TypeId) (w:World) (hg:w.heap[g]?=some (.cells cs t (0,0))) (hcs:cs=(l.map (Value.int .i64)).toArray) (hn:l.length=n) (hn10:n≤10) :
 Calls Tryz.prog 134 #[.int .i64 i,.slice (some ⟨g,0,none⟩) n n] w fun e w' => e=.returned (.int .i64 (pickL l i))∧w' = w:=by
 obtain ⟨q,hq⟩:∃ q,q=pickL l i:=⟨_,rfl⟩
 rw [← hq]
 by_cases h1:i < 0
 · have HQ:Hid (q=0):=by show q=0;rw [hq];unfold pickL;rw [if_pos h1]
   clear hq hg hcs hn hn10
   go_enter Tryz.func134,Tryz.ntmps134
   go_wp2
   go_ret
   exact ⟨by rw [HQ.out];rfl,rfl⟩
 · obtain ⟨k,rfl⟩:∃ k:Nat,i=k:=⟨i.toNat,by omega⟩
   by_cases h2:k < n
   · have hk:k < l.length:=by omega
     have HQ:Hid (q=l[k]):=by show q=_;rw [hq];unfold pickL;rw [if_neg h1];simp [hk]
     have c:w.cell? ⟨g,k,none⟩=some (.int .i64 l[k]):=cell_at hg k _ (by subst hcs;simp [hk])
     have t1:decide ((n:Int)≤(k:Int))=false:=decide_eq_false (by omega)
     have t2:(k:Int) < (n:Int):=by omega
     generalize l[k]=y at HQ c
     clear hq hg hcs hn hn10 h2 hk
     go_enter Tryz.func134,Tryz.ntmps134
     go_wp2
     go_ret
     exact ⟨by rw [HQ.out];rfl,rfl⟩
   · have HQ:Hid (q=0):=by show q=0;rw [hq];unfold pickL;rw [if_neg h1];simp [show l.length≤k by omega]
     have t1:n≤k:=by omega
     clear hq hg hcs hn hn10 h2
     go_enter Tryz.func134,Tryz.ntmps134
     go_wp2
     go_ret
     exact ⟨by rw [HQ.out];rfl,rfl⟩
theorem QBaud_any (n:Int) (w:World) (hn:(Lit.int .i64 n).wf=true):Calls Tryz.prog 108 #[.int .i64 n] w fun e w' => e=.returned (.int .i64 (baud n))∧Below w.heap.size w w' := by
 rw [← baud_pick]
 clear hn
 go_enter Tryz.func108,Tryz.ntmps108
 go_wp2_with (go_at_call 134;refine (Qpick_any n w.heap.size 4 _ [32,64,128,256] _ _ (heap_alloc_new w _) rfl rfl (by decide)).mono ?_;rintro e w' ⟨rfl,rfl⟩)
 go_ret
 exact ⟨rfl,bal (bel0 w) _⟩
theorem QSilent_any (n:Int) (w:World) (hn:(Lit.int .i64 n).wf=true):Calls Tryz.prog 110 #[.int .i64 n] w fun e w' => e=.returned (.int .i64 (silent n))∧Below w.heap.size w w' := by
 rw [← silent_pick]
 clear hn
 go_enter Tryz.func110,Tryz.ntmps110
 go_wp2_with (go_at_call 134;refine (Qpick_any n w.heap.size 3 _ [200,300,500] _ _ (heap_alloc_new w _) rfl rfl (by decide)).mono ?_;rintro e w' ⟨rfl,rfl⟩)
 go_ret
 exact ⟨rfl,bal (bel0 w) _⟩
theorem QSize_any (n:Int) (w:World) (hn:(Lit.int .i64 n).wf=true):Calls Tryz.prog 109 #[.int .i64 n] w fun e w' => e=.returned (.int .i64 (sizeQ n))∧Below w.heap.size w w' := by
 rw [← size_pick]
 clear hn
 go_enter Tryz.func109,Tryz.ntmps109
 go_wp2_with (go_at_call 134;refine (Qpick_any n w.heap.size 4 _ [8,16,32,64] _ _ (heap_alloc_new w _) rfl rfl (by decide)).mono ?_;rintro e w' ⟨rfl,rfl⟩)
 go_ret
 exact ⟨rfl,bal (bel0 w) _⟩

theorem QTicks_any (b d:Int) (w:World) (hb:(Lit.int .i64 b).wf=true) (hd:(Lit.int .i64 d).wf=true):Calls Tryz.prog 93 #[.int .i64 b,.int .i64 d] w fun e w' => e=.returned (.int .i64 (ticks b d))∧Below w.heap.size w w' := by
 have bb:=bounds_i64 hb
 have bd:=bounds_i64 hd
 clear hb hd
 by_cases h1:b < 1
 · have e:ticks b d=0:=by unfold ticks;rw [if_pos (.inl h1)]
   rw [e];clear e
   go_enter Tryz.func93,Tryz.ntmps93
   go_wp2
   go_ret
   exact ⟨rfl,Below.refl _ _⟩
 · by_cases h2:d < 1
   · have e:ticks b d=0:=by unfold ticks;rw [if_pos (.inr h2)]
     rw [e];clear e
     go_enter Tryz.func93,Tryz.ntmps93
     go_wp2
     go_ret
     exact ⟨rfl,Below.refl _ _⟩
   · have hT:ticks b d=(b - 1) / d + 1:=by
      unfold ticks
      rw [if_neg (by omega),show b + d - 1=b - 1 + 1 * d by omega,Int.add_mul_ediv_right _ _ (by omega)]
     have q0:¬ d=0:=by omega
     have q1:(b - 1).tdiv d=(b - 1) / d:=Int.tdiv_eq_ediv_of_nonneg (by omega)
     have q3:0≤(b - 1) / d:=Int.ediv_nonneg (by omega) (by omega)
     have q4:(b - 1) / d≤b - 1:=Int.ediv_le_self _ (by omega)
     have q2:IntKind.i64.wrap (b - 1)=b - 1:=IntWalk.i64_in _ (by omega)
     have q5:IntKind.i64.wrap ((b - 1) / d)=(b - 1) / d:=IntWalk.i64_in _ (by omega)
     have q6:IntKind.i64.wrap ((b - 1) / d + 1)=(b - 1) / d + 1:=IntWalk.i64_in _ (by omega)
     have HT:=jzD hT
     clear hT
     go_enter Tryz.func93,Tryz.ntmps93
     go_wp2
     go_ret
     exact ⟨by rw [HT.out];rfl,Below.refl _ _⟩
end Go.Proofs.YtjddbjmcjhjpiaaGreatDoor

namespace Go.Proofs.YtjddbjmcjhjpiaaGreatDoor
set_option maxRecDepth 100000
set_option maxHeartbeats 8000000
open Go.RowKit

theorem QHigh_any (n:Int) (w:World) (hn:(Lit.int .i64 n).wf=true):Calls Tryz.prog 91 #[.int .i64 n] w fun e w' => e=.returned (.int .i64 (high n))∧Below w.heap.size w w' := by
 clear hn
 obtain ⟨h,hh⟩:∃ h,h=high n:=⟨_,rfl⟩
 rw [← hh]
 have HH:=jzD hh
 clear hh
 go_enter Tryz.func91,Tryz.ntmps91
 go_wp2
 go_loopw [2,3] (fun q i wr=>wr=w∧q=.int .i64 0∧∃ k:Nat,k≤16∧i=.int .i64 ((k:Int) - 1)∧highB n k=h) (fun _ i _=>(intOf i + 1).toNat)
 case atStart=>exact ⟨rfl,rfl,16,by omega,rfl,HH.out.symm⟩
 case round =>
  obtain ⟨rfl,rfl,k,hk,rfl,hq⟩:=hrel
  rcases k with _ | k
  · have HQ:Hid (h=-1):=hq.symm
    clear hq
    rw [show (((0:Nat):Int) - 1)=-1 from rfl]
    go_wp2
    go_ret
    exact ⟨by rw [HQ.out];rfl,Below.refl _ _⟩
  · have e1:(((k + 1:Nat):Int) - 1)=(k:Int):=by omega
    rw [e1]
    have td:decide ((0:Int)≤(k:Int))=true:=decide_eq_true (by omega)
    have hat:=fun w=>Qhas_any n k w (by omega)
    rcases hb:atB n k with _ | _
    · have HQ:Hid (highB n k=h):=(highB_f hb).symm.trans hq
      rw [hb] at hat
      have HAT:=jzD hat
      clear hq hb hat
      go_wp2_with (go_at_call 117;refine (HAT.out _).mono ?_;rintro e w' ⟨rfl,rfl⟩)
      go_roundw
      case rel=>exact ⟨trivial,rfl,k,by omega,by go_num,HQ.out⟩
      case measure=>simp [intOf] <;> omega
    · have HQ:Hid (h=(k:Int)):=hq.symm.trans (highB_t hb)
      rw [hb] at hat
      have HAT:=jzD hat
      clear hq hb hat
      go_wp2_with (go_at_call 117;refine (HAT.out _).mono ?_;rintro e w' ⟨rfl,rfl⟩)
      go_ret
      exact ⟨by rw [HQ.out];rfl,Below.refl _ _⟩

theorem QLow_any (n:Int) (w:World) (hn:(Lit.int .i64 n).wf=true):Calls Tryz.prog 92 #[.int .i64 n] w fun e w' => e=.returned (.int .i64 (low n))∧Below w.heap.size w w' := by
 clear hn
 obtain ⟨h,hh⟩:∃ h,h=low n:=⟨_,rfl⟩
 rw [← hh]
 have HH:=jzD hh
 clear hh
 go_enter Tryz.func92,Tryz.ntmps92
 go_wp2
 go_loopw [2,3,4] (fun q i3 i wr=>wr=w∧q=.int .i64 0∧∃ k:Nat,k≤16∧i=.int .i64 ((16 - k:Nat):Int)∧lowB n k=h) (fun _ _ i _=>(16 - intOf i).toNat)
 case atStart=>exact ⟨rfl,rfl,16,by omega,rfl,HH.out.symm⟩
 case round =>
  obtain ⟨rfl,rfl,k,hk,rfl,hq⟩:=hrel
  rcases k with _ | k
  · have HQ:Hid (h=-1):=hq.symm
    clear hq
    go_wp2
    go_ret
    exact ⟨by rw [HQ.out];rfl,Below.refl _ _⟩
  · obtain ⟨j,hj⟩:∃ j,j=15 - k:=⟨_,rfl⟩
    have e1:16 - (k + 1)=j:=by omega
    rw [e1]
    have hj15:j≤15:=by omega
    have HJ:Hid (((16 - k:Nat):Int)=(j:Int) + 1):=by show ((16 - k:Nat):Int)=(j:Int) + 1;omega
    clear e1
    have td:decide ((j:Int) < 16)=true:=decide_eq_true (by omega)
    have hat:=fun w=>Qhas_any n j w hj15
    rcases hb:atB n j with _ | _
    · have HQ:Hid (lowB n k=h):=(lowB_f (hj ▸ hb)).symm.trans hq
      rw [hb] at hat
      have HAT:=jzD hat
      clear hq hb hat hj
      go_wp2_with (go_at_call 117;refine (HAT.out _).mono ?_;rintro e w' ⟨rfl,rfl⟩)
      go_roundw
      case rel=>exact ⟨trivial,rfl,k,by omega,congrArg (Value.int .i64) HJ.out.symm,HQ.out⟩
      case measure=>simp [intOf] <;> omega
    · have HQ:Hid (h=(j:Int)):=by show h=(j:Int);rw [hj];exact hq.symm.trans (lowB_t (hj ▸ hb))
      rw [hb] at hat
      have HAT:=jzD hat
      clear hq hb hat hj
      go_wp2_with (go_at_call 117;refine (HAT.out _).mono ?_;rintro e w' ⟨rfl,rfl⟩)
      go_ret
      exact ⟨by rw [HQ.out];rfl,Below.refl _ _⟩

theorem mayO_and (b s wi z wa:Int):mayO ⟨b,s,wi,z,wa⟩=(decide (1≤b∧b≤15) && (atB b 0 && (decide (1≤s∧s≤7) && (atB s 0 && (decide (1≤wi∧wi≤127) && (decide (1≤z∧z≤15) && decide (1≤wa∧wa≤7))))))):=by
 have e0:∀ n:Int,atB n 0=decide (n % 2=1):=fun n=>by
  unfold atB
  rw [Int.pow_zero,Int.ediv_one]
  rfl
 unfold mayO
 rw [e0,e0,Bool.eq_iff_iff]
 simp only [Bool.and_eq_true,decide_eq_true_eq]
 constructor
 · rintro ⟨⟨h1,h2,h3⟩,⟨h4,h5,h6⟩,h7,h8,h9⟩
   exact ⟨⟨h1,h2⟩,h3,⟨h4,h5⟩,h6,h7,h8,h9⟩
 · rintro ⟨⟨h1,h2⟩,h3,⟨h4,h5⟩,h6,h7,h8,h9⟩
   exact ⟨⟨h1,h2,h3⟩,⟨h4,h5,h6⟩,h7,h8,h9⟩
theorem QMay_any (o:Of5) (w:World) (ho:o.ok):Calls Tryz.prog 103 #[o.val] w fun e w' => e=.returned (.bool (mayO o))∧Below w.heap.size w w' := by
 obtain ⟨b,s,wi,z,wa⟩:=o
 clear ho
 have k1:=fun w=>Qset_any b 15 w
 have k2:=fun w=>Qhas_any b 0 w (by omega)
 have k3:=fun w=>Qset_any s 7 w
 have k4:=fun w=>Qhas_any s 0 w (by omega)
 have k5:=fun w=>Qset_any wi 127 w
 have k6:=fun w=>Qset_any z 15 w
 have k7:=fun w=>Qset_any wa 7 w
 have hm:=mayO_and b s wi z wa
 generalize decide (1≤b∧b≤15)=q1 at k1 hm
 generalize atB b 0=q2 at k2 hm
 generalize decide (1≤s∧s≤7)=q3 at k3 hm
 generalize atB s 0=q4 at k4 hm
 generalize decide (1≤wi∧wi≤127)=q5 at k5 hm
 generalize decide (1≤z∧z≤15)=q6 at k6 hm
 generalize decide (1≤wa∧wa≤7)=q7 at k7 hm
 generalize mayO ⟨b,s,wi,z,wa⟩=q at hm
 have K2:Hid (∀ w,Calls Tryz.prog 117 #[.int .i64 b,.int .i64 0] w fun e w' => e=.returned (.bool q2)∧w' = w):=k2
 have K4:Hid (∀ w,Calls Tryz.prog 117 #[.int .i64 s,.int .i64 0] w fun e w' => e=.returned (.bool q4)∧w' = w):=k4
 have K1:=jzD k1
 have K3:=jzD k3
 have K5:=jzD k5
 have K6:=jzD k6
 have K7:=jzD k7
 have HM:=jzD hm
 clear k1 k2 k3 k4 k5 k6 k7 hm
 rcases q1 with _ | _
 rotate_left
 rcases q2 with _ | _
 rotate_left
 rcases q3 with _ | _
 rotate_left
 rcases q4 with _ | _
 rotate_left
 rcases q5 with _ | _
 rotate_left
 rcases q6 with _ | _
 rotate_left
 rcases q7 with _ | _
 all_goals
  go_enter Tryz.func103,Tryz.ntmps103
  go_wp2_with (first
   | ((with_reducible refine wpList_boxS rfl 133 _ (.tmp 0) rfl rfl (run_boxOf ⟨b,s,wi,z,wa⟩) ?_);intro w1 hb1 hlt1 hh1;have c0:w1.cell? ⟨w.heap.size,0,none⟩=some (.int .i64 b):=cell_at hh1 0 _ rfl;have c1:w1.cell? ⟨w.heap.size,1,none⟩=some (.int .i64 s):=cell_at hh1 1 _ rfl;have c2:w1.cell? ⟨w.heap.size,2,none⟩=some (.int .i64 wi):=cell_at hh1 2 _ rfl;have c3:w1.cell? ⟨w.heap.size,3,none⟩=some (.int .i64 z):=cell_at hh1 3 _ rfl;have c4:w1.cell? ⟨w.heap.size,4,none⟩=some (.int .i64 wa):=cell_at hh1 4 _ rfl;have HB:=jzD hb1;clear hb1 hh1)
   | (go_at_call 125;first
    | ((with_reducible refine (K1.out _).mono ?_);rintro e w' ⟨rfl,hw'⟩;rw [hw'];clear hw')
    | ((with_reducible refine (K3.out _).mono ?_);rintro e w' ⟨rfl,hw'⟩;rw [hw'];clear hw')
    | ((with_reducible refine (K5.out _).mono ?_);rintro e w' ⟨rfl,hw'⟩;rw [hw'];clear hw')
    | ((with_reducible refine (K6.out _).mono ?_);rintro e w' ⟨rfl,hw'⟩;rw [hw'];clear hw')
    | ((with_reducible refine (K7.out _).mono ?_);rintro e w' ⟨rfl,hw'⟩;rw [hw'];clear hw'))
   | (go_at_call 117;first
    | ((with_reducible refine (K2.out _).mono ?_);rintro e w' ⟨rfl,hw'⟩;rw [hw'];clear hw')
    | ((with_reducible refine (K4.out _).mono ?_);rintro e w' ⟨rfl,hw'⟩;rw [hw'];clear hw')))
  go_ret
  exact ⟨by rw [HM.out];rfl,HB.out⟩
end Go.Proofs.YtjddbjmcjhjpiaaGreatDoor

namespace Go.Proofs.YtjddbjmcjhjpiaaGreatDoor
open Go.RowKit M

theorem rds_new {w:World} {g:Nat} {l:List UInt8} (hg:w.heap[g]?=some (.cells (bcs l).toArray 5 (0,0))) (hl:l.length≤1000000):Rds w (.slice (some ⟨g,0,none⟩) l.length l.length) l:=by
 have hm:l.length≤maxLen:=by unfold maxLen;omega
 refine ⟨_,l.length,rfl,Nat.le_refl _,hm,fun h0=>⟨g,0,rfl,fun j hj=>?_⟩⟩
 rw [cell_of_row w g _ _ 5 (0,0) hg,Nat.zero_add]
 simp [bcs,hj]
def midX (an:Bool) (sn sl:Int):List UInt8:=[if an then 1 else 0,UInt8.ofNat sn.toNat,UInt8.ofNat (sl % 256).toNat]
theorem bcs3 {n sn sl:Int} {an:Bool} (hn:n=if an then 1 else 0) (hs:0≤sn∧sn < 256):(#[.int .u8 n,.int .u8 sn,.int .u8 (sl % 256)]:Array Value)=(bcs (midX an sn sl)).toArray:=by
 show _=(#[bc (if an then 1 else 0),bc (by8 sn),bc (by8 (sl % 256))]:Array Value)
 rw [by8_bc hs,by8_bc (by omega)]
 subst hn
 cases an <;> rfl
end Go.Proofs.YtjddbjmcjhjpiaaGreatDoor

namespace Go.Proofs.YtjddbjmcjhjpiaaGreatDoor
set_option maxRecDepth 100000
set_option maxHeartbeats 8000000
open Go.RowKit M

theorem rdT_new {w:World} {g:Nat} {l:List Tp} {cs:Array Value} {t:TypeId} (hg:w.heap[g]?=some (.cells cs t (0,0))) (hcs:cs=(tcs l).toArray) (hl:l.length≤maxLen):RdT w (.slice (some ⟨g,0,none⟩) l.length l.length) l:=by
 subst hcs
 refine ⟨some ⟨g,0,none⟩,l.length,rfl,Nat.le_refl _,hl,fun _=>⟨g,0,rfl,lt_at hg,fun j u hu=>?_⟩⟩
 rw [Nat.zero_add]
 exact cell_at hg j u (by simpa using hu)
theorem results_cell1 {P:Program} {fn:Func} {p:Tmp} {ty:TypeId} (h:fn.results=#[.cell p ty]) (tmps:Array Value) (w:World) (g:Nat) (t:TypeId) (cs:Array Value) (fr:Nat × Nat) (d:TypeDesc)
 (hp:tmps.getD p undef=.pointer (some ⟨g,0,none⟩)) (hg:w.heap[g]?=some (.cells cs t fr))
 (hu:P.underlying ty=some d) (hd:(match d with | .struct _ | .array _ _=>true | _=>false)=true) (hi:(P.info? ty).map (·.size)=some cs.size) :
 (results fn tmps).run P w=.ok (.agg cs) w:=by
 have hp' : tmps[p]?.getD undef=.pointer (some ⟨g,0,none⟩):=by simpa using hp
 simp [results,h,hp', asAddr,run_loadVar_row w g t ty cs fr d hg hu hd hi]
theorem Qone_any (id n:Int) (w:World) (hn:0≤n∧n < 256):Calls Tryz.prog 105 #[.int .i64 id,.int .i64 n] w fun e w' => e=.returned (.agg #[.int .i64 id,.string ⟨[by8 n].toArray⟩])∧Below w.heap.size w w' := by
 have e1:IntKind.u8.wrap n=n:=IntWalk.u8_in _ (by omega)
 have HBC:Hid ((#[.int .u8 n]:Array Value)=(bcs [by8 n]).toArray):=by
  show _=(#[bc (by8 n)]:Array Value)
  rw [by8_bc hn]
 have HONE:Hid ((#[.int .i64 id,.string ⟨[by8 n].toArray⟩]:Array Value).all (·.oneCell')=true):=by show _=true;simp [Value.oneCell']
 have HR:Hid (((w.alloc (.cells (yP 0 ⟨#[]⟩) 165)).alloc (.cells #[.int .u8 n] 5)).heap[w.heap.size]?=some (.cells (yP 0 ⟨#[]⟩) 165 (0,0))):=keep_at (heap_alloc_new w _) (bal (bel0 _) _)
 have HB:Hid (Below w.heap.size w ((w.alloc (.cells (yP 0 ⟨#[]⟩) 165)).alloc (.cells #[.int .u8 n] 5))):=bal (bal (bel0 w) _) _
 clear hn
 go_enter Tryz.func105,Tryz.ntmps105
 go_wp2_with (first
  | ((with_reducible refine wpList_strB rfl (.tmp 8) rfl (.slice (some ⟨w.heap.size + 1,0,none⟩) 1 1) [by8 n] rfl ?hu ?_);case hu=>(rw [HBC.out];exact (Own.built2 w _ [by8 n] 0 (by omega) (by simp [maxLen])).rds))
  | ((with_reducible refine wpList_storeB rfl 165 (.tmp 4) _ rfl w.heap.size #[.int .i64 id,.string ⟨[by8 n].toArray⟩] rfl rfl 165 _ HR.out (by kernel_rfl) (by kernel_rfl) HONE.out ?_);intro w6 hg6 hz6 hh6;have HB6:=jzD (bel_grown HB.out hg6 (Nat.le_refl _));have HR6:=jzD hh6;clear hg6 hz6 hh6))
 exact ⟨rfl,_,results_cell1 rfl _ _ w.heap.size _ _ _ _ rfl HR6.out Tryz.underlying165 rfl (by kernel_rfl),rfl,HB6.out⟩
theorem tcs_five (b s wi z wa:Int):(#[.int .i64 1,.string ⟨[by8 b].toArray⟩,.int .i64 2,.string ⟨[by8 s].toArray⟩,.int .i64 3,.string ⟨[by8 wi].toArray⟩,.int .i64 4,.string ⟨[by8 z].toArray⟩,.int .i64 5,.string ⟨[by8 wa].toArray⟩]:Array Value)=(tcs (fiveT ⟨b,s,wi,z,wa⟩)).toArray:=rfl
theorem QPut_some (b s wi z wa:Int) (w:World) (ho:Of5.ok ⟨b,s,wi,z,wa⟩) (hm:mayO ⟨b,s,wi,z,wa⟩=true):Calls Tryz.prog 83 #[.agg #[.int .i64 b,.int .i64 s,.int .i64 wi,.int .i64 z,.int .i64 wa]] w (PutR (putO ⟨b,s,wi,z,wa⟩) w):=by
 have hmay:=fun w=>QMay_any ⟨b,s,wi,z,wa⟩ w ho
 rw [hm] at hmay
 have HM:=jzD hmay
 have HP:Hid (putO ⟨b,s,wi,z,wa⟩=some (bytesO ⟨b,s,wi,z,wa⟩)):=by show putO _=_;unfold putO;rw [if_pos hm]
 obtain ⟨h1,h2,h3,h4,h5⟩:=mayO_parts hm
 simp only at h1 h2 h3 h4 h5
 have H1:=jzD (fun w=>Qone_any 1 b w (by omega))
 have H2:=jzD (fun w=>Qone_any 2 s w (by omega))
 have H3:=jzD (fun w=>Qone_any 3 wi w (by omega))
 have H4:=jzD (fun w=>Qone_any 4 z w (by omega))
 have H5:=jzD (fun w=>Qone_any 5 wa w (by omega))
 have HTP:Hid (∀ (W:World) (g:Nat),W.heap[g]?=some (.cells (yL 1 ⟨[by8 b].toArray⟩ 2 ⟨[by8 s].toArray⟩ 3 ⟨[by8 wi].toArray⟩ 4 ⟨[by8 z].toArray⟩ 5 ⟨[by8 wa].toArray⟩) 165 (0,0))→Calls Tryz.prog 104 #[.slice (some ⟨g,0,none⟩) 5 5] W fun e w' => e=.returned (.tuple #[.string ⟨(bytesO ⟨b,s,wi,z,wa⟩).toArray⟩,.bool true])∧Below W.heap.size W w'):=by
  show ∀ _ _,_
  intro W g hg
  have hr:RdT W (.slice (some ⟨g,0,none⟩) 5 5) (fiveT ⟨b,s,wi,z,wa⟩):=rdT_new hg (tcs_five b s wi z wa) (by show 5≤maxLen;unfold maxLen;decide)
  have h:=TPut_any _ _ W hr (by show 5≤1000;decide) (fun t ht=>by
   have := (five_ok ⟨b,s,wi,z,wa⟩ t ht).2.2
   omega)
  unfold PutTP at h
  rw [putT_five] at h
  exact h
 clear hmay hm ho h1 h2 h3 h4 h5
 go_enter Tryz.func83,Tryz.ntmps83
 go_wp2_with (first
  | ((with_reducible refine wpList_boxS rfl 133 _ (.tmp 0) rfl rfl (run_boxOf ⟨b,s,wi,z,wa⟩) ?_);intro w1 hb1 hlt1 hh1;have HB1:=jzD hb1;have HH1:=jzD hh1;clear hb1 hh1)
  | (with_reducible refine wpList_loadB rfl 133 (.tmp 1) rfl w.heap.size rfl 133 _ HH1.out _ Tryz.underlying133 rfl (by kernel_rfl) ?_)
  | (go_at_call 103;(with_reducible refine (HM.out _).mono ?_);rintro e w2 ⟨rfl,hb⟩;have HB_2:=jzD (bel_trans HB1.out hb).drew;have HP2:=jzD (keep_at HH1.out hb);clear hb))
 have HE_2:=jzD (bel0 w2).drew
 have HKP:Hid (∀ W,From w2 W→W.heap[w.heap.size]?=some (.cells (yI b s wi z wa) 133 (0,0))):=by show ∀ _,_;exact fun W HW=>keep_at HP2.out HW
 refine rests_begin (From w2) (by kernel_rfl) ?_
 refine rtk 0 HE_2.out ?_
 refine rtk 1 HE_2.out ?_ (hy:=by intro W HW;have cw0:W.cell? ⟨w.heap.size,0,none⟩=some (.int .i64 b):=cell_at (HKP.out W HW) 0 _ rfl;go_simp;try with_reducible rfl)
 refine rtk 3 HE_2.out ?_
 refine rtk 4 HE_2.out ?_ (hy:=by intro W HW;have cw1:W.cell? ⟨w.heap.size,1,none⟩=some (.int .i64 s):=cell_at (HKP.out W HW) 1 _ rfl;go_simp;try with_reducible rfl)
 refine rtk 6 HE_2.out ?_
 refine rtk 7 HE_2.out ?_ (hy:=by intro W HW;have cw2:W.cell? ⟨w.heap.size,2,none⟩=some (.int .i64 wi):=cell_at (HKP.out W HW) 2 _ rfl;go_simp;try with_reducible rfl)
 refine rtk 9 HE_2.out ?_
 refine rtk 10 HE_2.out ?_ (hy:=by intro W HW;have cw3:W.cell? ⟨w.heap.size,3,none⟩=some (.int .i64 z):=cell_at (HKP.out W HW) 3 _ rfl;go_simp;try with_reducible rfl)
 refine rtk 12 HE_2.out ?_
 refine rtk 13 HE_2.out ?_ (hy:=by intro W HW;have cw4:W.cell? ⟨w.heap.size,4,none⟩=some (.int .i64 wa):=cell_at (HKP.out W HW) 4 _ rfl;go_simp;try with_reducible rfl)
 refine rests_call 2 (oi:=_) (by simp only [jzG,jzH,jzI];rfl) 105 #[.int .i64 1,.int .i64 b] _ (by kernel_rfl) (by rfl) (by go_simp) (H1.out w2.drew) ?_
 rintro e w3 ⟨rfl,hb⟩;have HB_3:=jzD (bel_trans (w:=w2.drew) HB_2.out hb);have HE_3:=jzD (bel_trans (w:=w2.drew) HE_2.out hb);refine ⟨_,rfl,HE_3.out,?_⟩;clear hb
 simp only [Act.put,jzU,jzV,jzW]
 refine rests_call 5 (oi:=_) (by simp only [jzG,jzH,jzI];rfl) 105 #[.int .i64 2,.int .i64 s] _ (by kernel_rfl) (by rfl) (by go_simp) (H2.out w3) ?_
 rintro e w4 ⟨rfl,hb⟩;have HB_4:=jzD (bel_trans (w:=w3) HB_3.out hb);have HE_4:=jzD (bel_trans (w:=w3) HE_3.out hb);refine ⟨_,rfl,HE_4.out,?_⟩;clear hb
 simp only [Act.put,jzU,jzV,jzW]
 refine rests_call 8 (oi:=_) (by simp only [jzG,jzH,jzI];rfl) 105 #[.int .i64 3,.int .i64 wi] _ (by kernel_rfl) (by rfl) (by go_simp) (H3.out w4) ?_
 rintro e w5 ⟨rfl,hb⟩;have HB_5:=jzD (bel_trans (w:=w4) HB_4.out hb);have HE_5:=jzD (bel_trans (w:=w4) HE_4.out hb);refine ⟨_,rfl,HE_5.out,?_⟩;clear hb
 simp only [Act.put,jzU,jzV,jzW]
 refine rests_call 11 (oi:=_) (by simp only [jzG,jzH,jzI];rfl) 105 #[.int .i64 4,.int .i64 z] _ (by kernel_rfl) (by rfl) (by go_simp) (H4.out w5) ?_
 rintro e w6 ⟨rfl,hb⟩;have HB_6:=jzD (bel_trans (w:=w5) HB_5.out hb);have HE_6:=jzD (bel_trans (w:=w5) HE_5.out hb);refine ⟨_,rfl,HE_6.out,?_⟩;clear hb
 simp only [Act.put,jzU,jzV,jzW]
 refine rests_call 14 (oi:=_) (by simp only [jzG,jzH,jzI];rfl) 105 #[.int .i64 5,.int .i64 wa] _ (by kernel_rfl) (by rfl) (by go_simp) (H5.out w6) ?_
 rintro e w7 ⟨rfl,hb⟩;have HB_7:=jzD (bel_trans (w:=w6) HB_6.out hb);have HE_7:=jzD (bel_trans (w:=w6) HE_6.out hb);refine ⟨_,rfl,HE_7.out,?_⟩;clear hb
 simp only [Act.put,jzU,jzV,jzW]
 refine rests_run 15 (oi:=_) (by simp only [jzG,jzH,jzI];rfl) (by kernel_rfl) (by rfl) (.slice (some ⟨w7.heap.size,0,none⟩) 5 5) ((w7).alloc (.cells (yL 1 ⟨[by8 b].toArray⟩ 2 ⟨[by8 s].toArray⟩ 3 ⟨[by8 wi].toArray⟩ 4 ⟨[by8 z].toArray⟩ 5 ⟨[by8 wa].toArray⟩) 165)) (by go_simp) ⟨bal HE_7.out _,?_⟩
 have HB_8:=jzD (bal (w:=w7) HB_7.out (.cells (yL 1 ⟨[by8 b].toArray⟩ 2 ⟨[by8 s].toArray⟩ 3 ⟨[by8 wi].toArray⟩ 4 ⟨[by8 z].toArray⟩ 5 ⟨[by8 wa].toArray⟩) 165));have HE_8:=jzD (bal (w:=w7) HE_7.out (.cells (yL 1 ⟨[by8 b].toArray⟩ 2 ⟨[by8 s].toArray⟩ 3 ⟨[by8 wi].toArray⟩ 4 ⟨[by8 z].toArray⟩ 5 ⟨[by8 wa].toArray⟩) 165));have HN_8:=jzD (heap_alloc_new (w7) (.cells (yL 1 ⟨[by8 b].toArray⟩ 2 ⟨[by8 s].toArray⟩ 3 ⟨[by8 wi].toArray⟩ 4 ⟨[by8 z].toArray⟩ 5 ⟨[by8 wa].toArray⟩) 165))
 simp only [Act.put,jzU,jzV,jzW]
 refine rests_call 16 (oi:=_) (by simp only [jzG,jzH,jzI];rfl) 104 #[.slice (some ⟨w7.heap.size,0,none⟩) 5 5] _ (by kernel_rfl) (by rfl) (by go_simp) (HTP.out ((w7).alloc (.cells (yL 1 ⟨[by8 b].toArray⟩ 2 ⟨[by8 s].toArray⟩ 3 ⟨[by8 wi].toArray⟩ 4 ⟨[by8 z].toArray⟩ 5 ⟨[by8 wa].toArray⟩) 165)) _ HN_8.out) ?_
 rintro e w9 ⟨rfl,hb⟩;have HB_9:=jzD (bel_trans (w:=((w7).alloc (.cells (yL 1 ⟨[by8 b].toArray⟩ 2 ⟨[by8 s].toArray⟩ 3 ⟨[by8 wi].toArray⟩ 4 ⟨[by8 z].toArray⟩ 5 ⟨[by8 wa].toArray⟩) 165))) HB_8.out hb);have HE_9:=jzD (bel_trans (w:=((w7).alloc (.cells (yL 1 ⟨[by8 b].toArray⟩ 2 ⟨[by8 s].toArray⟩ 3 ⟨[by8 wi].toArray⟩ 4 ⟨[by8 z].toArray⟩ 5 ⟨[by8 wa].toArray⟩) 165))) HE_8.out hb);have HN_9:=jzD (keep_at (w:=((w7).alloc (.cells (yL 1 ⟨[by8 b].toArray⟩ 2 ⟨[by8 s].toArray⟩ 3 ⟨[by8 wi].toArray⟩ 4 ⟨[by8 z].toArray⟩ 5 ⟨[by8 wa].toArray⟩) 165))) HN_8.out hb);refine ⟨_,rfl,HE_9.out,?_⟩;clear hb
 simp only [Act.put,jzU,jzV,jzW]
 refine rtk 17 HE_9.out ?_
 refine rtk 18 HE_9.out ?_
 refine rtk 19 HE_9.out ?_
 refine rtk 20 HE_9.out ?_
 refine rests_done (by kernel_rfl) ?_
 go_wp2
 go_ret2
 exact putR_some (s:=⟨(bytesO ⟨b,s,wi,z,wa⟩).toArray⟩) HP.out HB_9.out
theorem QPut_any (o:Of5) (w:World) (ho:o.ok):Calls Tryz.prog 83 #[o.val] w (PutR (putO o) w):=by
 by_cases hm:mayO o=true
 · exact QPut_some o.baud o.silent o.win o.size o.wait w ho hm
 · have hm' : mayO o=false:=by simpa using hm
   have hmay:=fun w=>QMay_any o w ho
   rw [hm'] at hmay
   have HM:=jzD hmay
   have HP:Hid (putO o=none):=by show putO o=_;unfold putO;rw [hm'];rfl
   obtain ⟨b,s,wi,z,wa⟩:=o
   clear hmay hm hm' ho
   go_enter Tryz.func83,Tryz.ntmps83
   go_wp2_with (first
    | ((with_reducible refine wpList_boxS rfl 133 _ (.tmp 0) rfl rfl (run_boxOf ⟨b,s,wi,z,wa⟩) ?_);intro w1 hb1 hlt1 hh1;have HB1:=jzD hb1;have HH1:=jzD hh1;clear hb1 hh1)
    | (with_reducible refine wpList_loadB rfl 133 (.tmp 1) rfl w.heap.size rfl 133 _ HH1.out _ Tryz.underlying133 rfl (by kernel_rfl) ?_)
    | (go_at_call 103;(with_reducible refine (HM.out _).mono ?_);rintro e w2 ⟨rfl,hb⟩;have HB2:=jzD (bel_trans HB1.out hb);clear hb))
   go_ret2
   exact putR_none HP.out HB2.out
end Go.Proofs.YtjddbjmcjhjpiaaGreatDoor

namespace Go.Proofs.YtjddbjmcjhjpiaaGreatDoor
open Go.RowKit M

theorem valT_one {l:List Tp} {id:Int} {a:UInt8} (h:fnd1 l id=some [a]):valT l id=(a.toNat:Int):=by unfold valT;rw [h]
theorem valT_not {l:List Tp} {id:Int} {t:List UInt8} (h:fnd1 l id=some t) (hn:t.length ≠ 1):valT l id=0:=by
 unfold valT;rw [h]
 match t,hn with
 | [],_=>rfl
 | [_],hn=>simp at hn
 | _ :: _ :: _,_=>rfl
theorem valT_none {l:List Tp} {id:Int} (h:fnd1 l id=none):valT l id=0:=by unfold valT;rw [h]
theorem getT_small {s:List UInt8} {l:List Tp} (h:getT s=some l):l.length≤32∧∀ t ∈ l,okT t:=by
 unfold getT at h
 split at h
 · rename_i h64
   obtain ⟨h1,h2⟩:=getL_some h
   refine ⟨?_,h2⟩
   have key:∀ m:List Tp,2 * m.length≤(flat m).length:=by
    intro m
    induction m with
    | nil=>simp
    | cons t m ih=>rw [flat_cons,List.length_append,tb_len,List.length_cons];omega
   have := key l
   rw [h1] at this
   omega
 · cases h

end Go.Proofs.YtjddbjmcjhjpiaaGreatDoor
