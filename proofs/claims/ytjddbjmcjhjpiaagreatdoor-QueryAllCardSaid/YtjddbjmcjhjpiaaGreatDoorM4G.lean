/- Of layer 4: FrameW, PlEq, Frame1, Frame2, Frame3, Frame4. -/
import Derived.Test.YtjddbjmcjhjpiaaGreatDoorM4D
import Derived.Test.YtjddbjmcjhjpiaaGreatDoorM4A
import Derived.Test.YtjddbjmcjhjpiaaGreatDoorM4E
import Derived.Laws.StructEq
import Derived.Laws.MakeOwn

set_option linter.all false

namespace Go.Proofs.YtjddbjmcjhjpiaaGreatDoor
set_option maxRecDepth 100000
set_option maxHeartbeats 4000000
open Go.RowKit M

def PIn.pl (p:PIn):Pl:=⟨p.seat,p.count,p.cmd,⟨p.kind,p.sort,p.nr,p.ns,p.pf⟩,p.body.data.toList⟩
def PIn.of (p:Pl):PIn:=⟨p.seat,p.count,p.cmd,p.c.kind,p.c.sort,p.c.nr,p.c.ns,p.c.pf,⟨p.body.toArray⟩⟩
abbrev frV (seat count:Int) (cmd:Bool) (v:Value) (body:ByteArray):Value:=.agg #[.int .i64 seat,.int .i64 count,.bool cmd,v,.string body]
abbrev frI (p:PIn):Value:=frV p.seat p.count p.cmd (cv ⟨p.kind,p.sort,p.nr,p.ns,p.pf⟩) p.body
theorem getF_pl {p:PIn} (h:mayF p.pl):getF (putF p.pl)=some p.pl:=getF_putF h
end Go.Proofs.YtjddbjmcjhjpiaaGreatDoor
namespace Go.Proofs.YtjddbjmcjhjpiaaGreatDoor
set_option maxRecDepth 100000
set_option maxHeartbeats 4000000
open Go.RowKit M

theorem in_Addr (a b c d:Int) (n:Nat) (w:World):(Op.equalIn (n + 2) 144 (.agg #[.int .i64 a,.int .i64 b]) (.agg #[.int .i64 c,.int .i64 d])).run Tryz.prog w=.ok (a == c && b == d) w:=by
 have u3:=Tryz.underlying3
 have hS:Tryz.prog.underlying 144=some (.struct (Tryz.prog.fieldsOf 144)):=by kernel_rfl
 have hp:Tryz.prog.stoodInHeld 144=false:=by kernel_rfl
 rw [run_equalIn_agg w (n + 1) 144 _ _ hS hp]
 simp only [Program.fieldsOf,Tryz.underlying144]
 go_simp
 by_cases h1:a=c <;> by_cases h2:b=d <;> simp [h1,h2]
theorem eql_Pl (s c:Int) (m:Bool) (k t r n:Int) (f:Bool) (b:ByteArray) (s' c' : Int) (m' : Bool) (k' t' r' n' : Int) (f' : Bool) (b' : ByteArray) (w:World) :
 (binOp .eql 204 (.agg #[.int .i64 s,.int .i64 c,.bool m,.int .i64 k,.int .i64 t,.int .i64 r,.int .i64 n,.bool f,.string b]) (.agg #[.int .i64 s', .int .i64 c', .bool m', .int .i64 k', .int .i64 t', .int .i64 r', .int .i64 n', .bool f', .string b'])).run Tryz.prog w =
  .ok (.bool (s == s' && c == c' && (m == m' && (k == k' && (t == t' && (r == r' && (n == n' && (f == f' && b.toList == b'.toList)))))))) w:=by
 have u3:=Tryz.underlying3
 have u4:=Tryz.underlying4
 have u9:=Tryz.underlying9
 have hS:Tryz.prog.underlying 204=some (.struct (Tryz.prog.fieldsOf 204)):=by kernel_rfl
 have hp:Tryz.prog.stoodInHeld 204=false:=by kernel_rfl
 have ha:=fun w=>in_Addr s c s' c' 9997 w
 rw [run_eql_struct,show (10000:Nat)=9999 + 1 from rfl,run_equalIn_agg w 9999 204 _ _ hS hp]
 simp only [Program.fieldsOf,Tryz.underlying204]
 go_simp
 by_cases h0:s=s'
 · subst h0
   by_cases h1:c=c'
   · subst h1
     by_cases h2:m=m'
     · subst h2
       by_cases h3:k=k'
       · subst h3
         by_cases h4:t=t'
         · subst h4
           by_cases h5:r=r'
           · subst h5
             by_cases h6:n=n'
             · subst h6
               by_cases h7:f=f'
               · subst h7
                 by_cases h8:b.toList=b'.toList <;> simp [h8]
               · simp [h7]
             · simp [h6]
           · simp [h5]
         · simp [h4]
       · simp [h3]
     · simp [h2]
   · simp [h1]
 · simp [h0]
theorem eql_pin (p q:PIn) (w:World):(binOp .eql 204 p.val q.val).run Tryz.prog w=.ok (.bool (decide (p.pl=q.pl))) w:=by
 rw [eql_Pl]
 congr 2
 obtain ⟨s,c,m,k,t,r,n,f,b⟩:=p
 obtain ⟨s', c', m', k', t', r', n', f', b'⟩:=q
 rw [Bool.eq_iff_iff]
 simp only [Bool.and_eq_true,beq_iff_eq,decide_eq_true_iff,PIn.pl,Pl.mk.injEq,Cn.mk.injEq,ByteArray.toList_eq]
 constructor
 · rintro ⟨⟨h1,h2⟩,h3,h4,h5,h6,h7,h8,h9⟩;exact ⟨h1,h2,h3,⟨h4,h5,h6,h7,h8⟩,h9⟩
 · rintro ⟨h1,h2,h3,⟨h4,h5,h6,h7,h8⟩,h9⟩;exact ⟨⟨h1,h2⟩,h3,h4,h5,h6,h7,h8,h9⟩
theorem guard_Pl (op:BinOp) (x y:Operand) (xs ys:Array Value) (W:World):(eqGuard op 204 x y (.agg xs) (.agg ys)).run Tryz.prog W=.ok () W:=run_eqGuard_agg W op 204 x y xs ys (by kernel_rfl)
end Go.Proofs.YtjddbjmcjhjpiaaGreatDoor
namespace Go.Proofs.YtjddbjmcjhjpiaaGreatDoor
set_option maxRecDepth 100000
set_option maxHeartbeats 4000000
open Go.RowKit M

theorem wpList_boxS {P:Program} {ops:Array Oper} {rest:List Oper} {o:Oper} {a:Act} {w:World} {Q:Exit→Act→World→Prop} (hgd:o.guard=none) (T:TypeId) (cs:Array Value) (x:Operand) (ho:o.op=.box T x)
 (hx:a.eval x=.agg cs) (hrun:∀ w:World,(Instr.box T (.agg cs)).run P w=.ok (.pointer (some ⟨w.heap.size,0,none⟩)) (w.alloc (.cells cs T)))
 (h:∀ w1,Below w.heap.size w w1→w.heap.size < w1.heap.size→w1.heap[w.heap.size]?=some (.cells cs T (0,0)) →
  wpList P ops Q rest (a.put o.dst (.pointer (some ⟨w.heap.size,0,none⟩))) w1):wpList P ops Q (o :: rest) a w:=by
 refine wpList_plain hgd fun K hK=>?_
 have hr:(execOp a.eval o).run P w=.ok (.value (.pointer (some ⟨w.heap.size,0,none⟩))) (w.alloc (.cells cs T)):=by
  simp only [execOp,ho,hx,Sem.run_bind,hrun,Result.andThen_ok,Sem.run_pure]
 unfold Oper.wp
 rw [hr,Oper.upon_value]
 exact hK _ _ (h _ ((Below.refl _ _).alloc (Nat.le_refl _) _) (by simp) (heap_alloc_new w _))

abbrev addrV (seat count:Int):Value:=.agg #[.int .i64 seat,.int .i64 count]
abbrev frCells (seat count:Int) (cmd:Bool) (v:Value) (body:ByteArray):Array Value:=#[.int .i64 seat,.int .i64 count,.bool cmd,v,.string body]
theorem run_boxAddr (seat count:Int) (w:World):(Instr.box 144 (addrV seat count)).run Tryz.prog w=.ok (.pointer (some ⟨w.heap.size,0,none⟩)) (w.alloc (.cells #[.int .i64 seat,.int .i64 count] 144)):=by kernel_rfl
theorem run_boxFrame (seat count:Int) (cmd:Bool) (v:Value) (body:ByteArray) (w:World):(Instr.box 198 (frV seat count cmd v body)).run Tryz.prog w=.ok (.pointer (some ⟨w.heap.size,0,none⟩)) (w.alloc (.cells (frCells seat count cmd v body) 198)):=by kernel_rfl

def adr (seat count:Int):Prop:=0≤seat∧seat≤127∧0≤count∧count≤255
instance (seat count:Int):Decidable (adr seat count):=by unfold adr;infer_instance

theorem isAddress_any (seat count:Int) (w:World):Calls Tryz.prog 179 #[addrV seat count] w fun e w' => e=.returned (.bool (decide (adr seat count)))∧Below w.heap.size w w' := by
 have hd:∀ b:Bool,(b=true ↔ 0≤seat∧seat≤127∧0≤count∧count≤255)→Ending.returned (.bool b)=.returned (.bool (decide (adr seat count))):=by
  intro b h
  congr 2
  rw [Bool.eq_iff_iff,h,decide_eq_true_iff];rfl
 have HD:=jzD hd
 clear hd
 go_enter Tryz.func179,Tryz.ntmps179
 go_wp2_with (with_reducible refine wpList_boxS rfl 144 _ (.tmp 0) rfl rfl (run_boxAddr seat count) ?_)
 intro w1 hbel hlt hh
 have c0:w1.cell? ⟨w.heap.size,0,none⟩=some (.int .i64 seat):=cell_at hh 0 _ rfl
 have c1:w1.cell? ⟨w.heap.size,1,none⟩=some (.int .i64 count):=cell_at hh 1 _ rfl
 clear hh
 go_wp2
 all_goals
  go_ret
  refine ⟨HD.out _ ?_,hbel⟩
  first | (simp only [decide_eq_true_iff,Bool.false_eq_true,false_iff,iff_true];omega) | (simp;omega) | omega

theorem fieldKind (c:Cn) (W:World):(Instr.field 204 (plainV c) 2).run Tryz.prog W=.ok (.int .i64 c.kind) W:=by kernel_rfl
def AptF (c:Cn) (w:World) (e:Ending) (w' : World):Prop:=e=.returned (plainV c)∧Below w.heap.size w w'

theorem fapart_I (nr ns:Int) (pf:Bool) (w:World):Calls Tryz.prog 158 #[iV nr ns pf] w (AptF ⟨1,0,nr,ns,pf⟩ w):=by
 have a0:=fun W=>asI_yes W (.agg #[.int .i64 nr,.int .i64 ns,.bool pf])
 go_enter Tryz.func158,Tryz.ntmps158
 go_wp2
 exact bodyPost_ret (v:=plainV ⟨1,0,nr,ns,pf⟩) (by simp [results,Tryz.results158,go_sem]) rfl ⟨rfl,bal (bal (bel0 _) _) _⟩
theorem fapart_S (kind nr:Int) (pf:Bool) (w:World):Calls Tryz.prog 158 #[sV kind nr pf] w (AptF ⟨2,kind,nr,0,pf⟩ w):=by
 have a0:=fun W=>asI_no W 228 (.agg #[.int .i64 kind,.int .i64 nr,.bool pf]) (by decide)
 have a1:=fun W=>asS_yes W (.agg #[.int .i64 kind,.int .i64 nr,.bool pf])
 go_enter Tryz.func158,Tryz.ntmps158
 go_wp2
 exact bodyPost_ret (v:=plainV ⟨2,kind,nr,0,pf⟩) (by simp [results,Tryz.results158,go_sem]) rfl ⟨rfl,bal (bal (bel0 _) _) _⟩
theorem fapart_U (kind:Int) (pf:Bool) (w:World):Calls Tryz.prog 158 #[uV kind pf] w (AptF ⟨3,kind,0,0,pf⟩ w):=by
 have a0:=fun W=>asI_no W 196 (.agg #[.int .i64 kind,.bool pf]) (by decide)
 have a1:=fun W=>asS_no W 196 (.agg #[.int .i64 kind,.bool pf]) (by decide)
 have a2:=fun W=>asU_yes W (.agg #[.int .i64 kind,.bool pf])
 go_enter Tryz.func158,Tryz.ntmps158
 go_wp2
 exact bodyPost_ret (v:=plainV ⟨3,kind,0,0,pf⟩) (by simp [results,Tryz.results158,go_sem]) rfl ⟨rfl,bal (bal (bel0 _) _) _⟩
theorem fapart_nil (w:World):Calls Tryz.prog 158 #[.nilIface] w (AptF ⟨0,0,0,0,false⟩ w):=by
 have a0:=fun W=>asI_nil W
 have a1:=fun W=>asS_nil W
 have a2:=fun W=>asU_nil W
 go_enter Tryz.func158,Tryz.ntmps158
 go_wp2
 exact bodyPost_ret (v:=plainV ⟨0,0,0,0,false⟩) (by simp [results,Tryz.results158,go_sem]) rfl ⟨rfl,bal (bel0 _) _⟩
theorem fapart_no (t:TypeId) (v:Value) (h1:t ≠ 211) (h2:t ≠ 228) (h3:t ≠ 196) (w:World):Calls Tryz.prog 158 #[.iface t v] w (AptF ⟨0,0,0,0,false⟩ w):=by
 have a0:=fun W=>asI_no W t v h1
 have a1:=fun W=>asS_no W t v h2
 have a2:=fun W=>asU_no W t v h3
 go_enter Tryz.func158,Tryz.ntmps158
 go_wp2
 exact bodyPost_ret (v:=plainV ⟨0,0,0,0,false⟩) (by simp [results,Tryz.results158,go_sem]) rfl ⟨rfl,bal (bel0 _) _⟩
theorem fapart_any {v:Value} {c:Cn} (h:IsAny v c) (w:World):Calls Tryz.prog 158 #[v] w (AptF c w):=by
 rcases h with ⟨nr,ns,pf,rfl,rfl⟩ | ⟨kind,nr,pf,rfl,rfl⟩ | ⟨kind,pf,rfl,rfl⟩ | ⟨rfl,rfl | ⟨t,u,rfl,h1,h2,h3⟩⟩
 · exact fapart_I nr ns pf w
 · exact fapart_S kind nr pf w
 · exact fapart_U kind pf w
 · exact fapart_nil w
 · exact fapart_no t u h1 h2 h3 w

def roomN (c:Cn):Int:=if c.kind=2 then 0 else 64
theorem room_any {v:Value} {c:Cn} (h:IsAny v c) (w:World):Calls Tryz.prog 181 #[v] w fun e w' => e=.returned (.int .i64 (roomN c))∧Below w.heap.size w w' := by
 have ha:=fun w=>fapart_any h w
 unfold AptF at ha
 have hk:=fun W=>fieldKind c W
 have HA:=jzD ha
 have hr:∀ n:Int,n=roomN c→Ending.returned (.int .i64 n)=.returned (.int .i64 (roomN c)):=fun n h=>by rw [h]
 rcases h2:(c.kind == 2) with _ | _
 · have HR:Hid ((64:Int)=roomN c):=by show _=_;unfold roomN;rw [if_neg (by simpa using h2)]
   clear ha h
   go_enter Tryz.func181,Tryz.ntmps181
   go_wp2_with (go_at_call 158;refine (HA.out _).mono ?_;rintro e w1 ⟨rfl,hb⟩;have HB:=jzD hb;clear hb)
   go_ret
   exact ⟨hr _ HR.out,HB.out⟩
 · have HR:Hid ((0:Int)=roomN c):=by show _=_;unfold roomN;rw [if_pos (by simpa using h2)]
   clear ha h
   go_enter Tryz.func181,Tryz.ntmps181
   go_wp2_with (go_at_call 158;refine (HA.out _).mono ?_;rintro e w1 ⟨rfl,hb⟩;have HB:=jzD hb;clear hb)
   go_ret
   exact ⟨hr _ HR.out,HB.out⟩

theorem first_any (seat count:Int) (cmd:Bool) (v:Value) (body:ByteArray) (h:0≤seat∧seat≤127) (w:World):Calls Tryz.prog 157 #[frV seat count cmd v body] w fun e w' => e=.returned (.int .u8 (seat * 2 + one cmd))∧Below w.heap.size w w' := by
 have hd:∀ n:Int,n=seat * 2 + one cmd→Ending.returned (.int .u8 n)=.returned (.int .u8 (seat * 2 + one cmd)):=fun n h=>by rw [h]
 have ho:(List.range 128).all (fun k=>bits BinOp.or IntKind.u8 ((k:Nat) * 2:Int) 1 == ((k:Nat):Int) * 2 + 1)=true:=by decide +kernel
 have hor:bits BinOp.or IntKind.u8 (seat * 2) 1=seat * 2 + 1:=by
  obtain ⟨k,rfl⟩:∃ k:Nat,seat=k:=⟨seat.toNat,by omega⟩
  exact beq_iff_eq.1 (List.all_eq_true.1 ho k (List.mem_range.2 (by omega)))
 have HD:=jzD hd
 have HO:=jzD hor
 clear hd ho hor
 obtain ⟨hs0,hs1⟩:=h
 cases cmd
 all_goals
  go_enter Tryz.func157,Tryz.ntmps157
  go_wp2_with (with_reducible refine wpList_boxS rfl 198 _ (.tmp 0) rfl rfl (run_boxFrame seat count _ v body) ?_)
  intro w1 hbel hlt hh
  have c0:w1.cell? ⟨w.heap.size,0,none⟩=some (.int .i64 seat):=cell_at hh 0 _ rfl
  have c2:w1.cell? ⟨w.heap.size,2,none⟩=some (.bool _):=cell_at hh 2 _ rfl
  clear hh
  go_wp2
  go_ret
  refine ⟨HD.out _ ?_,hbel⟩
  first | (rw [HO.out];rfl) | (show _=seat * 2 + 0;omega)

theorem together_any (p:PIn) (w:World):Calls Tryz.prog 159 #[p.val] w fun e w' => e=.returned (cv p.c)∧Below w.heap.size w w' := by
 obtain ⟨seat,count,cmd,kind,sort,nr,ns,pf,body⟩:=p
 show Calls Tryz.prog 159 #[.agg #[.int .i64 seat,.int .i64 count,.bool cmd,.int .i64 kind,.int .i64 sort,.int .i64 nr,.int .i64 ns,.bool pf,.string body]] w fun e w' => e=.returned (cv ⟨kind,sort,nr,ns,pf⟩)∧Below w.heap.size w w'
 by_cases h1:kind=1
 · subst h1
   have hv:Hid (cv ⟨1,sort,nr,ns,pf⟩=iV nr ns pf):=by show _=_;rfl
   go_enter Tryz.func159,Tryz.ntmps159
   go_wp2
   go_ret
   exact ⟨by rw [hv.out];rfl,bal (bel0 _) _⟩
 · by_cases h2:kind=2
   · subst h2
     have hv:Hid (cv ⟨2,sort,nr,ns,pf⟩=sV sort nr pf):=by show _=_;rfl
     go_enter Tryz.func159,Tryz.ntmps159
     go_wp2
     go_ret
     exact ⟨by rw [hv.out];rfl,bal (bel0 _) _⟩
   · by_cases h3:kind=3
     · subst h3
       have hv:Hid (cv ⟨3,sort,nr,ns,pf⟩=uV sort pf):=by show _=_;rfl
       go_enter Tryz.func159,Tryz.ntmps159
       go_wp2
       go_ret
       exact ⟨by rw [hv.out];rfl,bal (bel0 _) _⟩
     · have b1:(kind == 1)=false:=beq_eq_false_iff_ne.2 h1
       have b2:(kind == 2)=false:=beq_eq_false_iff_ne.2 h2
       have b3:(kind == 3)=false:=beq_eq_false_iff_ne.2 h3
       have hv:Hid (cv ⟨kind,sort,nr,ns,pf⟩=.nilIface):=by show _=_;unfold cv;rw [if_neg h1,if_neg h2,if_neg h3]
       clear h1 h2 h3
       go_enter Tryz.func159,Tryz.ntmps159
       go_wp2
       go_ret
       exact ⟨by rw [hv.out];rfl,bal (bel0 _) _⟩
end Go.Proofs.YtjddbjmcjhjpiaaGreatDoor
namespace Go.Proofs.YtjddbjmcjhjpiaaGreatDoor
set_option maxRecDepth 100000
set_option maxHeartbeats 4000000
open Go.RowKit M

def MayFP (seat count:Int) (c:Cn) (body:ByteArray) (w:World) (e:Ending) (w' : World):Prop :=
 e=.returned (.bool (decide (adr seat count) && ((cb c).isSome && decide ((body.size:Int)≤roomN c))))∧Below w.heap.size w w'

theorem FMay_any (seat count:Int) (cmd:Bool) (v:Value) (c:Cn) (body:ByteArray) (h:IsAny v c) (w:World):Calls Tryz.prog 155 #[frV seat count cmd v body] w (MayFP seat count c body w):=by
 have hia:=fun w=>isAddress_any seat count w
 have hcm:=fun w=>CMay_any h w
 have hrm:=fun w=>room_any h w
 unfold MayP at hcm
 have hf:∀ b:Bool,b=(decide (adr seat count) && ((cb c).isSome && decide ((body.size:Int)≤roomN c)))→Ending.returned (.bool b)=.returned (.bool (decide (adr seat count) && ((cb c).isSome && decide ((body.size:Int)≤roomN c)))):=fun b h=>by rw [h]
 unfold MayFP
 have HRM:=jzD hrm
 generalize roomN c=rm at *
 rcases h1:decide (adr seat count) with _ | _
 · rw [h1] at hia hf
   have HIA:=jzD hia
   have HF:=jzD hf
   clear hia hcm hrm hf h h1
   go_enter Tryz.func155,Tryz.ntmps155
   go_wp2_with ((with_reducible refine wpList_boxS rfl 198 _ (.tmp 0) rfl rfl (run_boxFrame seat count cmd v body) ?_);intro w1 hb1 hlt1 hh1;have HB1:=jzD hb1;have HP1:=jzD hh1;clear hb1 hh1)
   refine rest_begin (by kernel_rfl) ?_
   refine rek 0 ?_
   refine rek 1 ?_ (hy:=by intro W HW;have cw0:W.cell? ⟨w.heap.size,0,none⟩=some (.int .i64 seat):=cell_at (keep_at (w:=w1.drew) HP1.out HW) 0 _ rfl;have cw1:W.cell? ⟨w.heap.size,1,none⟩=some (.int .i64 count):=cell_at (keep_at (w:=w1.drew) HP1.out HW) 1 _ rfl;go_simp;try with_reducible rfl)
   refine rest_call 2 (oi:=_) (by simp only [jzG,jzH,jzI];rfl) 179 #[addrV seat count] _ (by kernel_rfl) (by rfl) (by go_simp) (HIA.out w1.drew) ?_
   rintro e w2 ⟨rfl,hb⟩;refine ⟨_,rfl,hb,?_⟩;have HB2:=jzD (bel_trans HB1.out.drew hb);have HP2:=jzD (keep_at (w:=w1.drew) HP1.out hb);clear hb
   simp only [Act.put,jzU,jzV,jzW]
   refine rek 3 ?_
   refine rest_skip 4 (oi:=_) (by simp only [jzG,jzH,jzI];rfl) (by kernel_rfl) (by kernel_rfl) (by kernel_rfl) (by exact fun _ _ _ h=>h) (by rfl) ?_
   simp only [Act.put,jzU,jzV,jzW]
   refine rest_skip 5 (oi:=_) (by simp only [jzG,jzH,jzI];rfl) (by kernel_rfl) (by kernel_rfl) (by kernel_rfl) (by exact fun _ _ _ h=>h) (by rfl) ?_
   simp only [Act.put,jzU,jzV,jzW]
   refine rest_skip 6 (oi:=_) (by simp only [jzG,jzH,jzI];rfl) (by kernel_rfl) (by kernel_rfl) (by kernel_rfl) (by exact fun _ _ _ h=>h) (by rfl) ?_
   simp only [Act.put,jzU,jzV,jzW]
   refine rek 7 ?_
   refine rek 8 ?_
   refine rest_skip 9 (oi:=_) (by simp only [jzG,jzH,jzI];rfl) (by kernel_rfl) (by kernel_rfl) (by kernel_rfl) (by exact fun _ _ _ h=>h) (by rfl) ?_
   simp only [Act.put,jzU,jzV,jzW]
   refine rest_skip 10 (oi:=_) (by simp only [jzG,jzH,jzI];rfl) (by kernel_rfl) (by kernel_rfl) (by kernel_rfl) (by exact fun _ _ _ h=>h) (by rfl) ?_
   simp only [Act.put,jzU,jzV,jzW]
   refine rest_skip 11 (oi:=_) (by simp only [jzG,jzH,jzI];rfl) (by kernel_rfl) (by kernel_rfl) (by kernel_rfl) (by exact fun _ _ _ h=>h) (by rfl) ?_
   simp only [Act.put,jzU,jzV,jzW]
   refine rest_skip 12 (oi:=_) (by simp only [jzG,jzH,jzI];rfl) (by kernel_rfl) (by kernel_rfl) (by kernel_rfl) (by exact fun _ _ _ h=>h) (by rfl) ?_
   simp only [Act.put,jzU,jzV,jzW]
   refine rest_skip 13 (oi:=_) (by simp only [jzG,jzH,jzI];rfl) (by kernel_rfl) (by kernel_rfl) (by kernel_rfl) (by exact fun _ _ _ h=>h) (by rfl) ?_
   simp only [Act.put,jzU,jzV,jzW]
   refine rest_skip 14 (oi:=_) (by simp only [jzG,jzH,jzI];rfl) (by kernel_rfl) (by kernel_rfl) (by kernel_rfl) (by exact fun _ _ _ h=>h) (by rfl) ?_
   simp only [Act.put,jzU,jzV,jzW]
   refine rest_skip 15 (oi:=_) (by simp only [jzG,jzH,jzI];rfl) (by kernel_rfl) (by kernel_rfl) (by kernel_rfl) (by exact fun _ _ _ h=>h) (by rfl) ?_
   simp only [Act.put,jzU,jzV,jzW]
   refine rek 16 ?_
   refine rek 17 ?_
   refine rest_done (by kernel_rfl) ?_
   go_wp2
   go_ret
   exact ⟨HF.out _ (by rfl),HB2.out⟩
 · rw [h1] at hia hf
   have HIA:=jzD hia
   rcases h2:(cb c).isSome with _ | _
   · rw [h2] at hcm hf
     have HCM:=jzD hcm
     have HF:=jzD hf
     clear hia hcm hrm hf h h1 h2
     go_enter Tryz.func155,Tryz.ntmps155
     go_wp2_with ((with_reducible refine wpList_boxS rfl 198 _ (.tmp 0) rfl rfl (run_boxFrame seat count cmd v body) ?_);intro w1 hb1 hlt1 hh1;have HB1:=jzD hb1;have HP1:=jzD hh1;clear hb1 hh1)
     refine rest_begin (by kernel_rfl) ?_
     refine rek 0 ?_
     refine rek 1 ?_ (hy:=by intro W HW;have cw0:W.cell? ⟨w.heap.size,0,none⟩=some (.int .i64 seat):=cell_at (keep_at (w:=w1.drew) HP1.out HW) 0 _ rfl;have cw1:W.cell? ⟨w.heap.size,1,none⟩=some (.int .i64 count):=cell_at (keep_at (w:=w1.drew) HP1.out HW) 1 _ rfl;go_simp;try with_reducible rfl)
     refine rest_call 2 (oi:=_) (by simp only [jzG,jzH,jzI];rfl) 179 #[addrV seat count] _ (by kernel_rfl) (by rfl) (by go_simp) (HIA.out w1.drew) ?_
     rintro e w2 ⟨rfl,hb⟩;refine ⟨_,rfl,hb,?_⟩;have HB2:=jzD (bel_trans HB1.out.drew hb);have HP2:=jzD (keep_at (w:=w1.drew) HP1.out hb);clear hb
     simp only [Act.put,jzU,jzV,jzW]
     refine rek 3 ?_
     refine rek 4 ?_
     refine rek 5 ?_ (hy:=by intro W HW;have cw:W.cell? ⟨w.heap.size,3,none⟩=some (v):=cell_at (keep_at HP2.out HW) 3 _ rfl;go_simp;try with_reducible rfl)
     refine rest_call 6 (oi:=_) (by simp only [jzG,jzH,jzI];rfl) 180 #[v] _ (by kernel_rfl) (by rfl) (by go_simp) (HCM.out w2) ?_
     rintro e w3 ⟨rfl,hb⟩;refine ⟨_,rfl,hb,?_⟩;have HB3:=jzD (bel_trans HB2.out hb);have HP3:=jzD (keep_at HP2.out hb);clear hb
     simp only [Act.put,jzU,jzV,jzW]
     refine rek 7 ?_
     refine rek 8 ?_
     refine rest_skip 9 (oi:=_) (by simp only [jzG,jzH,jzI];rfl) (by kernel_rfl) (by kernel_rfl) (by kernel_rfl) (by exact fun _ _ _ h=>h) (by rfl) ?_
     simp only [Act.put,jzU,jzV,jzW]
     refine rest_skip 10 (oi:=_) (by simp only [jzG,jzH,jzI];rfl) (by kernel_rfl) (by kernel_rfl) (by kernel_rfl) (by exact fun _ _ _ h=>h) (by rfl) ?_
     simp only [Act.put,jzU,jzV,jzW]
     refine rest_skip 11 (oi:=_) (by simp only [jzG,jzH,jzI];rfl) (by kernel_rfl) (by kernel_rfl) (by kernel_rfl) (by exact fun _ _ _ h=>h) (by rfl) ?_
     simp only [Act.put,jzU,jzV,jzW]
     refine rest_skip 12 (oi:=_) (by simp only [jzG,jzH,jzI];rfl) (by kernel_rfl) (by kernel_rfl) (by kernel_rfl) (by exact fun _ _ _ h=>h) (by rfl) ?_
     simp only [Act.put,jzU,jzV,jzW]
     refine rest_skip 13 (oi:=_) (by simp only [jzG,jzH,jzI];rfl) (by kernel_rfl) (by kernel_rfl) (by kernel_rfl) (by exact fun _ _ _ h=>h) (by rfl) ?_
     simp only [Act.put,jzU,jzV,jzW]
     refine rest_skip 14 (oi:=_) (by simp only [jzG,jzH,jzI];rfl) (by kernel_rfl) (by kernel_rfl) (by kernel_rfl) (by exact fun _ _ _ h=>h) (by rfl) ?_
     simp only [Act.put,jzU,jzV,jzW]
     refine rest_skip 15 (oi:=_) (by simp only [jzG,jzH,jzI];rfl) (by kernel_rfl) (by kernel_rfl) (by kernel_rfl) (by exact fun _ _ _ h=>h) (by rfl) ?_
     simp only [Act.put,jzU,jzV,jzW]
     refine rek 16 ?_
     refine rek 17 ?_
     refine rest_done (by kernel_rfl) ?_
     go_wp2
     go_ret
     exact ⟨HF.out _ (by rfl),HB3.out⟩
   · rw [h2] at hcm hf
     have HCM:=jzD hcm
     have HF:=jzD hf
     clear hia hcm hrm hf h h1 h2
     go_enter Tryz.func155,Tryz.ntmps155
     go_wp2_with ((with_reducible refine wpList_boxS rfl 198 _ (.tmp 0) rfl rfl (run_boxFrame seat count cmd v body) ?_);intro w1 hb1 hlt1 hh1;have HB1:=jzD hb1;have HP1:=jzD hh1;clear hb1 hh1)
     refine rest_begin (by kernel_rfl) ?_
     refine rek 0 ?_
     refine rek 1 ?_ (hy:=by intro W HW;have cw0:W.cell? ⟨w.heap.size,0,none⟩=some (.int .i64 seat):=cell_at (keep_at (w:=w1.drew) HP1.out HW) 0 _ rfl;have cw1:W.cell? ⟨w.heap.size,1,none⟩=some (.int .i64 count):=cell_at (keep_at (w:=w1.drew) HP1.out HW) 1 _ rfl;go_simp;try with_reducible rfl)
     refine rest_call 2 (oi:=_) (by simp only [jzG,jzH,jzI];rfl) 179 #[addrV seat count] _ (by kernel_rfl) (by rfl) (by go_simp) (HIA.out w1.drew) ?_
     rintro e w2 ⟨rfl,hb⟩;refine ⟨_,rfl,hb,?_⟩;have HB2:=jzD (bel_trans HB1.out.drew hb);have HP2:=jzD (keep_at (w:=w1.drew) HP1.out hb);clear hb
     simp only [Act.put,jzU,jzV,jzW]
     refine rek 3 ?_
     refine rek 4 ?_
     refine rek 5 ?_ (hy:=by intro W HW;have cw:W.cell? ⟨w.heap.size,3,none⟩=some (v):=cell_at (keep_at HP2.out HW) 3 _ rfl;go_simp;try with_reducible rfl)
     refine rest_call 6 (oi:=_) (by simp only [jzG,jzH,jzI];rfl) 180 #[v] _ (by kernel_rfl) (by rfl) (by go_simp) (HCM.out w2) ?_
     rintro e w3 ⟨rfl,hb⟩;refine ⟨_,rfl,hb,?_⟩;have HB3:=jzD (bel_trans HB2.out hb);have HP3:=jzD (keep_at HP2.out hb);clear hb
     simp only [Act.put,jzU,jzV,jzW]
     refine rek 7 ?_
     refine rek 8 ?_
     refine rek 9 ?_
     refine rek 10 ?_ (hy:=by intro W HW;have cw:W.cell? ⟨w.heap.size,4,none⟩=some (.string body):=cell_at (keep_at HP3.out HW) 4 _ rfl;go_simp;try with_reducible rfl)
     refine rek 11 ?_
     refine rek 12 ?_
     refine rek 13 ?_ (hy:=by intro W HW;have cw:W.cell? ⟨w.heap.size,3,none⟩=some (v):=cell_at (keep_at HP3.out HW) 3 _ rfl;go_simp;try with_reducible rfl)
     refine rest_call 14 (oi:=_) (by simp only [jzG,jzH,jzI];rfl) 181 #[v] _ (by kernel_rfl) (by rfl) (by go_simp) (HRM.out w3) ?_
     rintro e w4 ⟨rfl,hb⟩;refine ⟨_,rfl,hb,?_⟩;have HB4:=jzD (bel_trans HB3.out hb);clear hb
     simp only [Act.put,jzU,jzV,jzW]
     refine rek 15 ?_
     refine rek 16 ?_
     refine rek 17 ?_
     refine rest_done (by kernel_rfl) ?_
     go_wp2
     go_ret
     exact ⟨HF.out _ (by rfl),HB4.out⟩

theorem len_data (b:ByteArray):b.data.toList.length=b.size:=by rw [Array.length_toList];rfl
theorem isAny_may {p:Pl} (h:mayF p):IsAny (cv p.c) p.c:=by
 obtain ⟨n,hn⟩:=Option.isSome_iff_exists.1 h.1
 have := isAny_cv p.c
 rwa [nm_of_cb hn] at this
theorem may_iff (p:PIn):(decide (adr p.seat p.count) && ((cb p.c).isSome && decide ((p.body.size:Int)≤roomN p.c)))=decide (mayF p.pl):=by
 rw [Bool.eq_iff_iff,decide_eq_true_iff]
 simp only [Bool.and_eq_true,decide_eq_true_iff]
 show _ ↔ (cb p.c).isSome=true∧0≤p.seat∧p.seat≤127∧0≤p.count∧p.count≤255∧p.body.data.toList.length≤64∧(p.c.kind ≠ 2 ∨ p.body.data.toList=[])
 rw [← List.length_eq_zero_iff,len_data]
 unfold adr roomN
 by_cases hk:p.c.kind=2
 · rw [if_pos hk]
   constructor
   · rintro ⟨⟨h1,h2,h3,h4⟩,h5,h6⟩;exact ⟨h5,h1,h2,h3,h4,by omega,.inr (by omega)⟩
   · rintro ⟨h5,h1,h2,h3,h4,h6,h7⟩
     have h8:p.body.size=0:=h7.resolve_left (fun hh=>hh hk)
     exact ⟨⟨h1,h2,h3,h4⟩,h5,by omega⟩
 · rw [if_neg hk]
   constructor
   · rintro ⟨⟨h1,h2,h3,h4⟩,h5,h6⟩;exact ⟨h5,h1,h2,h3,h4,by omega,.inl hk⟩
   · rintro ⟨h5,h1,h2,h3,h4,h6,h7⟩;exact ⟨⟨h1,h2,h3,h4⟩,h5,by omega⟩
theorem FMay_yes (p:PIn) (w:World) (hm:mayF p.pl):Calls Tryz.prog 155 #[frI p] w fun e w' => e=.returned (.bool true)∧Below w.heap.size w w' := by
 have h:=FMay_any p.seat p.count p.cmd (cv p.c) p.c p.body (isAny_may hm) w
 unfold MayFP at h
 rw [may_iff,decide_eq_true hm] at h
 exact h
end Go.Proofs.YtjddbjmcjhjpiaaGreatDoor
namespace Go.Proofs.YtjddbjmcjhjpiaaGreatDoor
set_option maxRecDepth 100000
set_option maxHeartbeats 4000000
open Go.RowKit M

section
variable {P:Program} {ops:Array Oper} {rest:List Oper} {o:Oper} {a:Act} {w:World} {Q:Exit→Act→World→Prop}
theorem wpList_store1 (hgd:o.guard=none) (ty:TypeId) (x y:Operand) (ho:o.op=.store ty x y)
 (g k:Nat) (v:Value) (hx:a.eval x=.pointer (some ⟨g,k,none⟩)) (hy:a.eval y=v) (t:TypeId) (cs:Array Value) (hg:w.heap[g]?=some (.cells cs t (0,0))) (hk:k < cs.size)
 (hrun:∀ w,(∃ u,w.cell? ⟨g,k,none⟩=some u)→w.frozen? ⟨g,k,none⟩=false→(Instr.storeAt ty (.pointer (some ⟨g,k,none⟩)) v).run P w=.ok () (w.setCell ⟨g,k,none⟩ v))
 (h:∀ w', w.grownBy w' (some g)→w'.heap[g]?=some (.cells (cs.setIfInBounds k v) t (0,0))→wpList P ops Q rest (a.put o.dst undef) w'):wpList P ops Q (o :: rest) a w:=by
 refine wpList_plain hgd fun K hK=>?_
 have hc:w.cell? ⟨g,k,none⟩=some cs[k]:=cell_at hg k _ (by simp [hk])
 have hrr:=hrun w ⟨_,hc⟩ (frz_at hg k)
 have hgb:w.grownBy (w.setCell ⟨g,k,none⟩ v) (some g):=⟨rfl,rfl,rfl,by simp [World.setCell],fun j _ hj=>by
  have hne:g ≠ j:=fun e=>hj (by rw [e])
  simp [World.setCell,Array.getElem?_modify,hne]⟩
 have hh:(w.setCell ⟨g,k,none⟩ v).heap[g]?=some (.cells (cs.setIfInBounds k v) t (0,0)):=by
  simp [World.setCell,Array.getElem?_modify,hg]
 unfold Oper.wp execOp
 simp only [ho,hx,hy,Sem.run_bind,hrr,Result.andThen_ok,Sem.run_pure]
 exact hK _ _ (h _ hgb hh)
end

theorem FPlain_is (seat count:Int) (cmd:Bool) (v:Value) (c:Cn) (body:ByteArray) (h:IsAny v c) (w:World) (hm:(decide (adr seat count) && ((cb c).isSome && decide ((body.size:Int)≤roomN c)))=true) :
 Calls Tryz.prog 139 #[frV seat count cmd v body] w fun e w' => e=.returned (.agg #[.int .i64 seat,.int .i64 count,.bool cmd,.int .i64 c.kind,.int .i64 c.sort,.int .i64 c.nr,.int .i64 c.ns,.bool c.pf,.string body])∧Below w.heap.size w w' := by
 have hmy:=fun w=>FMay_any seat count cmd v c body h w
 unfold MayFP at hmy
 have hsz:body.size≤64:=by
  simp only [Bool.and_eq_true,decide_eq_true_iff] at hm
  have := hm.2.2
  unfold roomN at this
  split at this <;> omega
 rw [hm] at hmy
 have hap:=fun w=>fapart_any h w
 unfold AptF at hap
 have HMY:=jzD hmy
 have HAP:=jzD hap
 have HCL:=jzD (fun w=>SClone_any body w (by omega))
 clear hmy hap hm h
 go_enter Tryz.func139,Tryz.ntmps139
 go_wp2_with (first
  | ((with_reducible refine wpList_boxS rfl 198 _ (.tmp 0) rfl rfl (run_boxFrame seat count cmd v body) ?_);intro w1 hb1 hlt1 hh1;have HB1:=jzD hb1;have HP1:=jzD hh1;clear hb1 hh1)
  | (with_reducible refine wpList_loadB rfl 198 (.tmp 1) rfl w.heap.size rfl 198 (frCells seat count cmd v body) (keep_at HP1.out (bal (bel0 w1) _)) _ Tryz.underlying198 rfl (by kernel_rfl) ?_)
  | (go_at_call 155;((with_reducible refine (HMY.out _).mono ?_);rintro e w2 ⟨rfl,hb⟩;have HB2:=jzD (bel_trans (bal HB1.out _) hb);have HP2:=jzD (keep_at (keep_at HP1.out (bal (bel0 w1) _)) hb);have HR2:=jzD (keep_at (heap_alloc_new w1 _) hb);have HE2:=jzD (Below.trans (bal (bel0 w1) _) (hb.mono (bal (bel0 w1) _).size));have d3:=cell_at HP2.out 3 _ rfl;clear hb))
  | (go_at_call 158;((with_reducible refine (HAP.out _).mono ?_);rintro e w3 ⟨rfl,hb⟩;have HB3:=jzD (bel_trans HB2.out hb);have HP3:=jzD (keep_at HP2.out hb);have HR3:=jzD (keep_at HR2.out hb);have HE3:=jzD (bel_trans HE2.out hb);clear hb)))
 obtain ⟨w4,hw4⟩:∃ w4,w4=w3.alloc (.cells (yN 0 0 false c.kind c.sort c.nr c.ns c.pf ⟨#[]⟩) 204):=⟨_,rfl⟩
 have HB4:Hid (Below w.heap.size w w4):=by show Below _ _ _;rw [hw4];exact bal HB3.out _
 have HE4:Hid (Below w1.heap.size w1 w4):=by show Below _ _ _;rw [hw4];exact bal HE3.out _
 have HQ4:Hid (w4.heap[w3.heap.size]?=some (.cells (yN 0 0 false c.kind c.sort c.nr c.ns c.pf ⟨#[]⟩) 204 (0,0))):=by show _=_;rw [hw4];exact heap_alloc_new w3 _
 have HP4:Hid (w4.heap[w.heap.size]?=some (.cells (frCells seat count cmd v body) 198 (0,0))):=by show _=_;rw [hw4];exact keep_at HP3.out (bal (bel0 w3) _)
 have HR4:Hid (w4.heap[w1.heap.size]?=some (.cells (yN 0 0 false 0 0 0 0 false ⟨#[]⟩) 204 (0,0))):=by show _=_;rw [hw4];exact keep_at HR3.out (bal (bel0 w3) _)
 have hne:w1.heap.size ≠ w3.heap.size:=by have := lt_at HR3.out;omega
 have hnf:w.heap.size ≠ w3.heap.size:=by have := lt_at HP3.out;omega
 have HZ:Hid (w1.heap.size≤w3.heap.size):=HE3.out.size
 have HZ0:Hid (w.heap.size≤w3.heap.size):=HB3.out.size
 have hlt:w.heap.size < w1.heap.size:=lt_at HP1.out
 rw [← hw4]
 clear hw4
 refine rests_begin (From w1) (by kernel_rfl) ?_
 refine rtk 0 HE4.out.drew ?_
 refine rtk 1 HE4.out.drew ?_ (hy:=by intro W HW;have cw0:W.cell? ⟨w.heap.size,0,none⟩=some (.int .i64 seat):=(HW.cell (p:=⟨w.heap.size,0,none⟩) hlt).trans (cell_at HP1.out 0 _ rfl);have cw1:W.cell? ⟨w.heap.size,1,none⟩=some (.int .i64 count):=(HW.cell (p:=⟨w.heap.size,1,none⟩) hlt).trans (cell_at HP1.out 1 _ rfl);go_simp;try with_reducible rfl)
 refine rtk 2 HE4.out.drew ?_
 refine rtk 3 HE4.out.drew ?_ (hy:=by intro W HW;have cw2:W.cell? ⟨w.heap.size,2,none⟩=some (.bool cmd):=(HW.cell (p:=⟨w.heap.size,2,none⟩) hlt).trans (cell_at HP1.out 2 _ rfl);go_simp;try with_reducible rfl)
 refine rtk 4 HE4.out.drew ?_
 refine rests_store2 5 (oi:=_) (by simp only [jzG,jzH,jzI];rfl) (by kernel_rfl) (by rfl) 144 (.tmp 15) (.tmp 12) rfl w3.heap.size (.int .i64 seat) (.int .i64 count) rfl rfl 204 _ HQ4.out (by simp) (storeAddr w3.heap.size _ _) ?_
 intro w5 hg5 hh5;refine ⟨bel_grown HE4.out.drew hg5 HZ.out,?_⟩;have HE5:=jzD (bel_grown HE4.out.drew hg5 HZ.out);have HB5:=jzD (bel_grown HB4.out.drew hg5 HZ0.out);have HQ5:=jzD hh5;have HR5:=jzD (keep_grown (w:=w4.drew) HR4.out hg5 hne);have HP5:=jzD (keep_grown (w:=w4.drew) HP4.out hg5 hnf);clear hg5 hh5
 simp only [Act.put,jzU,jzV,jzW]
 refine rtk 6 HE5.out ?_
 refine rests_store1 7 (oi:=_) (by simp only [jzG,jzH,jzI];rfl) (by kernel_rfl) (by rfl) 4 (.tmp 16) (.tmp 14) rfl w3.heap.size 2 (.bool cmd) rfl rfl 204 _ HQ5.out (by simp) (storeBool w3.heap.size 2 _) ?_
 intro w6 hg6 hh6;refine ⟨bel_grown HE5.out hg6 HZ.out,?_⟩;have HB6:=jzD (bel_grown HB5.out hg6 HZ0.out);have HQ6:=jzD hh6;have HR6:=jzD (keep_grown HR5.out hg6 hne);have HP6:=jzD (keep_grown HP5.out hg6 hnf);clear hg6 hh6
 simp only [Act.put,jzU,jzV,jzW]
 refine rests_done (by kernel_rfl) ?_
 have HN6:Hid (w6.heap[w3.heap.size]?=some (.cells (yN seat count cmd c.kind c.sort c.nr c.ns c.pf ⟨#[]⟩) 204 (0,0))):=HQ6.out
 have e4:=cell_at HP6.out 4 _ rfl
 go_wp2_with (first
  | (go_at_call 58;((with_reducible refine (HCL.out _).mono ?_);rintro e w7 ⟨rfl,hb⟩;have HB7:=jzD (bel_trans HB6.out hb);have HQ7:=jzD (keep_at HN6.out hb);have HR7:=jzD (keep_at HR6.out hb);clear hb))
  | ((with_reducible refine wpList_store1 rfl 9 (.tmp 20) (.tmp 19) rfl w3.heap.size 8 (.string body) rfl rfl 204 _ HQ7.out (by simp) (storeStr w3.heap.size 8 _) ?_);intro w9 hg9 hh9;have HB9:=jzD (bel_grown HB7.out hg9 HZ0.out);have HQ9:Hid (w9.heap[w3.heap.size]?=some (.cells (yN seat count cmd c.kind c.sort c.nr c.ns c.pf body) 204 (0,0))):=hh9;have HR9:=jzD (keep_grown HR7.out hg9 hne);clear hg9 hh9)
  | (with_reducible refine wpList_loadB rfl 204 (.tmp 3) rfl w3.heap.size rfl 204 #[.int .i64 seat,.int .i64 count,.bool cmd,.int .i64 c.kind,.int .i64 c.sort,.int .i64 c.nr,.int .i64 c.ns,.bool c.pf,.string body] HQ9.out _ Tryz.underlying204 rfl (by kernel_rfl) ?_)
  | ((with_reducible refine wpList_storeB rfl 204 (.tmp 2) _ rfl w1.heap.size #[.int .i64 seat,.int .i64 count,.bool cmd,.int .i64 c.kind,.int .i64 c.sort,.int .i64 c.nr,.int .i64 c.ns,.bool c.pf,.string body] rfl rfl 204 _ HR9.out (by kernel_rfl) (by kernel_rfl) (by kernel_rfl) ?_);intro w8 hg8 hz8 hh8;have HB8:=jzD (bel_grown HB9.out hg8 HB1.out.size);have HR8:=jzD hh8;clear hg8 hz8 hh8))
 exact ⟨rfl,_,results_cell_row rfl _ _ w1.heap.size _ _ _ _ rfl HR8.out Tryz.underlying204 rfl (by kernel_rfl),rfl,HB8.out⟩

def PIn.nm (p:PIn):PIn:=⟨p.seat,p.count,p.cmd,(Go.Proofs.YtjddbjmcjhjpiaaGreatDoor.nm p.c).kind,(Go.Proofs.YtjddbjmcjhjpiaaGreatDoor.nm p.c).sort,(Go.Proofs.YtjddbjmcjhjpiaaGreatDoor.nm p.c).nr,(Go.Proofs.YtjddbjmcjhjpiaaGreatDoor.nm p.c).ns,(Go.Proofs.YtjddbjmcjhjpiaaGreatDoor.nm p.c).pf,p.body⟩
theorem PIn.nm_may {p:PIn} (h:mayF p.pl):p.nm=p:=by
 obtain ⟨n,hn⟩:=Option.isSome_iff_exists.1 h.1
 have := nm_of_cb (c:=p.c) hn
 unfold PIn.nm
 rw [this];rfl
theorem FPlain_nm (p:PIn) (w:World) (hm:mayF p.nm.pl):Calls Tryz.prog 139 #[frI p] w fun e w' => e=.returned p.nm.val∧Below w.heap.size w w' :=
 FPlain_is p.seat p.count p.cmd (cv p.c) (nm p.c) p.body (isAny_cv p.c) w (by have := may_iff p.nm;rw [decide_eq_true hm] at this;exact this)
theorem FPlain_yes (p:PIn) (w:World) (hm:mayF p.pl):Calls Tryz.prog 139 #[frI p] w fun e w' => e=.returned p.val∧Below w.heap.size w w' := by
 have h:=PIn.nm_may hm
 have h2:=FPlain_nm p w (by rw [h];exact hm)
 rw [h] at h2
 exact h2
end Go.Proofs.YtjddbjmcjhjpiaaGreatDoor
namespace Go.Proofs.YtjddbjmcjhjpiaaGreatDoor
set_option maxRecDepth 100000
set_option maxHeartbeats 4000000
open Go.RowKit M

theorem wpList_make0 {w:World} {ops:Array Oper} {rest:List Oper} {o:Oper} {a:Act} {Q:Exit→Act→World→Prop} (hgd:o.guard=none) (x y:Operand) (ho:o.op=.makeSlice 152 x y)
 (kl kc:IntKind) (C:Int) (n base:Nat) (hx:a.eval x=.int kl 0) (hy:a.eval y=.int kc C) (hC:C=(n:Int)) (hn:n≤1000000) (hb:base≤w.heap.size)
 (h:∀ w', Own w' base (.slice (some ⟨w.heap.size,0,none⟩) 0 n) []→Below w.heap.size w w' → w.heap.size < w'.heap.size→wpList Tryz.prog ops Q rest (a.put o.dst (.slice (some ⟨w.heap.size,0,none⟩) 0 n)) w'):wpList Tryz.prog ops Q (o :: rest) a w:=by
 obtain ⟨i0,hi,hz0,hz1,hz2⟩:=info_parts byte_info
 have hm:=run_make (P:=Tryz.prog) w 152 5 i0 (.int .u8 0) Tryz.underlying152 hi hz0 kl kc 0 (n:Int) (by omega) (by omega) (by rw [hz2];omega) (by omega)
 rw [hz1] at hm
 subst hC
 refine wpList_plain hgd fun K hK=>?_
 have hr:(execOp a.eval o).run Tryz.prog w=.ok (.value (.slice (some ⟨w.heap.size,0,none⟩) 0 n)) (w.alloc (.cells (madeCells (Value.int .u8 0).cells (n * 1)) 5)):=by
  simp only [execOp,ho,hx,hy,Sem.run_bind,hm,Result.andThen_ok,Sem.run_pure,Int.toNat_natCast,Int.toNat_zero]
 unfold Oper.wp
 rw [hr,Oper.upon_value]
 refine hK _ _ (h _ ⟨rfl,.inr ⟨w.heap.size,n,_,rfl,hb,heap_alloc_new w _,Nat.zero_le _,by unfold maxLen;omega,?_,rfl⟩⟩ (bal (bel0 w) _) (by simp))
 rw [size_madeCells]
theorem own_three (w:World) (a b c:Int) (ha:0≤a∧a < 256) (hb:0≤b∧b < 256) (hc:0≤c∧c < 256):Own (w.alloc (.cells #[.int .u8 a,.int .u8 b,.int .u8 c] 5)) 0 (.slice (some ⟨w.heap.size,0,none⟩) 3 3) [by8 a,by8 b,by8 c]:=by
 have h:=Own.built w [by8 a,by8 b,by8 c] 0 (Nat.zero_le _) (by simp [maxLen])
 have e:(bcs [by8 a,by8 b,by8 c]).toArray=#[.int .u8 a,.int .u8 b,.int .u8 c]:=by
  show #[bc (by8 a),bc (by8 b),bc (by8 c)]=_
  rw [by8_bc ha,by8_bc hb,by8_bc hc]
 rw [e] at h
 exact h
section
variable {P:Program} {ops:Array Oper} {Q:Exit→Act→World→Prop} {S:World→Prop}
theorem rests_loadB {fuel:Nat} {listed:Array Bool} {a:Act} {w:World} (i:Nat) {oi:Oper} (hi:ops[i]?=some oi)
 (hs:Region.noSelect ops=true) (hf:Region.free .any ops listed i=true) (hr:(Region.ready .any ops listed).contains i=true) (cs:Array Value)
 (hQ:∀ c a w,Q (.panic c) (a.put oi.dst (.agg cs)) w→Q (.panic c) a w) (hS:S w) (hw:Region.wanted oi (yielded ops a.tmps)=true)
 (ty:TypeId) (x:Operand) (ho:oi.op=.load ty x) (g:Nat) (hx:a.eval x=.pointer (some ⟨g,0,none⟩)) (t:TypeId) (hg:∀ w', S w' → w'.heap[g]?=some (.cells cs t (0,0))) (d:TypeDesc)
 (hu:P.underlying ty=some d) (hd:(match d with | .struct _ | .array _ _=>true | _=>false)=true) (hsz:(P.info? ty).map (·.size)=some cs.size)
 (h:RestS S P ops Q fuel (listed.setIfInBounds i true) (a.put oi.dst (.agg cs)) w):RestS S P ops Q (fuel + 1) listed a w:=by
 refine rests_take i hi hs hf hr hQ hS hw (fun w' hw' => ?_) h
 simp only [execOp,ho,hx,Instr.loadAt,Instr.sureAddr,Sem.run_bind,Sem.run_pure,Result.andThen_ok,run_loadVar_row w' g t ty cs (0,0) d (hg w' hw') hu hd hsz]
end

theorem FPut_is (seat count:Int) (cmd:Bool) (v:Value) (c:Cn) (body:ByteArray) (h:IsAny v c) (w:World) (hC:Codes w) (hm:(decide (adr seat count) && ((cb c).isSome && decide ((body.size:Int)≤roomN c)))=true) :
 Calls Tryz.prog 137 #[frV seat count cmd v body] w fun e w' => ∃ u,e=.returned (.tuple #[u,.bool true])∧Own w' w.heap.size u (putF ⟨seat,count,cmd,c,body.data.toList⟩)∧Below w.heap.size w w' := by
 have hmy:=fun w=>FMay_any seat count cmd v c body h w
 unfold MayFP at hmy
 have hmm:=hm
 simp only [Bool.and_eq_true,decide_eq_true_iff] at hmm
 obtain ⟨⟨a1,a2,a3,a4⟩,a5,a6⟩:=hmm
 have hsz:body.size≤64:=by
  unfold roomN at a6
  split at a6 <;> omega
 obtain ⟨n,hn⟩:=Option.isSome_iff_exists.1 a5
 have hr:=cb_range hn
 rw [hm] at hmy
 have hpt:∀ w,Codes w→Calls Tryz.prog 156 #[v] w fun e w' => e=.returned (.tuple #[.int .u8 n,.bool true])∧Below w.heap.size w w' := fun w hC=>by
  have := CPut_any h w hC
  unfold CtlSays at this
  rw [hn] at this
  exact this
 have ho:=one_or cmd
 have hcs:putF ⟨seat,count,cmd,c,body.data.toList⟩=[by8 (seat * 2 + one cmd),by8 count,by8 n] ++ body.data.toList:=by
  unfold putF
  rw [hn];rfl
 have hF:0≤seat * 2 + one cmd∧seat * 2 + one cmd < 256:=by omega
 have HMY:=jzD hmy
 have HPT:=jzD hpt
 have HC:=jzD hC
 have HCS:=jzD hcs
 have HFB:=jzD hF
 have HFI:=jzD (fun w=>first_any seat count cmd v body ⟨a1,a2⟩ w)
 have HRN:=jzD hr
 have q1:IntKind.u8.wrap count=count:=IntWalk.u8_in _ (by omega)
 have HC3:Hid (3 + (body.size:Int)=((3 + body.size:Nat):Int)):=by show _=_;omega
 have hC4:3 + body.size≤1000000:=by omega
 obtain ⟨i0,hi0,hz0,hz1,hz2⟩:=info_parts byte_info
 clear hmy hpt hm h hn hr hcs hF a5 a6 hC ho
 go_enter Tryz.func137,Tryz.ntmps137
 go_wp2_with (first
  | ((with_reducible refine wpList_boxS rfl 198 _ (.tmp 0) rfl rfl (run_boxFrame seat count cmd v body) ?_);intro w1 hb1 hlt1 hh1;have HB1:=jzD hb1;have HP1:=jzD hh1;clear hb1 hh1)
  | (with_reducible refine wpList_loadB rfl 198 (.tmp 1) rfl w.heap.size rfl 198 (frCells seat count cmd v body) HP1.out _ Tryz.underlying198 rfl (by kernel_rfl) ?_)
  | (go_at_call 155;((with_reducible refine (HMY.out _).mono ?_);rintro e w2 ⟨rfl,hb⟩;have HB2:=jzD (bel_trans HB1.out hb);have HP2:=jzD (keep_at HP1.out hb);have HE2:=jzD hb;have d3:=cell_at HP2.out 3 _ rfl;clear hb))
  | (go_at_call 156;((with_reducible refine (HPT.out _ (HC.out.below HB2.out)).mono ?_);rintro e w3 ⟨rfl,hb⟩;have HB3:=jzD (bel_trans HB2.out hb);have HP3:=jzD (keep_at HP2.out hb);have HE3:=jzD (bel_trans HE2.out hb);have d4:=cell_at HP3.out 4 _ rfl;clear hb))
  | ((with_reducible refine wpList_make0 rfl (.const (.int .i64 0)) (.tmp 19) rfl .i64 .i64 (3 + (body.size:Int)) (3 + body.size) w1.heap.size rfl rfl HC3.out hC4 HE3.out.size ?_);intro w4 hown4 hb4 hlt4;have HO4:=jzD hown4;have HB4:=jzD (bel_trans HB3.out hb4);have HE4:=jzD (bel_trans HE3.out hb4);clear hown4 hb4 hlt4))
 have hlt:w.heap.size < w1.heap.size:=lt_at HP1.out
 generalize one cmd=o1 at *
 have HKP:Hid (∀ W,From w1 W→W.heap[w.heap.size]?=some (.cells (frCells seat count cmd v body) 198 (0,0))):=by show ∀ _,_;exact fun W HW=>keep_at HP1.out HW
 refine rests_begin (From w1) (by kernel_rfl) ?_
 refine rtk 0 HE4.out.drew ?_
 refine rests_loadB 1 (oi:=_) (by simp only [jzG,jzH,jzI];rfl) (by kernel_rfl) (by kernel_rfl) (by kernel_rfl) (frCells seat count cmd v body) (by exact fun _ _ _ h=>h) (HE4.out.drew) (by rfl) 198 (.tmp 1) rfl w.heap.size rfl 198 HKP.out _ Tryz.underlying198 rfl (by kernel_rfl) ?_
 simp only [Act.put,jzU,jzV,jzW]
 refine rtk 3 HE4.out.drew ?_
 refine rtk 4 HE4.out.drew ?_
 refine rtk 5 HE4.out.drew ?_ (hy:=by intro W HW;have cw1:W.cell? ⟨w.heap.size,1,none⟩=some (.int .i64 count):=cell_at (HKP.out W HW) 1 _ rfl;go_simp;try with_reducible rfl)
 refine rtk 6 HE4.out.drew ?_
 refine rtk 7 HE4.out.drew ?_
 refine rests_call 2 (oi:=_) (by simp only [jzG,jzH,jzI];rfl) 157 #[frV seat count cmd v body] _ (by kernel_rfl) (by rfl) (by go_simp) (HFI.out w4.drew) ?_
 rintro e w5 ⟨rfl,hb⟩;have HB5:=jzD (bel_trans HB4.out.drew hb);have HE5:=jzD (bel_trans HE4.out.drew hb);have HO5:=jzD (Own.below (w:=w4.drew) HO4.out hb);refine ⟨_,rfl,HE5.out,?_⟩;clear hb
 simp only [Act.put,jzU,jzV,jzW]
 refine rests_run 8 (oi:=_) (by simp only [jzG,jzH,jzI];rfl) (by kernel_rfl) (by rfl) (.slice (some ⟨w5.heap.size,0,none⟩) 3 3) (w5.alloc (.cells #[.int .u8 (seat * 2 + o1),.int .u8 count,.int .u8 n] 5)) (by go_simp) ⟨bal HE5.out _,?_⟩
 simp only [Act.put,jzU,jzV,jzW]
 refine rests_app 9 (oi:=_) (by simp only [jzG,jzH,jzI];rfl) (.tmp 21) (.tmp 29) (by kernel_rfl) (by rfl) rfl w1.heap.size _ _ [] _ rfl rfl (HO5.out.below (bal (bel0 w5) _)) (own_three w5 (seat * 2 + o1) count n HFB.out (by omega) HRN.out).rds (by simp) (bal HE5.out _).size ?_
 intro u6 w6 hown6 hg6 hat6;have hk6:w1.heap.size≤w4.heap.size∧True:=⟨HE4.out.size,trivial⟩;have HE6:=jzD ((bal HE5.out _).grown hg6 (bal HE5.out _).size (fun k hk=>(HO5.out.lt k hk).1));have HB6:=jzD ((bal HB5.out _).grown hg6 (bal HB5.out _).size (fun k hk=>Nat.le_trans (Nat.le_of_lt hlt) (HO5.out.lt k hk).1));have HO6:=jzD hown6;have HP6:=jzD (keep_at HP1.out HE6.out);obtain ⟨A6,cap6,rfl,_⟩:=hown6.rds;refine ⟨HE6.out,?_⟩;clear hown6 hg6 hat6 hk6
 simp only [Act.put,jzU,jzV,jzW]
 refine rtk 10 HE6.out ?_
 refine rests_done (by kernel_rfl) ?_
 have e4:=cell_at HP6.out 4 _ rfl
 go_wp2_with (
  at_builtin
  refine Lib.wpList_append_own_string _ rfl (.tmp 31) (.tmp 33) 152 9 rfl w1.heap.size 5 i0 Tryz.underlying152 Tryz.underlying9 hi0 hz0 hz1 hz2 _ 3 _ rfl HO6.out body rfl (by unfold maxLen;omega) (by omega) HE6.out.size ?_
  intro u7 w7 hown7 hg7 _hnil)
 go_ret2
 refine ⟨u7,rfl,?_,HB6.out.grown hg7 HB6.out.size (fun k hk=>Nat.le_trans (Nat.le_of_lt hlt) (HO6.out.lt k hk).1)⟩
 rw [HCS.out]
 have h7:Own w7 w1.heap.size u7 ([by8 (seat * 2 + o1),by8 count,by8 n] ++ body.data.toList):=by
  unfold Own
  rw [bcs_append,List.length_append,len_data]
  exact hown7
 exact h7.more (Nat.le_of_lt hlt)

theorem FPut_yes (p:PIn) (w:World) (hm:mayF p.pl) (hC:Codes w):Calls Tryz.prog 137 #[frI p] w fun e w' => ∃ v,e=.returned (.tuple #[v,.bool true])∧Own w' w.heap.size v (putF p.pl)∧Below w.heap.size w w' :=
 FPut_is p.seat p.count p.cmd (cv p.c) p.c p.body (isAny_may hm) w hC (by rw [may_iff,decide_eq_true hm])
end Go.Proofs.YtjddbjmcjhjpiaaGreatDoor
