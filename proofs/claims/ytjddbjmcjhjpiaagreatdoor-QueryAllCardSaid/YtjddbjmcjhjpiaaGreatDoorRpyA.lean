/- Package reply as landed (2b15d267): one who says that it is there. -/
import Derived.Test.YtjddbjmcjhjpiaaGreatDoorN16D
import Derived.Test.YtjddbjmcjhjpiaaGreatDoorN16A
import Derived.Test.YtjddbjmcjhjpiaaGreatDoorN16B
import Derived.Test.YtjddbjmcjhjpiaaGreatDoorM4D
import Derived.Test.YtjddbjmcjhjpiaaGreatDoorM4E
import Derived.Test.YtjddbjmcjhjpiaaGreatDoorN16C

set_option linter.all false

namespace Go.Proofs.YtjddbjmcjhjpiaaGreatDoor
set_option maxRecDepth 100000
set_option maxHeartbeats 16000000
open Go.RowKit M

theorem results_cell3 {P:Program} {fn:Func} {p q r:Tmp} {ty:TypeId} (h:fn.results=#[.cell p ty,.tmp q,.tmp r]) (tmps:Array Value) (w:World) (g:Nat) (t:TypeId) (cs:Array Value) (fr:Nat × Nat) (d:TypeDesc) (v u:Value)
 (hp:tmps.getD p undef=.pointer (some ⟨g,0,none⟩)) (hq:tmps.getD q undef=v) (hr:tmps.getD r undef=u) (hg:w.heap[g]?=some (.cells cs t fr))
 (hu:P.underlying ty=some d) (hd:(match d with | .struct _ | .array _ _=>true | _=>false)=true) (hi:(P.info? ty).map (·.size)=some cs.size) :
 (results fn tmps).run P w=.ok (.tuple #[.agg cs,v,u]) w:=by
 have hp' : tmps[p]?.getD undef=.pointer (some ⟨g,0,none⟩):=by simpa using hp
 have hq' : tmps[q]?.getD undef=v:=by simpa using hq
 have hr' : tmps[r]?.getD undef=u:=by simpa using hr
 simp [results,h,hp', hq', hr', asAddr,run_loadVar_row w g t ty cs fr d hg hu hd hi]
section
variable {r:ReplyM} {x:XIn} {l:List Int}
theorem hear_no (h:mayX x.xd=false):r.xid x l=ReplyM.xz∧r.used x l=0∧r.says x l=false∧r.hear x l=r:=by
 have ha:ReplyM.asked x=false:=by unfold ReplyM.asked;rw [h];rfl
 have hn:r.renews x=false:=by unfold ReplyM.renews;rw [h];rfl
 have hs:r.says x l=false:=by unfold ReplyM.says;rw [ha];rfl
 refine ⟨?_,?_,hs,?_⟩
 · unfold ReplyM.xid;rw [hs];rfl
 · unfold ReplyM.used;rw [hn,ha];rfl
 · unfold ReplyM.hear;rw [h];rfl
theorem hear_other (h:mayX x.xd=true) (hw:x.anew=true) (ht:¬ x.to_=r.id):r.xid x l=ReplyM.xz∧r.used x l=0∧r.says x l=false∧r.hear x l=r:=by
 have ha:ReplyM.asked x=false:=by unfold ReplyM.asked;rw [h,hw];rfl
 have hn:r.renews x=false:=by unfold ReplyM.renews;rw [h,hw,beq_eq_false_iff_ne.2 ht];rfl
 have hs:r.says x l=false:=by unfold ReplyM.says;rw [ha];rfl
 refine ⟨?_,?_,hs,?_⟩
 · unfold ReplyM.xid;rw [hs];rfl
 · unfold ReplyM.used;rw [hn,ha];rfl
 · unfold ReplyM.hear;rw [h,if_pos rfl,hw,if_pos rfl,if_neg ht]
theorem hear_own (h:mayX x.xd=true) (hw:x.anew=true) (ht:x.to_=r.id):r.xid x l=ReplyM.xz∧r.used x l=((freshM l [r.id]).2:Int)∧r.says x l=false∧r.hear x l={ r with id:=(freshM l [r.id]).1 }:=by
 have ha:ReplyM.asked x=false:=by unfold ReplyM.asked;rw [h,hw];rfl
 have hn:r.renews x=true:=by unfold ReplyM.renews;rw [h,hw,ht];simp
 have hs:r.says x l=false:=by unfold ReplyM.says;rw [ha];rfl
 refine ⟨?_,?_,hs,?_⟩
 · unfold ReplyM.xid;rw [hs];rfl
 · unfold ReplyM.used;rw [hn];rfl
 · unfold ReplyM.hear;rw [h,if_pos rfl,hw,if_pos rfl,if_pos ht]
theorem hear_to (h:mayX x.xd=true) (hw:x.anew=false) (ht:¬ x.to_=0):r.xid x l=ReplyM.xz∧r.used x l=0∧r.says x l=false∧r.hear x l=r:=by
 have ha:ReplyM.asked x=false:=by unfold ReplyM.asked;rw [h,hw,beq_eq_false_iff_ne.2 ht];rfl
 have hn:r.renews x=false:=by unfold ReplyM.renews;rw [h,hw];rfl
 have hs:r.says x l=false:=by unfold ReplyM.says;rw [ha];rfl
 refine ⟨?_,?_,hs,?_⟩
 · unfold ReplyM.xid;rw [hs];rfl
 · unfold ReplyM.used;rw [hn,ha];rfl
 · unfold ReplyM.hear;rw [h,if_pos rfl,hw,if_neg (by decide),if_neg ht]
theorem hear_end (h:mayX x.xd=true) (hw:x.anew=false) (ht:x.to_=0) (hz:x.slot=-1):r.xid x l=ReplyM.xz∧r.used x l=0∧r.says x l=false∧r.hear x l={ r with round:=none }:=by
 have ha:ReplyM.asked x=false:=by unfold ReplyM.asked;rw [h,hw,ht,hz];rfl
 have hn:r.renews x=false:=by unfold ReplyM.renews;rw [h,hw];rfl
 have hs:r.says x l=false:=by unfold ReplyM.says;rw [ha];rfl
 refine ⟨?_,?_,hs,?_⟩
 · unfold ReplyM.xid;rw [hs];rfl
 · unfold ReplyM.used;rw [hn,ha];rfl
 · unfold ReplyM.hear;rw [h,if_pos rfl,hw,if_neg (by decide),if_pos ht,if_pos hz]
theorem hear_ask {p q k:Int} (h:mayX x.xd=true) (hw:x.anew=false) (ht:x.to_=0) (hz:¬ x.slot=-1) (hr:r.roundOf x l=some (p,q,k)):r.xid x l=(if (k == x.slot) then ⟨r.id,x.from_,x.slot,x.slots,false,r.nick⟩ else ReplyM.xz)∧r.used x l=r.usedOf x l∧r.says x l=(k == x.slot)∧r.hear x l={ r with round:=some (p,q,k) }:=by
 have ha:ReplyM.asked x=true:=by unfold ReplyM.asked;rw [h,hw,ht,bne_iff_ne.2 hz];rfl
 have hn:r.renews x=false:=by unfold ReplyM.renews;rw [h,hw];rfl
 have hs:r.says x l=(k == x.slot):=by unfold ReplyM.says;rw [ha,hr];rfl
 refine ⟨?_,?_,hs,?_⟩
 · unfold ReplyM.xid;rw [hs]
 · unfold ReplyM.used;rw [hn,ha];rfl
 · unfold ReplyM.hear;rw [h,if_pos rfl,hw,if_neg (by decide),if_pos ht,if_neg hz,hr]
end
def chM (n:Int):List Int→Int
 | d :: _=>d % n
 | []=>0
def usM (l:List Int):Int:=if 0 < l.length then 1 else 0
theorem slotOf_ch {x:XIn} {l:List Int} (h:0≤x.slot):ReplyM.slotOf x l=max (chM x.slots l) x.slot:=by
 cases l with
 | nil=>show x.slot=max 0 x.slot;omega
 | cons d r=>rfl
theorem fresh_u32 {l m:List Int} (hl:∀ n ∈ l,u32 n) (hm:m.length≤1000):u32 (freshM l m).1:=by
 cases hd:drawn m l 0 with
 | some p =>
  obtain ⟨x,j⟩:=p
  have e:freshM l m=(x,j):=by unfold freshM;rw [hd];rfl
  rw [e]
  obtain ⟨i,hi,-,h2,-⟩:=drawn_some l 0 hd
  exact hl x (h2 ▸ List.getElem_mem hi)
 | none =>
  have e:freshM l m=(leastN m m.length 1,l.length):=by unfold freshM;rw [hd];rfl
  rw [e]
  obtain ⟨s1,s2,-,-⟩:=leastN_spec m m.length 1
  unfold u32
  simp only
  omega
theorem rMay (me:Int) (nk:ByteArray):mayX (XIn.xd ⟨me,0,0,1,false,nk⟩)=ReplyM.mayNew me nk:=by
 unfold mayX XIn.xd ReplyM.mayNew
 simp
theorem rMay_len {me:Int} {nk:ByteArray} (h:ReplyM.mayNew me nk=true):nk.size≤20:=LogM.nick_len (x:=⟨me,0,0,1,false,nk⟩) (by rw [rMay];exact h)
def rdC:Option (Int × Int × Int)→Int × Int × Int
 | some r=>r
 | none=>(0,0,0)
def rdOk (o:Option (Int × Int × Int)):Prop:=∀ r,o=some r→r.1 ≠ 0
theorem roundOf_no {r:ReplyM} {x:XIn} {l:List Int} (hok:rdOk r.round) (hx:ownN x.from_=true) (h:¬ (x.slot=0 ∨ ¬ x.from_=(rdC r.round).1 ∨ ¬ x.slots=(rdC r.round).2.1)):r.round=some (rdC r.round)∧r.roundOf x l=some (rdC r.round)∧r.usedOf x l=0:=by
 rcases hr:r.round with _ | ⟨a,n,k⟩
 · rw [hr] at h
   simp only [rdC] at h
   unfold ownN at hx
   simp only [Bool.and_eq_true,bne_iff_ne] at hx
   exact absurd (by omega:x.from_=0) hx.1
 · rw [hr] at h
   simp only [rdC] at h
   have hb:r.begins x=false:=by
    unfold ReplyM.begins
    rw [hr]
    have h1:¬ x.slot=0:=by omega
    have h2:a=x.from_:=by omega
    have h3:n=x.slots:=by omega
    simp [h1,h2,h3]
   refine ⟨rfl,?_,?_⟩
   · unfold ReplyM.roundOf;rw [hb,hr];rfl
   · unfold ReplyM.usedOf;rw [hb];rfl
theorem roundOf_yes {r:ReplyM} {x:XIn} {l:List Int} (hs:0≤x.slot) (h:x.slot=0 ∨ ¬ x.from_=(rdC r.round).1 ∨ ¬ x.slots=(rdC r.round).2.1):r.roundOf x l=some (x.from_,x.slots,max (chM x.slots l) x.slot)∧r.usedOf x l=usM l:=by
 have hb:r.begins x=true:=by
  unfold ReplyM.begins
  rcases hr:r.round with _ | ⟨a,n,k⟩
  · simp
  · rw [hr] at h
    simp only [rdC] at h
    rcases h with h | h | h
    · simp [h]
    · have h2:¬ a=x.from_:=by omega
      simp [h2]
    · have h2:¬ n=x.slots:=by omega
      simp [h2]
 refine ⟨?_,?_⟩
 · unfold ReplyM.roundOf;rw [hb,if_pos rfl,slotOf_ch hs]
 · unfold ReplyM.usedOf usM;rw [hb];simp
def rpcs (m:ReplyM):Array Value:=#[.int .u32 m.id,.string m.nick,.int .u32 (rdC m.round).1,.int .i64 (rdC m.round).2.1,.int .i64 (rdC m.round).2.2]
def ReplyW (v:Value) (m:ReplyM):Obj:=fun w F=>(m.ok∧rdOk m.round)∧∃ g,v=.pointer (some ⟨g,0,none⟩)∧CellW g (rpcs m) 110 w F
theorem ReplyW.stab (v:Value) (m:ReplyM):Stab (ReplyW v m) where
 in_:=fun ⟨_,g,_,h⟩=>(CellW.stab g _ _).in_ h
 tch:=fun ⟨h1,g,e,h⟩ ht hd=>⟨h1,g,e,(CellW.stab g _ _).tch h ht hd⟩
section
variable {w:World} {v u:Value} {F:List Nat}
theorem ReplyW.ptr {m:ReplyM} (h:ReplyW v m w F):∃ a:Addr,v=.pointer (some a):=by
 obtain ⟨_,g,rfl,_⟩:=h
 exact ⟨_,rfl⟩
theorem ReplyW.ok {m:ReplyM} (h:ReplyW v m w F):m.ok:=h.1.1
end
def rowishR (d:TypeDesc):Bool:=match d with
 | .struct _=>true
 | .array _ _=>true
 | _=>false
section
variable {ops:Array Oper} {rest:List Oper} {o:Oper} {a:Act} {w0 w:World} {F0:List Nat} {Q:Exit→Act→World→Prop} {C:Obj→Obj} {g:Nat} {cs:Array Value} {t:TypeId}
theorem wpList_storeMD {l:List Value} (hC:Fr C) (h:Done w0 F0 (C (CellW g l.toArray t)) w) (hgd:o.guard=none) (ty:TypeId) (x y:Operand) (ho:o.op=.store ty x y)
 (j:Nat) (vs:List Value) (hx:a.eval x=.pointer (some ⟨g,j,none⟩)) (hy:a.eval y=.agg vs.toArray) (hi' : (Tryz.prog.info? ty).map (·.size)=some vs.length) (h1:∀ v ∈ vs,v.oneCell' = true) (hlen:j + vs.length≤l.length)
 (hn:∀ w', Done w0 F0 (C (CellW g (setL l j vs).toArray t)) w' → wpList Tryz.prog ops Q rest (a.put o.dst undef) w'):wpList Tryz.prog ops Q (o :: rest) a w:=by
 obtain ⟨F,hF,hu⟩:=h.upd hC
 obtain ⟨rfl,hh⟩:=hF
 refine wpList_plain hgd fun K hK=>?_
 refine wp_store_mid ty x y ho g j vs.toArray hx hy (fun i hi=>?_) (by rw [List.size_toArray];exact hi') (all_oneCell_toArray h1) (hK _ _ (hn _ (hu ⟨[g],⟨rfl,heap_sets vs j w l hh⟩,tch_sets g vs j w,Sub.refl _ _⟩)))
 rw [List.size_toArray] at hi
 have hj2:j + i < l.length:=by omega
 refine ⟨?_,?_⟩
 · rw [cell_at hh (j + i) l[j + i] (by simp [hj2])]
   rfl
 · exact frz_at hh _
theorem wpList_loadGR (hC:Fr C) (h:Done w0 F0 (C (CellW g cs t)) w) (hw:Region.wanted o (yielded ops a.tmps)=true) (ty:TypeId) (x:Operand) (ho:o.op=.load ty x) (hx:a.eval x=.pointer (some ⟨g,0,none⟩)) (d:TypeDesc)
 (hu:Tryz.prog.underlying ty=some d) (hd:rowishR d=true) (hi:(Tryz.prog.info? ty).map (·.size)=some cs.size)
 (hn:wpList Tryz.prog ops Q rest (a.put o.dst (.agg cs)) w):wpList Tryz.prog ops Q (o :: rest) a w:=by
 refine wpList_loadG hw ty x ho g hx t cs (h.at_ hC) d hu ?_ hi hn
 cases d <;> first | rfl | exact absurd hd (by decide) | (exfalso;revert hd;simp [rowishR])
end
theorem run_storeU2 (n:Int) (g k:Nat):∀ w:World,(∃ u,w.cell? ⟨g,k,none⟩=some u)→w.frozen? ⟨g,k,none⟩=false→(Instr.storeAt 22 (.pointer (some ⟨g,k,none⟩)) (.int .u32 n)).run Tryz.prog w=.ok () (w.setCell ⟨g,k,none⟩ (.int .u32 n)):=by
 rintro w ⟨u,hu⟩ hf
 go_simp
theorem u32_row {w:World} {g:Nat} {n:Int} {t:TypeId} (hg:w.heap[g]?=some (.cells #[.int .u32 n] t (0,0))) (hn:u32 n):RdU w (.slice (some ⟨g,0,none⟩) 1 1) [n] :=
 rdU_new (l:=[n]) hg (by simp [maxLen]) (by intro x hx;rw [List.mem_singleton] at hx;rw [hx];exact hn)
theorem RpId_nil (w:World):Calls Tryz.prog 41 #[.pointer none] w fun e w' => e=.returned (.int .u32 0)∧Below w.heap.size w w' := by
 go_enter Tryz.func41,Tryz.ntmps41
 go_wp2
 go_ret
 exact ⟨rfl,Below.refl _ _⟩
theorem RpNick_nil (w:World):Calls Tryz.prog 42 #[.pointer none] w fun e w' => e=.returned (.string ⟨#[]⟩)∧Below w.heap.size w w' := by
 go_enter Tryz.func42,Tryz.ntmps42
 go_wp2
 go_ret
 exact ⟨rfl,Below.refl _ _⟩
theorem RpId_any (v:Value) (m:ReplyM) (F:List Nat) (w:World) (h:ReplyW v m w F):Calls Tryz.prog 41 #[v] w fun e w' => e=.returned (.int .u32 m.id)∧Below w.heap.size w w' := by
 obtain ⟨_,g,rfl,_,hh⟩:=h
 have q:w.cell? ⟨g,0,none⟩=some (.int .u32 m.id):=cell_at hh 0 _ rfl
 clear hh
 go_enter Tryz.func41,Tryz.ntmps41
 go_wp2
 go_ret
 exact ⟨rfl,Below.refl _ _⟩
theorem RpNick_any (v:Value) (m:ReplyM) (F:List Nat) (w:World) (h:ReplyW v m w F):Calls Tryz.prog 42 #[v] w fun e w' => e=.returned (.string m.nick)∧Below w.heap.size w w' := by
 obtain ⟨_,g,rfl,_,hh⟩:=h
 have q:w.cell? ⟨g,1,none⟩=some (.string m.nick):=cell_at hh 1 _ rfl
 clear hh
 go_enter Tryz.func42,Tryz.ntmps42
 go_wp2
 go_ret
 exact ⟨rfl,Below.refl _ _⟩
theorem u32_p {n:Int} (h:u32 n):0≤n∧n < 4294967296:=h
theorem RChoose_any (xn:Int) (v:Value) (l:List Int) (w:World) (hd:RdU w v l) (hxn:xn=1 ∨ xn=6 ∨ xn=8):Calls Tryz.prog 78 #[.int .i64 xn,v] w fun e w' => e=.returned (.tuple #[.int .i64 (chM xn l),.int .i64 (usM l)])∧Below w.heap.size w w' := by
 have hv0:=hd
 obtain ⟨A,cap,rfl,-,-,hlu,-⟩:=hv0
 cases l with
 | nil =>
  have e1:chM xn []=0:=rfl
  have e2:usM []=0:=rfl
  rw [e1,e2]
  clear hd hlu hxn
  go_enter Tryz.func78,Tryz.ntmps78
  go_wp2
  go_ret2
  exact ⟨rfl,Below.refl _ _⟩
 | cons d r =>
  obtain ⟨db,doff,hda,-,hdc⟩:=hd.at_ (i:=0) (by simp)
  subst hda
  have hdu:=u32_p (hlu d (by simp))
  have e2:usM (d :: r)=1:=by unfold usM;simp
  rw [e2]
  show Calls _ _ _ _ fun e w' => e=.returned (.tuple #[.int .i64 (d % xn),.int .i64 1])∧Below w.heap.size w w'
  have HDC:Hid (w.cell? ⟨db,doff,none⟩=some (.int .u32 d)):=by rw [Nat.add_zero] at hdc;exact hdc
  have hdc2:=HDC.out
  obtain ⟨L,hL⟩:∃ L,L=(d :: r).length:=⟨_,rfl⟩
  have hL0:0 < L:=by rw [hL];simp
  rw [← hL]
  have t1:((L:Int) == 0)=false:=beq_eq_false_iff_ne.2 (by omega)
  have b0:(0:Int) < (L:Int):=by omega
  have hn0:¬ xn=0:=by omega
  have hn0b:(xn == 0)=false:=beq_eq_false_iff_ne.2 hn0
  have ed:IntKind.i64.wrap d=d:=IntWalk.i64_in _ (by omega)
  obtain ⟨D,hD⟩:∃ D,D=d % xn:=⟨_,rfl⟩
  have eD:IntKind.i64.wrap D=D:=IntWalk.i64_in _ (by rw [hD];rcases hxn with h | h | h <;> rw [h] <;> omega)
  have HRM:d.tmod xn=D:=by rw [hD,Int.tmod_eq_emod_of_nonneg hdu.1]
  rw [← hD]
  clear hdc hd hlu hdu hL hD hxn
  go_enter Tryz.func78,Tryz.ntmps78
  go_wp2
  go_ret2
  exact ⟨rfl,Below.refl _ _⟩
theorem RRename_no (g:Nat) (id a n k who:Int) (nk:ByteArray) (F:List Nat) (v:Value) (w0:World) (h:CellW g (yE id nk a n k) 110 w0 F) (hne:¬ who=id):Calls Tryz.prog 62 #[.pointer (some ⟨g,0,none⟩),.int .u32 who,v] w0 fun e w' => e=.returned (.int .i64 0)∧Below w0.heap.size w0 w' := by
 have q:w0.cell? ⟨g,0,none⟩=some (.int .u32 id):=cell_at h.2 0 _ rfl
 have t1:(who != id)=true:=bne_iff_ne.2 hne
 clear h hne
 go_enter Tryz.func62,Tryz.ntmps62
 go_wp2
 go_ret
 exact ⟨rfl,Below.refl _ _⟩
theorem RRename_yes (g:Nat) (id a n k:Int) (nk:ByteArray) (F:List Nat) (v:Value) (l:List Int) (w0:World) (h:CellW g (yE id nk a n k) 110 w0 F) (hd:RdU w0 v l) (hl:l.length≤1000) (hidu:u32 id):Calls Tryz.prog 62 #[.pointer (some ⟨g,0,none⟩),.int .u32 id,v] w0 fun e w' => e=.returned (.int .i64 ((freshM l [id]).2:Int))∧Done w0 F (CellW g #[.int .u32 (freshM l [id]).1,.string nk,.int .u32 a,.int .i64 n,.int .i64 k] 110) w' := by
 have q:w0.cell? ⟨g,0,none⟩=some (.int .u32 id):=cell_at h.2 0 _ rfl
 have t1:(id != id)=false:=by simp
 have HT3:Hid (Done w0 F (Star (CellW g (yE id nk a n k) 110) (CellW w0.heap.size #[.int .u32 id] 22)) (w0.alloc (.cells #[.int .u32 id] 22))):=(Done.start h).add cS (CellW.new w0 #[.int .u32 id] 22)
 have hf:=XFresh_any v (.slice (some ⟨w0.heap.size,0,none⟩) 1 1) l [id] (w0.alloc (.cells #[.int .u32 id] 22)) (hd.below ((Below.refl _ _).alloc (Nat.le_refl _) _)) (u32_row (Done.at_ (C:=fun X=>Star (CellW g (yE id nk a n k) 110) X) (Fr.r cS Fr.id_) HT3.out) hidu) hl (by simp)
 unfold FreshR at hf
 obtain ⟨nf,hnf⟩:∃ n,n=(freshM l [id]).1:=⟨_,rfl⟩
 obtain ⟨kf,hkf⟩:∃ n,n=((freshM l [id]).2:Int):=⟨_,rfl⟩
 rw [← hnf,← hkf] at hf ⊢
 have HF:=jzD hf
 clear hf hnf hkf h hd hl hidu
 go_enter Tryz.func62,Tryz.ntmps62
 go_wp2_with (first
  | (go_at_call 77;((with_reducible refine (dcalls_keep (cS.star cS) HT3.out HF.out).mono ?_);rintro e w3 ⟨rfl,hs⟩;have HS3:Hid (Done w0 F (Star (CellW g (yE id nk a n k) 110) (CellW w0.heap.size #[.int .u32 id] 22)) w3):=(by show Done _ _ _ _;exact hs);clear hs))
  | ((with_reducible refine wpList_storeD (C:=fun X=>Star (X) (CellW w0.heap.size #[.int .u32 id] 22)) (Fr.l Fr.id_ cS) HS3.out rfl 22 (.tmp 28) (.tmp 26) rfl 0 (.int .u32 nf) rfl rfl (by simp) (run_storeU2 _ _ _) ?_);intro w4 hs;have HS4:Hid (Done w0 F (Star (CellW g (yE nf nk a n k) 110) (CellW w0.heap.size #[.int .u32 id] 22)) w4):=(by show Done _ _ _ _;exact hs);clear hs))
 go_ret
 exact ⟨rfl,HS4.out.drop⟩
theorem REnter_no (g:Nat) (id a n k:Int) (nk:ByteArray) (F:List Nat) (xf xt xs xn:Int) (xa:Bool) (xk:ByteArray) (v:Value) (w0:World) (h:CellW g (yE id nk a n k) 110 w0 F) (hb:¬ (xs=0 ∨ ¬ xf=a ∨ ¬ xn=n)):Calls Tryz.prog 63 #[.pointer (some ⟨g,0,none⟩),.agg #[.int .u32 xf,.int .u32 xt,.int .i64 xs,.int .i64 xn,.bool xa,.string xk],v] w0 fun e w' => e=.returned (.int .i64 0)∧Done w0 F (CellW g (yE id nk a n k) 110) w' := by
 have HS0:Hid (Done w0 F (Star (CellW g (yE id nk a n k) 110) (CellW w0.heap.size (yA xf xt xs xn xa xk) 32)) (w0.alloc (.cells (yA xf xt xs xn xa xk) 32))):=(Done.start h).add cS (CellW.new w0 #[.int .u32 xf,.int .u32 xt,.int .i64 xs,.int .i64 xn,.bool xa,.string xk] 32)
 have t1:(xs != 0)=true:=bne_iff_ne.2 (by omega)
 have t2:(xf == a)=true:=beq_iff_eq.2 (by omega)
 have t3:(xn == n)=true:=beq_iff_eq.2 (by omega)
 clear h hb
 go_enter Tryz.func63,Tryz.ntmps63
 go_wp2
 refine regq (fun W=>Below (w0.alloc (.cells (yA xf xt xs xn xa xk) 32)).heap.size (w0.alloc (.cells (yA xf xt xs xn xa xk) 32)) W) (by kernel_rfl) (by kernel_rfl) ((Below.refl _ _).drew) ?_
 refine qtk ?_
 refine qtk ?_ (hy:=by intro W HW;have cw:W.cell? ⟨w0.heap.size,2,none⟩=some (.int .i64 xs):=cell_at (keep_at (Done.at_ (C:=fun X=>Star (CellW g (yE id nk a n k) 110) X) (Fr.r cS Fr.id_) HS0.out) HW) 2 _ rfl;go_simp;try with_reducible rfl)
 iterate 3 refine qtk ?_
 refine qtk ?_ (hy:=by intro W HW;have cw:W.cell? ⟨w0.heap.size,0,none⟩=some (.int .u32 xf):=cell_at (keep_at (Done.at_ (C:=fun X=>Star (CellW g (yE id nk a n k) 110) X) (Fr.r cS Fr.id_) HS0.out) HW) 0 _ rfl;go_simp;try with_reducible rfl)
 iterate 4 refine qtk ?_
 refine qtk ?_ (hy:=by intro W HW;have cw:W.cell? ⟨g,2,none⟩=some (.int .u32 a):=cell_at (keep_at (Done.at_ (C:=fun X=>Star (X) (CellW w0.heap.size (yA xf xt xs xn xa xk) 32)) (Fr.l Fr.id_ cS) HS0.out) HW) 2 _ rfl;go_simp;try with_reducible rfl)
 iterate 4 refine qtk ?_
 refine qtk ?_ (hy:=by intro W HW;have cw:W.cell? ⟨w0.heap.size,3,none⟩=some (.int .i64 xn):=cell_at (keep_at (Done.at_ (C:=fun X=>Star (CellW g (yE id nk a n k) 110) X) (Fr.r cS Fr.id_) HS0.out) HW) 3 _ rfl;go_simp;try with_reducible rfl)
 iterate 4 refine qtk ?_
 refine qtk ?_ (hy:=by intro W HW;have cw:W.cell? ⟨g,3,none⟩=some (.int .i64 n):=cell_at (keep_at (Done.at_ (C:=fun X=>Star (X) (CellW w0.heap.size (yA xf xt xs xn xa xk) 32)) (Fr.l Fr.id_ cS) HS0.out) HW) 3 _ rfl;go_simp;try with_reducible rfl)
 iterate 2 refine qtk ?_
 refine q_done ?_
 intro w1 hb
 have HS1:=jzD (HS0.out.keep (cS.star cS) hb)
 clear hb
 go_wp2
 go_ret
 exact ⟨rfl,HS1.out.drop⟩
theorem bel0x (w:World) (cs:Array Value) (t:TypeId):Below w.heap.size w (w.alloc (.cells cs t)):=(Below.refl _ _).alloc (Nat.le_refl _) _
theorem REnter_yes (g:Nat) (id a n k:Int) (nk:ByteArray) (F:List Nat) (xf xt xs xn:Int) (xa:Bool) (xk:ByteArray) (v:Value) (l:List Int) (w0:World) (h:CellW g (yE id nk a n k) 110 w0 F) (hd:RdU w0 v l) (hxn:xn=1 ∨ xn=6 ∨ xn=8) (hb:xs=0 ∨ ¬ xf=a ∨ ¬ xn=n):Calls Tryz.prog 63 #[.pointer (some ⟨g,0,none⟩),.agg #[.int .u32 xf,.int .u32 xt,.int .i64 xs,.int .i64 xn,.bool xa,.string xk],v] w0 fun e w' => e=.returned (.int .i64 (usM l))∧Done w0 F (CellW g (yE id nk xf xn (max (chM xn l) xs)) 110) w' := by
 have HS0:Hid (Done w0 F (Star (CellW g (yE id nk a n k) 110) (CellW w0.heap.size (yA xf xt xs xn xa xk) 32)) (w0.alloc (.cells (yA xf xt xs xn xa xk) 32))):=(Done.start h).add cS (CellW.new w0 #[.int .u32 xf,.int .u32 xt,.int .i64 xs,.int .i64 xn,.bool xa,.string xk] 32)
 have hch:∀ w,Below w0.heap.size w0 w→Calls Tryz.prog 78 #[.int .i64 xn,v] w fun e w' => e=.returned (.tuple #[.int .i64 (chM xn l),.int .i64 (usM l)])∧Below w.heap.size w w' := fun w hw=>RChoose_any xn v l w (hd.below hw) hxn
 obtain ⟨D,hD⟩:∃ D,D=chM xn l:=⟨_,rfl⟩
 obtain ⟨U,hU⟩:∃ U,U=usM l:=⟨_,rfl⟩
 rw [← hD,← hU] at hch ⊢
 clear h hd hxn hD hU
 by_cases h0:xs=0
 · have t1:(xs != 0)=false:=by simp [h0]
   clear hb h0
   go_enter Tryz.func63,Tryz.ntmps63
   go_wp2
   refine regq (fun W=>Below (w0.alloc (.cells (yA xf xt xs xn xa xk) 32)).heap.size (w0.alloc (.cells (yA xf xt xs xn xa xk) 32)) W) (by kernel_rfl) (by kernel_rfl) ((Below.refl _ _).drew) ?_
   refine qtk ?_
   refine qtk ?_ (hy:=by intro W HW;have cw:W.cell? ⟨w0.heap.size,2,none⟩=some (.int .i64 xs):=cell_at (keep_at (Done.at_ (C:=fun X=>Star (CellW g (yE id nk a n k) 110) X) (Fr.r cS Fr.id_) HS0.out) HW) 2 _ rfl;go_simp;try with_reducible rfl)
   iterate 2 refine qtk ?_
   iterate 8 refine qsk ?_
   iterate 2 refine qtk ?_
   iterate 8 refine qsk ?_
   refine qtk ?_
   refine q_done ?_
   intro w1 hb
   have HS1:=jzD (HS0.out.keep (cS.star cS) hb)
   have HCH:=jzD (hch _ (bel_trans (bel0x w0 #[.int .u32 xf,.int .u32 xt,.int .i64 xs,.int .i64 xn,.bool xa,.string xk] 32) hb))
   have x0w1:w1.cell? ⟨w0.heap.size,0,none⟩=some (.int .u32 xf):=cell_at (Done.at_ (C:=fun X=>Star (CellW g (yE id nk a n k) 110) X) (Fr.r cS Fr.id_) HS1.out) 0 _ rfl;have x2w1:w1.cell? ⟨w0.heap.size,2,none⟩=some (.int .i64 xs):=cell_at (Done.at_ (C:=fun X=>Star (CellW g (yE id nk a n k) 110) X) (Fr.r cS Fr.id_) HS1.out) 2 _ rfl;have x3w1:w1.cell? ⟨w0.heap.size,3,none⟩=some (.int .i64 xn):=cell_at (Done.at_ (C:=fun X=>Star (CellW g (yE id nk a n k) 110) X) (Fr.r cS Fr.id_) HS1.out) 3 _ rfl
   clear hb
   go_wp2_with (first
    | (go_at_call 78;((with_reducible refine (dcalls_keep (cS.star cS) HS1.out HCH.out).mono ?_);rintro e w2 ⟨rfl,hs⟩;have HS2:Hid (Done w0 F (Star (CellW g (yE id nk a n k) 110) (CellW w0.heap.size (yA xf xt xs xn xa xk) 32)) w2):=(by show Done _ _ _ _;exact hs);have x0w2:w2.cell? ⟨w0.heap.size,0,none⟩=some (.int .u32 xf):=cell_at (Done.at_ (C:=fun X=>Star (CellW g (yE id nk a n k) 110) X) (Fr.r cS Fr.id_) hs) 0 _ rfl;have x2w2:w2.cell? ⟨w0.heap.size,2,none⟩=some (.int .i64 xs):=cell_at (Done.at_ (C:=fun X=>Star (CellW g (yE id nk a n k) 110) X) (Fr.r cS Fr.id_) hs) 2 _ rfl;have x3w2:w2.cell? ⟨w0.heap.size,3,none⟩=some (.int .i64 xn):=cell_at (Done.at_ (C:=fun X=>Star (CellW g (yE id nk a n k) 110) X) (Fr.r cS Fr.id_) hs) 3 _ rfl;clear hs))
    | ((with_reducible refine wpList_storeMD (l:=[.int .u32 id,.string nk,.int .u32 a,.int .i64 n,.int .i64 k]) (C:=fun X=>Star (X) (CellW w0.heap.size (yA xf xt xs xn xa xk) 32)) (Fr.l Fr.id_ cS) HS2.out rfl 108 (.tmp 50) (.tmp 48) rfl 2 [.int .u32 xf,.int .i64 xn,.int .i64 (max D xs)] rfl rfl (by kernel_rfl) (by simp [Value.oneCell']) (by simp) ?_);intro w3 hs;have HS3:Hid (Done w0 F (Star (CellW g (yE id nk xf xn (max D xs)) 110) (CellW w0.heap.size (yA xf xt xs xn xa xk) 32)) w3):=(by show Done _ _ _ _;exact hs);clear hs))
   go_ret
   exact ⟨rfl,HS3.out.drop⟩
 · have t1:(xs != 0)=true:=bne_iff_ne.2 h0
   by_cases h1:xf=a
   · have t2:(xf == a)=true:=beq_iff_eq.2 h1
     have t3:(xn == n)=false:=beq_eq_false_iff_ne.2 (by omega)
     clear hb h0 h1
     go_enter Tryz.func63,Tryz.ntmps63
     go_wp2
     refine regq (fun W=>Below (w0.alloc (.cells (yA xf xt xs xn xa xk) 32)).heap.size (w0.alloc (.cells (yA xf xt xs xn xa xk) 32)) W) (by kernel_rfl) (by kernel_rfl) ((Below.refl _ _).drew) ?_
     refine qtk ?_
     refine qtk ?_ (hy:=by intro W HW;have cw:W.cell? ⟨w0.heap.size,2,none⟩=some (.int .i64 xs):=cell_at (keep_at (Done.at_ (C:=fun X=>Star (CellW g (yE id nk a n k) 110) X) (Fr.r cS Fr.id_) HS0.out) HW) 2 _ rfl;go_simp;try with_reducible rfl)
     iterate 3 refine qtk ?_
     refine qtk ?_ (hy:=by intro W HW;have cw:W.cell? ⟨w0.heap.size,0,none⟩=some (.int .u32 xf):=cell_at (keep_at (Done.at_ (C:=fun X=>Star (CellW g (yE id nk a n k) 110) X) (Fr.r cS Fr.id_) HS0.out) HW) 0 _ rfl;go_simp;try with_reducible rfl)
     iterate 4 refine qtk ?_
     refine qtk ?_ (hy:=by intro W HW;have cw:W.cell? ⟨g,2,none⟩=some (.int .u32 a):=cell_at (keep_at (Done.at_ (C:=fun X=>Star (X) (CellW w0.heap.size (yA xf xt xs xn xa xk) 32)) (Fr.l Fr.id_ cS) HS0.out) HW) 2 _ rfl;go_simp;try with_reducible rfl)
     iterate 4 refine qtk ?_
     refine qtk ?_ (hy:=by intro W HW;have cw:W.cell? ⟨w0.heap.size,3,none⟩=some (.int .i64 xn):=cell_at (keep_at (Done.at_ (C:=fun X=>Star (CellW g (yE id nk a n k) 110) X) (Fr.r cS Fr.id_) HS0.out) HW) 3 _ rfl;go_simp;try with_reducible rfl)
     iterate 4 refine qtk ?_
     refine qtk ?_ (hy:=by intro W HW;have cw:W.cell? ⟨g,3,none⟩=some (.int .i64 n):=cell_at (keep_at (Done.at_ (C:=fun X=>Star (X) (CellW w0.heap.size (yA xf xt xs xn xa xk) 32)) (Fr.l Fr.id_ cS) HS0.out) HW) 3 _ rfl;go_simp;try with_reducible rfl)
     iterate 2 refine qtk ?_
     refine q_done ?_
     intro w1 hb
     have HS1:=jzD (HS0.out.keep (cS.star cS) hb)
     have HCH:=jzD (hch _ (bel_trans (bel0x w0 #[.int .u32 xf,.int .u32 xt,.int .i64 xs,.int .i64 xn,.bool xa,.string xk] 32) hb))
     have x0w1:w1.cell? ⟨w0.heap.size,0,none⟩=some (.int .u32 xf):=cell_at (Done.at_ (C:=fun X=>Star (CellW g (yE id nk a n k) 110) X) (Fr.r cS Fr.id_) HS1.out) 0 _ rfl;have x2w1:w1.cell? ⟨w0.heap.size,2,none⟩=some (.int .i64 xs):=cell_at (Done.at_ (C:=fun X=>Star (CellW g (yE id nk a n k) 110) X) (Fr.r cS Fr.id_) HS1.out) 2 _ rfl;have x3w1:w1.cell? ⟨w0.heap.size,3,none⟩=some (.int .i64 xn):=cell_at (Done.at_ (C:=fun X=>Star (CellW g (yE id nk a n k) 110) X) (Fr.r cS Fr.id_) HS1.out) 3 _ rfl
     clear hb
     go_wp2_with (first
      | (go_at_call 78;((with_reducible refine (dcalls_keep (cS.star cS) HS1.out HCH.out).mono ?_);rintro e w2 ⟨rfl,hs⟩;have HS2:Hid (Done w0 F (Star (CellW g (yE id nk a n k) 110) (CellW w0.heap.size (yA xf xt xs xn xa xk) 32)) w2):=(by show Done _ _ _ _;exact hs);have x0w2:w2.cell? ⟨w0.heap.size,0,none⟩=some (.int .u32 xf):=cell_at (Done.at_ (C:=fun X=>Star (CellW g (yE id nk a n k) 110) X) (Fr.r cS Fr.id_) hs) 0 _ rfl;have x2w2:w2.cell? ⟨w0.heap.size,2,none⟩=some (.int .i64 xs):=cell_at (Done.at_ (C:=fun X=>Star (CellW g (yE id nk a n k) 110) X) (Fr.r cS Fr.id_) hs) 2 _ rfl;have x3w2:w2.cell? ⟨w0.heap.size,3,none⟩=some (.int .i64 xn):=cell_at (Done.at_ (C:=fun X=>Star (CellW g (yE id nk a n k) 110) X) (Fr.r cS Fr.id_) hs) 3 _ rfl;clear hs))
      | ((with_reducible refine wpList_storeMD (l:=[.int .u32 id,.string nk,.int .u32 a,.int .i64 n,.int .i64 k]) (C:=fun X=>Star (X) (CellW w0.heap.size (yA xf xt xs xn xa xk) 32)) (Fr.l Fr.id_ cS) HS2.out rfl 108 (.tmp 50) (.tmp 48) rfl 2 [.int .u32 xf,.int .i64 xn,.int .i64 (max D xs)] rfl rfl (by kernel_rfl) (by simp [Value.oneCell']) (by simp) ?_);intro w3 hs;have HS3:Hid (Done w0 F (Star (CellW g (yE id nk xf xn (max D xs)) 110) (CellW w0.heap.size (yA xf xt xs xn xa xk) 32)) w3):=(by show Done _ _ _ _;exact hs);clear hs))
     go_ret
     exact ⟨rfl,HS3.out.drop⟩
   · have t2:(xf == a)=false:=beq_eq_false_iff_ne.2 h1
     clear hb h0 h1
     go_enter Tryz.func63,Tryz.ntmps63
     go_wp2
     refine regq (fun W=>Below (w0.alloc (.cells (yA xf xt xs xn xa xk) 32)).heap.size (w0.alloc (.cells (yA xf xt xs xn xa xk) 32)) W) (by kernel_rfl) (by kernel_rfl) ((Below.refl _ _).drew) ?_
     refine qtk ?_
     refine qtk ?_ (hy:=by intro W HW;have cw:W.cell? ⟨w0.heap.size,2,none⟩=some (.int .i64 xs):=cell_at (keep_at (Done.at_ (C:=fun X=>Star (CellW g (yE id nk a n k) 110) X) (Fr.r cS Fr.id_) HS0.out) HW) 2 _ rfl;go_simp;try with_reducible rfl)
     iterate 3 refine qtk ?_
     refine qtk ?_ (hy:=by intro W HW;have cw:W.cell? ⟨w0.heap.size,0,none⟩=some (.int .u32 xf):=cell_at (keep_at (Done.at_ (C:=fun X=>Star (CellW g (yE id nk a n k) 110) X) (Fr.r cS Fr.id_) HS0.out) HW) 0 _ rfl;go_simp;try with_reducible rfl)
     iterate 4 refine qtk ?_
     refine qtk ?_ (hy:=by intro W HW;have cw:W.cell? ⟨g,2,none⟩=some (.int .u32 a):=cell_at (keep_at (Done.at_ (C:=fun X=>Star (X) (CellW w0.heap.size (yA xf xt xs xn xa xk) 32)) (Fr.l Fr.id_ cS) HS0.out) HW) 2 _ rfl;go_simp;try with_reducible rfl)
     iterate 3 refine qtk ?_
     iterate 8 refine qsk ?_
     refine qtk ?_
     refine q_done ?_
     intro w1 hb
     have HS1:=jzD (HS0.out.keep (cS.star cS) hb)
     have HCH:=jzD (hch _ (bel_trans (bel0x w0 #[.int .u32 xf,.int .u32 xt,.int .i64 xs,.int .i64 xn,.bool xa,.string xk] 32) hb))
     have x0w1:w1.cell? ⟨w0.heap.size,0,none⟩=some (.int .u32 xf):=cell_at (Done.at_ (C:=fun X=>Star (CellW g (yE id nk a n k) 110) X) (Fr.r cS Fr.id_) HS1.out) 0 _ rfl;have x2w1:w1.cell? ⟨w0.heap.size,2,none⟩=some (.int .i64 xs):=cell_at (Done.at_ (C:=fun X=>Star (CellW g (yE id nk a n k) 110) X) (Fr.r cS Fr.id_) HS1.out) 2 _ rfl;have x3w1:w1.cell? ⟨w0.heap.size,3,none⟩=some (.int .i64 xn):=cell_at (Done.at_ (C:=fun X=>Star (CellW g (yE id nk a n k) 110) X) (Fr.r cS Fr.id_) HS1.out) 3 _ rfl
     clear hb
     go_wp2_with (first
      | (go_at_call 78;((with_reducible refine (dcalls_keep (cS.star cS) HS1.out HCH.out).mono ?_);rintro e w2 ⟨rfl,hs⟩;have HS2:Hid (Done w0 F (Star (CellW g (yE id nk a n k) 110) (CellW w0.heap.size (yA xf xt xs xn xa xk) 32)) w2):=(by show Done _ _ _ _;exact hs);have x0w2:w2.cell? ⟨w0.heap.size,0,none⟩=some (.int .u32 xf):=cell_at (Done.at_ (C:=fun X=>Star (CellW g (yE id nk a n k) 110) X) (Fr.r cS Fr.id_) hs) 0 _ rfl;have x2w2:w2.cell? ⟨w0.heap.size,2,none⟩=some (.int .i64 xs):=cell_at (Done.at_ (C:=fun X=>Star (CellW g (yE id nk a n k) 110) X) (Fr.r cS Fr.id_) hs) 2 _ rfl;have x3w2:w2.cell? ⟨w0.heap.size,3,none⟩=some (.int .i64 xn):=cell_at (Done.at_ (C:=fun X=>Star (CellW g (yE id nk a n k) 110) X) (Fr.r cS Fr.id_) hs) 3 _ rfl;clear hs))
      | ((with_reducible refine wpList_storeMD (l:=[.int .u32 id,.string nk,.int .u32 a,.int .i64 n,.int .i64 k]) (C:=fun X=>Star (X) (CellW w0.heap.size (yA xf xt xs xn xa xk) 32)) (Fr.l Fr.id_ cS) HS2.out rfl 108 (.tmp 50) (.tmp 48) rfl 2 [.int .u32 xf,.int .i64 xn,.int .i64 (max D xs)] rfl rfl (by kernel_rfl) (by simp [Value.oneCell']) (by simp) ?_);intro w3 hs;have HS3:Hid (Done w0 F (Star (CellW g (yE id nk xf xn (max D xs)) 110) (CellW w0.heap.size (yA xf xt xs xn xa xk) 32)) w3):=(by show Done _ _ _ _;exact hs);clear hs))
     go_ret
     exact ⟨rfl,HS3.out.drop⟩
theorem RpHear_at (g:Nat) (id:Int) (nk:ByteArray) (rd:Option (Int × Int × Int)) (F:List Nat) (xf xt xs xn:Int) (xa:Bool) (xk:ByteArray) (v:Value) (l:List Int) (w0:World) (h:ReplyW (.pointer (some ⟨g,0,none⟩)) (⟨id,nk,rd⟩:ReplyM) w0 F) (hx:XIn.ok (⟨xf,xt,xs,xn,xa,xk⟩:XIn)) (hd:RdU w0 v l) (hl:l.length≤1000) :
 Calls Tryz.prog 39 #[.pointer (some ⟨g,0,none⟩),.agg #[.int .u32 xf,.int .u32 xt,.int .i64 xs,.int .i64 xn,.bool xa,.string xk],v] w0 fun e w' => e=.returned (.tuple #[(ReplyM.xid (⟨id,nk,rd⟩:ReplyM) (⟨xf,xt,xs,xn,xa,xk⟩:XIn) l).val,.int .i64 (ReplyM.used (⟨id,nk,rd⟩:ReplyM) (⟨xf,xt,xs,xn,xa,xk⟩:XIn) l),.bool (ReplyM.says (⟨id,nk,rd⟩:ReplyM) (⟨xf,xt,xs,xn,xa,xk⟩:XIn) l)])∧Done w0 F (ReplyW (.pointer (some ⟨g,0,none⟩)) (ReplyM.hear (⟨id,nk,rd⟩:ReplyM) (⟨xf,xt,xs,xn,xa,xk⟩:XIn) l)) w' := by
 have hok:ReplyM.ok (⟨id,nk,rd⟩:ReplyM):=h.1.1
 have hrd:rdOk rd:=h.1.2
 obtain ⟨_,g', he,hh⟩:=h
 obtain rfl:g=g' := congrArg Addr.block (Option.some.inj (Value.pointer.inj he))
 obtain ⟨a,ha⟩:∃ a,a=(rdC rd).1:=⟨_,rfl⟩
 obtain ⟨n,hn⟩:∃ n,n=(rdC rd).2.1:=⟨_,rfl⟩
 obtain ⟨k,hk⟩:∃ k,k=(rdC rd).2.2:=⟨_,rfl⟩
 replace hh:CellW g (yE id nk a n k) 110 w0 F:=by
  have h2:=hh
  unfold rpcs at h2
  simp only [← ha,← hn,← hk] at h2
  exact h2
 have hs0:Done w0 F (Star (Star (CellW g (yE id nk a n k) 110) (CellW w0.heap.size (yA xf xt xs xn xa xk) 32)) (CellW (w0.heap.size + 1) (yA 0 0 0 0 false ⟨#[]⟩) 32)) ((w0.alloc (.cells (yA xf xt xs xn xa xk) 32)).alloc (.cells (yA 0 0 0 0 false ⟨#[]⟩) 32)):=by
  have h1:=CellW.new w0 #[.int .u32 xf,.int .u32 xt,.int .i64 xs,.int .i64 xn,.bool xa,.string xk] 32
  have h2:=CellW.new (w0.alloc (.cells (yA xf xt xs xn xa xk) 32)) #[.int .u32 0,.int .u32 0,.int .i64 0,.int .i64 0,.bool false,.string ⟨#[]⟩] 32
  rw [show (w0.alloc (.cells (yA xf xt xs xn xa xk) 32)).heap.size=w0.heap.size + 1 by simp only [World.alloc,Array.size_push]] at h2
  exact ((Done.start hh).add cS h1).add (cS.star cS) h2
 have HS0:=jzD hs0
 have HB0:Hid (Below w0.heap.size w0 ((w0.alloc (.cells (yA xf xt xs xn xa xk) 32)).alloc (.cells (yA 0 0 0 0 false ⟨#[]⟩) 32))):=bel_trans (bel0x w0 #[.int .u32 xf,.int .u32 xt,.int .i64 xs,.int .i64 xn,.bool xa,.string xk] 32) (bel0x _ _ _)
 have hmx:=fun w=>XMay_any (⟨xf,xt,xs,xn,xa,xk⟩:XIn) w hx
 clear hs0 he hh
 rcases hm:mayX (XIn.xd (⟨xf,xt,xs,xn,xa,xk⟩:XIn)) with _ | _
 · rw [hm] at hmx
   have HMX:=jzD hmx
   have HH:=jzD (hear_no (r:=(⟨id,nk,rd⟩:ReplyM)) (x:=(⟨xf,xt,xs,xn,xa,xk⟩:XIn)) (l:=l) hm)
   have HFIN:Hid (∀ {w:World} {F:List Nat},CellW g (yE id nk a n k) 110 w F→ReplyW (.pointer (some ⟨g,0,none⟩)) (⟨id,nk,rd⟩:ReplyM) w F):=fun {w F} h=>⟨⟨hok,hrd⟩,g,rfl,by show CellW g (rpcs _) _ _ _;unfold rpcs;rw [← ha,← hn,← hk];exact h⟩
   clear hm hmx hx hd hl hok hrd ha hn hk
   go_enter Tryz.func39,Tryz.ntmps39
   go_wp2_with (first
    | (with_reducible refine wpList_loadGR (C:=fun X=>Star (Star (CellW g (yE id nk a n k) 110) X) (CellW (w0.heap.size + 1) (yA 0 0 0 0 false ⟨#[]⟩) 32)) (Fr.l (Fr.r cS Fr.id_) cS) HS0.out (by kernel_rfl) 32 (.tmp 4) rfl rfl _ Tryz.underlying32 rfl (by kernel_rfl) ?_)
    | (go_at_call 57;((with_reducible refine (HMX.out _).mono ?_);rintro e w1 ⟨rfl,hb⟩;have HSw1:Hid (Done w0 F (Star (Star (CellW g (yE id nk a n k) 110) (CellW w0.heap.size (yA xf xt xs xn xa xk) 32)) (CellW (w0.heap.size + 1) (yA 0 0 0 0 false ⟨#[]⟩) 32)) w1):=(by show Done _ _ _ _;exact HS0.out.keep ((cS.star cS).star cS) hb);have HB1:Hid (Below w0.heap.size w0 w1):=(by show Below _ _ _;exact bel_trans HB0.out hb);clear hb))
    | ((with_reducible refine wpList_storeBD (C:=fun X=>Star (Star (CellW g (yE id nk a n k) 110) (CellW w0.heap.size (yA xf xt xs xn xa xk) 32)) X) (Fr.r (cS.star cS) Fr.id_) HSw1.out rfl 32 (.tmp 6) (.tmp 18) rfl #[.int .u32 0,.int .u32 0,.int .i64 0,.int .i64 0,.bool false,.string ⟨#[]⟩] rfl rfl (by kernel_rfl) rfl (by simp [Value.oneCell']) ?_);intro wz hs;have HSwz:Hid (Done w0 F (Star (Star (CellW g (yE id nk a n k) 110) (CellW w0.heap.size (yA xf xt xs xn xa xk) 32)) (CellW (w0.heap.size + 1) (yA 0 0 0 0 false ⟨#[]⟩) 32)) wz):=(by show Done _ _ _ _;exact hs);clear hs))
   exact ⟨rfl,_,results_cell3 rfl _ _ (w0.heap.size + 1) _ _ _ _ (.int .i64 0) (.bool false) rfl rfl rfl (Done.at_ (C:=fun X=>Star (Star (CellW g (yE id nk a n k) 110) (CellW w0.heap.size (yA xf xt xs xn xa xk) 32)) X) (Fr.r (cS.star cS) Fr.id_) HSwz.out) Tryz.underlying32 rfl (by kernel_rfl),by rw [HH.out.1,HH.out.2.1,HH.out.2.2.1] <;> rfl,by rw [HH.out.2.2.2];exact HSwz.out.drop.drop.mono fun F hF=>HFIN.out hF⟩
 · rw [hm] at hmx
   have HMX:=jzD hmx
   clear hmx hx
   rcases xa with _ | _
   · by_cases ht:xt=0
     · by_cases hz:xs=-1
       · have HH:=jzD (hear_end (r:=(⟨id,nk,rd⟩:ReplyM)) (x:=(⟨xf,xt,xs,xn,false,xk⟩:XIn)) (l:=l) hm rfl ht hz)
         have HFIN:Hid (∀ {w:World} {F:List Nat},CellW g (yE id nk 0 0 0) 110 w F→ReplyW (.pointer (some ⟨g,0,none⟩)) (⟨id,nk,none⟩:ReplyM) w F):=fun {w F} h=>⟨⟨⟨hok.id,hok.nick⟩,fun _ e=>by cases e⟩,g,rfl,by exact h⟩
         have tt:(xt != 0)=false:=by simp [ht]
         have tz:(xs == -1)=true:=beq_iff_eq.2 hz
         clear hm hd hl hok hrd ha hn hk ht hz
         go_enter Tryz.func39,Tryz.ntmps39
         go_wp2_with (first
          | (with_reducible refine wpList_loadGR (C:=fun X=>Star (Star (CellW g (yE id nk a n k) 110) X) (CellW (w0.heap.size + 1) (yA 0 0 0 0 false ⟨#[]⟩) 32)) (Fr.l (Fr.r cS Fr.id_) cS) HS0.out (by kernel_rfl) 32 (.tmp 4) rfl rfl _ Tryz.underlying32 rfl (by kernel_rfl) ?_)
          | (go_at_call 57;((with_reducible refine (HMX.out _).mono ?_);rintro e w1 ⟨rfl,hb⟩;have HSw1:Hid (Done w0 F (Star (Star (CellW g (yE id nk a n k) 110) (CellW w0.heap.size (yA xf xt xs xn false xk) 32)) (CellW (w0.heap.size + 1) (yA 0 0 0 0 false ⟨#[]⟩) 32)) w1):=(by show Done _ _ _ _;exact HS0.out.keep ((cS.star cS).star cS) hb);have HB1:Hid (Below w0.heap.size w0 w1):=(by show Below _ _ _;exact bel_trans HB0.out hb);have x4w1:w1.cell? ⟨w0.heap.size,4,none⟩=some (.bool false):=cell_at (Done.at_ (C:=fun X=>Star (Star (CellW g (yE id nk a n k) 110) X) (CellW (w0.heap.size + 1) (yA 0 0 0 0 false ⟨#[]⟩) 32)) (Fr.l (Fr.r cS Fr.id_) cS) HSw1.out) 4 _ rfl;have x1w1:w1.cell? ⟨w0.heap.size,1,none⟩=some (.int .u32 xt):=cell_at (Done.at_ (C:=fun X=>Star (Star (CellW g (yE id nk a n k) 110) X) (CellW (w0.heap.size + 1) (yA 0 0 0 0 false ⟨#[]⟩) 32)) (Fr.l (Fr.r cS Fr.id_) cS) HSw1.out) 1 _ rfl;have x2w1:w1.cell? ⟨w0.heap.size,2,none⟩=some (.int .i64 xs):=cell_at (Done.at_ (C:=fun X=>Star (Star (CellW g (yE id nk a n k) 110) X) (CellW (w0.heap.size + 1) (yA 0 0 0 0 false ⟨#[]⟩) 32)) (Fr.l (Fr.r cS Fr.id_) cS) HSw1.out) 2 _ rfl;clear hb))
          | ((with_reducible refine wpList_storeMD (l:=[.int .u32 id,.string nk,.int .u32 a,.int .i64 n,.int .i64 k]) (C:=fun X=>Star (Star (X) (CellW w0.heap.size (yA xf xt xs xn false xk) 32)) (CellW (w0.heap.size + 1) (yA 0 0 0 0 false ⟨#[]⟩) 32)) (Fr.l (Fr.l Fr.id_ cS) cS) HSw1.out rfl 108 (.tmp 40) (.tmp 38) rfl 2 [.int .u32 0,.int .i64 0,.int .i64 0] rfl rfl (by kernel_rfl) (by simp [Value.oneCell']) (by simp) ?_);intro w2 hs;have HSw2:Hid (Done w0 F (Star (Star (CellW g (yE id nk 0 0 0) 110) (CellW w0.heap.size (yA xf xt xs xn false xk) 32)) (CellW (w0.heap.size + 1) (yA 0 0 0 0 false ⟨#[]⟩) 32)) w2):=(by show Done _ _ _ _;exact hs);clear hs)
          | ((with_reducible refine wpList_storeBD (C:=fun X=>Star (Star (CellW g (yE id nk 0 0 0) 110) (CellW w0.heap.size (yA xf xt xs xn false xk) 32)) X) (Fr.r (cS.star cS) Fr.id_) HSw2.out rfl 32 (.tmp 6) (.tmp 41) rfl #[.int .u32 0,.int .u32 0,.int .i64 0,.int .i64 0,.bool false,.string ⟨#[]⟩] rfl rfl (by kernel_rfl) rfl (by simp [Value.oneCell']) ?_);intro wz hs;have HSwz:Hid (Done w0 F (Star (Star (CellW g (yE id nk 0 0 0) 110) (CellW w0.heap.size (yA xf xt xs xn false xk) 32)) (CellW (w0.heap.size + 1) (yA 0 0 0 0 false ⟨#[]⟩) 32)) wz):=(by show Done _ _ _ _;exact hs);clear hs))
         exact ⟨rfl,_,results_cell3 rfl _ _ (w0.heap.size + 1) _ _ _ _ (.int .i64 0) (.bool false) rfl rfl rfl (Done.at_ (C:=fun X=>Star (Star (CellW g (yE id nk 0 0 0) 110) (CellW w0.heap.size (yA xf xt xs xn false xk) 32)) X) (Fr.r (cS.star cS) Fr.id_) HSwz.out) Tryz.underlying32 rfl (by kernel_rfl),by rw [HH.out.1,HH.out.2.1,HH.out.2.2.1] <;> rfl,by rw [HH.out.2.2.2];exact HSwz.out.drop.drop.mono fun F hF=>HFIN.out hF⟩
       · have hp:=(mayX_iff _).1 hm
         have hxn:xn=1 ∨ xn=6 ∨ xn=8:=hp.2.1
         have hxs:0≤xs:=by have := hp.2.2.1.1;simp only at this;omega
         have hxf:ownN xf=true:=hp.1
         have tt:(xt != 0)=false:=by simp [ht]
         have tz:(xs == -1)=false:=beq_eq_false_iff_ne.2 hz
         obtain ⟨a2,n2,k2,U,hro,hus,ha0,hcall⟩:∃ a2 n2 k2 U,ReplyM.roundOf (⟨id,nk,rd⟩:ReplyM) (⟨xf,xt,xs,xn,false,xk⟩:XIn) l=some (a2,n2,k2)∧ReplyM.usedOf (⟨id,nk,rd⟩:ReplyM) (⟨xf,xt,xs,xn,false,xk⟩:XIn) l=U∧a2 ≠ 0∧(∀ w F1,Below w0.heap.size w0 w→CellW g (yE id nk a n k) 110 w F1→Calls Tryz.prog 63 #[.pointer (some ⟨g,0,none⟩),.agg #[.int .u32 xf,.int .u32 xt,.int .i64 xs,.int .i64 xn,.bool false,.string xk],v] w fun e w' => e=.returned (.int .i64 U)∧Done w F1 (CellW g (yE id nk a2 n2 k2) 110) w'):=by
          by_cases hb:xs=0 ∨ ¬ xf=a ∨ ¬ xn=n
          · have hr:=roundOf_yes (r:=(⟨id,nk,rd⟩:ReplyM)) (x:=(⟨xf,xt,xs,xn,false,xk⟩:XIn)) (l:=l) hxs (by simp only;rw [← ha,← hn];exact hb)
            refine ⟨xf,xn,max (chM xn l) xs,usM l,hr.1,hr.2,?_,fun w F1 hw h=>REnter_yes g id a n k nk F1 xf xt xs xn false xk v l w h (hd.below hw) hxn hb⟩
            unfold ownN at hxf
            simp only [Bool.and_eq_true,bne_iff_ne] at hxf
            exact hxf.1
          · have hr:=roundOf_no (r:=(⟨id,nk,rd⟩:ReplyM)) (x:=(⟨xf,xt,xs,xn,false,xk⟩:XIn)) (l:=l) hrd hxf (by simp only;rw [← ha,← hn];exact hb)
            refine ⟨a,n,k,0,by rw [hr.2.1,ha,hn,hk],hr.2.2,by rw [ha];exact hrd _ hr.1,fun w F1 _ h=>REnter_no g id a n k nk F1 xf xt xs xn false xk v w h hb⟩
         have HRN:=jzD hcall
         have hha:=hear_ask (r:=(⟨id,nk,rd⟩:ReplyM)) (x:=(⟨xf,xt,xs,xn,false,xk⟩:XIn)) (l:=l) hm rfl ht hz hro
         rw [hus] at hha
         have HFIN:Hid (∀ {w:World} {F:List Nat},CellW g (yE id nk a2 n2 k2) 110 w F→ReplyW (.pointer (some ⟨g,0,none⟩)) (⟨id,nk,some (a2,n2,k2)⟩:ReplyM) w F):=fun {w F} h=>⟨⟨⟨hok.id,hok.nick⟩,fun _ e=>by cases e;exact ha0⟩,g,rfl,by exact h⟩
         by_cases hk2:k2=xs
         · have kb:(k2 == xs)=true:=beq_iff_eq.2 hk2
           have kn:(xs != k2)=false:=by simp [hk2]
           rw [kb] at hha
           have HH:Hid (ReplyM.xid (⟨id,nk,rd⟩:ReplyM) (⟨xf,xt,xs,xn,false,xk⟩:XIn) l=(⟨id,xf,xs,xn,false,nk⟩:XIn)∧ReplyM.used (⟨id,nk,rd⟩:ReplyM) (⟨xf,xt,xs,xn,false,xk⟩:XIn) l=U∧ReplyM.says (⟨id,nk,rd⟩:ReplyM) (⟨xf,xt,xs,xn,false,xk⟩:XIn) l=true∧ReplyM.hear (⟨id,nk,rd⟩:ReplyM) (⟨xf,xt,xs,xn,false,xk⟩:XIn) l=⟨id,nk,some (a2,n2,k2)⟩):=by show _∧_;exact hha
           clear hha hm hd hl hok hrd ha hn hk ht hz hp hxn hxs hxf hro hus ha0 hcall kb hk2
           go_enter Tryz.func39,Tryz.ntmps39
           go_wp2_with (first
            | (with_reducible refine wpList_loadGR (C:=fun X=>Star (Star (CellW g (yE id nk a n k) 110) X) (CellW (w0.heap.size + 1) (yA 0 0 0 0 false ⟨#[]⟩) 32)) (Fr.l (Fr.r cS Fr.id_) cS) HS0.out (by kernel_rfl) 32 (.tmp 4) rfl rfl _ Tryz.underlying32 rfl (by kernel_rfl) ?_)
            | (with_reducible refine wpList_loadD (C:=fun X=>Star (Star (CellW g (yE id nk a n k) 110) X) (CellW (w0.heap.size + 1) (yA 0 0 0 0 false ⟨#[]⟩) 32)) (Fr.l (Fr.r cS Fr.id_) cS) HSw1.out rfl 32 (.tmp 4) rfl rfl _ Tryz.underlying32 rfl (by kernel_rfl) ?_)
            | (go_at_call 57;((with_reducible refine (HMX.out _).mono ?_);rintro e w1 ⟨rfl,hb⟩;have HSw1:Hid (Done w0 F (Star (Star (CellW g (yE id nk a n k) 110) (CellW w0.heap.size (yA xf xt xs xn false xk) 32)) (CellW (w0.heap.size + 1) (yA 0 0 0 0 false ⟨#[]⟩) 32)) w1):=(by show Done _ _ _ _;exact HS0.out.keep ((cS.star cS).star cS) hb);have HB1:Hid (Below w0.heap.size w0 w1):=(by show Below _ _ _;exact bel_trans HB0.out hb);have x4w1:w1.cell? ⟨w0.heap.size,4,none⟩=some (.bool false):=cell_at (Done.at_ (C:=fun X=>Star (Star (CellW g (yE id nk a n k) 110) X) (CellW (w0.heap.size + 1) (yA 0 0 0 0 false ⟨#[]⟩) 32)) (Fr.l (Fr.r cS Fr.id_) cS) HSw1.out) 4 _ rfl;have x1w1:w1.cell? ⟨w0.heap.size,1,none⟩=some (.int .u32 xt):=cell_at (Done.at_ (C:=fun X=>Star (Star (CellW g (yE id nk a n k) 110) X) (CellW (w0.heap.size + 1) (yA 0 0 0 0 false ⟨#[]⟩) 32)) (Fr.l (Fr.r cS Fr.id_) cS) HSw1.out) 1 _ rfl;have x2w1:w1.cell? ⟨w0.heap.size,2,none⟩=some (.int .i64 xs):=cell_at (Done.at_ (C:=fun X=>Star (Star (CellW g (yE id nk a n k) 110) X) (CellW (w0.heap.size + 1) (yA 0 0 0 0 false ⟨#[]⟩) 32)) (Fr.l (Fr.r cS Fr.id_) cS) HSw1.out) 2 _ rfl;clear hb))
            | (go_at_call 63;((with_reducible refine (dcalls_at (C:=fun X=>Star (Star (X) (CellW w0.heap.size (yA xf xt xs xn false xk) 32)) (CellW (w0.heap.size + 1) (yA 0 0 0 0 false ⟨#[]⟩) 32)) (Fr.l (Fr.l Fr.id_ cS) cS) HSw1.out (fun F1 h=>HRN.out _ F1 HB1.out h)).mono ?_);rintro e w2 ⟨rfl,hs⟩;have HSw2:Hid (Done w0 F (Star (Star (CellW g (yE id nk a2 n2 k2) 110) (CellW w0.heap.size (yA xf xt xs xn false xk) 32)) (CellW (w0.heap.size + 1) (yA 0 0 0 0 false ⟨#[]⟩) 32)) w2):=(by show Done _ _ _ _;exact hs);clear hs)))
           refine regq (fun W=>Below w2.heap.size w2 W) (by kernel_rfl) (by kernel_rfl) ((Below.refl _ _).drew) ?_
           refine qtk ?_
           refine qtk ?_ (hy:=by intro W HW;have cw:W.cell? ⟨w0.heap.size,2,none⟩=some (.int .i64 xs):=cell_at (keep_at (Done.at_ (C:=fun X=>Star (Star (CellW g (yE id nk a2 n2 k2) 110) X) (CellW (w0.heap.size + 1) (yA 0 0 0 0 false ⟨#[]⟩) 32)) (Fr.l (Fr.r cS Fr.id_) cS) HSw2.out) HW) 2 _ rfl;go_simp;try with_reducible rfl)
           iterate 4 refine qtk ?_
           refine qtk ?_ (hy:=by intro W HW;have cw:W.cell? ⟨g,4,none⟩=some (.int .i64 k2):=cell_at (keep_at (Done.at_ (C:=fun X=>Star (Star (X) (CellW w0.heap.size (yA xf xt xs xn false xk) 32)) (CellW (w0.heap.size + 1) (yA 0 0 0 0 false ⟨#[]⟩) 32)) (Fr.l (Fr.l Fr.id_ cS) cS) HSw2.out) HW) 4 _ rfl;go_simp;try with_reducible rfl)
           refine qtk ?_
           refine q_done ?_
           intro w7 hb
           have HSw7:=jzD (HSw2.out.keep ((cS.star cS).star cS) hb)
           clear hb
           go_wp2
           have HSd:=jzD (HSw7.out.drewD ((cS.star cS).star cS))
           have HEd:Hid ((fun U=>U.heap[g]?=some (.cells (yE id nk a2 n2 k2) 110 (0,0))∧U.heap[w0.heap.size]?=some (.cells (yA xf xt xs xn false xk) 32 (0,0))) w7.drew):=⟨(Done.at_ (C:=fun X=>Star (Star (X) (CellW w0.heap.size (yA xf xt xs xn false xk) 32)) (CellW (w0.heap.size + 1) (yA 0 0 0 0 false ⟨#[]⟩) 32)) (Fr.l (Fr.l Fr.id_ cS) cS) HSd.out),(Done.at_ (C:=fun X=>Star (Star (CellW g (yE id nk a2 n2 k2) 110) X) (CellW (w0.heap.size + 1) (yA 0 0 0 0 false ⟨#[]⟩) 32)) (Fr.l (Fr.r cS Fr.id_) cS) HSd.out)⟩
           refine rests_begin (fun U=>U.heap[g]?=some (.cells (yE id nk a2 n2 k2) 110 (0,0))∧U.heap[w0.heap.size]?=some (.cells (yA xf xt xs xn false xk) 32 (0,0))) (by kernel_rfl) ?_
           refine rtk 0 HEd.out ?_
           refine rtk 1 HEd.out ?_
           refine rtk 2 HEd.out ?_
           refine rtk 3 HEd.out ?_ (hy:=by intro W HW;have cw:W.cell? ⟨g,0,none⟩=some (.int .u32 id):=cell_at (HW.1) 0 _ rfl;go_simp;try with_reducible rfl)
           refine rtk 4 HEd.out ?_
           refine rtk 5 HEd.out ?_ (hy:=by intro W HW;have cw:W.cell? ⟨w0.heap.size,0,none⟩=some (.int .u32 xf):=cell_at (HW.2) 0 _ rfl;go_simp;try with_reducible rfl)
           refine rtk 6 HEd.out ?_
           refine rtk 7 HEd.out ?_ (hy:=by intro W HW;have cw:W.cell? ⟨w0.heap.size,2,none⟩=some (.int .i64 xs):=cell_at (HW.2) 2 _ rfl;go_simp;try with_reducible rfl)
           refine rtk 8 HEd.out ?_
           refine rtk 9 HEd.out ?_ (hy:=by intro W HW;have cw:W.cell? ⟨w0.heap.size,3,none⟩=some (.int .i64 xn):=cell_at (HW.2) 3 _ rfl;go_simp;try with_reducible rfl)
           refine rtk 10 HEd.out ?_
           refine rtk 11 HEd.out ?_
           refine rtk 12 HEd.out ?_
           refine rtk 13 HEd.out ?_ (hy:=by intro W HW;have cw:W.cell? ⟨g,1,none⟩=some (.string nk):=cell_at (HW.1) 1 _ rfl;go_simp;try with_reducible rfl)
           refine rtk 14 HEd.out ?_
           refine rtk 15 HEd.out ?_
           refine rests_storeB 16 (oi:=_) (by simp only [jzG,jzH,jzI];rfl) (by kernel_rfl) (by rfl) 32 (.tmp 6) (.tmp 70) rfl (w0.heap.size + 1) #[.int .u32 id,.int .u32 xf,.int .i64 xs,.int .i64 xn,.bool false,.string nk] rfl rfl 32 _ (Done.at_ (C:=fun X=>Star (Star (CellW g (yE id nk a2 n2 k2) 110) (CellW w0.heap.size (yA xf xt xs xn false xk) 32)) X) (Fr.r (cS.star cS) Fr.id_) HSd.out) (by kernel_rfl) rfl (by simp [Value.oneCell']) ?_
           intro w8 hg _ hh;have HSw8:Hid (Done w0 F (Star (Star (CellW g (yE id nk a2 n2 k2) 110) (CellW w0.heap.size (yA xf xt xs xn false xk) 32)) (CellW (w0.heap.size + 1) (yA id xf xs xn false nk) 32)) w8):=Done.put_ (C:=fun X=>Star (Star (CellW g (yE id nk a2 n2 k2) 110) (CellW w0.heap.size (yA xf xt xs xn false xk) 32)) X) (Fr.r (cS.star cS) Fr.id_) HSd.out hg hh;have HE8:Hid ((fun U=>U.heap[g]?=some (.cells (yE id nk a2 n2 k2) 110 (0,0))∧U.heap[w0.heap.size]?=some (.cells (yA xf xt xs xn false xk) 32 (0,0))) w8):=⟨(Done.at_ (C:=fun X=>Star (Star (X) (CellW w0.heap.size (yA xf xt xs xn false xk) 32)) (CellW (w0.heap.size + 1) (yA id xf xs xn false nk) 32)) (Fr.l (Fr.l Fr.id_ cS) cS) HSw8.out),(Done.at_ (C:=fun X=>Star (Star (CellW g (yE id nk a2 n2 k2) 110) X) (CellW (w0.heap.size + 1) (yA id xf xs xn false nk) 32)) (Fr.l (Fr.r cS Fr.id_) cS) HSw8.out)⟩;refine ⟨HE8.out,?_⟩;clear hg hh
           simp only [Act.put,jzU,jzV,jzW]
           refine rtk 17 HE8.out ?_
           refine rtk 18 HE8.out ?_
           refine rests_done (by kernel_rfl) ?_
           go_wp2
           exact ⟨rfl,_,results_cell3 rfl _ _ (w0.heap.size + 1) _ _ _ _ (.int .i64 U) (.bool true) rfl rfl rfl (Done.at_ (C:=fun X=>Star (Star (CellW g (yE id nk a2 n2 k2) 110) (CellW w0.heap.size (yA xf xt xs xn false xk) 32)) X) (Fr.r (cS.star cS) Fr.id_) HSw8.out) Tryz.underlying32 rfl (by kernel_rfl),by rw [HH.out.1,HH.out.2.1,HH.out.2.2.1] <;> rfl,by rw [HH.out.2.2.2];exact HSw8.out.drop.drop.mono fun F hF=>HFIN.out hF⟩
         · have kb:(k2 == xs)=false:=beq_eq_false_iff_ne.2 hk2
           have kn:(xs != k2)=true:=bne_iff_ne.2 (fun h=>hk2 h.symm)
           rw [kb] at hha
           have HH:Hid (ReplyM.xid (⟨id,nk,rd⟩:ReplyM) (⟨xf,xt,xs,xn,false,xk⟩:XIn) l=ReplyM.xz∧ReplyM.used (⟨id,nk,rd⟩:ReplyM) (⟨xf,xt,xs,xn,false,xk⟩:XIn) l=U∧ReplyM.says (⟨id,nk,rd⟩:ReplyM) (⟨xf,xt,xs,xn,false,xk⟩:XIn) l=false∧ReplyM.hear (⟨id,nk,rd⟩:ReplyM) (⟨xf,xt,xs,xn,false,xk⟩:XIn) l=⟨id,nk,some (a2,n2,k2)⟩):=by show _∧_;exact hha
           clear hha hm hd hl hok hrd ha hn hk ht hz hp hxn hxs hxf hro hus ha0 hcall kb hk2
           go_enter Tryz.func39,Tryz.ntmps39
           go_wp2_with (first
            | (with_reducible refine wpList_loadGR (C:=fun X=>Star (Star (CellW g (yE id nk a n k) 110) X) (CellW (w0.heap.size + 1) (yA 0 0 0 0 false ⟨#[]⟩) 32)) (Fr.l (Fr.r cS Fr.id_) cS) HS0.out (by kernel_rfl) 32 (.tmp 4) rfl rfl _ Tryz.underlying32 rfl (by kernel_rfl) ?_)
            | (with_reducible refine wpList_loadD (C:=fun X=>Star (Star (CellW g (yE id nk a n k) 110) X) (CellW (w0.heap.size + 1) (yA 0 0 0 0 false ⟨#[]⟩) 32)) (Fr.l (Fr.r cS Fr.id_) cS) HSw1.out rfl 32 (.tmp 4) rfl rfl _ Tryz.underlying32 rfl (by kernel_rfl) ?_)
            | (go_at_call 57;((with_reducible refine (HMX.out _).mono ?_);rintro e w1 ⟨rfl,hb⟩;have HSw1:Hid (Done w0 F (Star (Star (CellW g (yE id nk a n k) 110) (CellW w0.heap.size (yA xf xt xs xn false xk) 32)) (CellW (w0.heap.size + 1) (yA 0 0 0 0 false ⟨#[]⟩) 32)) w1):=(by show Done _ _ _ _;exact HS0.out.keep ((cS.star cS).star cS) hb);have HB1:Hid (Below w0.heap.size w0 w1):=(by show Below _ _ _;exact bel_trans HB0.out hb);have x4w1:w1.cell? ⟨w0.heap.size,4,none⟩=some (.bool false):=cell_at (Done.at_ (C:=fun X=>Star (Star (CellW g (yE id nk a n k) 110) X) (CellW (w0.heap.size + 1) (yA 0 0 0 0 false ⟨#[]⟩) 32)) (Fr.l (Fr.r cS Fr.id_) cS) HSw1.out) 4 _ rfl;have x1w1:w1.cell? ⟨w0.heap.size,1,none⟩=some (.int .u32 xt):=cell_at (Done.at_ (C:=fun X=>Star (Star (CellW g (yE id nk a n k) 110) X) (CellW (w0.heap.size + 1) (yA 0 0 0 0 false ⟨#[]⟩) 32)) (Fr.l (Fr.r cS Fr.id_) cS) HSw1.out) 1 _ rfl;have x2w1:w1.cell? ⟨w0.heap.size,2,none⟩=some (.int .i64 xs):=cell_at (Done.at_ (C:=fun X=>Star (Star (CellW g (yE id nk a n k) 110) X) (CellW (w0.heap.size + 1) (yA 0 0 0 0 false ⟨#[]⟩) 32)) (Fr.l (Fr.r cS Fr.id_) cS) HSw1.out) 2 _ rfl;clear hb))
            | (go_at_call 63;((with_reducible refine (dcalls_at (C:=fun X=>Star (Star (X) (CellW w0.heap.size (yA xf xt xs xn false xk) 32)) (CellW (w0.heap.size + 1) (yA 0 0 0 0 false ⟨#[]⟩) 32)) (Fr.l (Fr.l Fr.id_ cS) cS) HSw1.out (fun F1 h=>HRN.out _ F1 HB1.out h)).mono ?_);rintro e w2 ⟨rfl,hs⟩;have HSw2:Hid (Done w0 F (Star (Star (CellW g (yE id nk a2 n2 k2) 110) (CellW w0.heap.size (yA xf xt xs xn false xk) 32)) (CellW (w0.heap.size + 1) (yA 0 0 0 0 false ⟨#[]⟩) 32)) w2):=(by show Done _ _ _ _;exact hs);clear hs)))
           refine regq (fun W=>Below w2.heap.size w2 W) (by kernel_rfl) (by kernel_rfl) ((Below.refl _ _).drew) ?_
           refine qtk ?_
           refine qtk ?_ (hy:=by intro W HW;have cw:W.cell? ⟨w0.heap.size,2,none⟩=some (.int .i64 xs):=cell_at (keep_at (Done.at_ (C:=fun X=>Star (Star (CellW g (yE id nk a2 n2 k2) 110) X) (CellW (w0.heap.size + 1) (yA 0 0 0 0 false ⟨#[]⟩) 32)) (Fr.l (Fr.r cS Fr.id_) cS) HSw2.out) HW) 2 _ rfl;go_simp;try with_reducible rfl)
           iterate 4 refine qtk ?_
           refine qtk ?_ (hy:=by intro W HW;have cw:W.cell? ⟨g,4,none⟩=some (.int .i64 k2):=cell_at (keep_at (Done.at_ (C:=fun X=>Star (Star (X) (CellW w0.heap.size (yA xf xt xs xn false xk) 32)) (CellW (w0.heap.size + 1) (yA 0 0 0 0 false ⟨#[]⟩) 32)) (Fr.l (Fr.l Fr.id_ cS) cS) HSw2.out) HW) 4 _ rfl;go_simp;try with_reducible rfl)
           refine qtk ?_
           refine q_done ?_
           intro w7 hb
           have HSw7:=jzD (HSw2.out.keep ((cS.star cS).star cS) hb)
           clear hb
           go_wp2_with ((with_reducible refine wpList_storeBD (C:=fun X=>Star (Star (CellW g (yE id nk a2 n2 k2) 110) (CellW w0.heap.size (yA xf xt xs xn false xk) 32)) X) (Fr.r (cS.star cS) Fr.id_) HSw7.out rfl 32 (.tmp 6) (.tmp 54) rfl #[.int .u32 0,.int .u32 0,.int .i64 0,.int .i64 0,.bool false,.string ⟨#[]⟩] rfl rfl (by kernel_rfl) rfl (by simp [Value.oneCell']) ?_);intro wz hs;have HSwz:Hid (Done w0 F (Star (Star (CellW g (yE id nk a2 n2 k2) 110) (CellW w0.heap.size (yA xf xt xs xn false xk) 32)) (CellW (w0.heap.size + 1) (yA 0 0 0 0 false ⟨#[]⟩) 32)) wz):=(by show Done _ _ _ _;exact hs);clear hs)
           exact ⟨rfl,_,results_cell3 rfl _ _ (w0.heap.size + 1) _ _ _ _ (.int .i64 U) (.bool false) rfl rfl rfl (Done.at_ (C:=fun X=>Star (Star (CellW g (yE id nk a2 n2 k2) 110) (CellW w0.heap.size (yA xf xt xs xn false xk) 32)) X) (Fr.r (cS.star cS) Fr.id_) HSwz.out) Tryz.underlying32 rfl (by kernel_rfl),by rw [HH.out.1,HH.out.2.1,HH.out.2.2.1] <;> rfl,by rw [HH.out.2.2.2];exact HSwz.out.drop.drop.mono fun F hF=>HFIN.out hF⟩
     · have HH:=jzD (hear_to (r:=(⟨id,nk,rd⟩:ReplyM)) (x:=(⟨xf,xt,xs,xn,false,xk⟩:XIn)) (l:=l) hm rfl ht)
       have HFIN:Hid (∀ {w:World} {F:List Nat},CellW g (yE id nk a n k) 110 w F→ReplyW (.pointer (some ⟨g,0,none⟩)) (⟨id,nk,rd⟩:ReplyM) w F):=fun {w F} h=>⟨⟨hok,hrd⟩,g,rfl,by show CellW g (rpcs _) _ _ _;unfold rpcs;rw [← ha,← hn,← hk];exact h⟩
       have tt:(xt != 0)=true:=bne_iff_ne.2 ht
       clear hm hd hl hok hrd ha hn hk ht
       go_enter Tryz.func39,Tryz.ntmps39
       go_wp2_with (first
        | (with_reducible refine wpList_loadGR (C:=fun X=>Star (Star (CellW g (yE id nk a n k) 110) X) (CellW (w0.heap.size + 1) (yA 0 0 0 0 false ⟨#[]⟩) 32)) (Fr.l (Fr.r cS Fr.id_) cS) HS0.out (by kernel_rfl) 32 (.tmp 4) rfl rfl _ Tryz.underlying32 rfl (by kernel_rfl) ?_)
        | (go_at_call 57;((with_reducible refine (HMX.out _).mono ?_);rintro e w1 ⟨rfl,hb⟩;have HSw1:Hid (Done w0 F (Star (Star (CellW g (yE id nk a n k) 110) (CellW w0.heap.size (yA xf xt xs xn false xk) 32)) (CellW (w0.heap.size + 1) (yA 0 0 0 0 false ⟨#[]⟩) 32)) w1):=(by show Done _ _ _ _;exact HS0.out.keep ((cS.star cS).star cS) hb);have HB1:Hid (Below w0.heap.size w0 w1):=(by show Below _ _ _;exact bel_trans HB0.out hb);have x4w1:w1.cell? ⟨w0.heap.size,4,none⟩=some (.bool false):=cell_at (Done.at_ (C:=fun X=>Star (Star (CellW g (yE id nk a n k) 110) X) (CellW (w0.heap.size + 1) (yA 0 0 0 0 false ⟨#[]⟩) 32)) (Fr.l (Fr.r cS Fr.id_) cS) HSw1.out) 4 _ rfl;have x1w1:w1.cell? ⟨w0.heap.size,1,none⟩=some (.int .u32 xt):=cell_at (Done.at_ (C:=fun X=>Star (Star (CellW g (yE id nk a n k) 110) X) (CellW (w0.heap.size + 1) (yA 0 0 0 0 false ⟨#[]⟩) 32)) (Fr.l (Fr.r cS Fr.id_) cS) HSw1.out) 1 _ rfl;clear hb))
        | ((with_reducible refine wpList_storeBD (C:=fun X=>Star (Star (CellW g (yE id nk a n k) 110) (CellW w0.heap.size (yA xf xt xs xn false xk) 32)) X) (Fr.r (cS.star cS) Fr.id_) HSw1.out rfl 32 (.tmp 6) (.tmp 32) rfl #[.int .u32 0,.int .u32 0,.int .i64 0,.int .i64 0,.bool false,.string ⟨#[]⟩] rfl rfl (by kernel_rfl) rfl (by simp [Value.oneCell']) ?_);intro wz hs;have HSwz:Hid (Done w0 F (Star (Star (CellW g (yE id nk a n k) 110) (CellW w0.heap.size (yA xf xt xs xn false xk) 32)) (CellW (w0.heap.size + 1) (yA 0 0 0 0 false ⟨#[]⟩) 32)) wz):=(by show Done _ _ _ _;exact hs);clear hs))
       exact ⟨rfl,_,results_cell3 rfl _ _ (w0.heap.size + 1) _ _ _ _ (.int .i64 0) (.bool false) rfl rfl rfl (Done.at_ (C:=fun X=>Star (Star (CellW g (yE id nk a n k) 110) (CellW w0.heap.size (yA xf xt xs xn false xk) 32)) X) (Fr.r (cS.star cS) Fr.id_) HSwz.out) Tryz.underlying32 rfl (by kernel_rfl),by rw [HH.out.1,HH.out.2.1,HH.out.2.2.1] <;> rfl,by rw [HH.out.2.2.2];exact HSwz.out.drop.drop.mono fun F hF=>HFIN.out hF⟩
   · by_cases ht:xt=id
     · have hh:=hear_own (r:=(⟨id,nk,rd⟩:ReplyM)) (x:=(⟨xf,xt,xs,xn,true,xk⟩:XIn)) (l:=l) hm rfl ht
       simp only at hh
       have hrn:∀ w F1,Below w0.heap.size w0 w→CellW g (yE id nk a n k) 110 w F1→Calls Tryz.prog 62 #[.pointer (some ⟨g,0,none⟩),.int .u32 xt,v] w fun e w' => e=.returned (.int .i64 ((freshM l [id]).2:Int))∧Done w F1 (CellW g #[.int .u32 (freshM l [id]).1,.string nk,.int .u32 a,.int .i64 n,.int .i64 k] 110) w' := fun w F1 hw h=>by rw [ht];exact RRename_yes g id a n k nk F1 v l w h (hd.below hw) hl hok.id.2
       have hf1:=(fresh_spec (l:=l) (m:=[id]) (by simp)).1
       have hf2:=fresh_u32 (l:=l) (m:=[id]) hd.u (by simp)
       obtain ⟨nf,hnf⟩:∃ n,n=(freshM l [id]).1:=⟨_,rfl⟩
       obtain ⟨kf,hkf⟩:∃ n,n=((freshM l [id]).2:Int):=⟨_,rfl⟩
       rw [← hnf,← hkf] at hrn hh
       rw [← hnf] at hf1 hf2
       have HRN:=jzD hrn
       have HH:=jzD hh
       have HFIN:Hid (∀ {w:World} {F:List Nat},CellW g (yE nf nk a n k) 110 w F→ReplyW (.pointer (some ⟨g,0,none⟩)) (⟨nf,nk,rd⟩:ReplyM) w F):=fun {w F} h=>⟨⟨⟨⟨hf1,hf2⟩,hok.nick⟩,hrd⟩,g,rfl,by show CellW g (rpcs _) _ _ _;unfold rpcs;rw [← ha,← hn,← hk];exact h⟩
       clear hm hd hl hok hrd ha hn hk ht hrn hh hf1 hf2 hnf hkf
       go_enter Tryz.func39,Tryz.ntmps39
       go_wp2_with (first
        | (with_reducible refine wpList_loadGR (C:=fun X=>Star (Star (CellW g (yE id nk a n k) 110) X) (CellW (w0.heap.size + 1) (yA 0 0 0 0 false ⟨#[]⟩) 32)) (Fr.l (Fr.r cS Fr.id_) cS) HS0.out (by kernel_rfl) 32 (.tmp 4) rfl rfl _ Tryz.underlying32 rfl (by kernel_rfl) ?_)
        | (go_at_call 57;((with_reducible refine (HMX.out _).mono ?_);rintro e w1 ⟨rfl,hb⟩;have HSw1:Hid (Done w0 F (Star (Star (CellW g (yE id nk a n k) 110) (CellW w0.heap.size (yA xf xt xs xn true xk) 32)) (CellW (w0.heap.size + 1) (yA 0 0 0 0 false ⟨#[]⟩) 32)) w1):=(by show Done _ _ _ _;exact HS0.out.keep ((cS.star cS).star cS) hb);have HB1:Hid (Below w0.heap.size w0 w1):=(by show Below _ _ _;exact bel_trans HB0.out hb);have x4w1:w1.cell? ⟨w0.heap.size,4,none⟩=some (.bool true):=cell_at (Done.at_ (C:=fun X=>Star (Star (CellW g (yE id nk a n k) 110) X) (CellW (w0.heap.size + 1) (yA 0 0 0 0 false ⟨#[]⟩) 32)) (Fr.l (Fr.r cS Fr.id_) cS) HSw1.out) 4 _ rfl;have x1w1:w1.cell? ⟨w0.heap.size,1,none⟩=some (.int .u32 xt):=cell_at (Done.at_ (C:=fun X=>Star (Star (CellW g (yE id nk a n k) 110) X) (CellW (w0.heap.size + 1) (yA 0 0 0 0 false ⟨#[]⟩) 32)) (Fr.l (Fr.r cS Fr.id_) cS) HSw1.out) 1 _ rfl;clear hb))
        | (go_at_call 62;((with_reducible refine (dcalls_at (C:=fun X=>Star (Star (X) (CellW w0.heap.size (yA xf xt xs xn true xk) 32)) (CellW (w0.heap.size + 1) (yA 0 0 0 0 false ⟨#[]⟩) 32)) (Fr.l (Fr.l Fr.id_ cS) cS) HSw1.out (fun F1 h=>HRN.out _ F1 HB1.out h)).mono ?_);rintro e w2 ⟨rfl,hs⟩;have HSw2:Hid (Done w0 F (Star (Star (CellW g (yE nf nk a n k) 110) (CellW w0.heap.size (yA xf xt xs xn true xk) 32)) (CellW (w0.heap.size + 1) (yA 0 0 0 0 false ⟨#[]⟩) 32)) w2):=(by show Done _ _ _ _;exact hs);clear hs))
        | ((with_reducible refine wpList_storeBD (C:=fun X=>Star (Star (CellW g (yE nf nk a n k) 110) (CellW w0.heap.size (yA xf xt xs xn true xk) 32)) X) (Fr.r (cS.star cS) Fr.id_) HSw2.out rfl 32 (.tmp 6) (.tmp 22) rfl #[.int .u32 0,.int .u32 0,.int .i64 0,.int .i64 0,.bool false,.string ⟨#[]⟩] rfl rfl (by kernel_rfl) rfl (by simp [Value.oneCell']) ?_);intro wz hs;have HSwz:Hid (Done w0 F (Star (Star (CellW g (yE nf nk a n k) 110) (CellW w0.heap.size (yA xf xt xs xn true xk) 32)) (CellW (w0.heap.size + 1) (yA 0 0 0 0 false ⟨#[]⟩) 32)) wz):=(by show Done _ _ _ _;exact hs);clear hs))
       exact ⟨rfl,_,results_cell3 rfl _ _ (w0.heap.size + 1) _ _ _ _ (.int .i64 kf) (.bool false) rfl rfl rfl (Done.at_ (C:=fun X=>Star (Star (CellW g (yE nf nk a n k) 110) (CellW w0.heap.size (yA xf xt xs xn true xk) 32)) X) (Fr.r (cS.star cS) Fr.id_) HSwz.out) Tryz.underlying32 rfl (by kernel_rfl),by rw [HH.out.1,HH.out.2.1,HH.out.2.2.1] <;> rfl,by rw [HH.out.2.2.2];exact HSwz.out.drop.drop.mono fun F hF=>HFIN.out hF⟩
     · have HH:=jzD (hear_other (r:=(⟨id,nk,rd⟩:ReplyM)) (x:=(⟨xf,xt,xs,xn,true,xk⟩:XIn)) (l:=l) hm rfl ht)
       have HFIN:Hid (∀ {w:World} {F:List Nat},CellW g (yE id nk a n k) 110 w F→ReplyW (.pointer (some ⟨g,0,none⟩)) (⟨id,nk,rd⟩:ReplyM) w F):=fun {w F} h=>⟨⟨hok,hrd⟩,g,rfl,by show CellW g (rpcs _) _ _ _;unfold rpcs;rw [← ha,← hn,← hk];exact h⟩
       have HRN:Hid (∀ w F1,CellW g (yE id nk a n k) 110 w F1→Calls Tryz.prog 62 #[.pointer (some ⟨g,0,none⟩),.int .u32 xt,v] w fun e w' => e=.returned (.int .i64 0)∧Below w.heap.size w w'):=fun w F1 h=>RRename_no g id a n k xt nk F1 v w h ht
       clear hm hd hl hok hrd ha hn hk ht
       go_enter Tryz.func39,Tryz.ntmps39
       go_wp2_with (first
        | (with_reducible refine wpList_loadGR (C:=fun X=>Star (Star (CellW g (yE id nk a n k) 110) X) (CellW (w0.heap.size + 1) (yA 0 0 0 0 false ⟨#[]⟩) 32)) (Fr.l (Fr.r cS Fr.id_) cS) HS0.out (by kernel_rfl) 32 (.tmp 4) rfl rfl _ Tryz.underlying32 rfl (by kernel_rfl) ?_)
        | (go_at_call 57;((with_reducible refine (HMX.out _).mono ?_);rintro e w1 ⟨rfl,hb⟩;have HSw1:Hid (Done w0 F (Star (Star (CellW g (yE id nk a n k) 110) (CellW w0.heap.size (yA xf xt xs xn true xk) 32)) (CellW (w0.heap.size + 1) (yA 0 0 0 0 false ⟨#[]⟩) 32)) w1):=(by show Done _ _ _ _;exact HS0.out.keep ((cS.star cS).star cS) hb);have HB1:Hid (Below w0.heap.size w0 w1):=(by show Below _ _ _;exact bel_trans HB0.out hb);have x4w1:w1.cell? ⟨w0.heap.size,4,none⟩=some (.bool true):=cell_at (Done.at_ (C:=fun X=>Star (Star (CellW g (yE id nk a n k) 110) X) (CellW (w0.heap.size + 1) (yA 0 0 0 0 false ⟨#[]⟩) 32)) (Fr.l (Fr.r cS Fr.id_) cS) HSw1.out) 4 _ rfl;have x1w1:w1.cell? ⟨w0.heap.size,1,none⟩=some (.int .u32 xt):=cell_at (Done.at_ (C:=fun X=>Star (Star (CellW g (yE id nk a n k) 110) X) (CellW (w0.heap.size + 1) (yA 0 0 0 0 false ⟨#[]⟩) 32)) (Fr.l (Fr.r cS Fr.id_) cS) HSw1.out) 1 _ rfl;clear hb))
        | (go_at_call 62;((with_reducible refine (dcalls_keep ((cS.star cS).star cS) HSw1.out (HRN.out _ _ (Done.get (C:=fun X=>Star (Star (X) (CellW w0.heap.size (yA xf xt xs xn true xk) 32)) (CellW (w0.heap.size + 1) (yA 0 0 0 0 false ⟨#[]⟩) 32)) (Fr.l (Fr.l Fr.id_ cS) cS) HSw1.out).choose_spec)).mono ?_);rintro e w2 ⟨rfl,hs⟩;have HSw2:Hid (Done w0 F (Star (Star (CellW g (yE id nk a n k) 110) (CellW w0.heap.size (yA xf xt xs xn true xk) 32)) (CellW (w0.heap.size + 1) (yA 0 0 0 0 false ⟨#[]⟩) 32)) w2):=(by show Done _ _ _ _;exact hs);clear hs))
        | ((with_reducible refine wpList_storeBD (C:=fun X=>Star (Star (CellW g (yE id nk a n k) 110) (CellW w0.heap.size (yA xf xt xs xn true xk) 32)) X) (Fr.r (cS.star cS) Fr.id_) HSw2.out rfl 32 (.tmp 6) (.tmp 22) rfl #[.int .u32 0,.int .u32 0,.int .i64 0,.int .i64 0,.bool false,.string ⟨#[]⟩] rfl rfl (by kernel_rfl) rfl (by simp [Value.oneCell']) ?_);intro wz hs;have HSwz:Hid (Done w0 F (Star (Star (CellW g (yE id nk a n k) 110) (CellW w0.heap.size (yA xf xt xs xn true xk) 32)) (CellW (w0.heap.size + 1) (yA 0 0 0 0 false ⟨#[]⟩) 32)) wz):=(by show Done _ _ _ _;exact hs);clear hs))
       exact ⟨rfl,_,results_cell3 rfl _ _ (w0.heap.size + 1) _ _ _ _ (.int .i64 0) (.bool false) rfl rfl rfl (Done.at_ (C:=fun X=>Star (Star (CellW g (yE id nk a n k) 110) (CellW w0.heap.size (yA xf xt xs xn true xk) 32)) X) (Fr.r (cS.star cS) Fr.id_) HSwz.out) Tryz.underlying32 rfl (by kernel_rfl),by rw [HH.out.1,HH.out.2.1,HH.out.2.2.1] <;> rfl,by rw [HH.out.2.2.2];exact HSwz.out.drop.drop.mono fun F hF=>HFIN.out hF⟩
theorem RpHear_any (v d:Value) (m:ReplyM) (F:List Nat) (x:XIn) (l:List Int) (w:World) (h:ReplyW v m w F) (hx:x.ok) (hd:RdU w d l) (hl:l.length≤1000):Calls Tryz.prog 39 #[v,x.val,d] w fun e w' => e=.returned (.tuple #[(m.xid x l).val,.int .i64 (m.used x l),.bool (m.says x l)])∧Done w F (ReplyW v (m.hear x l)) w' := by
 have h2:=h
 obtain ⟨_,g,rfl,_⟩:=h2
 exact RpHear_at g m.id m.nick m.round F x.from_ x.to_ x.slot x.slots x.anew x.nick d l w h hx hd hl
theorem RpHear_nil (x:XIn) (w:World):Calls Tryz.prog 39 #[.pointer none,x.val,.slice none 0 0] w fun e w' => e=.returned (.tuple #[ReplyM.xz.val,.int .i64 0,.bool false])∧Below w.heap.size w w' := by
 obtain ⟨xf,xt,xs,xn,xa,xk⟩:=x
 have HS0:Hid (Done w [] (Star (CellW w.heap.size (yA xf xt xs xn xa xk) 32) (CellW (w.heap.size + 1) (yA 0 0 0 0 false ⟨#[]⟩) 32)) ((w.alloc (.cells (yA xf xt xs xn xa xk) 32)).alloc (.cells (yA 0 0 0 0 false ⟨#[]⟩) 32))):=by
  show Done _ _ _ _
  have h1:=CellW.new w #[.int .u32 xf,.int .u32 xt,.int .i64 xs,.int .i64 xn,.bool xa,.string xk] 32
  have h2:=CellW.new (w.alloc (.cells (yA xf xt xs xn xa xk) 32)) #[.int .u32 0,.int .u32 0,.int .i64 0,.int .i64 0,.bool false,.string ⟨#[]⟩] 32
  rw [show (w.alloc (.cells (yA xf xt xs xn xa xk) 32)).heap.size=w.heap.size + 1 by simp only [World.alloc,Array.size_push]] at h2
  exact h1.add cS h2
 go_enter Tryz.func39,Tryz.ntmps39
 go_wp2_with ((with_reducible refine wpList_storeBD (C:=fun X=>Star (CellW w.heap.size (yA xf xt xs xn xa xk) 32) X) (Fr.r cS Fr.id_) HS0.out rfl 32 (.tmp 6) (.tmp 18) rfl #[.int .u32 0,.int .u32 0,.int .i64 0,.int .i64 0,.bool false,.string ⟨#[]⟩] rfl rfl (by kernel_rfl) rfl (by simp [Value.oneCell']) ?_);intro wz hs;have HSz:Hid (Done w [] (Star (CellW w.heap.size (yA xf xt xs xn xa xk) 32) (CellW (w.heap.size + 1) (yA 0 0 0 0 false ⟨#[]⟩) 32)) wz):=(by show Done _ _ _ _;exact hs);clear hs)
 exact ⟨rfl,_,results_cell3 rfl _ _ (w.heap.size + 1) _ _ _ _ (.int .i64 0) (.bool false) rfl rfl rfl (Done.at_ (C:=fun X=>Star (CellW w.heap.size (yA xf xt xs xn xa xk) 32) X) (Fr.r cS Fr.id_) HSz.out) Tryz.underlying32 rfl (by kernel_rfl),rfl,HSz.out.bel⟩
theorem RpNew_none (me:Int) (nk:ByteArray) (w:World) (_hn:(Lit.int .u32 me).wf=true) (_hs:nk.size≤maxLen) (hm:ReplyM.mayNew me nk=false):Calls Tryz.prog 36 #[.int .u32 me,.string nk] w fun e w' => e=.returned (.pointer none)∧Below w.heap.size w w' := by
 have HMY:Hid (∀ w,Calls Tryz.prog 57 #[.agg #[.int .u32 me,.int .u32 0,.int .i64 0,.int .i64 1,.bool false,.string nk]] w fun e w' => e=.returned (.bool false)∧Below w.heap.size w w'):=fun w=>by
  have := XMay_all (⟨me,0,0,1,false,nk⟩:XIn) w
  rw [rMay,hm] at this
  exact this
 clear hm
 go_enter Tryz.func36,Tryz.ntmps36
 go_wp2_with (go_at_call 57;((with_reducible refine (HMY.out _).mono ?_);rintro e w2 ⟨rfl,hb⟩;have HB2:Hid (Below w.heap.size w w2):=hb;clear hb))
 go_ret
 exact ⟨rfl,HB2.out⟩
theorem RpNew_any (me:Int) (nk:ByteArray) (w:World) (hn:(Lit.int .u32 me).wf=true) (_hs:nk.size≤maxLen) (hm:ReplyM.mayNew me nk=true):Calls Tryz.prog 36 #[.int .u32 me,.string nk] w fun e w' => ∃ v,e=.returned v∧Done w [] (ReplyW v (ReplyM.new me nk)) w' := by
 have HMY:Hid (∀ w,Calls Tryz.prog 57 #[.agg #[.int .u32 me,.int .u32 0,.int .i64 0,.int .i64 1,.bool false,.string nk]] w fun e w' => e=.returned (.bool true)∧Below w.heap.size w w'):=fun w=>by
  have := XMay_all (⟨me,0,0,1,false,nk⟩:XIn) w
  rw [rMay,hm] at this
  exact this
 have h20:=rMay_len hm
 have HCL:=jzD (fun w=>SClone_any nk w (by omega))
 have hu:=u32_lit hn
 have hm2:=hm
 unfold ReplyM.mayNew at hm2
 rw [Bool.and_eq_true] at hm2
 have HOK:Hid ((⟨me,nk,none⟩:ReplyM).ok):=⟨⟨hm2.1,hu⟩,hm2.2⟩
 clear hm hm2 hu h20 hn
 go_enter Tryz.func36,Tryz.ntmps36
 go_wp2_with (first
  | (go_at_call 57;((with_reducible refine (HMY.out _).mono ?_);rintro e w2 ⟨rfl,hb⟩;have HB2:Hid (Below w.heap.size w w2):=hb;clear hb))
  | (go_at_call 58;((with_reducible refine (HCL.out _).mono ?_);rintro e w3 ⟨rfl,hb⟩;have HB3:Hid (Below w.heap.size w w3):=(by show Below _ _ _;exact bel_trans HB2.out hb);clear hb)))
 go_ret
 refine ⟨_,rfl,?_⟩
 refine Done.mono (R:=CellW w3.heap.size (yE me nk 0 0 0) 110) ⟨[w3.heap.size],⟨rfl,heap_alloc_new w3 _⟩,Tch.of_below [] (HB3.out.alloc HB3.out.size _),fun g hg=>.inr ?_⟩ (fun F hF=>⟨⟨HOK.out,fun _ e=>by cases e⟩,w3.heap.size,rfl,hF⟩)
 rw [List.mem_singleton] at hg
 rw [hg]
 exact HB3.out.size
end Go.Proofs.YtjddbjmcjhjpiaaGreatDoor
