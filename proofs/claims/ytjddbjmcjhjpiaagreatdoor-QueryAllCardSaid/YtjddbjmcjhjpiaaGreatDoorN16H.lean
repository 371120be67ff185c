/- Of layer 12: LogA5, L12a, L12b, L12c, TurnL. -/
import Derived.Test.YtjddbjmcjhjpiaaGreatDoorLogA4
import Derived.Test.YtjddbjmcjhjpiaaGreatDoorBegun12
import Derived.Test.YtjddbjmcjhjpiaaGreatDoorN16G
import Derived.Test.YtjddbjmcjhjpiaaGreatDoorN16C
import Derived.Test.YtjddbjmcjhjpiaaGreatDoorN16B
import Derived.Deep.MidRow

set_option linter.all false

namespace Go.Proofs.YtjddbjmcjhjpiaaGreatDoor
set_option maxRecDepth 100000
set_option maxHeartbeats 16000000
open Go.RowKit M

def dvs1 (s:SeenM):List Value:=[.int .u32 s.id,.string s.nick]
theorem dvcsL:∀ l:List SeenM,(dvcs l).length=l.length * 2:=fun l=>flatLen (f:=dvs1) (k:=2) (fun _=>rfl) l
theorem setL_dvcs (p:SeenM):∀ (L:List SeenM) (i:Nat),i < L.length→setL (dvcs L) (i * 2) (dvs1 p)=dvcs (L.set i p)
 | [],_,h=>absurd h (Nat.not_lt_zero _)
 | a :: R,0,_=>by
  show setL (dvs1 a ++ dvcs R) (0 * 2) (dvs1 p)=dvs1 p ++ dvcs R
  rw [Nat.zero_mul,setL_eq _ _ 0 (by rw [List.length_append];show 0 + 2≤2 + _;omega),List.take_zero,List.nil_append]
  rfl
 | a :: R,i + 1,h=>by
  show setL (dvs1 a ++ dvcs R) ((i + 1) * 2) (dvs1 p)=dvs1 a ++ dvcs (R.set i p)
  rw [show (i + 1) * 2=(dvs1 a).length + i * 2 by show _=2 + _;omega,setL_app,setL_dvcs p R i (by simpa using h)]
def zSn:SeenM:=⟨0,⟨#[]⟩,0⟩
def dvP (l:List SeenM) (n i:Nat):List SeenM:=l.take i ++ List.replicate (n - i) zSn
theorem dvP_len {l:List SeenM} {n i:Nat} (hn:n=l.length) (hi:i≤n):(dvP l n i).length=n:=by
 unfold dvP
 rw [List.length_append,List.length_take,List.length_replicate]
 omega
theorem dvP_zero (l:List SeenM) (n:Nat):dvP l n 0=List.replicate n zSn:=by
 unfold dvP
 rw [List.take_zero,List.nil_append,Nat.sub_zero]
theorem dvP_all {l:List SeenM} {n:Nat} (hn:n=l.length):dvP l n n=l:=by
 subst hn
 unfold dvP
 rw [List.take_length,Nat.sub_self,List.replicate_zero,List.append_nil]
theorem dvP_set {l:List SeenM} {n i:Nat} {s:SeenM} (hn:n=l.length) (hi:i < n) (hs:l[i]?=some s):(dvP l n i).set i s=dvP l n (i + 1):=by
 have hi2:i < l.length:=by omega
 have hs2:=(List.getElem?_eq_some_iff.1 hs).2
 unfold dvP
 rw [List.set_append_right _ _ (by rw [List.length_take];omega),List.length_take,show i - min i l.length=0 by omega,show n - i=(n - (i + 1)) + 1 by omega,List.replicate_succ,List.set_cons_zero,List.take_succ_eq_append_getElem hi2,hs2,List.append_assoc]
 rfl
theorem dev_info:(Tryz.prog.info? 89).map (fun i=>(i.zero,i.size,i.bytes))=some (some (.agg #[.int .u32 0,.string ⟨#[]⟩]),2,24):=by kernel_rfl
theorem zeros_dev (n:Nat):madeCells (Value.agg #[.int .u32 0,.string ⟨#[]⟩]:Value).cells (n * 2)=(dvcs (List.replicate n zSn)).toArray:=by
 apply Array.ext
 · rw [size_madeCells,List.size_toArray,dvcsL,List.length_replicate]
 · intro i h1 h2
   rw [size_madeCells] at h1
   have hq:i=(i / 2) * 2 + i % 2:=by omega
   have hr:i % 2 < 2:=by omega
   have e1:(dvcs (List.replicate n zSn))[i]?=(dvs1 zSn)[i % 2]?:=by
    have hl:i / 2 < (List.replicate n zSn).length:=by rw [List.length_replicate];omega
    have := flatAt (f:=dvs1) (k:=2) (fun _=>rfl) (List.replicate n zSn) (i / 2) (i % 2) hl hr
    rw [← hq,List.getElem_replicate] at this
    exact this
   have e2:(madeCells (Value.agg #[.int .u32 0,.string ⟨#[]⟩]:Value).cells (n * 2))[i]?=(dvs1 zSn)[i % 2]?:=by
    rw [Array.getElem?_eq_getElem (by rw [size_madeCells];exact h1)]
    simp only [madeCells,Value.cells,Array.getElem_map,Array.getElem_range]
    generalize i % 2=r at hr
    have : r=0 ∨ r=1:=by omega
    rcases this with h | h <;> subst h <;> rfl
   have e3:=e2.trans e1.symm
   rw [Array.getElem?_eq_getElem (by rw [size_madeCells];exact h1)] at e3
   rw [List.getElem_toArray]
   have h3:i < (dvcs (List.replicate n zSn)).length:=by rw [dvcsL,List.length_replicate];exact h1
   rw [List.getElem?_eq_getElem h3] at e3
   exact Option.some.inj e3
theorem wpList_makeDv {w:World} {ops:Array Oper} {rest:List Oper} {o:Oper} {a:Act} {Q:Exit→Act→World→Prop} (hgd:o.guard=none) (x y:Operand) (ho:o.op=.makeSlice 36 x y)
 (n:Nat) (hx:a.eval x=.int .i64 (n:Int)) (hy:a.eval y=.int .i64 (n:Int)) (hn:n≤1000000)
 (h:∀ g w', Done w [] (OwnK 89 2 (.slice (some ⟨g,0,none⟩) n n) n (dvcs (List.replicate n zSn))) w' → wpList Tryz.prog ops Q rest (a.put o.dst (.slice (some ⟨g,0,none⟩) n n)) w'):wpList Tryz.prog ops Q (o :: rest) a w:=by
 obtain ⟨i0,hi,hz0,hz1,hz2⟩:=info_parts dev_info
 have hm:=run_make (P:=Tryz.prog) w 36 89 i0 _ Tryz.underlying36 hi hz0 .i64 .i64 (n:Int) (n:Int) (by omega) (by omega) (by rw [hz2];omega) (by omega)
 rw [hz1] at hm
 refine wpList_plain hgd fun K hK=>?_
 have hr:(execOp a.eval o).run Tryz.prog w=.ok (.value (.slice (some ⟨w.heap.size,0,none⟩) n n)) (w.alloc (.cells (dvcs (List.replicate n zSn)).toArray 89)):=by
  rw [← zeros_dev]
  simp only [execOp,ho,hx,hy,Sem.run_bind,hm,Result.andThen_ok,Sem.run_pure,Int.toNat_natCast]
 unfold Oper.wp
 rw [hr,Oper.upon_value]
 exact hK _ _ (h _ _ ((CellW.new w _ 89).mono fun F hF=>hF.ownS (by rw [List.size_toArray,dvcsL,List.length_replicate]) (by simp only [maxLen];omega)))
theorem wpList_storeKs {ops:Array Oper} {rest:List Oper} {o:Oper} {Q:Exit→Act→World→Prop} {a:Act} {w0 w:World} {F0:List Nat} {C:Obj→Obj} {e:TypeId} {k g n c:Nat} {xs:List Value}
 (hC:Fr C) (h:Done w0 F0 (C (OwnK e k (.slice (some ⟨g,0,none⟩) n c) n xs)) w) (hgd:o.guard=none) (hn0:0 < n) (ty:TypeId) (x y:Operand) (ho:o.op=.store ty x y)
 (j:Nat) (vs:List Value) (hx:a.eval x=.pointer (some ⟨g,j,none⟩)) (hy:a.eval y=.agg vs.toArray) (hi' : (Tryz.prog.info? ty).map (·.size)=some vs.length) (h1:∀ v ∈ vs,v.oneCell' = true) (hlen:j + vs.length≤xs.length)
 (hn:∀ w', Done w0 F0 (C (OwnK e k (.slice (some ⟨g,0,none⟩) n c) n (setL xs j vs))) w' → wpList Tryz.prog ops Q rest (a.put o.dst undef) w'):wpList Tryz.prog ops Q (o :: rest) a w:=by
 obtain ⟨F,hF,hu⟩:=h.upd hC
 refine wpList_plain hgd fun K hK=>?_
 refine wp_store_mid ty x y ho g j vs.toArray hx hy (fun i hi=>?_) (by rw [List.size_toArray];exact hi') (all_oneCell_toArray h1) (hK _ _ (hn _ (hu (hF.sets hn0 j vs))))
 rw [List.size_toArray] at hi
 have hj2:j + i < xs.length:=by omega
 refine ⟨?_,?_⟩
 · rw [hF.cell (i:=j + i) (List.getElem?_eq_getElem hj2)]
   rfl
 · obtain ⟨g', e1,_,cur,h1,_⟩:=hF.whole hn0
   obtain rfl:g=g' := congrArg Addr.block (Option.some.inj e1)
   exact frz_at h1 _
theorem LAll_nil (w:World):Calls Tryz.prog 29 #[.pointer none] w fun e w' => ∃ A c,e=.returned (.slice A 0 c)∧Below w.heap.size w w' := by
 go_enter Tryz.func29,Tryz.ntmps29
 go_wp2
 go_ret
 exact ⟨none,0,rfl,Below.refl _ _⟩
theorem LAll_any (v:Value) (m:LogM) (F:List Nat) (w:World) (h:LogW v m w F):Calls Tryz.prog 29 #[v] w fun e w' => ∃ a,e=.returned a∧Done w F (Star (LogW v m) (SlW 2 a m.l.length (dvcs m.l))) w' := by
 have hok:=h.1
 have hcv:=h.2.1
 obtain ⟨gl,A,ca,B,cb,rfl,hX⟩:=h.shape
 obtain ⟨me,l,cl⟩:=m
 simp only at hX
 have HCL:Hid ((⟨me,l,cl⟩:LogM).ok∧(⟨me,l,cl⟩:LogM).cov):=⟨hok,hcv⟩
 have hl16:l.length≤16:=hok.len
 show Calls Tryz.prog 29 #[.pointer (some ⟨gl,0,none⟩)] w fun e w' => ∃ a,e=.returned a∧Done w F (Star (LogW (.pointer (some ⟨gl,0,none⟩)) ⟨me,l,cl⟩) (SlW 2 a l.length (dvcs l))) w'
 obtain ⟨n,hn⟩:∃ n,n=l.length:=⟨_,rfl⟩
 obtain ⟨p,hp⟩:∃ p,p=cl.length:=⟨_,rfl⟩
 rw [← hn,← hp] at hX
 rw [← hn] at hl16 ⊢
 have HN:=jzD hn
 have HP:=jzD hp
 have HL:=jzD hl16
 have HM:Hid (n≤1000000):=by show _≤_;omega
 have HS0:Hid (Done w F (Star (Star (CellW gl (yG me A n ca B p cb) 101) (OwnK 103 3 (.slice A n ca) n (lgcs l))) (OwnK 22 1 (.slice B p cb) p (u32s cl))) w):=Done.start hX
 have q1:w.cell? ⟨gl,1,none⟩=some (.slice A n ca):=cell_at (Done.at_ (C:=fun X=>Star (Star (X) (OwnK 103 3 (.slice A n ca) n (lgcs l))) (OwnK 22 1 (.slice B p cb) p (u32s cl))) (Fr.l (Fr.l Fr.id_ kS) kS) HS0.out) 1 _ rfl
 clear h hok hcv hX hn hp hl16
 go_enter Tryz.func29,Tryz.ntmps29
 go_wp2_with ((with_reducible refine wpList_makeDv rfl (.tmp 12) (.tmp 12) rfl n rfl rfl HM.out ?_);intro g3 w1 hd;have HS1:=jzD (HS0.out.add ((cS.star kS).star kS) hd);have d1:w1.cell? ⟨gl,1,none⟩=some (.slice A n ca):=cell_at (Done.at_ (C:=fun X=>Star (Star (Star (X) (OwnK 103 3 (.slice A n ca) n (lgcs l))) (OwnK 22 1 (.slice B p cb) p (u32s cl))) (OwnK 89 2 (.slice (some ⟨g3,0,none⟩) n n) n (dvcs (List.replicate n zSn)))) (Fr.l (Fr.l (Fr.l Fr.id_ kS) kS) kS) HS1.out) 1 _ rfl;clear hd)
 clear HS0 q1
 go_loopw [19] (fun iv wr=>∃ i:Nat,i≤n∧iv=.int .i64 (i:Int)∧Done w F (Star (Star (Star (CellW gl (yG me A n ca B p cb) 101) (OwnK 103 3 (.slice A n ca) n (lgcs l))) (OwnK 22 1 (.slice B p cb) p (u32s cl))) (OwnK 89 2 (.slice (some ⟨g3,0,none⟩) n n) n (dvcs (dvP l n i)))) wr) (fun iv _=>(60 - intOf iv).toNat)
 case atStart=>exact ⟨0,by omega,rfl,by rw [dvP_zero];exact HS1.out⟩
 case round =>
  clear HS1
  obtain ⟨i,hin,rfl,hs⟩:=hrel
  have HSr:=jzD hs
  clear hs
  by_cases hlt:i < n
  · have t1:decide ((i:Int) < (n:Int))=true:=decide_eq_true (by omega)
    have ti:(i:Int) < (n:Int):=by omega
    have e1:IntKind.i64.wrap ((i:Int) + 1)=(i:Int) + 1:=IntWalk.i64_in _ (by have := HL.out;omega)
    obtain ⟨b,rfl⟩:∃ b,A=some ⟨b,0,none⟩:=(Done.get (C:=fun X=>Star (Star (Star (CellW gl (yG me A n ca B p cb) 101) X) (OwnK 22 1 (.slice B p cb) p (u32s cl))) (OwnK 89 2 (.slice (some ⟨g3,0,none⟩) n n) n (dvcs (dvP l n i)))) (Fr.l (Fr.l (Fr.r cS Fr.id_) kS) kS) HSr.out).elim fun _ h=>(own_form h.2).elim (fun e=>by omega) id
    have hil:i < l.length:=by have := HN.out;omega
    obtain ⟨s,hs⟩:∃ s,l[i]?=some s:=⟨l[i],List.getElem?_eq_getElem hil⟩
    have HSI:=jzD hs
    have HRG:Hid (wr.rangeAt b (i * 3) (sncs s)):=((Done.get (C:=fun X=>Star (Star (Star (CellW gl (yG me (some ⟨b,0,none⟩) n ca B p cb) 101) X) (OwnK 22 1 (.slice B p cb) p (u32s cl))) (OwnK 89 2 (.slice (some ⟨g3,0,none⟩) n n) n (dvcs (dvP l n i)))) (Fr.l (Fr.l (Fr.r cS Fr.id_) kS) kS) HSr.out).elim fun _ h=>(by rw [← Nat.zero_add (i * 3)];exact h.rd.seen HSI.out))
    have HLN:Hid (i * 2 + (dvs1 s).length≤(dvcs (dvP l n i)).length):=by show _≤_;rw [dvcsL,dvP_len HN.out (by omega)];show i * 2 + 2≤_;omega
    have HST:Hid (setL (dvcs (dvP l n i)) (i * 2) (dvs1 s)=dvcs (dvP l n (i + 1))):=by show _=_;rw [setL_dvcs _ _ _ (by rw [dvP_len HN.out (by omega)];exact hlt),dvP_set HN.out hlt hs]
    have HN0:Hid (0 < n):=by show 0 < n;omega
    have HS4:=jzD (HSr.out.add (((cS.star kS).star kS).star kS) (CellW.new wr #[.int .u32 0,.string ⟨#[]⟩,.int .i64 0] 103))
    obtain ⟨id,nick,slot⟩:=s
    clear hs hil d1
    have HLT:Hid (i < n):=hlt
    clear hin
    go_wp2_with (first
     | (with_reducible refine wpList_load_mid rfl 103 (.tmp 22) rfl b (i * 3) rfl (sncs ⟨id,nick,slot⟩) _ HRG.out Tryz.underlying103 rfl (by kernel_rfl) ?_)
     | ((with_reducible refine wpList_storeBD (C:=fun X=>Star (Star (Star (Star (CellW gl (yG me (some ⟨b,0,none⟩) n ca B p cb) 101) (OwnK 103 3 (.slice (some ⟨b,0,none⟩) n ca) n (lgcs l))) (OwnK 22 1 (.slice B p cb) p (u32s cl))) (OwnK 89 2 (.slice (some ⟨g3,0,none⟩) n n) n (dvcs (dvP l n i)))) X) (Fr.r (((cS.star kS).star kS).star kS) Fr.id_) HS4.out rfl 103 (.tmp 5) (.tmp 23) rfl #[.int .u32 id,.string nick,.int .i64 slot] rfl rfl (by kernel_rfl) rfl (by simp [Value.oneCell']) ?_);intro w5 hs;have HS5:Hid (Done w F (Star (Star (Star (Star (CellW gl (yG me (some ⟨b,0,none⟩) n ca B p cb) 101) (OwnK 103 3 (.slice (some ⟨b,0,none⟩) n ca) n (lgcs l))) (OwnK 22 1 (.slice B p cb) p (u32s cl))) (OwnK 89 2 (.slice (some ⟨g3,0,none⟩) n n) n (dvcs (dvP l n i)))) (CellW wr.heap.size (yJ id nick slot) 103)) w5):=(by show Done _ _ _ _;exact hs);have HR5:Hid (w5.rangeAt wr.heap.size 0 (dvs1 ⟨id,nick,slot⟩)):=(by intro r u hu;have hr:r=0 ∨ r=1:=(by have := (List.getElem?_eq_some_iff.1 hu).1;simp only [dvs1,List.length_cons,List.length_nil] at this;omega);refine cell_at (Done.at_ (C:=fun X=>Star (Star (Star (Star (CellW gl (yG me (some ⟨b,0,none⟩) n ca B p cb) 101) (OwnK 103 3 (.slice (some ⟨b,0,none⟩) n ca) n (lgcs l))) (OwnK 22 1 (.slice B p cb) p (u32s cl))) (OwnK 89 2 (.slice (some ⟨g3,0,none⟩) n n) n (dvcs (dvP l n i)))) X) (Fr.r (((cS.star kS).star kS).star kS) Fr.id_) hs) _ _ ?_;rcases hr with rfl | rfl <;> exact hu);clear hs)
     | (with_reducible refine wpList_load_mid rfl 89 (.tmp 26) rfl wr.heap.size 0 rfl (dvs1 ⟨id,nick,slot⟩) _ HR5.out Tryz.underlying89 rfl (by kernel_rfl) ?_)
     | ((with_reducible refine wpList_storeKs (C:=fun X=>Star (Star (Star (Star (CellW gl (yG me (some ⟨b,0,none⟩) n ca B p cb) 101) (OwnK 103 3 (.slice (some ⟨b,0,none⟩) n ca) n (lgcs l))) (OwnK 22 1 (.slice B p cb) p (u32s cl))) X) (CellW wr.heap.size (yJ id nick slot) 103)) (Fr.l (Fr.r ((cS.star kS).star kS) Fr.id_) cS) HS5.out rfl HN0.out 89 (.tmp 28) (.tmp 27) rfl (i * 2) (dvs1 ⟨id,nick,slot⟩) rfl rfl (by kernel_rfl) (by simp [Value.oneCell', dvs1]) HLN.out ?_);intro w6 hs;have HS6:Hid (Done w F (Star (Star (Star (Star (CellW gl (yG me (some ⟨b,0,none⟩) n ca B p cb) 101) (OwnK 103 3 (.slice (some ⟨b,0,none⟩) n ca) n (lgcs l))) (OwnK 22 1 (.slice B p cb) p (u32s cl))) (OwnK 89 2 (.slice (some ⟨g3,0,none⟩) n n) n (dvcs (dvP l n (i + 1))))) (CellW wr.heap.size (yJ id nick slot) 103)) w6):=(by show Done _ _ _ _;rw [← HST.out];exact hs);clear hs))
    go_roundw
    case rel=>exact ⟨i + 1,by have := HLT.out;omega,by go_num,HS6.out.drop⟩
    case measure=>have := HL.out;have := HLT.out;simp [intOf] <;> omega
  · have t1:decide ((i:Int) < (n:Int))=false:=decide_eq_false (by omega)
    have HIN:Hid (i=n):=by show i=n;omega
    go_wp2
    go_ret
    exact ⟨_,rfl,by
     have h1:=HSr.out
     rw [HIN.out,dvP_all HN.out] at h1
     have h2:=Done.mono_at (C:=fun X=>Star (Star (Star (CellW gl (yG me A n ca B p cb) 101) (OwnK 103 3 (.slice A n ca) n (lgcs l))) (OwnK 22 1 (.slice B p cb) p (u32s cl))) X) (Fr.r ((cS.star kS).star kS) Fr.id_) h1 (fun F hF=>hF.sl)
     exact Done.mono_at (C:=fun X=>Star X (SlW 2 (.slice (some ⟨g3,0,none⟩) n n) n (dvcs l))) (Fr.l Fr.id_ (SlW.stab _ _ _ _)) h2 (fun F hF=>LogX.toW hF HN.out HP.out HCL.out.1 HCL.out.2)⟩
end Go.Proofs.YtjddbjmcjhjpiaaGreatDoor

namespace Go.Proofs.YtjddbjmcjhjpiaaGreatDoor
open Go.RowKit M

end Go.Proofs.YtjddbjmcjhjpiaaGreatDoor

namespace Go.Proofs.YtjddbjmcjhjpiaaGreatDoor
open Go.RowKit M

end Go.Proofs.YtjddbjmcjhjpiaaGreatDoor

namespace Go.Proofs.YtjddbjmcjhjpiaaGreatDoor
open Go.RowKit M

section
variable {w0 w:World} {v:Value} {r:Nat} {o:Bool} {s:ByteArray}
end
end Go.Proofs.YtjddbjmcjhjpiaaGreatDoor

namespace Go.Proofs.YtjddbjmcjhjpiaaGreatDoor
open Go.RowKit M

theorem exec_load_mid {P:Program} {oi:Oper} {a:Act} {W:World} (ty:TypeId) (x:Operand) (ho:oi.op=.load ty x) (b o:Nat) (hx:a.eval x=.pointer (some ⟨b,o,none⟩)) (cs:List Value) (d:TypeDesc) (hc:W.rangeAt b o cs)
 (hu:P.underlying ty=some d) (hd:d.isRow=true) (hi:(P.info? ty).map (·.size)=some cs.length):(execOp a.eval oi).run P W=.ok (.value (.agg cs.toArray)) W:=by
 unfold execOp
 simp only [ho,hx,Instr.loadAt,Instr.sureAddr,Sem.run_bind,Sem.run_pure,Result.andThen_ok,run_loadVar_mid W b o ty cs d hc hu hd hi]
theorem SlW.addr0 {k n c:Nat} {A:Option Addr} {xs:List Value} {F:List Nat} {w:World} (h:SlW k (.slice A n c) n xs w F) (hn:0 < n):∃ b off,A=some ⟨b,off,none⟩:=by
 obtain ⟨b,off,cap,e,_,_⟩:=h.addr hn
 injection e with e
 exact ⟨b,off,e⟩
theorem SlW.plain {n c b off i:Nat} {l:List PIn} {F:List Nat} {w:World} (h:SlW 9 (.slice (some ⟨b,off,none⟩) n c) n (plcs l) w F) {p:PIn} (hp:l[i]?=some p):w.rangeAt b (off + i * 9) (pcs p):=by
 intro j u hu
 rw [Nat.add_assoc]
 refine h.cell ?_
 have hi:=(List.getElem?_eq_some_iff.1 hp)
 have hj:j < 9:=(List.getElem?_eq_some_iff.1 hu).1
 unfold plcs
 rw [flat_at (f:=pcs) (k:=9) (fun _=>rfl) l i j hi.1 hj,hi.2]
 exact hu
theorem range_below {w w' : World} {b o:Nat} {cs:List Value} (h:w.rangeAt b o cs) (hb:Below w.heap.size w w'):w'.rangeAt b o cs:=fun j v hv=>(hb.cell (p:=⟨b,o + j,none⟩) (World.block_lt_of_cell? _ _ (h j v hv))).trans (h j v hv)
section
variable {w0 w:World} {v:Value} {m m' : TurnM} {C:Obj→Obj}
end
end Go.Proofs.YtjddbjmcjhjpiaaGreatDoor
