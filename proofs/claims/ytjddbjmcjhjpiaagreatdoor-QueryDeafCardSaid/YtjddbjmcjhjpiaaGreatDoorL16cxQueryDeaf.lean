/- The law QueryDeaf. -/
import Derived.Test.YtjddbjmcjhjpiaaGreatDoorN16J
import Derived.Test.YtjddbjmcjhjpiaaGreatDoorN16G
import Derived.Test.YtjddbjmcjhjpiaaGreatDoorN16C

set_option linter.all false

namespace Go.Proofs.YtjddbjmcjhjpiaaGreatDoor
set_option maxRecDepth 100000
set_option maxHeartbeats 32000000
open Go.RowKit M

theorem qT_open {me S:Int} {i:Nat} (_hS:0≤S) (x:XIn):(qT me S i).open_ x=(decide (0 < i∧(i:Int)≤S * 8 + 1) && x.to_ == me):=by
 unfold QueryM.open_ QueryM.over qT
 simp only
 by_cases h1:0 < i
 · by_cases h2:(i:Int)≤S * 8 + 1
   · rw [decide_eq_true (show 0 < i∧(i:Int)≤S * 8 + 1 from ⟨h1,h2⟩),decide_eq_false (show ¬ S * 8 + 1 < min (i:Int) (S * 8 + 2) by omega),decide_eq_true (show 0 < min (i:Int) (S * 8 + 2) by omega)]
     rfl
   · rw [decide_eq_false (show ¬ (0 < i∧(i:Int)≤S * 8 + 1) by omega),decide_eq_true (show S * 8 + 1 < min (i:Int) (S * 8 + 2) by omega)]
     rfl
 · rw [decide_eq_false (show ¬ (0 < i∧(i:Int)≤S * 8 + 1) by omega),decide_eq_false (show ¬ S * 8 + 1 < min (i:Int) (S * 8 + 2) by omega),decide_eq_false (show ¬ 0 < min (i:Int) (S * 8 + 2) by omega)]
   rfl
theorem qT_hear {me S:Int} {i:Nat} (hS:0≤S) (x:XIn) {b:Bool} (hb:(decide (0 < i∧(i:Int)≤S * 8 + 1) && (x.to_ == me && (x.from_ != me && mayX x.xd)))=b):b=(qT me S i).hearB x∧((qT me S i).hear x).log.l.length=(if b then 1 else 0):=by
 obtain ⟨h1,h2⟩:=log0_add me x
 have h3:=qT_open (me:=me) (i:=i) hS x
 have e:(qT me S i).log=LogM.new me:=rfl
 subst hb
 unfold QueryM.hearB QueryM.hear
 rw [e,h1,h3]
 refine ⟨?_,?_⟩
 · cases decide (0 < i∧(i:Int)≤S * 8 + 1) <;> cases (x.to_ == me) <;> cases mayX x.xd <;> cases (x.from_ != me) <;> rfl
 · cases decide (0 < i∧(i:Int)≤S * 8 + 1)
   · rfl
   · cases x.to_ == me
     · rfl
     · show ((LogM.new me).add x).l.length=_
       rw [h2]
       cases mayX x.xd <;> cases (x.from_ != me) <;> rfl
def rowish (d:TypeDesc):Bool:=match d with
 | .struct _=>true
 | .array _ _=>true
 | _=>false
theorem wpList_loadGD {ops:Array Oper} {rest:List Oper} {o:Oper} {a:Act} {w0 w:World} {F0:List Nat} {Q:Exit→Act→World→Prop} {C:Obj→Obj} {g:Nat} {cs:Array Value} {t:TypeId} (hC:Fr C) (h:Done w0 F0 (C (CellW g cs t)) w) (hw:Region.wanted o (yielded ops a.tmps)=true) (ty:TypeId) (x:Operand) (ho:o.op=.load ty x) (hx:a.eval x=.pointer (some ⟨g,0,none⟩)) (d:TypeDesc)
 (hu:Tryz.prog.underlying ty=some d) (hd:rowish d=true) (hi:(Tryz.prog.info? ty).map (·.size)=some cs.size)
 (hn:wpList Tryz.prog ops Q rest (a.put o.dst (.agg cs)) w):wpList Tryz.prog ops Q (o :: rest) a w:=by
 refine wpList_loadG hw ty x ho g hx t cs (h.at_ hC) d hu ?_ hi hn
 cases d <;> first | rfl | exact absurd hd (by decide) | (exfalso;revert hd;simp [rowish])
theorem QueryDeaf_law (x:XIn) (slots at_:Int) (w:World) (hx:x.ok) (hC:Codes w):Calls Tryz.prog 10 #[x.val,.int .i64 slots,.int .i64 at_] w fun e w' => e=.returned (.bool true)∧Below w.heap.size w w' := by
 have HC:=jzD hC
 have hxx:=fun w=>X1_any x hx w
 have hyn:=XIn.cut_len x
 have hyo:=XIn.cut_ok hx
 generalize x.cut=y at hxx hyn hyo
 have HXX:=jzD hxx
 have HYN:Hid (y.nick.size≤1000000):=by show _≤_;omega
 have HY:=jzD hyo
 clear hC hx hxx hyn hyo
 have a1_q:=Int.lt_tmod_of_pos slots (show (0:Int) < 3 by decide)
 have a2_q:=Int.tmod_lt_of_pos slots (show (0:Int) < 3 by decide)
 obtain ⟨t_q,ht_q⟩:∃ t,slots.tmod 3=t:=⟨_,rfl⟩
 rw [ht_q] at a1_q a2_q
 have e1_q:IntKind.i64.wrap t_q=t_q:=IntWalk.i64_in _ (by omega)
 have e2_q:IntKind.i64.wrap (t_q + 3)=t_q + 3:=IntWalk.i64_in _ (by omega)
 obtain ⟨q,h_q⟩:∃ q:Nat,t_q % 3=(q:Int):=⟨(t_q % 3).toNat,by omega⟩
 have e3_q:(t_q + 3).tmod 3=(q:Int):=by rw [Int.tmod_eq_emod_of_nonneg (by omega)];omega
 have e4_q:IntKind.i64.wrap (q:Int)=(q:Int):=IntWalk.i64_in _ (by omega)
 have b_q:q < 3:=by omega
 clear a1_q a2_q
 have a1_N:=Int.lt_tmod_of_pos at_ (show (0:Int) < 100 by decide)
 have a2_N:=Int.tmod_lt_of_pos at_ (show (0:Int) < 100 by decide)
 obtain ⟨t_N,ht_N⟩:∃ t,at_.tmod 100=t:=⟨_,rfl⟩
 rw [ht_N] at a1_N a2_N
 have e1_N:IntKind.i64.wrap t_N=t_N:=IntWalk.i64_in _ (by omega)
 have e2_N:IntKind.i64.wrap (t_N + 100)=t_N + 100:=IntWalk.i64_in _ (by omega)
 obtain ⟨N,h_N⟩:∃ q:Nat,t_N % 100=(q:Int):=⟨(t_N % 100).toNat,by omega⟩
 have e3_N:(t_N + 100).tmod 100=(N:Int):=by rw [Int.tmod_eq_emod_of_nonneg (by omega)];omega
 have e4_N:IntKind.i64.wrap (N:Int)=(N:Int):=IntWalk.i64_in _ (by omega)
 have b_N:N < 100:=by omega
 clear a1_N a2_N
 have HS0:Hid (Done w [] (CellW w.heap.size (yA x.from_ x.to_ x.slot x.slots x.anew x.nick) 32) (w.alloc (.cells (yA x.from_ x.to_ x.slot x.slots x.anew x.nick) 32))):=CellW.new w _ _
 have hq:q=0 ∨ q=1 ∨ q=2:=by omega
 clear b_q
 rcases hq with rfl | rfl | rfl
 · have z0:((0:Nat):Int)=0:=rfl
   rw [z0] at h_q e3_q e4_q
   have hm:=mayNew_n (me:=77) (S:=1) (s:=⟨#[110]⟩) (by decide) (by kernel_rfl)
   rw [show ownN 77=true by decide] at hm
   have HM:=jzD hm
   clear hm
   go_enter Tryz.func10,Tryz.ntmps10
   go_wp2_with (first
    | (go_at_call 18;((with_reducible refine (dcalls_keep cS HS0.out (begun16_any _ (HC.out.below HS0.out.bel))).mono ?_);rintro e w1 ⟨rfl,hs⟩;have HS1:=jzD hs;clear hs))
    | (with_reducible refine wpList_loadD (C:=fun X=>X) Fr.id_ HS1.out rfl 32 (.tmp 3) rfl rfl _ Tryz.underlying32 rfl (by kernel_rfl) ?_)
    | (go_at_call 22;((with_reducible refine (dcalls_keep cS HS1.out (HXX.out _)).mono ?_);rintro e w2 ⟨rfl,hs⟩;have HS2:=jzD hs;clear hs))
    | ((with_reducible refine wpList_storeBD (C:=fun X=>X) Fr.id_ HS2.out rfl 32 (.tmp 3) (.tmp 16) rfl #[.int .u32 y.from_,.int .u32 y.to_,.int .i64 y.slot,.int .i64 y.slots,.bool y.anew,.string y.nick] rfl rfl (by kernel_rfl) rfl (by simp [Value.oneCell']) ?_);intro w3 hs;have HT3:Hid (Done w [] (Star (CellW w.heap.size (yA y.from_ y.to_ y.slot y.slots y.anew y.nick) 32) (CellW w3.heap.size (yK 1 6 8) 3)) (w3.alloc (.cells (yK 1 6 8) 3))):=Done.add (H:=CellW w.heap.size (yA y.from_ y.to_ y.slot y.slots y.anew y.nick) 32) (by show Done _ _ _ _;exact hs) cS (CellW.new w3 #[.int .i64 1,.int .i64 6,.int .i64 8] 3);clear hs)
    | (go_at_call 20;((with_reducible refine (dQ_new (by decide) (by decide) (by decide) HM.out (cS.star cS) HT3.out).mono ?_);rintro e w4 ⟨a1,b1,rfl,hs⟩;have HS4:Hid (Done w [] (Star (CellW w.heap.size (yA y.from_ y.to_ y.slot y.slots y.anew y.nick) 32) (QueryW (.pointer (some a1)) (.pointer (some b1)) (qT 77 1 0))) w4):=(by show Done _ _ _ _;rw [← qT_new 77 1 (by decide)];exact hs.drop_mid);clear hs)))
   go_loopw [9] (fun iv wr=>∃ i:Nat,i≤N∧iv=.int .i64 (i:Int)∧Done w [] (Star (CellW w.heap.size (yA y.from_ y.to_ y.slot y.slots y.anew y.nick) 32) (QueryW (.pointer (some a1)) (.pointer (some b1)) (qT 77 1 i))) wr) (fun iv _=>(100 - intOf iv).toNat)
   case atStart=>exact ⟨0,by omega,rfl,HS4.out⟩
   case round =>
    clear HS0 HS1 HS2 HT3 HS4
    obtain ⟨i,hi,rfl,hs⟩:=hrel
    have HS3:=jzD hs
    clear hs
    by_cases hlt:i < N
    · have t1:decide ((i:Int) < (N:Int))=true:=decide_eq_true (by omega)
      have t1b:decide (i < N)=true:=decide_eq_true hlt
      have e5:IntKind.i64.wrap ((i:Int) + 1)=(i:Int) + 1:=IntWalk.i64_in _ (by omega)
      obtain ⟨z,hz⟩:∃ z,z=(qT 77 1 i).xid:=⟨_,rfl⟩
      obtain ⟨zb,hzb⟩:∃ b,b=(qT 77 1 i).asks:=⟨_,rfl⟩
      have HZ:=jzD hz
      have HZB:=jzD hzb
      have HTK:=jzD (qT_tick 77 1 i)
      clear hz hzb
      go_wp2_with (go_at_call 34;((with_reducible refine (dQ_tick (x:=z) (b:=zb) (m' := qT 77 1 (i + 1)) HZ.out HZB.out HTK.out (C:=fun X=>Star (CellW w.heap.size (yA y.from_ y.to_ y.slot y.slots y.anew y.nick) 32) X) (Fr.r cS Fr.id_) HS3.out).mono ?_);rintro e w5 ⟨rfl,hs⟩;have HS5:=jzD hs;clear hs))
      go_roundw
      case rel=>exact ⟨i + 1,by omega,by go_num,HS5.out⟩
      case measure=>simp [intOf] <;> omega
    · have t1:decide ((i:Int) < (N:Int))=false:=decide_eq_false (by omega)
      have t1b:decide (i < N)=false:=decide_eq_false hlt
      have hiN:i=N:=by omega
      rw [hiN] at HS3
      clear hiN hlt hi
      by_cases c1:0 < N
      · by_cases c2:N≤9
        · rcases k3:(y.to_ == 77) with _ | _
          · skip
            obtain ⟨hh1,hh2⟩:=qT_hear (me:=77) (S:=1) (i:=N) (by decide) y (b:=false) (by rw [k3];simp)
            have HH1:=jzD hh1
            have HH2:Hid ((0:Int)=(((qT 77 1 N).hear y).log.l.length:Int)):=by show _=_;rw [hh2];rfl
            clear hh1 hh2
            have g1:decide ((0:Int) < (N:Int))=true:=decide_eq_true (by omega)
            have g1b:decide (0 < N)=true:=decide_eq_true (by omega)
            have g2:decide ((N:Int)≤9)=true:=decide_eq_true (by omega)
            have g2b:decide (N≤9)=true:=decide_eq_true (by omega)
            go_wp2_with (first
             | (with_reducible refine wpList_loadD (C:=fun X=>Star (X) (QueryW (.pointer (some a1)) (.pointer (some b1)) (qT 77 1 N))) (Fr.l Fr.id_ (QueryW.stab _ _ _)) HS3.out rfl 32 (.tmp 3) rfl rfl _ Tryz.underlying32 rfl (by kernel_rfl) ?_)
             | (go_at_call 23;((with_reducible refine (dQ_hear (x:=y) (b:=false) (m' := (qT 77 1 N).hear y) HY.out HH1.out rfl (C:=fun X=>Star (CellW w.heap.size (yA y.from_ y.to_ y.slot y.slots y.anew y.nick) 32) X) (Fr.r cS Fr.id_) HS3.out).mono ?_);rintro e w4 ⟨rfl,hs⟩;have HS4:Hid (Done w [] (Star (CellW w.heap.size (yA y.from_ y.to_ y.slot y.slots y.anew y.nick) 32) (QueryW (.pointer (some a1)) (.pointer (some b1)) ((qT 77 1 N).hear y))) w4):=(by show Done _ _ _ _;exact hs);have cf_4:w4.cell? ⟨w.heap.size,0,none⟩=some (.int .u32 y.from_):=cell_at (Done.at_ (C:=fun X=>Star (X) (QueryW (.pointer (some a1)) (.pointer (some b1)) ((qT 77 1 N).hear y))) (Fr.l Fr.id_ (QueryW.stab _ _ _)) HS4.out) 0 _ rfl;have ct_4:w4.cell? ⟨w.heap.size,1,none⟩=some (.int .u32 y.to_):=cell_at (Done.at_ (C:=fun X=>Star (X) (QueryW (.pointer (some a1)) (.pointer (some b1)) ((qT 77 1 N).hear y))) (Fr.l Fr.id_ (QueryW.stab _ _ _)) HS4.out) 1 _ rfl;clear hs))
             | (go_at_call 28;((with_reducible refine (dQ_log (u:=.pointer (some b1)) (C:=fun X=>Star (CellW w.heap.size (yA y.from_ y.to_ y.slot y.slots y.anew y.nick) 32) X) (Fr.r cS Fr.id_) (cS.star (QueryW.stab _ _ _)) HS4.out).mono ?_);rintro e w5 ⟨rfl,hs⟩;have HS5:Hid (Done w [] (Star (CellW w.heap.size (yA y.from_ y.to_ y.slot y.slots y.anew y.nick) 32) (QueryW (.pointer (some a1)) (.pointer (some b1)) ((qT 77 1 N).hear y))) w5):=(by show Done _ _ _ _;exact hs);have cf_5:w5.cell? ⟨w.heap.size,0,none⟩=some (.int .u32 y.from_):=cell_at (Done.at_ (C:=fun X=>Star (X) (QueryW (.pointer (some a1)) (.pointer (some b1)) ((qT 77 1 N).hear y))) (Fr.l Fr.id_ (QueryW.stab _ _ _)) HS5.out) 0 _ rfl;have ct_5:w5.cell? ⟨w.heap.size,1,none⟩=some (.int .u32 y.to_):=cell_at (Done.at_ (C:=fun X=>Star (X) (QueryW (.pointer (some a1)) (.pointer (some b1)) ((qT 77 1 N).hear y))) (Fr.l Fr.id_ (QueryW.stab _ _ _)) HS5.out) 1 _ rfl;clear hs))
             | (go_at_call 52;((with_reducible refine (dQ_llen (v:=.pointer (some a1)) (m:=(qT 77 1 N).hear y) (n:=0) HH2.out (C:=fun X=>Star (CellW w.heap.size (yA y.from_ y.to_ y.slot y.slots y.anew y.nick) 32) X) (Fr.r cS Fr.id_) (cS.star (QueryW.stab _ _ _)) HS5.out).mono ?_);rintro e w6 ⟨rfl,hs⟩;have HS6:Hid (Done w [] (Star (CellW w.heap.size (yA y.from_ y.to_ y.slot y.slots y.anew y.nick) 32) (QueryW (.pointer (some a1)) (.pointer (some b1)) ((qT 77 1 N).hear y))) w6):=(by show Done _ _ _ _;exact hs);have cf_6:w6.cell? ⟨w.heap.size,0,none⟩=some (.int .u32 y.from_):=cell_at (Done.at_ (C:=fun X=>Star (X) (QueryW (.pointer (some a1)) (.pointer (some b1)) ((qT 77 1 N).hear y))) (Fr.l Fr.id_ (QueryW.stab _ _ _)) HS6.out) 0 _ rfl;have ct_6:w6.cell? ⟨w.heap.size,1,none⟩=some (.int .u32 y.to_):=cell_at (Done.at_ (C:=fun X=>Star (X) (QueryW (.pointer (some a1)) (.pointer (some b1)) ((qT 77 1 N).hear y))) (Fr.l Fr.id_ (QueryW.stab _ _ _)) HS6.out) 1 _ rfl;clear hs))
             | (go_at_call 54;((with_reducible refine (b2i16_any _ _).mono ?_);rintro e w' ⟨rfl,hw'⟩;rw [hw'];clear hw')))
            go_ret
            exact ⟨rfl,HS6.out.bel⟩
          · rcases k4:(y.from_ != 77) with _ | _
            · skip
              obtain ⟨hh1,hh2⟩:=qT_hear (me:=77) (S:=1) (i:=N) (by decide) y (b:=false) (by rw [k4];simp)
              have HH1:=jzD hh1
              have HH2:Hid ((0:Int)=(((qT 77 1 N).hear y).log.l.length:Int)):=by show _=_;rw [hh2];rfl
              clear hh1 hh2
              have g1:decide ((0:Int) < (N:Int))=true:=decide_eq_true (by omega)
              have g1b:decide (0 < N)=true:=decide_eq_true (by omega)
              have g2:decide ((N:Int)≤9)=true:=decide_eq_true (by omega)
              have g2b:decide (N≤9)=true:=decide_eq_true (by omega)
              go_wp2_with (first
               | (with_reducible refine wpList_loadD (C:=fun X=>Star (X) (QueryW (.pointer (some a1)) (.pointer (some b1)) (qT 77 1 N))) (Fr.l Fr.id_ (QueryW.stab _ _ _)) HS3.out rfl 32 (.tmp 3) rfl rfl _ Tryz.underlying32 rfl (by kernel_rfl) ?_)
               | (go_at_call 23;((with_reducible refine (dQ_hear (x:=y) (b:=false) (m' := (qT 77 1 N).hear y) HY.out HH1.out rfl (C:=fun X=>Star (CellW w.heap.size (yA y.from_ y.to_ y.slot y.slots y.anew y.nick) 32) X) (Fr.r cS Fr.id_) HS3.out).mono ?_);rintro e w4 ⟨rfl,hs⟩;have HS4:Hid (Done w [] (Star (CellW w.heap.size (yA y.from_ y.to_ y.slot y.slots y.anew y.nick) 32) (QueryW (.pointer (some a1)) (.pointer (some b1)) ((qT 77 1 N).hear y))) w4):=(by show Done _ _ _ _;exact hs);have cf_4:w4.cell? ⟨w.heap.size,0,none⟩=some (.int .u32 y.from_):=cell_at (Done.at_ (C:=fun X=>Star (X) (QueryW (.pointer (some a1)) (.pointer (some b1)) ((qT 77 1 N).hear y))) (Fr.l Fr.id_ (QueryW.stab _ _ _)) HS4.out) 0 _ rfl;have ct_4:w4.cell? ⟨w.heap.size,1,none⟩=some (.int .u32 y.to_):=cell_at (Done.at_ (C:=fun X=>Star (X) (QueryW (.pointer (some a1)) (.pointer (some b1)) ((qT 77 1 N).hear y))) (Fr.l Fr.id_ (QueryW.stab _ _ _)) HS4.out) 1 _ rfl;clear hs))
               | (go_at_call 28;((with_reducible refine (dQ_log (u:=.pointer (some b1)) (C:=fun X=>Star (CellW w.heap.size (yA y.from_ y.to_ y.slot y.slots y.anew y.nick) 32) X) (Fr.r cS Fr.id_) (cS.star (QueryW.stab _ _ _)) HS4.out).mono ?_);rintro e w5 ⟨rfl,hs⟩;have HS5:Hid (Done w [] (Star (CellW w.heap.size (yA y.from_ y.to_ y.slot y.slots y.anew y.nick) 32) (QueryW (.pointer (some a1)) (.pointer (some b1)) ((qT 77 1 N).hear y))) w5):=(by show Done _ _ _ _;exact hs);have cf_5:w5.cell? ⟨w.heap.size,0,none⟩=some (.int .u32 y.from_):=cell_at (Done.at_ (C:=fun X=>Star (X) (QueryW (.pointer (some a1)) (.pointer (some b1)) ((qT 77 1 N).hear y))) (Fr.l Fr.id_ (QueryW.stab _ _ _)) HS5.out) 0 _ rfl;have ct_5:w5.cell? ⟨w.heap.size,1,none⟩=some (.int .u32 y.to_):=cell_at (Done.at_ (C:=fun X=>Star (X) (QueryW (.pointer (some a1)) (.pointer (some b1)) ((qT 77 1 N).hear y))) (Fr.l Fr.id_ (QueryW.stab _ _ _)) HS5.out) 1 _ rfl;clear hs))
               | (go_at_call 52;((with_reducible refine (dQ_llen (v:=.pointer (some a1)) (m:=(qT 77 1 N).hear y) (n:=0) HH2.out (C:=fun X=>Star (CellW w.heap.size (yA y.from_ y.to_ y.slot y.slots y.anew y.nick) 32) X) (Fr.r cS Fr.id_) (cS.star (QueryW.stab _ _ _)) HS5.out).mono ?_);rintro e w6 ⟨rfl,hs⟩;have HS6:Hid (Done w [] (Star (CellW w.heap.size (yA y.from_ y.to_ y.slot y.slots y.anew y.nick) 32) (QueryW (.pointer (some a1)) (.pointer (some b1)) ((qT 77 1 N).hear y))) w6):=(by show Done _ _ _ _;exact hs);have cf_6:w6.cell? ⟨w.heap.size,0,none⟩=some (.int .u32 y.from_):=cell_at (Done.at_ (C:=fun X=>Star (X) (QueryW (.pointer (some a1)) (.pointer (some b1)) ((qT 77 1 N).hear y))) (Fr.l Fr.id_ (QueryW.stab _ _ _)) HS6.out) 0 _ rfl;have ct_6:w6.cell? ⟨w.heap.size,1,none⟩=some (.int .u32 y.to_):=cell_at (Done.at_ (C:=fun X=>Star (X) (QueryW (.pointer (some a1)) (.pointer (some b1)) ((qT 77 1 N).hear y))) (Fr.l Fr.id_ (QueryW.stab _ _ _)) HS6.out) 1 _ rfl;clear hs))
               | (go_at_call 54;((with_reducible refine (b2i16_any _ _).mono ?_);rintro e w' ⟨rfl,hw'⟩;rw [hw'];clear hw')))
              go_ret
              exact ⟨rfl,HS6.out.bel⟩
            · rcases k5:mayX y.xd with _ | _
              · have HMX:Hid (∀ w,Calls Tryz.prog 38 #[y.val] w fun e w' => e=.returned (.bool false)∧Below w.heap.size w w'):=by show ∀ _,_;intro w;have := RMayX_any y w HYN.out;rw [k5] at this;exact this
                obtain ⟨hh1,hh2⟩:=qT_hear (me:=77) (S:=1) (i:=N) (by decide) y (b:=false) (by rw [k5];simp)
                have HH1:=jzD hh1
                have HH2:Hid ((0:Int)=(((qT 77 1 N).hear y).log.l.length:Int)):=by show _=_;rw [hh2];rfl
                clear hh1 hh2
                have g1:decide ((0:Int) < (N:Int))=true:=decide_eq_true (by omega)
                have g1b:decide (0 < N)=true:=decide_eq_true (by omega)
                have g2:decide ((N:Int)≤9)=true:=decide_eq_true (by omega)
                have g2b:decide (N≤9)=true:=decide_eq_true (by omega)
                go_wp2_with (first
                 | (with_reducible refine wpList_loadD (C:=fun X=>Star (X) (QueryW (.pointer (some a1)) (.pointer (some b1)) (qT 77 1 N))) (Fr.l Fr.id_ (QueryW.stab _ _ _)) HS3.out rfl 32 (.tmp 3) rfl rfl _ Tryz.underlying32 rfl (by kernel_rfl) ?_)
                 | ((with_reducible refine wpList_loadGD (C:=fun X=>Star (X) (QueryW (.pointer (some a1)) (.pointer (some b1)) ((qT 77 1 N).hear y))) (Fr.l Fr.id_ (QueryW.stab _ _ _)) HS4.out (by kernel_rfl) 32 (.tmp 3) rfl rfl _ Tryz.underlying32 rfl (by kernel_rfl) ?_))
                 | (go_at_call 23;((with_reducible refine (dQ_hear (x:=y) (b:=false) (m' := (qT 77 1 N).hear y) HY.out HH1.out rfl (C:=fun X=>Star (CellW w.heap.size (yA y.from_ y.to_ y.slot y.slots y.anew y.nick) 32) X) (Fr.r cS Fr.id_) HS3.out).mono ?_);rintro e w4 ⟨rfl,hs⟩;have HS4:Hid (Done w [] (Star (CellW w.heap.size (yA y.from_ y.to_ y.slot y.slots y.anew y.nick) 32) (QueryW (.pointer (some a1)) (.pointer (some b1)) ((qT 77 1 N).hear y))) w4):=(by show Done _ _ _ _;exact hs);have cf_4:w4.cell? ⟨w.heap.size,0,none⟩=some (.int .u32 y.from_):=cell_at (Done.at_ (C:=fun X=>Star (X) (QueryW (.pointer (some a1)) (.pointer (some b1)) ((qT 77 1 N).hear y))) (Fr.l Fr.id_ (QueryW.stab _ _ _)) HS4.out) 0 _ rfl;have ct_4:w4.cell? ⟨w.heap.size,1,none⟩=some (.int .u32 y.to_):=cell_at (Done.at_ (C:=fun X=>Star (X) (QueryW (.pointer (some a1)) (.pointer (some b1)) ((qT 77 1 N).hear y))) (Fr.l Fr.id_ (QueryW.stab _ _ _)) HS4.out) 1 _ rfl;clear hs))
                 | (go_at_call 38;((with_reducible refine (dcalls_keep (cS.star (QueryW.stab _ _ _)) HS4.out (HMX.out _)).mono ?_);rintro e w5 ⟨rfl,hs⟩;have HS5:Hid (Done w [] (Star (CellW w.heap.size (yA y.from_ y.to_ y.slot y.slots y.anew y.nick) 32) (QueryW (.pointer (some a1)) (.pointer (some b1)) ((qT 77 1 N).hear y))) w5):=(by show Done _ _ _ _;exact hs);have cf_5:w5.cell? ⟨w.heap.size,0,none⟩=some (.int .u32 y.from_):=cell_at (Done.at_ (C:=fun X=>Star (X) (QueryW (.pointer (some a1)) (.pointer (some b1)) ((qT 77 1 N).hear y))) (Fr.l Fr.id_ (QueryW.stab _ _ _)) HS5.out) 0 _ rfl;have ct_5:w5.cell? ⟨w.heap.size,1,none⟩=some (.int .u32 y.to_):=cell_at (Done.at_ (C:=fun X=>Star (X) (QueryW (.pointer (some a1)) (.pointer (some b1)) ((qT 77 1 N).hear y))) (Fr.l Fr.id_ (QueryW.stab _ _ _)) HS5.out) 1 _ rfl;clear hs))
                 | (go_at_call 28;((with_reducible refine (dQ_log (u:=.pointer (some b1)) (C:=fun X=>Star (CellW w.heap.size (yA y.from_ y.to_ y.slot y.slots y.anew y.nick) 32) X) (Fr.r cS Fr.id_) (cS.star (QueryW.stab _ _ _)) HS5.out).mono ?_);rintro e w6 ⟨rfl,hs⟩;have HS6:Hid (Done w [] (Star (CellW w.heap.size (yA y.from_ y.to_ y.slot y.slots y.anew y.nick) 32) (QueryW (.pointer (some a1)) (.pointer (some b1)) ((qT 77 1 N).hear y))) w6):=(by show Done _ _ _ _;exact hs);have cf_6:w6.cell? ⟨w.heap.size,0,none⟩=some (.int .u32 y.from_):=cell_at (Done.at_ (C:=fun X=>Star (X) (QueryW (.pointer (some a1)) (.pointer (some b1)) ((qT 77 1 N).hear y))) (Fr.l Fr.id_ (QueryW.stab _ _ _)) HS6.out) 0 _ rfl;have ct_6:w6.cell? ⟨w.heap.size,1,none⟩=some (.int .u32 y.to_):=cell_at (Done.at_ (C:=fun X=>Star (X) (QueryW (.pointer (some a1)) (.pointer (some b1)) ((qT 77 1 N).hear y))) (Fr.l Fr.id_ (QueryW.stab _ _ _)) HS6.out) 1 _ rfl;clear hs))
                 | (go_at_call 52;((with_reducible refine (dQ_llen (v:=.pointer (some a1)) (m:=(qT 77 1 N).hear y) (n:=0) HH2.out (C:=fun X=>Star (CellW w.heap.size (yA y.from_ y.to_ y.slot y.slots y.anew y.nick) 32) X) (Fr.r cS Fr.id_) (cS.star (QueryW.stab _ _ _)) HS6.out).mono ?_);rintro e w7 ⟨rfl,hs⟩;have HS7:Hid (Done w [] (Star (CellW w.heap.size (yA y.from_ y.to_ y.slot y.slots y.anew y.nick) 32) (QueryW (.pointer (some a1)) (.pointer (some b1)) ((qT 77 1 N).hear y))) w7):=(by show Done _ _ _ _;exact hs);have cf_7:w7.cell? ⟨w.heap.size,0,none⟩=some (.int .u32 y.from_):=cell_at (Done.at_ (C:=fun X=>Star (X) (QueryW (.pointer (some a1)) (.pointer (some b1)) ((qT 77 1 N).hear y))) (Fr.l Fr.id_ (QueryW.stab _ _ _)) HS7.out) 0 _ rfl;have ct_7:w7.cell? ⟨w.heap.size,1,none⟩=some (.int .u32 y.to_):=cell_at (Done.at_ (C:=fun X=>Star (X) (QueryW (.pointer (some a1)) (.pointer (some b1)) ((qT 77 1 N).hear y))) (Fr.l Fr.id_ (QueryW.stab _ _ _)) HS7.out) 1 _ rfl;clear hs))
                 | (go_at_call 54;((with_reducible refine (b2i16_any _ _).mono ?_);rintro e w' ⟨rfl,hw'⟩;rw [hw'];clear hw')))
                go_ret
                exact ⟨rfl,HS7.out.bel⟩
              · have HMX:Hid (∀ w,Calls Tryz.prog 38 #[y.val] w fun e w' => e=.returned (.bool true)∧Below w.heap.size w w'):=by show ∀ _,_;intro w;have := RMayX_any y w HYN.out;rw [k5] at this;exact this
                obtain ⟨hh1,hh2⟩:=qT_hear (me:=77) (S:=1) (i:=N) (by decide) y (b:=true) (by rw [decide_eq_true ⟨by omega,by omega⟩,k3,k4,k5];rfl)
                have HH1:=jzD hh1
                have HH2:Hid ((1:Int)=(((qT 77 1 N).hear y).log.l.length:Int)):=by show _=_;rw [hh2];rfl
                clear hh1 hh2
                have g1:decide ((0:Int) < (N:Int))=true:=decide_eq_true (by omega)
                have g1b:decide (0 < N)=true:=decide_eq_true (by omega)
                have g2:decide ((N:Int)≤9)=true:=decide_eq_true (by omega)
                have g2b:decide (N≤9)=true:=decide_eq_true (by omega)
                go_wp2_with (first
                 | (with_reducible refine wpList_loadD (C:=fun X=>Star (X) (QueryW (.pointer (some a1)) (.pointer (some b1)) (qT 77 1 N))) (Fr.l Fr.id_ (QueryW.stab _ _ _)) HS3.out rfl 32 (.tmp 3) rfl rfl _ Tryz.underlying32 rfl (by kernel_rfl) ?_)
                 | ((with_reducible refine wpList_loadGD (C:=fun X=>Star (X) (QueryW (.pointer (some a1)) (.pointer (some b1)) ((qT 77 1 N).hear y))) (Fr.l Fr.id_ (QueryW.stab _ _ _)) HS4.out (by kernel_rfl) 32 (.tmp 3) rfl rfl _ Tryz.underlying32 rfl (by kernel_rfl) ?_))
                 | (go_at_call 23;((with_reducible refine (dQ_hear (x:=y) (b:=true) (m' := (qT 77 1 N).hear y) HY.out HH1.out rfl (C:=fun X=>Star (CellW w.heap.size (yA y.from_ y.to_ y.slot y.slots y.anew y.nick) 32) X) (Fr.r cS Fr.id_) HS3.out).mono ?_);rintro e w4 ⟨rfl,hs⟩;have HS4:Hid (Done w [] (Star (CellW w.heap.size (yA y.from_ y.to_ y.slot y.slots y.anew y.nick) 32) (QueryW (.pointer (some a1)) (.pointer (some b1)) ((qT 77 1 N).hear y))) w4):=(by show Done _ _ _ _;exact hs);have cf_4:w4.cell? ⟨w.heap.size,0,none⟩=some (.int .u32 y.from_):=cell_at (Done.at_ (C:=fun X=>Star (X) (QueryW (.pointer (some a1)) (.pointer (some b1)) ((qT 77 1 N).hear y))) (Fr.l Fr.id_ (QueryW.stab _ _ _)) HS4.out) 0 _ rfl;have ct_4:w4.cell? ⟨w.heap.size,1,none⟩=some (.int .u32 y.to_):=cell_at (Done.at_ (C:=fun X=>Star (X) (QueryW (.pointer (some a1)) (.pointer (some b1)) ((qT 77 1 N).hear y))) (Fr.l Fr.id_ (QueryW.stab _ _ _)) HS4.out) 1 _ rfl;clear hs))
                 | (go_at_call 38;((with_reducible refine (dcalls_keep (cS.star (QueryW.stab _ _ _)) HS4.out (HMX.out _)).mono ?_);rintro e w5 ⟨rfl,hs⟩;have HS5:Hid (Done w [] (Star (CellW w.heap.size (yA y.from_ y.to_ y.slot y.slots y.anew y.nick) 32) (QueryW (.pointer (some a1)) (.pointer (some b1)) ((qT 77 1 N).hear y))) w5):=(by show Done _ _ _ _;exact hs);have cf_5:w5.cell? ⟨w.heap.size,0,none⟩=some (.int .u32 y.from_):=cell_at (Done.at_ (C:=fun X=>Star (X) (QueryW (.pointer (some a1)) (.pointer (some b1)) ((qT 77 1 N).hear y))) (Fr.l Fr.id_ (QueryW.stab _ _ _)) HS5.out) 0 _ rfl;have ct_5:w5.cell? ⟨w.heap.size,1,none⟩=some (.int .u32 y.to_):=cell_at (Done.at_ (C:=fun X=>Star (X) (QueryW (.pointer (some a1)) (.pointer (some b1)) ((qT 77 1 N).hear y))) (Fr.l Fr.id_ (QueryW.stab _ _ _)) HS5.out) 1 _ rfl;clear hs))
                 | (go_at_call 28;((with_reducible refine (dQ_log (u:=.pointer (some b1)) (C:=fun X=>Star (CellW w.heap.size (yA y.from_ y.to_ y.slot y.slots y.anew y.nick) 32) X) (Fr.r cS Fr.id_) (cS.star (QueryW.stab _ _ _)) HS5.out).mono ?_);rintro e w6 ⟨rfl,hs⟩;have HS6:Hid (Done w [] (Star (CellW w.heap.size (yA y.from_ y.to_ y.slot y.slots y.anew y.nick) 32) (QueryW (.pointer (some a1)) (.pointer (some b1)) ((qT 77 1 N).hear y))) w6):=(by show Done _ _ _ _;exact hs);have cf_6:w6.cell? ⟨w.heap.size,0,none⟩=some (.int .u32 y.from_):=cell_at (Done.at_ (C:=fun X=>Star (X) (QueryW (.pointer (some a1)) (.pointer (some b1)) ((qT 77 1 N).hear y))) (Fr.l Fr.id_ (QueryW.stab _ _ _)) HS6.out) 0 _ rfl;have ct_6:w6.cell? ⟨w.heap.size,1,none⟩=some (.int .u32 y.to_):=cell_at (Done.at_ (C:=fun X=>Star (X) (QueryW (.pointer (some a1)) (.pointer (some b1)) ((qT 77 1 N).hear y))) (Fr.l Fr.id_ (QueryW.stab _ _ _)) HS6.out) 1 _ rfl;clear hs))
                 | (go_at_call 52;((with_reducible refine (dQ_llen (v:=.pointer (some a1)) (m:=(qT 77 1 N).hear y) (n:=1) HH2.out (C:=fun X=>Star (CellW w.heap.size (yA y.from_ y.to_ y.slot y.slots y.anew y.nick) 32) X) (Fr.r cS Fr.id_) (cS.star (QueryW.stab _ _ _)) HS6.out).mono ?_);rintro e w7 ⟨rfl,hs⟩;have HS7:Hid (Done w [] (Star (CellW w.heap.size (yA y.from_ y.to_ y.slot y.slots y.anew y.nick) 32) (QueryW (.pointer (some a1)) (.pointer (some b1)) ((qT 77 1 N).hear y))) w7):=(by show Done _ _ _ _;exact hs);have cf_7:w7.cell? ⟨w.heap.size,0,none⟩=some (.int .u32 y.from_):=cell_at (Done.at_ (C:=fun X=>Star (X) (QueryW (.pointer (some a1)) (.pointer (some b1)) ((qT 77 1 N).hear y))) (Fr.l Fr.id_ (QueryW.stab _ _ _)) HS7.out) 0 _ rfl;have ct_7:w7.cell? ⟨w.heap.size,1,none⟩=some (.int .u32 y.to_):=cell_at (Done.at_ (C:=fun X=>Star (X) (QueryW (.pointer (some a1)) (.pointer (some b1)) ((qT 77 1 N).hear y))) (Fr.l Fr.id_ (QueryW.stab _ _ _)) HS7.out) 1 _ rfl;clear hs))
                 | (go_at_call 54;((with_reducible refine (b2i16_any _ _).mono ?_);rintro e w' ⟨rfl,hw'⟩;rw [hw'];clear hw')))
                go_ret
                exact ⟨rfl,HS7.out.bel⟩
        · skip
          obtain ⟨hh1,hh2⟩:=qT_hear (me:=77) (S:=1) (i:=N) (by decide) y (b:=false) (by rw [decide_eq_false (by omega)];rfl)
          have HH1:=jzD hh1
          have HH2:Hid ((0:Int)=(((qT 77 1 N).hear y).log.l.length:Int)):=by show _=_;rw [hh2];rfl
          clear hh1 hh2
          have g1:decide ((0:Int) < (N:Int))=true:=decide_eq_true (by omega)
          have g1b:decide (0 < N)=true:=decide_eq_true (by omega)
          have g2:decide ((N:Int)≤9)=false:=decide_eq_false (by omega)
          have g2b:decide (N≤9)=false:=decide_eq_false (by omega)
          go_wp2_with (first
           | (with_reducible refine wpList_loadD (C:=fun X=>Star (X) (QueryW (.pointer (some a1)) (.pointer (some b1)) (qT 77 1 N))) (Fr.l Fr.id_ (QueryW.stab _ _ _)) HS3.out rfl 32 (.tmp 3) rfl rfl _ Tryz.underlying32 rfl (by kernel_rfl) ?_)
           | (go_at_call 23;((with_reducible refine (dQ_hear (x:=y) (b:=false) (m' := (qT 77 1 N).hear y) HY.out HH1.out rfl (C:=fun X=>Star (CellW w.heap.size (yA y.from_ y.to_ y.slot y.slots y.anew y.nick) 32) X) (Fr.r cS Fr.id_) HS3.out).mono ?_);rintro e w4 ⟨rfl,hs⟩;have HS4:Hid (Done w [] (Star (CellW w.heap.size (yA y.from_ y.to_ y.slot y.slots y.anew y.nick) 32) (QueryW (.pointer (some a1)) (.pointer (some b1)) ((qT 77 1 N).hear y))) w4):=(by show Done _ _ _ _;exact hs);have cf_4:w4.cell? ⟨w.heap.size,0,none⟩=some (.int .u32 y.from_):=cell_at (Done.at_ (C:=fun X=>Star (X) (QueryW (.pointer (some a1)) (.pointer (some b1)) ((qT 77 1 N).hear y))) (Fr.l Fr.id_ (QueryW.stab _ _ _)) HS4.out) 0 _ rfl;have ct_4:w4.cell? ⟨w.heap.size,1,none⟩=some (.int .u32 y.to_):=cell_at (Done.at_ (C:=fun X=>Star (X) (QueryW (.pointer (some a1)) (.pointer (some b1)) ((qT 77 1 N).hear y))) (Fr.l Fr.id_ (QueryW.stab _ _ _)) HS4.out) 1 _ rfl;clear hs))
           | (go_at_call 28;((with_reducible refine (dQ_log (u:=.pointer (some b1)) (C:=fun X=>Star (CellW w.heap.size (yA y.from_ y.to_ y.slot y.slots y.anew y.nick) 32) X) (Fr.r cS Fr.id_) (cS.star (QueryW.stab _ _ _)) HS4.out).mono ?_);rintro e w5 ⟨rfl,hs⟩;have HS5:Hid (Done w [] (Star (CellW w.heap.size (yA y.from_ y.to_ y.slot y.slots y.anew y.nick) 32) (QueryW (.pointer (some a1)) (.pointer (some b1)) ((qT 77 1 N).hear y))) w5):=(by show Done _ _ _ _;exact hs);have cf_5:w5.cell? ⟨w.heap.size,0,none⟩=some (.int .u32 y.from_):=cell_at (Done.at_ (C:=fun X=>Star (X) (QueryW (.pointer (some a1)) (.pointer (some b1)) ((qT 77 1 N).hear y))) (Fr.l Fr.id_ (QueryW.stab _ _ _)) HS5.out) 0 _ rfl;have ct_5:w5.cell? ⟨w.heap.size,1,none⟩=some (.int .u32 y.to_):=cell_at (Done.at_ (C:=fun X=>Star (X) (QueryW (.pointer (some a1)) (.pointer (some b1)) ((qT 77 1 N).hear y))) (Fr.l Fr.id_ (QueryW.stab _ _ _)) HS5.out) 1 _ rfl;clear hs))
           | (go_at_call 52;((with_reducible refine (dQ_llen (v:=.pointer (some a1)) (m:=(qT 77 1 N).hear y) (n:=0) HH2.out (C:=fun X=>Star (CellW w.heap.size (yA y.from_ y.to_ y.slot y.slots y.anew y.nick) 32) X) (Fr.r cS Fr.id_) (cS.star (QueryW.stab _ _ _)) HS5.out).mono ?_);rintro e w6 ⟨rfl,hs⟩;have HS6:Hid (Done w [] (Star (CellW w.heap.size (yA y.from_ y.to_ y.slot y.slots y.anew y.nick) 32) (QueryW (.pointer (some a1)) (.pointer (some b1)) ((qT 77 1 N).hear y))) w6):=(by show Done _ _ _ _;exact hs);have cf_6:w6.cell? ⟨w.heap.size,0,none⟩=some (.int .u32 y.from_):=cell_at (Done.at_ (C:=fun X=>Star (X) (QueryW (.pointer (some a1)) (.pointer (some b1)) ((qT 77 1 N).hear y))) (Fr.l Fr.id_ (QueryW.stab _ _ _)) HS6.out) 0 _ rfl;have ct_6:w6.cell? ⟨w.heap.size,1,none⟩=some (.int .u32 y.to_):=cell_at (Done.at_ (C:=fun X=>Star (X) (QueryW (.pointer (some a1)) (.pointer (some b1)) ((qT 77 1 N).hear y))) (Fr.l Fr.id_ (QueryW.stab _ _ _)) HS6.out) 1 _ rfl;clear hs))
           | (go_at_call 54;((with_reducible refine (b2i16_any _ _).mono ?_);rintro e w' ⟨rfl,hw'⟩;rw [hw'];clear hw')))
          go_ret
          exact ⟨rfl,HS6.out.bel⟩
      · skip
        obtain ⟨hh1,hh2⟩:=qT_hear (me:=77) (S:=1) (i:=N) (by decide) y (b:=false) (by rw [decide_eq_false (by omega)];rfl)
        have HH1:=jzD hh1
        have HH2:Hid ((0:Int)=(((qT 77 1 N).hear y).log.l.length:Int)):=by show _=_;rw [hh2];rfl
        clear hh1 hh2
        have g1:decide ((0:Int) < (N:Int))=false:=decide_eq_false (by omega)
        have g1b:decide (0 < N)=false:=decide_eq_false (by omega)
        go_wp2_with (first
         | (with_reducible refine wpList_loadD (C:=fun X=>Star (X) (QueryW (.pointer (some a1)) (.pointer (some b1)) (qT 77 1 N))) (Fr.l Fr.id_ (QueryW.stab _ _ _)) HS3.out rfl 32 (.tmp 3) rfl rfl _ Tryz.underlying32 rfl (by kernel_rfl) ?_)
         | (go_at_call 23;((with_reducible refine (dQ_hear (x:=y) (b:=false) (m' := (qT 77 1 N).hear y) HY.out HH1.out rfl (C:=fun X=>Star (CellW w.heap.size (yA y.from_ y.to_ y.slot y.slots y.anew y.nick) 32) X) (Fr.r cS Fr.id_) HS3.out).mono ?_);rintro e w4 ⟨rfl,hs⟩;have HS4:Hid (Done w [] (Star (CellW w.heap.size (yA y.from_ y.to_ y.slot y.slots y.anew y.nick) 32) (QueryW (.pointer (some a1)) (.pointer (some b1)) ((qT 77 1 N).hear y))) w4):=(by show Done _ _ _ _;exact hs);have cf_4:w4.cell? ⟨w.heap.size,0,none⟩=some (.int .u32 y.from_):=cell_at (Done.at_ (C:=fun X=>Star (X) (QueryW (.pointer (some a1)) (.pointer (some b1)) ((qT 77 1 N).hear y))) (Fr.l Fr.id_ (QueryW.stab _ _ _)) HS4.out) 0 _ rfl;have ct_4:w4.cell? ⟨w.heap.size,1,none⟩=some (.int .u32 y.to_):=cell_at (Done.at_ (C:=fun X=>Star (X) (QueryW (.pointer (some a1)) (.pointer (some b1)) ((qT 77 1 N).hear y))) (Fr.l Fr.id_ (QueryW.stab _ _ _)) HS4.out) 1 _ rfl;clear hs))
         | (go_at_call 28;((with_reducible refine (dQ_log (u:=.pointer (some b1)) (C:=fun X=>Star (CellW w.heap.size (yA y.from_ y.to_ y.slot y.slots y.anew y.nick) 32) X) (Fr.r cS Fr.id_) (cS.star (QueryW.stab _ _ _)) HS4.out).mono ?_);rintro e w5 ⟨rfl,hs⟩;have HS5:Hid (Done w [] (Star (CellW w.heap.size (yA y.from_ y.to_ y.slot y.slots y.anew y.nick) 32) (QueryW (.pointer (some a1)) (.pointer (some b1)) ((qT 77 1 N).hear y))) w5):=(by show Done _ _ _ _;exact hs);have cf_5:w5.cell? ⟨w.heap.size,0,none⟩=some (.int .u32 y.from_):=cell_at (Done.at_ (C:=fun X=>Star (X) (QueryW (.pointer (some a1)) (.pointer (some b1)) ((qT 77 1 N).hear y))) (Fr.l Fr.id_ (QueryW.stab _ _ _)) HS5.out) 0 _ rfl;have ct_5:w5.cell? ⟨w.heap.size,1,none⟩=some (.int .u32 y.to_):=cell_at (Done.at_ (C:=fun X=>Star (X) (QueryW (.pointer (some a1)) (.pointer (some b1)) ((qT 77 1 N).hear y))) (Fr.l Fr.id_ (QueryW.stab _ _ _)) HS5.out) 1 _ rfl;clear hs))
         | (go_at_call 52;((with_reducible refine (dQ_llen (v:=.pointer (some a1)) (m:=(qT 77 1 N).hear y) (n:=0) HH2.out (C:=fun X=>Star (CellW w.heap.size (yA y.from_ y.to_ y.slot y.slots y.anew y.nick) 32) X) (Fr.r cS Fr.id_) (cS.star (QueryW.stab _ _ _)) HS5.out).mono ?_);rintro e w6 ⟨rfl,hs⟩;have HS6:Hid (Done w [] (Star (CellW w.heap.size (yA y.from_ y.to_ y.slot y.slots y.anew y.nick) 32) (QueryW (.pointer (some a1)) (.pointer (some b1)) ((qT 77 1 N).hear y))) w6):=(by show Done _ _ _ _;exact hs);have cf_6:w6.cell? ⟨w.heap.size,0,none⟩=some (.int .u32 y.from_):=cell_at (Done.at_ (C:=fun X=>Star (X) (QueryW (.pointer (some a1)) (.pointer (some b1)) ((qT 77 1 N).hear y))) (Fr.l Fr.id_ (QueryW.stab _ _ _)) HS6.out) 0 _ rfl;have ct_6:w6.cell? ⟨w.heap.size,1,none⟩=some (.int .u32 y.to_):=cell_at (Done.at_ (C:=fun X=>Star (X) (QueryW (.pointer (some a1)) (.pointer (some b1)) ((qT 77 1 N).hear y))) (Fr.l Fr.id_ (QueryW.stab _ _ _)) HS6.out) 1 _ rfl;clear hs))
         | (go_at_call 54;((with_reducible refine (b2i16_any _ _).mono ?_);rintro e w' ⟨rfl,hw'⟩;rw [hw'];clear hw')))
        go_ret
        exact ⟨rfl,HS6.out.bel⟩
 · have z0:((1:Nat):Int)=1:=rfl
   rw [z0] at h_q e3_q e4_q
   have hm:=mayNew_n (me:=77) (S:=6) (s:=⟨#[110]⟩) (by decide) (by kernel_rfl)
   rw [show ownN 77=true by decide] at hm
   have HM:=jzD hm
   clear hm
   go_enter Tryz.func10,Tryz.ntmps10
   go_wp2_with (first
    | (go_at_call 18;((with_reducible refine (dcalls_keep cS HS0.out (begun16_any _ (HC.out.below HS0.out.bel))).mono ?_);rintro e w1 ⟨rfl,hs⟩;have HS1:=jzD hs;clear hs))
    | (with_reducible refine wpList_loadD (C:=fun X=>X) Fr.id_ HS1.out rfl 32 (.tmp 3) rfl rfl _ Tryz.underlying32 rfl (by kernel_rfl) ?_)
    | (go_at_call 22;((with_reducible refine (dcalls_keep cS HS1.out (HXX.out _)).mono ?_);rintro e w2 ⟨rfl,hs⟩;have HS2:=jzD hs;clear hs))
    | ((with_reducible refine wpList_storeBD (C:=fun X=>X) Fr.id_ HS2.out rfl 32 (.tmp 3) (.tmp 16) rfl #[.int .u32 y.from_,.int .u32 y.to_,.int .i64 y.slot,.int .i64 y.slots,.bool y.anew,.string y.nick] rfl rfl (by kernel_rfl) rfl (by simp [Value.oneCell']) ?_);intro w3 hs;have HT3:Hid (Done w [] (Star (CellW w.heap.size (yA y.from_ y.to_ y.slot y.slots y.anew y.nick) 32) (CellW w3.heap.size (yK 1 6 8) 3)) (w3.alloc (.cells (yK 1 6 8) 3))):=Done.add (H:=CellW w.heap.size (yA y.from_ y.to_ y.slot y.slots y.anew y.nick) 32) (by show Done _ _ _ _;exact hs) cS (CellW.new w3 #[.int .i64 1,.int .i64 6,.int .i64 8] 3);clear hs)
    | (go_at_call 20;((with_reducible refine (dQ_new (by decide) (by decide) (by decide) HM.out (cS.star cS) HT3.out).mono ?_);rintro e w4 ⟨a1,b1,rfl,hs⟩;have HS4:Hid (Done w [] (Star (CellW w.heap.size (yA y.from_ y.to_ y.slot y.slots y.anew y.nick) 32) (QueryW (.pointer (some a1)) (.pointer (some b1)) (qT 77 6 0))) w4):=(by show Done _ _ _ _;rw [← qT_new 77 6 (by decide)];exact hs.drop_mid);clear hs)))
   go_loopw [9] (fun iv wr=>∃ i:Nat,i≤N∧iv=.int .i64 (i:Int)∧Done w [] (Star (CellW w.heap.size (yA y.from_ y.to_ y.slot y.slots y.anew y.nick) 32) (QueryW (.pointer (some a1)) (.pointer (some b1)) (qT 77 6 i))) wr) (fun iv _=>(100 - intOf iv).toNat)
   case atStart=>exact ⟨0,by omega,rfl,HS4.out⟩
   case round =>
    clear HS0 HS1 HS2 HT3 HS4
    obtain ⟨i,hi,rfl,hs⟩:=hrel
    have HS3:=jzD hs
    clear hs
    by_cases hlt:i < N
    · have t1:decide ((i:Int) < (N:Int))=true:=decide_eq_true (by omega)
      have t1b:decide (i < N)=true:=decide_eq_true hlt
      have e5:IntKind.i64.wrap ((i:Int) + 1)=(i:Int) + 1:=IntWalk.i64_in _ (by omega)
      obtain ⟨z,hz⟩:∃ z,z=(qT 77 6 i).xid:=⟨_,rfl⟩
      obtain ⟨zb,hzb⟩:∃ b,b=(qT 77 6 i).asks:=⟨_,rfl⟩
      have HZ:=jzD hz
      have HZB:=jzD hzb
      have HTK:=jzD (qT_tick 77 6 i)
      clear hz hzb
      go_wp2_with (go_at_call 34;((with_reducible refine (dQ_tick (x:=z) (b:=zb) (m' := qT 77 6 (i + 1)) HZ.out HZB.out HTK.out (C:=fun X=>Star (CellW w.heap.size (yA y.from_ y.to_ y.slot y.slots y.anew y.nick) 32) X) (Fr.r cS Fr.id_) HS3.out).mono ?_);rintro e w5 ⟨rfl,hs⟩;have HS5:=jzD hs;clear hs))
      go_roundw
      case rel=>exact ⟨i + 1,by omega,by go_num,HS5.out⟩
      case measure=>simp [intOf] <;> omega
    · have t1:decide ((i:Int) < (N:Int))=false:=decide_eq_false (by omega)
      have t1b:decide (i < N)=false:=decide_eq_false hlt
      have hiN:i=N:=by omega
      rw [hiN] at HS3
      clear hiN hlt hi
      by_cases c1:0 < N
      · by_cases c2:N≤49
        · rcases k3:(y.to_ == 77) with _ | _
          · skip
            obtain ⟨hh1,hh2⟩:=qT_hear (me:=77) (S:=6) (i:=N) (by decide) y (b:=false) (by rw [k3];simp)
            have HH1:=jzD hh1
            have HH2:Hid ((0:Int)=(((qT 77 6 N).hear y).log.l.length:Int)):=by show _=_;rw [hh2];rfl
            clear hh1 hh2
            have g1:decide ((0:Int) < (N:Int))=true:=decide_eq_true (by omega)
            have g1b:decide (0 < N)=true:=decide_eq_true (by omega)
            have g2:decide ((N:Int)≤49)=true:=decide_eq_true (by omega)
            have g2b:decide (N≤49)=true:=decide_eq_true (by omega)
            go_wp2_with (first
             | (with_reducible refine wpList_loadD (C:=fun X=>Star (X) (QueryW (.pointer (some a1)) (.pointer (some b1)) (qT 77 6 N))) (Fr.l Fr.id_ (QueryW.stab _ _ _)) HS3.out rfl 32 (.tmp 3) rfl rfl _ Tryz.underlying32 rfl (by kernel_rfl) ?_)
             | (go_at_call 23;((with_reducible refine (dQ_hear (x:=y) (b:=false) (m' := (qT 77 6 N).hear y) HY.out HH1.out rfl (C:=fun X=>Star (CellW w.heap.size (yA y.from_ y.to_ y.slot y.slots y.anew y.nick) 32) X) (Fr.r cS Fr.id_) HS3.out).mono ?_);rintro e w4 ⟨rfl,hs⟩;have HS4:Hid (Done w [] (Star (CellW w.heap.size (yA y.from_ y.to_ y.slot y.slots y.anew y.nick) 32) (QueryW (.pointer (some a1)) (.pointer (some b1)) ((qT 77 6 N).hear y))) w4):=(by show Done _ _ _ _;exact hs);have cf_4:w4.cell? ⟨w.heap.size,0,none⟩=some (.int .u32 y.from_):=cell_at (Done.at_ (C:=fun X=>Star (X) (QueryW (.pointer (some a1)) (.pointer (some b1)) ((qT 77 6 N).hear y))) (Fr.l Fr.id_ (QueryW.stab _ _ _)) HS4.out) 0 _ rfl;have ct_4:w4.cell? ⟨w.heap.size,1,none⟩=some (.int .u32 y.to_):=cell_at (Done.at_ (C:=fun X=>Star (X) (QueryW (.pointer (some a1)) (.pointer (some b1)) ((qT 77 6 N).hear y))) (Fr.l Fr.id_ (QueryW.stab _ _ _)) HS4.out) 1 _ rfl;clear hs))
             | (go_at_call 28;((with_reducible refine (dQ_log (u:=.pointer (some b1)) (C:=fun X=>Star (CellW w.heap.size (yA y.from_ y.to_ y.slot y.slots y.anew y.nick) 32) X) (Fr.r cS Fr.id_) (cS.star (QueryW.stab _ _ _)) HS4.out).mono ?_);rintro e w5 ⟨rfl,hs⟩;have HS5:Hid (Done w [] (Star (CellW w.heap.size (yA y.from_ y.to_ y.slot y.slots y.anew y.nick) 32) (QueryW (.pointer (some a1)) (.pointer (some b1)) ((qT 77 6 N).hear y))) w5):=(by show Done _ _ _ _;exact hs);have cf_5:w5.cell? ⟨w.heap.size,0,none⟩=some (.int .u32 y.from_):=cell_at (Done.at_ (C:=fun X=>Star (X) (QueryW (.pointer (some a1)) (.pointer (some b1)) ((qT 77 6 N).hear y))) (Fr.l Fr.id_ (QueryW.stab _ _ _)) HS5.out) 0 _ rfl;have ct_5:w5.cell? ⟨w.heap.size,1,none⟩=some (.int .u32 y.to_):=cell_at (Done.at_ (C:=fun X=>Star (X) (QueryW (.pointer (some a1)) (.pointer (some b1)) ((qT 77 6 N).hear y))) (Fr.l Fr.id_ (QueryW.stab _ _ _)) HS5.out) 1 _ rfl;clear hs))
             | (go_at_call 52;((with_reducible refine (dQ_llen (v:=.pointer (some a1)) (m:=(qT 77 6 N).hear y) (n:=0) HH2.out (C:=fun X=>Star (CellW w.heap.size (yA y.from_ y.to_ y.slot y.slots y.anew y.nick) 32) X) (Fr.r cS Fr.id_) (cS.star (QueryW.stab _ _ _)) HS5.out).mono ?_);rintro e w6 ⟨rfl,hs⟩;have HS6:Hid (Done w [] (Star (CellW w.heap.size (yA y.from_ y.to_ y.slot y.slots y.anew y.nick) 32) (QueryW (.pointer (some a1)) (.pointer (some b1)) ((qT 77 6 N).hear y))) w6):=(by show Done _ _ _ _;exact hs);have cf_6:w6.cell? ⟨w.heap.size,0,none⟩=some (.int .u32 y.from_):=cell_at (Done.at_ (C:=fun X=>Star (X) (QueryW (.pointer (some a1)) (.pointer (some b1)) ((qT 77 6 N).hear y))) (Fr.l Fr.id_ (QueryW.stab _ _ _)) HS6.out) 0 _ rfl;have ct_6:w6.cell? ⟨w.heap.size,1,none⟩=some (.int .u32 y.to_):=cell_at (Done.at_ (C:=fun X=>Star (X) (QueryW (.pointer (some a1)) (.pointer (some b1)) ((qT 77 6 N).hear y))) (Fr.l Fr.id_ (QueryW.stab _ _ _)) HS6.out) 1 _ rfl;clear hs))
             | (go_at_call 54;((with_reducible refine (b2i16_any _ _).mono ?_);rintro e w' ⟨rfl,hw'⟩;rw [hw'];clear hw')))
            go_ret
            exact ⟨rfl,HS6.out.bel⟩
          · rcases k4:(y.from_ != 77) with _ | _
            · skip
              obtain ⟨hh1,hh2⟩:=qT_hear (me:=77) (S:=6) (i:=N) (by decide) y (b:=false) (by rw [k4];simp)
              have HH1:=jzD hh1
              have HH2:Hid ((0:Int)=(((qT 77 6 N).hear y).log.l.length:Int)):=by show _=_;rw [hh2];rfl
              clear hh1 hh2
              have g1:decide ((0:Int) < (N:Int))=true:=decide_eq_true (by omega)
              have g1b:decide (0 < N)=true:=decide_eq_true (by omega)
              have g2:decide ((N:Int)≤49)=true:=decide_eq_true (by omega)
              have g2b:decide (N≤49)=true:=decide_eq_true (by omega)
              go_wp2_with (first
               | (with_reducible refine wpList_loadD (C:=fun X=>Star (X) (QueryW (.pointer (some a1)) (.pointer (some b1)) (qT 77 6 N))) (Fr.l Fr.id_ (QueryW.stab _ _ _)) HS3.out rfl 32 (.tmp 3) rfl rfl _ Tryz.underlying32 rfl (by kernel_rfl) ?_)
               | (go_at_call 23;((with_reducible refine (dQ_hear (x:=y) (b:=false) (m' := (qT 77 6 N).hear y) HY.out HH1.out rfl (C:=fun X=>Star (CellW w.heap.size (yA y.from_ y.to_ y.slot y.slots y.anew y.nick) 32) X) (Fr.r cS Fr.id_) HS3.out).mono ?_);rintro e w4 ⟨rfl,hs⟩;have HS4:Hid (Done w [] (Star (CellW w.heap.size (yA y.from_ y.to_ y.slot y.slots y.anew y.nick) 32) (QueryW (.pointer (some a1)) (.pointer (some b1)) ((qT 77 6 N).hear y))) w4):=(by show Done _ _ _ _;exact hs);have cf_4:w4.cell? ⟨w.heap.size,0,none⟩=some (.int .u32 y.from_):=cell_at (Done.at_ (C:=fun X=>Star (X) (QueryW (.pointer (some a1)) (.pointer (some b1)) ((qT 77 6 N).hear y))) (Fr.l Fr.id_ (QueryW.stab _ _ _)) HS4.out) 0 _ rfl;have ct_4:w4.cell? ⟨w.heap.size,1,none⟩=some (.int .u32 y.to_):=cell_at (Done.at_ (C:=fun X=>Star (X) (QueryW (.pointer (some a1)) (.pointer (some b1)) ((qT 77 6 N).hear y))) (Fr.l Fr.id_ (QueryW.stab _ _ _)) HS4.out) 1 _ rfl;clear hs))
               | (go_at_call 28;((with_reducible refine (dQ_log (u:=.pointer (some b1)) (C:=fun X=>Star (CellW w.heap.size (yA y.from_ y.to_ y.slot y.slots y.anew y.nick) 32) X) (Fr.r cS Fr.id_) (cS.star (QueryW.stab _ _ _)) HS4.out).mono ?_);rintro e w5 ⟨rfl,hs⟩;have HS5:Hid (Done w [] (Star (CellW w.heap.size (yA y.from_ y.to_ y.slot y.slots y.anew y.nick) 32) (QueryW (.pointer (some a1)) (.pointer (some b1)) ((qT 77 6 N).hear y))) w5):=(by show Done _ _ _ _;exact hs);have cf_5:w5.cell? ⟨w.heap.size,0,none⟩=some (.int .u32 y.from_):=cell_at (Done.at_ (C:=fun X=>Star (X) (QueryW (.pointer (some a1)) (.pointer (some b1)) ((qT 77 6 N).hear y))) (Fr.l Fr.id_ (QueryW.stab _ _ _)) HS5.out) 0 _ rfl;have ct_5:w5.cell? ⟨w.heap.size,1,none⟩=some (.int .u32 y.to_):=cell_at (Done.at_ (C:=fun X=>Star (X) (QueryW (.pointer (some a1)) (.pointer (some b1)) ((qT 77 6 N).hear y))) (Fr.l Fr.id_ (QueryW.stab _ _ _)) HS5.out) 1 _ rfl;clear hs))
               | (go_at_call 52;((with_reducible refine (dQ_llen (v:=.pointer (some a1)) (m:=(qT 77 6 N).hear y) (n:=0) HH2.out (C:=fun X=>Star (CellW w.heap.size (yA y.from_ y.to_ y.slot y.slots y.anew y.nick) 32) X) (Fr.r cS Fr.id_) (cS.star (QueryW.stab _ _ _)) HS5.out).mono ?_);rintro e w6 ⟨rfl,hs⟩;have HS6:Hid (Done w [] (Star (CellW w.heap.size (yA y.from_ y.to_ y.slot y.slots y.anew y.nick) 32) (QueryW (.pointer (some a1)) (.pointer (some b1)) ((qT 77 6 N).hear y))) w6):=(by show Done _ _ _ _;exact hs);have cf_6:w6.cell? ⟨w.heap.size,0,none⟩=some (.int .u32 y.from_):=cell_at (Done.at_ (C:=fun X=>Star (X) (QueryW (.pointer (some a1)) (.pointer (some b1)) ((qT 77 6 N).hear y))) (Fr.l Fr.id_ (QueryW.stab _ _ _)) HS6.out) 0 _ rfl;have ct_6:w6.cell? ⟨w.heap.size,1,none⟩=some (.int .u32 y.to_):=cell_at (Done.at_ (C:=fun X=>Star (X) (QueryW (.pointer (some a1)) (.pointer (some b1)) ((qT 77 6 N).hear y))) (Fr.l Fr.id_ (QueryW.stab _ _ _)) HS6.out) 1 _ rfl;clear hs))
               | (go_at_call 54;((with_reducible refine (b2i16_any _ _).mono ?_);rintro e w' ⟨rfl,hw'⟩;rw [hw'];clear hw')))
              go_ret
              exact ⟨rfl,HS6.out.bel⟩
            · rcases k5:mayX y.xd with _ | _
              · have HMX:Hid (∀ w,Calls Tryz.prog 38 #[y.val] w fun e w' => e=.returned (.bool false)∧Below w.heap.size w w'):=by show ∀ _,_;intro w;have := RMayX_any y w HYN.out;rw [k5] at this;exact this
                obtain ⟨hh1,hh2⟩:=qT_hear (me:=77) (S:=6) (i:=N) (by decide) y (b:=false) (by rw [k5];simp)
                have HH1:=jzD hh1
                have HH2:Hid ((0:Int)=(((qT 77 6 N).hear y).log.l.length:Int)):=by show _=_;rw [hh2];rfl
                clear hh1 hh2
                have g1:decide ((0:Int) < (N:Int))=true:=decide_eq_true (by omega)
                have g1b:decide (0 < N)=true:=decide_eq_true (by omega)
                have g2:decide ((N:Int)≤49)=true:=decide_eq_true (by omega)
                have g2b:decide (N≤49)=true:=decide_eq_true (by omega)
                go_wp2_with (first
                 | (with_reducible refine wpList_loadD (C:=fun X=>Star (X) (QueryW (.pointer (some a1)) (.pointer (some b1)) (qT 77 6 N))) (Fr.l Fr.id_ (QueryW.stab _ _ _)) HS3.out rfl 32 (.tmp 3) rfl rfl _ Tryz.underlying32 rfl (by kernel_rfl) ?_)
                 | ((with_reducible refine wpList_loadGD (C:=fun X=>Star (X) (QueryW (.pointer (some a1)) (.pointer (some b1)) ((qT 77 6 N).hear y))) (Fr.l Fr.id_ (QueryW.stab _ _ _)) HS4.out (by kernel_rfl) 32 (.tmp 3) rfl rfl _ Tryz.underlying32 rfl (by kernel_rfl) ?_))
                 | (go_at_call 23;((with_reducible refine (dQ_hear (x:=y) (b:=false) (m' := (qT 77 6 N).hear y) HY.out HH1.out rfl (C:=fun X=>Star (CellW w.heap.size (yA y.from_ y.to_ y.slot y.slots y.anew y.nick) 32) X) (Fr.r cS Fr.id_) HS3.out).mono ?_);rintro e w4 ⟨rfl,hs⟩;have HS4:Hid (Done w [] (Star (CellW w.heap.size (yA y.from_ y.to_ y.slot y.slots y.anew y.nick) 32) (QueryW (.pointer (some a1)) (.pointer (some b1)) ((qT 77 6 N).hear y))) w4):=(by show Done _ _ _ _;exact hs);have cf_4:w4.cell? ⟨w.heap.size,0,none⟩=some (.int .u32 y.from_):=cell_at (Done.at_ (C:=fun X=>Star (X) (QueryW (.pointer (some a1)) (.pointer (some b1)) ((qT 77 6 N).hear y))) (Fr.l Fr.id_ (QueryW.stab _ _ _)) HS4.out) 0 _ rfl;have ct_4:w4.cell? ⟨w.heap.size,1,none⟩=some (.int .u32 y.to_):=cell_at (Done.at_ (C:=fun X=>Star (X) (QueryW (.pointer (some a1)) (.pointer (some b1)) ((qT 77 6 N).hear y))) (Fr.l Fr.id_ (QueryW.stab _ _ _)) HS4.out) 1 _ rfl;clear hs))
                 | (go_at_call 38;((with_reducible refine (dcalls_keep (cS.star (QueryW.stab _ _ _)) HS4.out (HMX.out _)).mono ?_);rintro e w5 ⟨rfl,hs⟩;have HS5:Hid (Done w [] (Star (CellW w.heap.size (yA y.from_ y.to_ y.slot y.slots y.anew y.nick) 32) (QueryW (.pointer (some a1)) (.pointer (some b1)) ((qT 77 6 N).hear y))) w5):=(by show Done _ _ _ _;exact hs);have cf_5:w5.cell? ⟨w.heap.size,0,none⟩=some (.int .u32 y.from_):=cell_at (Done.at_ (C:=fun X=>Star (X) (QueryW (.pointer (some a1)) (.pointer (some b1)) ((qT 77 6 N).hear y))) (Fr.l Fr.id_ (QueryW.stab _ _ _)) HS5.out) 0 _ rfl;have ct_5:w5.cell? ⟨w.heap.size,1,none⟩=some (.int .u32 y.to_):=cell_at (Done.at_ (C:=fun X=>Star (X) (QueryW (.pointer (some a1)) (.pointer (some b1)) ((qT 77 6 N).hear y))) (Fr.l Fr.id_ (QueryW.stab _ _ _)) HS5.out) 1 _ rfl;clear hs))
                 | (go_at_call 28;((with_reducible refine (dQ_log (u:=.pointer (some b1)) (C:=fun X=>Star (CellW w.heap.size (yA y.from_ y.to_ y.slot y.slots y.anew y.nick) 32) X) (Fr.r cS Fr.id_) (cS.star (QueryW.stab _ _ _)) HS5.out).mono ?_);rintro e w6 ⟨rfl,hs⟩;have HS6:Hid (Done w [] (Star (CellW w.heap.size (yA y.from_ y.to_ y.slot y.slots y.anew y.nick) 32) (QueryW (.pointer (some a1)) (.pointer (some b1)) ((qT 77 6 N).hear y))) w6):=(by show Done _ _ _ _;exact hs);have cf_6:w6.cell? ⟨w.heap.size,0,none⟩=some (.int .u32 y.from_):=cell_at (Done.at_ (C:=fun X=>Star (X) (QueryW (.pointer (some a1)) (.pointer (some b1)) ((qT 77 6 N).hear y))) (Fr.l Fr.id_ (QueryW.stab _ _ _)) HS6.out) 0 _ rfl;have ct_6:w6.cell? ⟨w.heap.size,1,none⟩=some (.int .u32 y.to_):=cell_at (Done.at_ (C:=fun X=>Star (X) (QueryW (.pointer (some a1)) (.pointer (some b1)) ((qT 77 6 N).hear y))) (Fr.l Fr.id_ (QueryW.stab _ _ _)) HS6.out) 1 _ rfl;clear hs))
                 | (go_at_call 52;((with_reducible refine (dQ_llen (v:=.pointer (some a1)) (m:=(qT 77 6 N).hear y) (n:=0) HH2.out (C:=fun X=>Star (CellW w.heap.size (yA y.from_ y.to_ y.slot y.slots y.anew y.nick) 32) X) (Fr.r cS Fr.id_) (cS.star (QueryW.stab _ _ _)) HS6.out).mono ?_);rintro e w7 ⟨rfl,hs⟩;have HS7:Hid (Done w [] (Star (CellW w.heap.size (yA y.from_ y.to_ y.slot y.slots y.anew y.nick) 32) (QueryW (.pointer (some a1)) (.pointer (some b1)) ((qT 77 6 N).hear y))) w7):=(by show Done _ _ _ _;exact hs);have cf_7:w7.cell? ⟨w.heap.size,0,none⟩=some (.int .u32 y.from_):=cell_at (Done.at_ (C:=fun X=>Star (X) (QueryW (.pointer (some a1)) (.pointer (some b1)) ((qT 77 6 N).hear y))) (Fr.l Fr.id_ (QueryW.stab _ _ _)) HS7.out) 0 _ rfl;have ct_7:w7.cell? ⟨w.heap.size,1,none⟩=some (.int .u32 y.to_):=cell_at (Done.at_ (C:=fun X=>Star (X) (QueryW (.pointer (some a1)) (.pointer (some b1)) ((qT 77 6 N).hear y))) (Fr.l Fr.id_ (QueryW.stab _ _ _)) HS7.out) 1 _ rfl;clear hs))
                 | (go_at_call 54;((with_reducible refine (b2i16_any _ _).mono ?_);rintro e w' ⟨rfl,hw'⟩;rw [hw'];clear hw')))
                go_ret
                exact ⟨rfl,HS7.out.bel⟩
              · have HMX:Hid (∀ w,Calls Tryz.prog 38 #[y.val] w fun e w' => e=.returned (.bool true)∧Below w.heap.size w w'):=by show ∀ _,_;intro w;have := RMayX_any y w HYN.out;rw [k5] at this;exact this
                obtain ⟨hh1,hh2⟩:=qT_hear (me:=77) (S:=6) (i:=N) (by decide) y (b:=true) (by rw [decide_eq_true ⟨by omega,by omega⟩,k3,k4,k5];rfl)
                have HH1:=jzD hh1
                have HH2:Hid ((1:Int)=(((qT 77 6 N).hear y).log.l.length:Int)):=by show _=_;rw [hh2];rfl
                clear hh1 hh2
                have g1:decide ((0:Int) < (N:Int))=true:=decide_eq_true (by omega)
                have g1b:decide (0 < N)=true:=decide_eq_true (by omega)
                have g2:decide ((N:Int)≤49)=true:=decide_eq_true (by omega)
                have g2b:decide (N≤49)=true:=decide_eq_true (by omega)
                go_wp2_with (first
                 | (with_reducible refine wpList_loadD (C:=fun X=>Star (X) (QueryW (.pointer (some a1)) (.pointer (some b1)) (qT 77 6 N))) (Fr.l Fr.id_ (QueryW.stab _ _ _)) HS3.out rfl 32 (.tmp 3) rfl rfl _ Tryz.underlying32 rfl (by kernel_rfl) ?_)
                 | ((with_reducible refine wpList_loadGD (C:=fun X=>Star (X) (QueryW (.pointer (some a1)) (.pointer (some b1)) ((qT 77 6 N).hear y))) (Fr.l Fr.id_ (QueryW.stab _ _ _)) HS4.out (by kernel_rfl) 32 (.tmp 3) rfl rfl _ Tryz.underlying32 rfl (by kernel_rfl) ?_))
                 | (go_at_call 23;((with_reducible refine (dQ_hear (x:=y) (b:=true) (m' := (qT 77 6 N).hear y) HY.out HH1.out rfl (C:=fun X=>Star (CellW w.heap.size (yA y.from_ y.to_ y.slot y.slots y.anew y.nick) 32) X) (Fr.r cS Fr.id_) HS3.out).mono ?_);rintro e w4 ⟨rfl,hs⟩;have HS4:Hid (Done w [] (Star (CellW w.heap.size (yA y.from_ y.to_ y.slot y.slots y.anew y.nick) 32) (QueryW (.pointer (some a1)) (.pointer (some b1)) ((qT 77 6 N).hear y))) w4):=(by show Done _ _ _ _;exact hs);have cf_4:w4.cell? ⟨w.heap.size,0,none⟩=some (.int .u32 y.from_):=cell_at (Done.at_ (C:=fun X=>Star (X) (QueryW (.pointer (some a1)) (.pointer (some b1)) ((qT 77 6 N).hear y))) (Fr.l Fr.id_ (QueryW.stab _ _ _)) HS4.out) 0 _ rfl;have ct_4:w4.cell? ⟨w.heap.size,1,none⟩=some (.int .u32 y.to_):=cell_at (Done.at_ (C:=fun X=>Star (X) (QueryW (.pointer (some a1)) (.pointer (some b1)) ((qT 77 6 N).hear y))) (Fr.l Fr.id_ (QueryW.stab _ _ _)) HS4.out) 1 _ rfl;clear hs))
                 | (go_at_call 38;((with_reducible refine (dcalls_keep (cS.star (QueryW.stab _ _ _)) HS4.out (HMX.out _)).mono ?_);rintro e w5 ⟨rfl,hs⟩;have HS5:Hid (Done w [] (Star (CellW w.heap.size (yA y.from_ y.to_ y.slot y.slots y.anew y.nick) 32) (QueryW (.pointer (some a1)) (.pointer (some b1)) ((qT 77 6 N).hear y))) w5):=(by show Done _ _ _ _;exact hs);have cf_5:w5.cell? ⟨w.heap.size,0,none⟩=some (.int .u32 y.from_):=cell_at (Done.at_ (C:=fun X=>Star (X) (QueryW (.pointer (some a1)) (.pointer (some b1)) ((qT 77 6 N).hear y))) (Fr.l Fr.id_ (QueryW.stab _ _ _)) HS5.out) 0 _ rfl;have ct_5:w5.cell? ⟨w.heap.size,1,none⟩=some (.int .u32 y.to_):=cell_at (Done.at_ (C:=fun X=>Star (X) (QueryW (.pointer (some a1)) (.pointer (some b1)) ((qT 77 6 N).hear y))) (Fr.l Fr.id_ (QueryW.stab _ _ _)) HS5.out) 1 _ rfl;clear hs))
                 | (go_at_call 28;((with_reducible refine (dQ_log (u:=.pointer (some b1)) (C:=fun X=>Star (CellW w.heap.size (yA y.from_ y.to_ y.slot y.slots y.anew y.nick) 32) X) (Fr.r cS Fr.id_) (cS.star (QueryW.stab _ _ _)) HS5.out).mono ?_);rintro e w6 ⟨rfl,hs⟩;have HS6:Hid (Done w [] (Star (CellW w.heap.size (yA y.from_ y.to_ y.slot y.slots y.anew y.nick) 32) (QueryW (.pointer (some a1)) (.pointer (some b1)) ((qT 77 6 N).hear y))) w6):=(by show Done _ _ _ _;exact hs);have cf_6:w6.cell? ⟨w.heap.size,0,none⟩=some (.int .u32 y.from_):=cell_at (Done.at_ (C:=fun X=>Star (X) (QueryW (.pointer (some a1)) (.pointer (some b1)) ((qT 77 6 N).hear y))) (Fr.l Fr.id_ (QueryW.stab _ _ _)) HS6.out) 0 _ rfl;have ct_6:w6.cell? ⟨w.heap.size,1,none⟩=some (.int .u32 y.to_):=cell_at (Done.at_ (C:=fun X=>Star (X) (QueryW (.pointer (some a1)) (.pointer (some b1)) ((qT 77 6 N).hear y))) (Fr.l Fr.id_ (QueryW.stab _ _ _)) HS6.out) 1 _ rfl;clear hs))
                 | (go_at_call 52;((with_reducible refine (dQ_llen (v:=.pointer (some a1)) (m:=(qT 77 6 N).hear y) (n:=1) HH2.out (C:=fun X=>Star (CellW w.heap.size (yA y.from_ y.to_ y.slot y.slots y.anew y.nick) 32) X) (Fr.r cS Fr.id_) (cS.star (QueryW.stab _ _ _)) HS6.out).mono ?_);rintro e w7 ⟨rfl,hs⟩;have HS7:Hid (Done w [] (Star (CellW w.heap.size (yA y.from_ y.to_ y.slot y.slots y.anew y.nick) 32) (QueryW (.pointer (some a1)) (.pointer (some b1)) ((qT 77 6 N).hear y))) w7):=(by show Done _ _ _ _;exact hs);have cf_7:w7.cell? ⟨w.heap.size,0,none⟩=some (.int .u32 y.from_):=cell_at (Done.at_ (C:=fun X=>Star (X) (QueryW (.pointer (some a1)) (.pointer (some b1)) ((qT 77 6 N).hear y))) (Fr.l Fr.id_ (QueryW.stab _ _ _)) HS7.out) 0 _ rfl;have ct_7:w7.cell? ⟨w.heap.size,1,none⟩=some (.int .u32 y.to_):=cell_at (Done.at_ (C:=fun X=>Star (X) (QueryW (.pointer (some a1)) (.pointer (some b1)) ((qT 77 6 N).hear y))) (Fr.l Fr.id_ (QueryW.stab _ _ _)) HS7.out) 1 _ rfl;clear hs))
                 | (go_at_call 54;((with_reducible refine (b2i16_any _ _).mono ?_);rintro e w' ⟨rfl,hw'⟩;rw [hw'];clear hw')))
                go_ret
                exact ⟨rfl,HS7.out.bel⟩
        · skip
          obtain ⟨hh1,hh2⟩:=qT_hear (me:=77) (S:=6) (i:=N) (by decide) y (b:=false) (by rw [decide_eq_false (by omega)];rfl)
          have HH1:=jzD hh1
          have HH2:Hid ((0:Int)=(((qT 77 6 N).hear y).log.l.length:Int)):=by show _=_;rw [hh2];rfl
          clear hh1 hh2
          have g1:decide ((0:Int) < (N:Int))=true:=decide_eq_true (by omega)
          have g1b:decide (0 < N)=true:=decide_eq_true (by omega)
          have g2:decide ((N:Int)≤49)=false:=decide_eq_false (by omega)
          have g2b:decide (N≤49)=false:=decide_eq_false (by omega)
          go_wp2_with (first
           | (with_reducible refine wpList_loadD (C:=fun X=>Star (X) (QueryW (.pointer (some a1)) (.pointer (some b1)) (qT 77 6 N))) (Fr.l Fr.id_ (QueryW.stab _ _ _)) HS3.out rfl 32 (.tmp 3) rfl rfl _ Tryz.underlying32 rfl (by kernel_rfl) ?_)
           | (go_at_call 23;((with_reducible refine (dQ_hear (x:=y) (b:=false) (m' := (qT 77 6 N).hear y) HY.out HH1.out rfl (C:=fun X=>Star (CellW w.heap.size (yA y.from_ y.to_ y.slot y.slots y.anew y.nick) 32) X) (Fr.r cS Fr.id_) HS3.out).mono ?_);rintro e w4 ⟨rfl,hs⟩;have HS4:Hid (Done w [] (Star (CellW w.heap.size (yA y.from_ y.to_ y.slot y.slots y.anew y.nick) 32) (QueryW (.pointer (some a1)) (.pointer (some b1)) ((qT 77 6 N).hear y))) w4):=(by show Done _ _ _ _;exact hs);have cf_4:w4.cell? ⟨w.heap.size,0,none⟩=some (.int .u32 y.from_):=cell_at (Done.at_ (C:=fun X=>Star (X) (QueryW (.pointer (some a1)) (.pointer (some b1)) ((qT 77 6 N).hear y))) (Fr.l Fr.id_ (QueryW.stab _ _ _)) HS4.out) 0 _ rfl;have ct_4:w4.cell? ⟨w.heap.size,1,none⟩=some (.int .u32 y.to_):=cell_at (Done.at_ (C:=fun X=>Star (X) (QueryW (.pointer (some a1)) (.pointer (some b1)) ((qT 77 6 N).hear y))) (Fr.l Fr.id_ (QueryW.stab _ _ _)) HS4.out) 1 _ rfl;clear hs))
           | (go_at_call 28;((with_reducible refine (dQ_log (u:=.pointer (some b1)) (C:=fun X=>Star (CellW w.heap.size (yA y.from_ y.to_ y.slot y.slots y.anew y.nick) 32) X) (Fr.r cS Fr.id_) (cS.star (QueryW.stab _ _ _)) HS4.out).mono ?_);rintro e w5 ⟨rfl,hs⟩;have HS5:Hid (Done w [] (Star (CellW w.heap.size (yA y.from_ y.to_ y.slot y.slots y.anew y.nick) 32) (QueryW (.pointer (some a1)) (.pointer (some b1)) ((qT 77 6 N).hear y))) w5):=(by show Done _ _ _ _;exact hs);have cf_5:w5.cell? ⟨w.heap.size,0,none⟩=some (.int .u32 y.from_):=cell_at (Done.at_ (C:=fun X=>Star (X) (QueryW (.pointer (some a1)) (.pointer (some b1)) ((qT 77 6 N).hear y))) (Fr.l Fr.id_ (QueryW.stab _ _ _)) HS5.out) 0 _ rfl;have ct_5:w5.cell? ⟨w.heap.size,1,none⟩=some (.int .u32 y.to_):=cell_at (Done.at_ (C:=fun X=>Star (X) (QueryW (.pointer (some a1)) (.pointer (some b1)) ((qT 77 6 N).hear y))) (Fr.l Fr.id_ (QueryW.stab _ _ _)) HS5.out) 1 _ rfl;clear hs))
           | (go_at_call 52;((with_reducible refine (dQ_llen (v:=.pointer (some a1)) (m:=(qT 77 6 N).hear y) (n:=0) HH2.out (C:=fun X=>Star (CellW w.heap.size (yA y.from_ y.to_ y.slot y.slots y.anew y.nick) 32) X) (Fr.r cS Fr.id_) (cS.star (QueryW.stab _ _ _)) HS5.out).mono ?_);rintro e w6 ⟨rfl,hs⟩;have HS6:Hid (Done w [] (Star (CellW w.heap.size (yA y.from_ y.to_ y.slot y.slots y.anew y.nick) 32) (QueryW (.pointer (some a1)) (.pointer (some b1)) ((qT 77 6 N).hear y))) w6):=(by show Done _ _ _ _;exact hs);have cf_6:w6.cell? ⟨w.heap.size,0,none⟩=some (.int .u32 y.from_):=cell_at (Done.at_ (C:=fun X=>Star (X) (QueryW (.pointer (some a1)) (.pointer (some b1)) ((qT 77 6 N).hear y))) (Fr.l Fr.id_ (QueryW.stab _ _ _)) HS6.out) 0 _ rfl;have ct_6:w6.cell? ⟨w.heap.size,1,none⟩=some (.int .u32 y.to_):=cell_at (Done.at_ (C:=fun X=>Star (X) (QueryW (.pointer (some a1)) (.pointer (some b1)) ((qT 77 6 N).hear y))) (Fr.l Fr.id_ (QueryW.stab _ _ _)) HS6.out) 1 _ rfl;clear hs))
           | (go_at_call 54;((with_reducible refine (b2i16_any _ _).mono ?_);rintro e w' ⟨rfl,hw'⟩;rw [hw'];clear hw')))
          go_ret
          exact ⟨rfl,HS6.out.bel⟩
      · skip
        obtain ⟨hh1,hh2⟩:=qT_hear (me:=77) (S:=6) (i:=N) (by decide) y (b:=false) (by rw [decide_eq_false (by omega)];rfl)
        have HH1:=jzD hh1
        have HH2:Hid ((0:Int)=(((qT 77 6 N).hear y).log.l.length:Int)):=by show _=_;rw [hh2];rfl
        clear hh1 hh2
        have g1:decide ((0:Int) < (N:Int))=false:=decide_eq_false (by omega)
        have g1b:decide (0 < N)=false:=decide_eq_false (by omega)
        go_wp2_with (first
         | (with_reducible refine wpList_loadD (C:=fun X=>Star (X) (QueryW (.pointer (some a1)) (.pointer (some b1)) (qT 77 6 N))) (Fr.l Fr.id_ (QueryW.stab _ _ _)) HS3.out rfl 32 (.tmp 3) rfl rfl _ Tryz.underlying32 rfl (by kernel_rfl) ?_)
         | (go_at_call 23;((with_reducible refine (dQ_hear (x:=y) (b:=false) (m' := (qT 77 6 N).hear y) HY.out HH1.out rfl (C:=fun X=>Star (CellW w.heap.size (yA y.from_ y.to_ y.slot y.slots y.anew y.nick) 32) X) (Fr.r cS Fr.id_) HS3.out).mono ?_);rintro e w4 ⟨rfl,hs⟩;have HS4:Hid (Done w [] (Star (CellW w.heap.size (yA y.from_ y.to_ y.slot y.slots y.anew y.nick) 32) (QueryW (.pointer (some a1)) (.pointer (some b1)) ((qT 77 6 N).hear y))) w4):=(by show Done _ _ _ _;exact hs);have cf_4:w4.cell? ⟨w.heap.size,0,none⟩=some (.int .u32 y.from_):=cell_at (Done.at_ (C:=fun X=>Star (X) (QueryW (.pointer (some a1)) (.pointer (some b1)) ((qT 77 6 N).hear y))) (Fr.l Fr.id_ (QueryW.stab _ _ _)) HS4.out) 0 _ rfl;have ct_4:w4.cell? ⟨w.heap.size,1,none⟩=some (.int .u32 y.to_):=cell_at (Done.at_ (C:=fun X=>Star (X) (QueryW (.pointer (some a1)) (.pointer (some b1)) ((qT 77 6 N).hear y))) (Fr.l Fr.id_ (QueryW.stab _ _ _)) HS4.out) 1 _ rfl;clear hs))
         | (go_at_call 28;((with_reducible refine (dQ_log (u:=.pointer (some b1)) (C:=fun X=>Star (CellW w.heap.size (yA y.from_ y.to_ y.slot y.slots y.anew y.nick) 32) X) (Fr.r cS Fr.id_) (cS.star (QueryW.stab _ _ _)) HS4.out).mono ?_);rintro e w5 ⟨rfl,hs⟩;have HS5:Hid (Done w [] (Star (CellW w.heap.size (yA y.from_ y.to_ y.slot y.slots y.anew y.nick) 32) (QueryW (.pointer (some a1)) (.pointer (some b1)) ((qT 77 6 N).hear y))) w5):=(by show Done _ _ _ _;exact hs);have cf_5:w5.cell? ⟨w.heap.size,0,none⟩=some (.int .u32 y.from_):=cell_at (Done.at_ (C:=fun X=>Star (X) (QueryW (.pointer (some a1)) (.pointer (some b1)) ((qT 77 6 N).hear y))) (Fr.l Fr.id_ (QueryW.stab _ _ _)) HS5.out) 0 _ rfl;have ct_5:w5.cell? ⟨w.heap.size,1,none⟩=some (.int .u32 y.to_):=cell_at (Done.at_ (C:=fun X=>Star (X) (QueryW (.pointer (some a1)) (.pointer (some b1)) ((qT 77 6 N).hear y))) (Fr.l Fr.id_ (QueryW.stab _ _ _)) HS5.out) 1 _ rfl;clear hs))
         | (go_at_call 52;((with_reducible refine (dQ_llen (v:=.pointer (some a1)) (m:=(qT 77 6 N).hear y) (n:=0) HH2.out (C:=fun X=>Star (CellW w.heap.size (yA y.from_ y.to_ y.slot y.slots y.anew y.nick) 32) X) (Fr.r cS Fr.id_) (cS.star (QueryW.stab _ _ _)) HS5.out).mono ?_);rintro e w6 ⟨rfl,hs⟩;have HS6:Hid (Done w [] (Star (CellW w.heap.size (yA y.from_ y.to_ y.slot y.slots y.anew y.nick) 32) (QueryW (.pointer (some a1)) (.pointer (some b1)) ((qT 77 6 N).hear y))) w6):=(by show Done _ _ _ _;exact hs);have cf_6:w6.cell? ⟨w.heap.size,0,none⟩=some (.int .u32 y.from_):=cell_at (Done.at_ (C:=fun X=>Star (X) (QueryW (.pointer (some a1)) (.pointer (some b1)) ((qT 77 6 N).hear y))) (Fr.l Fr.id_ (QueryW.stab _ _ _)) HS6.out) 0 _ rfl;have ct_6:w6.cell? ⟨w.heap.size,1,none⟩=some (.int .u32 y.to_):=cell_at (Done.at_ (C:=fun X=>Star (X) (QueryW (.pointer (some a1)) (.pointer (some b1)) ((qT 77 6 N).hear y))) (Fr.l Fr.id_ (QueryW.stab _ _ _)) HS6.out) 1 _ rfl;clear hs))
         | (go_at_call 54;((with_reducible refine (b2i16_any _ _).mono ?_);rintro e w' ⟨rfl,hw'⟩;rw [hw'];clear hw')))
        go_ret
        exact ⟨rfl,HS6.out.bel⟩
 · have z0:((2:Nat):Int)=2:=rfl
   rw [z0] at h_q e3_q e4_q
   have hm:=mayNew_n (me:=77) (S:=8) (s:=⟨#[110]⟩) (by decide) (by kernel_rfl)
   rw [show ownN 77=true by decide] at hm
   have HM:=jzD hm
   clear hm
   go_enter Tryz.func10,Tryz.ntmps10
   go_wp2_with (first
    | (go_at_call 18;((with_reducible refine (dcalls_keep cS HS0.out (begun16_any _ (HC.out.below HS0.out.bel))).mono ?_);rintro e w1 ⟨rfl,hs⟩;have HS1:=jzD hs;clear hs))
    | (with_reducible refine wpList_loadD (C:=fun X=>X) Fr.id_ HS1.out rfl 32 (.tmp 3) rfl rfl _ Tryz.underlying32 rfl (by kernel_rfl) ?_)
    | (go_at_call 22;((with_reducible refine (dcalls_keep cS HS1.out (HXX.out _)).mono ?_);rintro e w2 ⟨rfl,hs⟩;have HS2:=jzD hs;clear hs))
    | ((with_reducible refine wpList_storeBD (C:=fun X=>X) Fr.id_ HS2.out rfl 32 (.tmp 3) (.tmp 16) rfl #[.int .u32 y.from_,.int .u32 y.to_,.int .i64 y.slot,.int .i64 y.slots,.bool y.anew,.string y.nick] rfl rfl (by kernel_rfl) rfl (by simp [Value.oneCell']) ?_);intro w3 hs;have HT3:Hid (Done w [] (Star (CellW w.heap.size (yA y.from_ y.to_ y.slot y.slots y.anew y.nick) 32) (CellW w3.heap.size (yK 1 6 8) 3)) (w3.alloc (.cells (yK 1 6 8) 3))):=Done.add (H:=CellW w.heap.size (yA y.from_ y.to_ y.slot y.slots y.anew y.nick) 32) (by show Done _ _ _ _;exact hs) cS (CellW.new w3 #[.int .i64 1,.int .i64 6,.int .i64 8] 3);clear hs)
    | (go_at_call 20;((with_reducible refine (dQ_new (by decide) (by decide) (by decide) HM.out (cS.star cS) HT3.out).mono ?_);rintro e w4 ⟨a1,b1,rfl,hs⟩;have HS4:Hid (Done w [] (Star (CellW w.heap.size (yA y.from_ y.to_ y.slot y.slots y.anew y.nick) 32) (QueryW (.pointer (some a1)) (.pointer (some b1)) (qT 77 8 0))) w4):=(by show Done _ _ _ _;rw [← qT_new 77 8 (by decide)];exact hs.drop_mid);clear hs)))
   go_loopw [9] (fun iv wr=>∃ i:Nat,i≤N∧iv=.int .i64 (i:Int)∧Done w [] (Star (CellW w.heap.size (yA y.from_ y.to_ y.slot y.slots y.anew y.nick) 32) (QueryW (.pointer (some a1)) (.pointer (some b1)) (qT 77 8 i))) wr) (fun iv _=>(100 - intOf iv).toNat)
   case atStart=>exact ⟨0,by omega,rfl,HS4.out⟩
   case round =>
    clear HS0 HS1 HS2 HT3 HS4
    obtain ⟨i,hi,rfl,hs⟩:=hrel
    have HS3:=jzD hs
    clear hs
    by_cases hlt:i < N
    · have t1:decide ((i:Int) < (N:Int))=true:=decide_eq_true (by omega)
      have t1b:decide (i < N)=true:=decide_eq_true hlt
      have e5:IntKind.i64.wrap ((i:Int) + 1)=(i:Int) + 1:=IntWalk.i64_in _ (by omega)
      obtain ⟨z,hz⟩:∃ z,z=(qT 77 8 i).xid:=⟨_,rfl⟩
      obtain ⟨zb,hzb⟩:∃ b,b=(qT 77 8 i).asks:=⟨_,rfl⟩
      have HZ:=jzD hz
      have HZB:=jzD hzb
      have HTK:=jzD (qT_tick 77 8 i)
      clear hz hzb
      go_wp2_with (go_at_call 34;((with_reducible refine (dQ_tick (x:=z) (b:=zb) (m' := qT 77 8 (i + 1)) HZ.out HZB.out HTK.out (C:=fun X=>Star (CellW w.heap.size (yA y.from_ y.to_ y.slot y.slots y.anew y.nick) 32) X) (Fr.r cS Fr.id_) HS3.out).mono ?_);rintro e w5 ⟨rfl,hs⟩;have HS5:=jzD hs;clear hs))
      go_roundw
      case rel=>exact ⟨i + 1,by omega,by go_num,HS5.out⟩
      case measure=>simp [intOf] <;> omega
    · have t1:decide ((i:Int) < (N:Int))=false:=decide_eq_false (by omega)
      have t1b:decide (i < N)=false:=decide_eq_false hlt
      have hiN:i=N:=by omega
      rw [hiN] at HS3
      clear hiN hlt hi
      by_cases c1:0 < N
      · by_cases c2:N≤65
        · rcases k3:(y.to_ == 77) with _ | _
          · skip
            obtain ⟨hh1,hh2⟩:=qT_hear (me:=77) (S:=8) (i:=N) (by decide) y (b:=false) (by rw [k3];simp)
            have HH1:=jzD hh1
            have HH2:Hid ((0:Int)=(((qT 77 8 N).hear y).log.l.length:Int)):=by show _=_;rw [hh2];rfl
            clear hh1 hh2
            have g1:decide ((0:Int) < (N:Int))=true:=decide_eq_true (by omega)
            have g1b:decide (0 < N)=true:=decide_eq_true (by omega)
            have g2:decide ((N:Int)≤65)=true:=decide_eq_true (by omega)
            have g2b:decide (N≤65)=true:=decide_eq_true (by omega)
            go_wp2_with (first
             | (with_reducible refine wpList_loadD (C:=fun X=>Star (X) (QueryW (.pointer (some a1)) (.pointer (some b1)) (qT 77 8 N))) (Fr.l Fr.id_ (QueryW.stab _ _ _)) HS3.out rfl 32 (.tmp 3) rfl rfl _ Tryz.underlying32 rfl (by kernel_rfl) ?_)
             | (go_at_call 23;((with_reducible refine (dQ_hear (x:=y) (b:=false) (m' := (qT 77 8 N).hear y) HY.out HH1.out rfl (C:=fun X=>Star (CellW w.heap.size (yA y.from_ y.to_ y.slot y.slots y.anew y.nick) 32) X) (Fr.r cS Fr.id_) HS3.out).mono ?_);rintro e w4 ⟨rfl,hs⟩;have HS4:Hid (Done w [] (Star (CellW w.heap.size (yA y.from_ y.to_ y.slot y.slots y.anew y.nick) 32) (QueryW (.pointer (some a1)) (.pointer (some b1)) ((qT 77 8 N).hear y))) w4):=(by show Done _ _ _ _;exact hs);have cf_4:w4.cell? ⟨w.heap.size,0,none⟩=some (.int .u32 y.from_):=cell_at (Done.at_ (C:=fun X=>Star (X) (QueryW (.pointer (some a1)) (.pointer (some b1)) ((qT 77 8 N).hear y))) (Fr.l Fr.id_ (QueryW.stab _ _ _)) HS4.out) 0 _ rfl;have ct_4:w4.cell? ⟨w.heap.size,1,none⟩=some (.int .u32 y.to_):=cell_at (Done.at_ (C:=fun X=>Star (X) (QueryW (.pointer (some a1)) (.pointer (some b1)) ((qT 77 8 N).hear y))) (Fr.l Fr.id_ (QueryW.stab _ _ _)) HS4.out) 1 _ rfl;clear hs))
             | (go_at_call 28;((with_reducible refine (dQ_log (u:=.pointer (some b1)) (C:=fun X=>Star (CellW w.heap.size (yA y.from_ y.to_ y.slot y.slots y.anew y.nick) 32) X) (Fr.r cS Fr.id_) (cS.star (QueryW.stab _ _ _)) HS4.out).mono ?_);rintro e w5 ⟨rfl,hs⟩;have HS5:Hid (Done w [] (Star (CellW w.heap.size (yA y.from_ y.to_ y.slot y.slots y.anew y.nick) 32) (QueryW (.pointer (some a1)) (.pointer (some b1)) ((qT 77 8 N).hear y))) w5):=(by show Done _ _ _ _;exact hs);have cf_5:w5.cell? ⟨w.heap.size,0,none⟩=some (.int .u32 y.from_):=cell_at (Done.at_ (C:=fun X=>Star (X) (QueryW (.pointer (some a1)) (.pointer (some b1)) ((qT 77 8 N).hear y))) (Fr.l Fr.id_ (QueryW.stab _ _ _)) HS5.out) 0 _ rfl;have ct_5:w5.cell? ⟨w.heap.size,1,none⟩=some (.int .u32 y.to_):=cell_at (Done.at_ (C:=fun X=>Star (X) (QueryW (.pointer (some a1)) (.pointer (some b1)) ((qT 77 8 N).hear y))) (Fr.l Fr.id_ (QueryW.stab _ _ _)) HS5.out) 1 _ rfl;clear hs))
             | (go_at_call 52;((with_reducible refine (dQ_llen (v:=.pointer (some a1)) (m:=(qT 77 8 N).hear y) (n:=0) HH2.out (C:=fun X=>Star (CellW w.heap.size (yA y.from_ y.to_ y.slot y.slots y.anew y.nick) 32) X) (Fr.r cS Fr.id_) (cS.star (QueryW.stab _ _ _)) HS5.out).mono ?_);rintro e w6 ⟨rfl,hs⟩;have HS6:Hid (Done w [] (Star (CellW w.heap.size (yA y.from_ y.to_ y.slot y.slots y.anew y.nick) 32) (QueryW (.pointer (some a1)) (.pointer (some b1)) ((qT 77 8 N).hear y))) w6):=(by show Done _ _ _ _;exact hs);have cf_6:w6.cell? ⟨w.heap.size,0,none⟩=some (.int .u32 y.from_):=cell_at (Done.at_ (C:=fun X=>Star (X) (QueryW (.pointer (some a1)) (.pointer (some b1)) ((qT 77 8 N).hear y))) (Fr.l Fr.id_ (QueryW.stab _ _ _)) HS6.out) 0 _ rfl;have ct_6:w6.cell? ⟨w.heap.size,1,none⟩=some (.int .u32 y.to_):=cell_at (Done.at_ (C:=fun X=>Star (X) (QueryW (.pointer (some a1)) (.pointer (some b1)) ((qT 77 8 N).hear y))) (Fr.l Fr.id_ (QueryW.stab _ _ _)) HS6.out) 1 _ rfl;clear hs))
             | (go_at_call 54;((with_reducible refine (b2i16_any _ _).mono ?_);rintro e w' ⟨rfl,hw'⟩;rw [hw'];clear hw')))
            go_ret
            exact ⟨rfl,HS6.out.bel⟩
          · rcases k4:(y.from_ != 77) with _ | _
            · skip
              obtain ⟨hh1,hh2⟩:=qT_hear (me:=77) (S:=8) (i:=N) (by decide) y (b:=false) (by rw [k4];simp)
              have HH1:=jzD hh1
              have HH2:Hid ((0:Int)=(((qT 77 8 N).hear y).log.l.length:Int)):=by show _=_;rw [hh2];rfl
              clear hh1 hh2
              have g1:decide ((0:Int) < (N:Int))=true:=decide_eq_true (by omega)
              have g1b:decide (0 < N)=true:=decide_eq_true (by omega)
              have g2:decide ((N:Int)≤65)=true:=decide_eq_true (by omega)
              have g2b:decide (N≤65)=true:=decide_eq_true (by omega)
              go_wp2_with (first
               | (with_reducible refine wpList_loadD (C:=fun X=>Star (X) (QueryW (.pointer (some a1)) (.pointer (some b1)) (qT 77 8 N))) (Fr.l Fr.id_ (QueryW.stab _ _ _)) HS3.out rfl 32 (.tmp 3) rfl rfl _ Tryz.underlying32 rfl (by kernel_rfl) ?_)
               | (go_at_call 23;((with_reducible refine (dQ_hear (x:=y) (b:=false) (m' := (qT 77 8 N).hear y) HY.out HH1.out rfl (C:=fun X=>Star (CellW w.heap.size (yA y.from_ y.to_ y.slot y.slots y.anew y.nick) 32) X) (Fr.r cS Fr.id_) HS3.out).mono ?_);rintro e w4 ⟨rfl,hs⟩;have HS4:Hid (Done w [] (Star (CellW w.heap.size (yA y.from_ y.to_ y.slot y.slots y.anew y.nick) 32) (QueryW (.pointer (some a1)) (.pointer (some b1)) ((qT 77 8 N).hear y))) w4):=(by show Done _ _ _ _;exact hs);have cf_4:w4.cell? ⟨w.heap.size,0,none⟩=some (.int .u32 y.from_):=cell_at (Done.at_ (C:=fun X=>Star (X) (QueryW (.pointer (some a1)) (.pointer (some b1)) ((qT 77 8 N).hear y))) (Fr.l Fr.id_ (QueryW.stab _ _ _)) HS4.out) 0 _ rfl;have ct_4:w4.cell? ⟨w.heap.size,1,none⟩=some (.int .u32 y.to_):=cell_at (Done.at_ (C:=fun X=>Star (X) (QueryW (.pointer (some a1)) (.pointer (some b1)) ((qT 77 8 N).hear y))) (Fr.l Fr.id_ (QueryW.stab _ _ _)) HS4.out) 1 _ rfl;clear hs))
               | (go_at_call 28;((with_reducible refine (dQ_log (u:=.pointer (some b1)) (C:=fun X=>Star (CellW w.heap.size (yA y.from_ y.to_ y.slot y.slots y.anew y.nick) 32) X) (Fr.r cS Fr.id_) (cS.star (QueryW.stab _ _ _)) HS4.out).mono ?_);rintro e w5 ⟨rfl,hs⟩;have HS5:Hid (Done w [] (Star (CellW w.heap.size (yA y.from_ y.to_ y.slot y.slots y.anew y.nick) 32) (QueryW (.pointer (some a1)) (.pointer (some b1)) ((qT 77 8 N).hear y))) w5):=(by show Done _ _ _ _;exact hs);have cf_5:w5.cell? ⟨w.heap.size,0,none⟩=some (.int .u32 y.from_):=cell_at (Done.at_ (C:=fun X=>Star (X) (QueryW (.pointer (some a1)) (.pointer (some b1)) ((qT 77 8 N).hear y))) (Fr.l Fr.id_ (QueryW.stab _ _ _)) HS5.out) 0 _ rfl;have ct_5:w5.cell? ⟨w.heap.size,1,none⟩=some (.int .u32 y.to_):=cell_at (Done.at_ (C:=fun X=>Star (X) (QueryW (.pointer (some a1)) (.pointer (some b1)) ((qT 77 8 N).hear y))) (Fr.l Fr.id_ (QueryW.stab _ _ _)) HS5.out) 1 _ rfl;clear hs))
               | (go_at_call 52;((with_reducible refine (dQ_llen (v:=.pointer (some a1)) (m:=(qT 77 8 N).hear y) (n:=0) HH2.out (C:=fun X=>Star (CellW w.heap.size (yA y.from_ y.to_ y.slot y.slots y.anew y.nick) 32) X) (Fr.r cS Fr.id_) (cS.star (QueryW.stab _ _ _)) HS5.out).mono ?_);rintro e w6 ⟨rfl,hs⟩;have HS6:Hid (Done w [] (Star (CellW w.heap.size (yA y.from_ y.to_ y.slot y.slots y.anew y.nick) 32) (QueryW (.pointer (some a1)) (.pointer (some b1)) ((qT 77 8 N).hear y))) w6):=(by show Done _ _ _ _;exact hs);have cf_6:w6.cell? ⟨w.heap.size,0,none⟩=some (.int .u32 y.from_):=cell_at (Done.at_ (C:=fun X=>Star (X) (QueryW (.pointer (some a1)) (.pointer (some b1)) ((qT 77 8 N).hear y))) (Fr.l Fr.id_ (QueryW.stab _ _ _)) HS6.out) 0 _ rfl;have ct_6:w6.cell? ⟨w.heap.size,1,none⟩=some (.int .u32 y.to_):=cell_at (Done.at_ (C:=fun X=>Star (X) (QueryW (.pointer (some a1)) (.pointer (some b1)) ((qT 77 8 N).hear y))) (Fr.l Fr.id_ (QueryW.stab _ _ _)) HS6.out) 1 _ rfl;clear hs))
               | (go_at_call 54;((with_reducible refine (b2i16_any _ _).mono ?_);rintro e w' ⟨rfl,hw'⟩;rw [hw'];clear hw')))
              go_ret
              exact ⟨rfl,HS6.out.bel⟩
            · rcases k5:mayX y.xd with _ | _
              · have HMX:Hid (∀ w,Calls Tryz.prog 38 #[y.val] w fun e w' => e=.returned (.bool false)∧Below w.heap.size w w'):=by show ∀ _,_;intro w;have := RMayX_any y w HYN.out;rw [k5] at this;exact this
                obtain ⟨hh1,hh2⟩:=qT_hear (me:=77) (S:=8) (i:=N) (by decide) y (b:=false) (by rw [k5];simp)
                have HH1:=jzD hh1
                have HH2:Hid ((0:Int)=(((qT 77 8 N).hear y).log.l.length:Int)):=by show _=_;rw [hh2];rfl
                clear hh1 hh2
                have g1:decide ((0:Int) < (N:Int))=true:=decide_eq_true (by omega)
                have g1b:decide (0 < N)=true:=decide_eq_true (by omega)
                have g2:decide ((N:Int)≤65)=true:=decide_eq_true (by omega)
                have g2b:decide (N≤65)=true:=decide_eq_true (by omega)
                go_wp2_with (first
                 | (with_reducible refine wpList_loadD (C:=fun X=>Star (X) (QueryW (.pointer (some a1)) (.pointer (some b1)) (qT 77 8 N))) (Fr.l Fr.id_ (QueryW.stab _ _ _)) HS3.out rfl 32 (.tmp 3) rfl rfl _ Tryz.underlying32 rfl (by kernel_rfl) ?_)
                 | ((with_reducible refine wpList_loadGD (C:=fun X=>Star (X) (QueryW (.pointer (some a1)) (.pointer (some b1)) ((qT 77 8 N).hear y))) (Fr.l Fr.id_ (QueryW.stab _ _ _)) HS4.out (by kernel_rfl) 32 (.tmp 3) rfl rfl _ Tryz.underlying32 rfl (by kernel_rfl) ?_))
                 | (go_at_call 23;((with_reducible refine (dQ_hear (x:=y) (b:=false) (m' := (qT 77 8 N).hear y) HY.out HH1.out rfl (C:=fun X=>Star (CellW w.heap.size (yA y.from_ y.to_ y.slot y.slots y.anew y.nick) 32) X) (Fr.r cS Fr.id_) HS3.out).mono ?_);rintro e w4 ⟨rfl,hs⟩;have HS4:Hid (Done w [] (Star (CellW w.heap.size (yA y.from_ y.to_ y.slot y.slots y.anew y.nick) 32) (QueryW (.pointer (some a1)) (.pointer (some b1)) ((qT 77 8 N).hear y))) w4):=(by show Done _ _ _ _;exact hs);have cf_4:w4.cell? ⟨w.heap.size,0,none⟩=some (.int .u32 y.from_):=cell_at (Done.at_ (C:=fun X=>Star (X) (QueryW (.pointer (some a1)) (.pointer (some b1)) ((qT 77 8 N).hear y))) (Fr.l Fr.id_ (QueryW.stab _ _ _)) HS4.out) 0 _ rfl;have ct_4:w4.cell? ⟨w.heap.size,1,none⟩=some (.int .u32 y.to_):=cell_at (Done.at_ (C:=fun X=>Star (X) (QueryW (.pointer (some a1)) (.pointer (some b1)) ((qT 77 8 N).hear y))) (Fr.l Fr.id_ (QueryW.stab _ _ _)) HS4.out) 1 _ rfl;clear hs))
                 | (go_at_call 38;((with_reducible refine (dcalls_keep (cS.star (QueryW.stab _ _ _)) HS4.out (HMX.out _)).mono ?_);rintro e w5 ⟨rfl,hs⟩;have HS5:Hid (Done w [] (Star (CellW w.heap.size (yA y.from_ y.to_ y.slot y.slots y.anew y.nick) 32) (QueryW (.pointer (some a1)) (.pointer (some b1)) ((qT 77 8 N).hear y))) w5):=(by show Done _ _ _ _;exact hs);have cf_5:w5.cell? ⟨w.heap.size,0,none⟩=some (.int .u32 y.from_):=cell_at (Done.at_ (C:=fun X=>Star (X) (QueryW (.pointer (some a1)) (.pointer (some b1)) ((qT 77 8 N).hear y))) (Fr.l Fr.id_ (QueryW.stab _ _ _)) HS5.out) 0 _ rfl;have ct_5:w5.cell? ⟨w.heap.size,1,none⟩=some (.int .u32 y.to_):=cell_at (Done.at_ (C:=fun X=>Star (X) (QueryW (.pointer (some a1)) (.pointer (some b1)) ((qT 77 8 N).hear y))) (Fr.l Fr.id_ (QueryW.stab _ _ _)) HS5.out) 1 _ rfl;clear hs))
                 | (go_at_call 28;((with_reducible refine (dQ_log (u:=.pointer (some b1)) (C:=fun X=>Star (CellW w.heap.size (yA y.from_ y.to_ y.slot y.slots y.anew y.nick) 32) X) (Fr.r cS Fr.id_) (cS.star (QueryW.stab _ _ _)) HS5.out).mono ?_);rintro e w6 ⟨rfl,hs⟩;have HS6:Hid (Done w [] (Star (CellW w.heap.size (yA y.from_ y.to_ y.slot y.slots y.anew y.nick) 32) (QueryW (.pointer (some a1)) (.pointer (some b1)) ((qT 77 8 N).hear y))) w6):=(by show Done _ _ _ _;exact hs);have cf_6:w6.cell? ⟨w.heap.size,0,none⟩=some (.int .u32 y.from_):=cell_at (Done.at_ (C:=fun X=>Star (X) (QueryW (.pointer (some a1)) (.pointer (some b1)) ((qT 77 8 N).hear y))) (Fr.l Fr.id_ (QueryW.stab _ _ _)) HS6.out) 0 _ rfl;have ct_6:w6.cell? ⟨w.heap.size,1,none⟩=some (.int .u32 y.to_):=cell_at (Done.at_ (C:=fun X=>Star (X) (QueryW (.pointer (some a1)) (.pointer (some b1)) ((qT 77 8 N).hear y))) (Fr.l Fr.id_ (QueryW.stab _ _ _)) HS6.out) 1 _ rfl;clear hs))
                 | (go_at_call 52;((with_reducible refine (dQ_llen (v:=.pointer (some a1)) (m:=(qT 77 8 N).hear y) (n:=0) HH2.out (C:=fun X=>Star (CellW w.heap.size (yA y.from_ y.to_ y.slot y.slots y.anew y.nick) 32) X) (Fr.r cS Fr.id_) (cS.star (QueryW.stab _ _ _)) HS6.out).mono ?_);rintro e w7 ⟨rfl,hs⟩;have HS7:Hid (Done w [] (Star (CellW w.heap.size (yA y.from_ y.to_ y.slot y.slots y.anew y.nick) 32) (QueryW (.pointer (some a1)) (.pointer (some b1)) ((qT 77 8 N).hear y))) w7):=(by show Done _ _ _ _;exact hs);have cf_7:w7.cell? ⟨w.heap.size,0,none⟩=some (.int .u32 y.from_):=cell_at (Done.at_ (C:=fun X=>Star (X) (QueryW (.pointer (some a1)) (.pointer (some b1)) ((qT 77 8 N).hear y))) (Fr.l Fr.id_ (QueryW.stab _ _ _)) HS7.out) 0 _ rfl;have ct_7:w7.cell? ⟨w.heap.size,1,none⟩=some (.int .u32 y.to_):=cell_at (Done.at_ (C:=fun X=>Star (X) (QueryW (.pointer (some a1)) (.pointer (some b1)) ((qT 77 8 N).hear y))) (Fr.l Fr.id_ (QueryW.stab _ _ _)) HS7.out) 1 _ rfl;clear hs))
                 | (go_at_call 54;((with_reducible refine (b2i16_any _ _).mono ?_);rintro e w' ⟨rfl,hw'⟩;rw [hw'];clear hw')))
                go_ret
                exact ⟨rfl,HS7.out.bel⟩
              · have HMX:Hid (∀ w,Calls Tryz.prog 38 #[y.val] w fun e w' => e=.returned (.bool true)∧Below w.heap.size w w'):=by show ∀ _,_;intro w;have := RMayX_any y w HYN.out;rw [k5] at this;exact this
                obtain ⟨hh1,hh2⟩:=qT_hear (me:=77) (S:=8) (i:=N) (by decide) y (b:=true) (by rw [decide_eq_true ⟨by omega,by omega⟩,k3,k4,k5];rfl)
                have HH1:=jzD hh1
                have HH2:Hid ((1:Int)=(((qT 77 8 N).hear y).log.l.length:Int)):=by show _=_;rw [hh2];rfl
                clear hh1 hh2
                have g1:decide ((0:Int) < (N:Int))=true:=decide_eq_true (by omega)
                have g1b:decide (0 < N)=true:=decide_eq_true (by omega)
                have g2:decide ((N:Int)≤65)=true:=decide_eq_true (by omega)
                have g2b:decide (N≤65)=true:=decide_eq_true (by omega)
                go_wp2_with (first
                 | (with_reducible refine wpList_loadD (C:=fun X=>Star (X) (QueryW (.pointer (some a1)) (.pointer (some b1)) (qT 77 8 N))) (Fr.l Fr.id_ (QueryW.stab _ _ _)) HS3.out rfl 32 (.tmp 3) rfl rfl _ Tryz.underlying32 rfl (by kernel_rfl) ?_)
                 | ((with_reducible refine wpList_loadGD (C:=fun X=>Star (X) (QueryW (.pointer (some a1)) (.pointer (some b1)) ((qT 77 8 N).hear y))) (Fr.l Fr.id_ (QueryW.stab _ _ _)) HS4.out (by kernel_rfl) 32 (.tmp 3) rfl rfl _ Tryz.underlying32 rfl (by kernel_rfl) ?_))
                 | (go_at_call 23;((with_reducible refine (dQ_hear (x:=y) (b:=true) (m' := (qT 77 8 N).hear y) HY.out HH1.out rfl (C:=fun X=>Star (CellW w.heap.size (yA y.from_ y.to_ y.slot y.slots y.anew y.nick) 32) X) (Fr.r cS Fr.id_) HS3.out).mono ?_);rintro e w4 ⟨rfl,hs⟩;have HS4:Hid (Done w [] (Star (CellW w.heap.size (yA y.from_ y.to_ y.slot y.slots y.anew y.nick) 32) (QueryW (.pointer (some a1)) (.pointer (some b1)) ((qT 77 8 N).hear y))) w4):=(by show Done _ _ _ _;exact hs);have cf_4:w4.cell? ⟨w.heap.size,0,none⟩=some (.int .u32 y.from_):=cell_at (Done.at_ (C:=fun X=>Star (X) (QueryW (.pointer (some a1)) (.pointer (some b1)) ((qT 77 8 N).hear y))) (Fr.l Fr.id_ (QueryW.stab _ _ _)) HS4.out) 0 _ rfl;have ct_4:w4.cell? ⟨w.heap.size,1,none⟩=some (.int .u32 y.to_):=cell_at (Done.at_ (C:=fun X=>Star (X) (QueryW (.pointer (some a1)) (.pointer (some b1)) ((qT 77 8 N).hear y))) (Fr.l Fr.id_ (QueryW.stab _ _ _)) HS4.out) 1 _ rfl;clear hs))
                 | (go_at_call 38;((with_reducible refine (dcalls_keep (cS.star (QueryW.stab _ _ _)) HS4.out (HMX.out _)).mono ?_);rintro e w5 ⟨rfl,hs⟩;have HS5:Hid (Done w [] (Star (CellW w.heap.size (yA y.from_ y.to_ y.slot y.slots y.anew y.nick) 32) (QueryW (.pointer (some a1)) (.pointer (some b1)) ((qT 77 8 N).hear y))) w5):=(by show Done _ _ _ _;exact hs);have cf_5:w5.cell? ⟨w.heap.size,0,none⟩=some (.int .u32 y.from_):=cell_at (Done.at_ (C:=fun X=>Star (X) (QueryW (.pointer (some a1)) (.pointer (some b1)) ((qT 77 8 N).hear y))) (Fr.l Fr.id_ (QueryW.stab _ _ _)) HS5.out) 0 _ rfl;have ct_5:w5.cell? ⟨w.heap.size,1,none⟩=some (.int .u32 y.to_):=cell_at (Done.at_ (C:=fun X=>Star (X) (QueryW (.pointer (some a1)) (.pointer (some b1)) ((qT 77 8 N).hear y))) (Fr.l Fr.id_ (QueryW.stab _ _ _)) HS5.out) 1 _ rfl;clear hs))
                 | (go_at_call 28;((with_reducible refine (dQ_log (u:=.pointer (some b1)) (C:=fun X=>Star (CellW w.heap.size (yA y.from_ y.to_ y.slot y.slots y.anew y.nick) 32) X) (Fr.r cS Fr.id_) (cS.star (QueryW.stab _ _ _)) HS5.out).mono ?_);rintro e w6 ⟨rfl,hs⟩;have HS6:Hid (Done w [] (Star (CellW w.heap.size (yA y.from_ y.to_ y.slot y.slots y.anew y.nick) 32) (QueryW (.pointer (some a1)) (.pointer (some b1)) ((qT 77 8 N).hear y))) w6):=(by show Done _ _ _ _;exact hs);have cf_6:w6.cell? ⟨w.heap.size,0,none⟩=some (.int .u32 y.from_):=cell_at (Done.at_ (C:=fun X=>Star (X) (QueryW (.pointer (some a1)) (.pointer (some b1)) ((qT 77 8 N).hear y))) (Fr.l Fr.id_ (QueryW.stab _ _ _)) HS6.out) 0 _ rfl;have ct_6:w6.cell? ⟨w.heap.size,1,none⟩=some (.int .u32 y.to_):=cell_at (Done.at_ (C:=fun X=>Star (X) (QueryW (.pointer (some a1)) (.pointer (some b1)) ((qT 77 8 N).hear y))) (Fr.l Fr.id_ (QueryW.stab _ _ _)) HS6.out) 1 _ rfl;clear hs))
                 | (go_at_call 52;((with_reducible refine (dQ_llen (v:=.pointer (some a1)) (m:=(qT 77 8 N).hear y) (n:=1) HH2.out (C:=fun X=>Star (CellW w.heap.size (yA y.from_ y.to_ y.slot y.slots y.anew y.nick) 32) X) (Fr.r cS Fr.id_) (cS.star (QueryW.stab _ _ _)) HS6.out).mono ?_);rintro e w7 ⟨rfl,hs⟩;have HS7:Hid (Done w [] (Star (CellW w.heap.size (yA y.from_ y.to_ y.slot y.slots y.anew y.nick) 32) (QueryW (.pointer (some a1)) (.pointer (some b1)) ((qT 77 8 N).hear y))) w7):=(by show Done _ _ _ _;exact hs);have cf_7:w7.cell? ⟨w.heap.size,0,none⟩=some (.int .u32 y.from_):=cell_at (Done.at_ (C:=fun X=>Star (X) (QueryW (.pointer (some a1)) (.pointer (some b1)) ((qT 77 8 N).hear y))) (Fr.l Fr.id_ (QueryW.stab _ _ _)) HS7.out) 0 _ rfl;have ct_7:w7.cell? ⟨w.heap.size,1,none⟩=some (.int .u32 y.to_):=cell_at (Done.at_ (C:=fun X=>Star (X) (QueryW (.pointer (some a1)) (.pointer (some b1)) ((qT 77 8 N).hear y))) (Fr.l Fr.id_ (QueryW.stab _ _ _)) HS7.out) 1 _ rfl;clear hs))
                 | (go_at_call 54;((with_reducible refine (b2i16_any _ _).mono ?_);rintro e w' ⟨rfl,hw'⟩;rw [hw'];clear hw')))
                go_ret
                exact ⟨rfl,HS7.out.bel⟩
        · skip
          obtain ⟨hh1,hh2⟩:=qT_hear (me:=77) (S:=8) (i:=N) (by decide) y (b:=false) (by rw [decide_eq_false (by omega)];rfl)
          have HH1:=jzD hh1
          have HH2:Hid ((0:Int)=(((qT 77 8 N).hear y).log.l.length:Int)):=by show _=_;rw [hh2];rfl
          clear hh1 hh2
          have g1:decide ((0:Int) < (N:Int))=true:=decide_eq_true (by omega)
          have g1b:decide (0 < N)=true:=decide_eq_true (by omega)
          have g2:decide ((N:Int)≤65)=false:=decide_eq_false (by omega)
          have g2b:decide (N≤65)=false:=decide_eq_false (by omega)
          go_wp2_with (first
           | (with_reducible refine wpList_loadD (C:=fun X=>Star (X) (QueryW (.pointer (some a1)) (.pointer (some b1)) (qT 77 8 N))) (Fr.l Fr.id_ (QueryW.stab _ _ _)) HS3.out rfl 32 (.tmp 3) rfl rfl _ Tryz.underlying32 rfl (by kernel_rfl) ?_)
           | (go_at_call 23;((with_reducible refine (dQ_hear (x:=y) (b:=false) (m' := (qT 77 8 N).hear y) HY.out HH1.out rfl (C:=fun X=>Star (CellW w.heap.size (yA y.from_ y.to_ y.slot y.slots y.anew y.nick) 32) X) (Fr.r cS Fr.id_) HS3.out).mono ?_);rintro e w4 ⟨rfl,hs⟩;have HS4:Hid (Done w [] (Star (CellW w.heap.size (yA y.from_ y.to_ y.slot y.slots y.anew y.nick) 32) (QueryW (.pointer (some a1)) (.pointer (some b1)) ((qT 77 8 N).hear y))) w4):=(by show Done _ _ _ _;exact hs);have cf_4:w4.cell? ⟨w.heap.size,0,none⟩=some (.int .u32 y.from_):=cell_at (Done.at_ (C:=fun X=>Star (X) (QueryW (.pointer (some a1)) (.pointer (some b1)) ((qT 77 8 N).hear y))) (Fr.l Fr.id_ (QueryW.stab _ _ _)) HS4.out) 0 _ rfl;have ct_4:w4.cell? ⟨w.heap.size,1,none⟩=some (.int .u32 y.to_):=cell_at (Done.at_ (C:=fun X=>Star (X) (QueryW (.pointer (some a1)) (.pointer (some b1)) ((qT 77 8 N).hear y))) (Fr.l Fr.id_ (QueryW.stab _ _ _)) HS4.out) 1 _ rfl;clear hs))
           | (go_at_call 28;((with_reducible refine (dQ_log (u:=.pointer (some b1)) (C:=fun X=>Star (CellW w.heap.size (yA y.from_ y.to_ y.slot y.slots y.anew y.nick) 32) X) (Fr.r cS Fr.id_) (cS.star (QueryW.stab _ _ _)) HS4.out).mono ?_);rintro e w5 ⟨rfl,hs⟩;have HS5:Hid (Done w [] (Star (CellW w.heap.size (yA y.from_ y.to_ y.slot y.slots y.anew y.nick) 32) (QueryW (.pointer (some a1)) (.pointer (some b1)) ((qT 77 8 N).hear y))) w5):=(by show Done _ _ _ _;exact hs);have cf_5:w5.cell? ⟨w.heap.size,0,none⟩=some (.int .u32 y.from_):=cell_at (Done.at_ (C:=fun X=>Star (X) (QueryW (.pointer (some a1)) (.pointer (some b1)) ((qT 77 8 N).hear y))) (Fr.l Fr.id_ (QueryW.stab _ _ _)) HS5.out) 0 _ rfl;have ct_5:w5.cell? ⟨w.heap.size,1,none⟩=some (.int .u32 y.to_):=cell_at (Done.at_ (C:=fun X=>Star (X) (QueryW (.pointer (some a1)) (.pointer (some b1)) ((qT 77 8 N).hear y))) (Fr.l Fr.id_ (QueryW.stab _ _ _)) HS5.out) 1 _ rfl;clear hs))
           | (go_at_call 52;((with_reducible refine (dQ_llen (v:=.pointer (some a1)) (m:=(qT 77 8 N).hear y) (n:=0) HH2.out (C:=fun X=>Star (CellW w.heap.size (yA y.from_ y.to_ y.slot y.slots y.anew y.nick) 32) X) (Fr.r cS Fr.id_) (cS.star (QueryW.stab _ _ _)) HS5.out).mono ?_);rintro e w6 ⟨rfl,hs⟩;have HS6:Hid (Done w [] (Star (CellW w.heap.size (yA y.from_ y.to_ y.slot y.slots y.anew y.nick) 32) (QueryW (.pointer (some a1)) (.pointer (some b1)) ((qT 77 8 N).hear y))) w6):=(by show Done _ _ _ _;exact hs);have cf_6:w6.cell? ⟨w.heap.size,0,none⟩=some (.int .u32 y.from_):=cell_at (Done.at_ (C:=fun X=>Star (X) (QueryW (.pointer (some a1)) (.pointer (some b1)) ((qT 77 8 N).hear y))) (Fr.l Fr.id_ (QueryW.stab _ _ _)) HS6.out) 0 _ rfl;have ct_6:w6.cell? ⟨w.heap.size,1,none⟩=some (.int .u32 y.to_):=cell_at (Done.at_ (C:=fun X=>Star (X) (QueryW (.pointer (some a1)) (.pointer (some b1)) ((qT 77 8 N).hear y))) (Fr.l Fr.id_ (QueryW.stab _ _ _)) HS6.out) 1 _ rfl;clear hs))
           | (go_at_call 54;((with_reducible refine (b2i16_any _ _).mono ?_);rintro e w' ⟨rfl,hw'⟩;rw [hw'];clear hw')))
          go_ret
          exact ⟨rfl,HS6.out.bel⟩
      · skip
        obtain ⟨hh1,hh2⟩:=qT_hear (me:=77) (S:=8) (i:=N) (by decide) y (b:=false) (by rw [decide_eq_false (by omega)];rfl)
        have HH1:=jzD hh1
        have HH2:Hid ((0:Int)=(((qT 77 8 N).hear y).log.l.length:Int)):=by show _=_;rw [hh2];rfl
        clear hh1 hh2
        have g1:decide ((0:Int) < (N:Int))=false:=decide_eq_false (by omega)
        have g1b:decide (0 < N)=false:=decide_eq_false (by omega)
        go_wp2_with (first
         | (with_reducible refine wpList_loadD (C:=fun X=>Star (X) (QueryW (.pointer (some a1)) (.pointer (some b1)) (qT 77 8 N))) (Fr.l Fr.id_ (QueryW.stab _ _ _)) HS3.out rfl 32 (.tmp 3) rfl rfl _ Tryz.underlying32 rfl (by kernel_rfl) ?_)
         | (go_at_call 23;((with_reducible refine (dQ_hear (x:=y) (b:=false) (m' := (qT 77 8 N).hear y) HY.out HH1.out rfl (C:=fun X=>Star (CellW w.heap.size (yA y.from_ y.to_ y.slot y.slots y.anew y.nick) 32) X) (Fr.r cS Fr.id_) HS3.out).mono ?_);rintro e w4 ⟨rfl,hs⟩;have HS4:Hid (Done w [] (Star (CellW w.heap.size (yA y.from_ y.to_ y.slot y.slots y.anew y.nick) 32) (QueryW (.pointer (some a1)) (.pointer (some b1)) ((qT 77 8 N).hear y))) w4):=(by show Done _ _ _ _;exact hs);have cf_4:w4.cell? ⟨w.heap.size,0,none⟩=some (.int .u32 y.from_):=cell_at (Done.at_ (C:=fun X=>Star (X) (QueryW (.pointer (some a1)) (.pointer (some b1)) ((qT 77 8 N).hear y))) (Fr.l Fr.id_ (QueryW.stab _ _ _)) HS4.out) 0 _ rfl;have ct_4:w4.cell? ⟨w.heap.size,1,none⟩=some (.int .u32 y.to_):=cell_at (Done.at_ (C:=fun X=>Star (X) (QueryW (.pointer (some a1)) (.pointer (some b1)) ((qT 77 8 N).hear y))) (Fr.l Fr.id_ (QueryW.stab _ _ _)) HS4.out) 1 _ rfl;clear hs))
         | (go_at_call 28;((with_reducible refine (dQ_log (u:=.pointer (some b1)) (C:=fun X=>Star (CellW w.heap.size (yA y.from_ y.to_ y.slot y.slots y.anew y.nick) 32) X) (Fr.r cS Fr.id_) (cS.star (QueryW.stab _ _ _)) HS4.out).mono ?_);rintro e w5 ⟨rfl,hs⟩;have HS5:Hid (Done w [] (Star (CellW w.heap.size (yA y.from_ y.to_ y.slot y.slots y.anew y.nick) 32) (QueryW (.pointer (some a1)) (.pointer (some b1)) ((qT 77 8 N).hear y))) w5):=(by show Done _ _ _ _;exact hs);have cf_5:w5.cell? ⟨w.heap.size,0,none⟩=some (.int .u32 y.from_):=cell_at (Done.at_ (C:=fun X=>Star (X) (QueryW (.pointer (some a1)) (.pointer (some b1)) ((qT 77 8 N).hear y))) (Fr.l Fr.id_ (QueryW.stab _ _ _)) HS5.out) 0 _ rfl;have ct_5:w5.cell? ⟨w.heap.size,1,none⟩=some (.int .u32 y.to_):=cell_at (Done.at_ (C:=fun X=>Star (X) (QueryW (.pointer (some a1)) (.pointer (some b1)) ((qT 77 8 N).hear y))) (Fr.l Fr.id_ (QueryW.stab _ _ _)) HS5.out) 1 _ rfl;clear hs))
         | (go_at_call 52;((with_reducible refine (dQ_llen (v:=.pointer (some a1)) (m:=(qT 77 8 N).hear y) (n:=0) HH2.out (C:=fun X=>Star (CellW w.heap.size (yA y.from_ y.to_ y.slot y.slots y.anew y.nick) 32) X) (Fr.r cS Fr.id_) (cS.star (QueryW.stab _ _ _)) HS5.out).mono ?_);rintro e w6 ⟨rfl,hs⟩;have HS6:Hid (Done w [] (Star (CellW w.heap.size (yA y.from_ y.to_ y.slot y.slots y.anew y.nick) 32) (QueryW (.pointer (some a1)) (.pointer (some b1)) ((qT 77 8 N).hear y))) w6):=(by show Done _ _ _ _;exact hs);have cf_6:w6.cell? ⟨w.heap.size,0,none⟩=some (.int .u32 y.from_):=cell_at (Done.at_ (C:=fun X=>Star (X) (QueryW (.pointer (some a1)) (.pointer (some b1)) ((qT 77 8 N).hear y))) (Fr.l Fr.id_ (QueryW.stab _ _ _)) HS6.out) 0 _ rfl;have ct_6:w6.cell? ⟨w.heap.size,1,none⟩=some (.int .u32 y.to_):=cell_at (Done.at_ (C:=fun X=>Star (X) (QueryW (.pointer (some a1)) (.pointer (some b1)) ((qT 77 8 N).hear y))) (Fr.l Fr.id_ (QueryW.stab _ _ _)) HS6.out) 1 _ rfl;clear hs))
         | (go_at_call 54;((with_reducible refine (b2i16_any _ _).mono ?_);rintro e w' ⟨rfl,hw'⟩;rw [hw'];clear hw')))
        go_ret
        exact ⟨rfl,HS6.out.bel⟩
end Go.Proofs.YtjddbjmcjhjpiaaGreatDoor
