/- The law LogClash. -/
import Derived.Test.YtjddbjmcjhjpiaaGreatDoorN16J
import Derived.Test.YtjddbjmcjhjpiaaGreatDoorM4H

set_option linter.all false

namespace Go.Proofs.YtjddbjmcjhjpiaaGreatDoor
set_option maxRecDepth 100000
set_option maxHeartbeats 32000000
open Go.RowKit M

theorem tl_eq {x y:ByteArray}:x.toList=y.toList ↔ x=y:=by
 rw [ba_eq]
 constructor
 · intro h
   exact ByteArray.ext (Array.toList_inj.1 h)
 · rintro rfl
   rfl
theorem clash_first (me:Int) (x:XIn) (hx:mayX x.xd=true):(LogM.new me).addB x=(x.from_ != me)∧(LogM.new me).add x=(if x.from_=me then ⟨me,[],[x.from_]⟩ else ⟨me,[⟨x.from_,x.nick,x.slot⟩],[]⟩):=by
 have hw:(LogM.new me).who x.from_=none:=rfl
 refine ⟨?_,?_⟩
 · unfold LogM.addB
   rw [hw,hx]
   show (true && (x.from_ != me && decide ((0:Nat) < 16)))=_
   rw [decide_eq_true (by decide),Bool.and_true,Bool.true_and]
 · unfold LogM.add
   rw [hw,hx,if_pos rfl]
   rfl
theorem clash_two {me:Int} {x y:XIn} (hx:mayX x.xd=true) (hy:mayX y.xd=true):((LogM.new me).add x).addB y=(y.from_ != me && (x.from_ != y.from_ || (x.nick == y.nick && x.slot == y.slot)))∧(0 < (((LogM.new me).add x).add y).clash.length ↔ (x.from_=me ∨ y.from_=me ∨ (x.from_=y.from_∧¬ (x.nick=y.nick∧x.slot=y.slot)))):=by
 obtain ⟨-,h2⟩:=clash_first me x hx
 rw [h2]
 by_cases hxm:x.from_=me
 · rw [if_pos hxm]
   have hw:(⟨me,[],[x.from_]⟩:LogM).who y.from_=none:=rfl
   refine ⟨?_,?_⟩
   · unfold LogM.addB
     rw [hw,hy]
     show (true && (y.from_ != me && decide ((0:Nat) < 16)))=_
     rw [decide_eq_true (by decide),Bool.and_true,Bool.true_and]
     by_cases hym:y.from_=me
     · simp [hym]
     · have : (x.from_ != y.from_)=true:=bne_iff_ne.2 (fun h=>hym (h ▸ hxm))
       rw [this]
       simp
   · have : 0 < ((⟨me,[],[x.from_]⟩:LogM).add y).clash.length:=by
      unfold LogM.add
      rw [hw,hy,if_pos rfl]
      split
      · exact List.length_pos_iff.2 (insC_ne _ _)
      · show 0 < (if (0:Nat) < 16 then (⟨me,[] ++ [⟨y.from_,y.nick,y.slot⟩],[x.from_]⟩:LogM) else _).clash.length
        rw [if_pos (by decide)]
        exact Nat.zero_lt_one
     exact ⟨fun _=>.inl hxm,fun _=>this⟩
 · rw [if_neg hxm]
   have hw:(⟨me,[⟨x.from_,x.nick,x.slot⟩],[]⟩:LogM).who y.from_=(if x.from_=y.from_ then some ⟨x.from_,x.nick,x.slot⟩ else none):=by
    unfold LogM.who
    by_cases h:x.from_=y.from_
    · rw [if_pos h];simp [h]
    · rw [if_neg h];simp [h]
   refine ⟨?_,?_⟩
   · unfold LogM.addB
     rw [hw,hy]
     by_cases h:x.from_=y.from_
     · rw [if_pos h]
       have : (x.from_ != y.from_)=false:=by simp [h]
       rw [this]
       simp [LogM.same]
     · rw [if_neg h]
       have : (x.from_ != y.from_)=true:=bne_iff_ne.2 h
       rw [this]
       show (true && (y.from_ != me && decide ((1:Nat) < 16)))=_
       rw [decide_eq_true (by decide)]
       simp
   · unfold LogM.add
     rw [hw,hy,if_pos rfl]
     by_cases hym:y.from_=me
     · rw [if_pos hym]
       exact ⟨fun _=>.inr (.inl hym),fun _=>List.length_pos_iff.2 (insC_ne _ _)⟩
     · rw [if_neg hym]
       by_cases h:x.from_=y.from_
       · rw [if_pos h]
         show 0 < (if LogM.same ⟨x.from_,x.nick,x.slot⟩ y=true then (⟨me,[⟨x.from_,x.nick,x.slot⟩],[]⟩:LogM) else ⟨me,[⟨x.from_,x.nick,x.slot⟩],insC y.from_ []⟩).clash.length ↔ _
         by_cases hs:x.nick=y.nick∧x.slot=y.slot
         · have : LogM.same ⟨x.from_,x.nick,x.slot⟩ y=true:=by simp [LogM.same,ba_beq,hs.1,hs.2]
           rw [if_pos this]
           exact ⟨fun h=>absurd h (Nat.lt_irrefl 0),fun h' => by rcases h' with h1 | h1 | h1;exact absurd h1 hxm;exact absurd h1 hym;exact absurd hs h1.2⟩
         · have : ¬ LogM.same ⟨x.from_,x.nick,x.slot⟩ y=true:=by
            intro h1
            simp [LogM.same,ba_beq] at h1
            exact hs h1
           rw [if_neg this]
           exact ⟨fun _=>.inr (.inr ⟨h,hs⟩),fun _=>Nat.zero_lt_one⟩
       · rw [if_neg h]
         show 0 < (if (1:Nat) < 16 then (⟨me,[⟨x.from_,x.nick,x.slot⟩] ++ [⟨y.from_,y.nick,y.slot⟩],[]⟩:LogM) else _).clash.length ↔ _
         rw [if_pos (by decide)]
         exact ⟨fun h=>absurd h (Nat.lt_irrefl 0),fun h' => by rcases h' with h1 | h1 | h1;exact absurd h1 hxm;exact absurd h1 hym;exact absurd h1.1 h⟩
theorem LogClash_law (x y:XIn) (me:Int) (w:World) (hx:x.ok) (hy:y.ok) (hme:(Lit.int .u32 me).wf=true) (hC:Codes w):Calls Tryz.prog 8 #[x.val,y.val,.int .u32 me] w fun e w' => e=.returned (.bool true)∧Below w.heap.size w w' := by
 have HC:=jzD hC
 have HME:=jzD hme
 have hxx:=fun w=>X1_any x hx w
 have hyy:=fun w=>X1_any y hy w
 have hxn:=XIn.cut_len x
 have hyn:=XIn.cut_len y
 have hxo:=XIn.cut_ok hx
 have hyo:=XIn.cut_ok hy
 have HS0:Hid (Done w [] (Star (CellW w.heap.size (yA x.from_ x.to_ x.slot x.slots x.anew x.nick) 32) (CellW (w.heap.size + 1) (yA y.from_ y.to_ y.slot y.slots y.anew y.nick) 32)) ((w.alloc (.cells (yA x.from_ x.to_ x.slot x.slots x.anew x.nick) 32)).alloc (.cells (yA y.from_ y.to_ y.slot y.slots y.anew y.nick) 32))):=by
  have h2:=CellW.new (w.alloc (.cells (yA x.from_ x.to_ x.slot x.slots x.anew x.nick) 32)) #[.int .u32 y.from_,.int .u32 y.to_,.int .i64 y.slot,.int .i64 y.slots,.bool y.anew,.string y.nick] 32
  rw [show (w.alloc (.cells (yA x.from_ x.to_ x.slot x.slots x.anew x.nick) 32)).heap.size=w.heap.size + 1 by simp only [World.alloc,Array.size_push]] at h2
  exact (CellW.new w #[.int .u32 x.from_,.int .u32 x.to_,.int .i64 x.slot,.int .i64 x.slots,.bool x.anew,.string x.nick] 32).add cS h2
 generalize x.cut=x1 at hxx hxn hxo
 generalize y.cut=y1 at hyy hyn hyo
 obtain ⟨xf,xt,xs,xn,xa,xk⟩:=x1
 obtain ⟨yf,yt,ys,yn,ya,yk⟩:=y1
 have HXX:=jzD hxx
 have HYY:=jzD hyy
 have HXN:Hid (xk.size≤1000000):=by show _≤_;simp only at hxn;omega
 have HYN:Hid (yk.size≤1000000):=by show _≤_;simp only at hyn;omega
 have HXO:=jzD hxo
 have HYO:=jzD hyo
 clear hC hx hy hxx hyy hxn hyn hxo hyo hme
 go_enter Tryz.func8,Tryz.ntmps8
 go_wp2_with (go_at_call 18;((with_reducible refine (dcalls_keep (cS.star cS) HS0.out (begun16_any _ (HC.out.below HS0.out.bel))).mono ?_);rintro e w1 ⟨rfl,hs⟩;have HS1:=jzD hs;clear hs))
 have HSd:=jzD (HS1.out.drewD (cS.star cS))
 have HEd:Hid ((fun _=>True) w1.drew):=jzD trivial
 refine' region_shared (fun W=>Done w [] (Star (CellW w.heap.size (yA xf xt xs xn xa xk) 32) (CellW (w.heap.size + 1) (yA yf yt ys yn ya yk) 32)) W) _ ?cont ?reg
 case reg =>
  intro hK
  refine rests_begin (fun _=>True) (by kernel_rfl) ?_
  refine rests_two 0 2 (oi:=_) (oj:=_) (by simp only [jzG,jzH,jzI];rfl) (by simp only [jzG,jzH,jzI];rfl) (by kernel_rfl) (by rfl) (by rfl) ?_ ?_
  · refine wp_val (v:=.agg #[.int .u32 x.from_,.int .u32 x.to_,.int .i64 x.slot,.int .i64 x.slots,.bool x.anew,.string x.nick]) (w' := w1.drew) (exec_loadB rfl rfl (Done.at_ (C:=fun X=>Star (X) (CellW (w.heap.size + 1) (yA y.from_ y.to_ y.slot y.slots y.anew y.nick) 32)) (Fr.l Fr.id_ cS) HSd.out) Tryz.underlying32 rfl (by kernel_rfl)) ⟨HEd.out,?_⟩
    simp only [Act.put,jzU,jzV,jzW]
    refine rests_two 1 2 (oi:=_) (oj:=_) (by simp only [jzG,jzH,jzI];rfl) (by simp only [jzG,jzH,jzI];rfl) (by kernel_rfl) (by rfl) (by rfl) ?_ ?_
    · refine wp_enter (f:=22) (args:=#[.agg #[.int .u32 x.from_,.int .u32 x.to_,.int .i64 x.slot,.int .i64 x.slots,.bool x.anew,.string x.nick]]) (by go_simp) (dcalls_keep (cS.star cS) HSd.out (HXX.out _)) ?_
      rintro e w2 ⟨rfl,hs⟩;have HS2:=jzD hs;have HE2:Hid ((fun _=>True) w2):=jzD trivial;refine ⟨_,rfl,HE2.out,?_⟩;clear hs
      simp only [Act.put,jzU,jzV,jzW]
      refine rests_run 2 (oi:=_) (by simp only [jzG,jzH,jzI];rfl) (by kernel_rfl) (by rfl) (.agg #[.int .u32 y.from_,.int .u32 y.to_,.int .i64 y.slot,.int .i64 y.slots,.bool y.anew,.string y.nick]) (w2) (exec_loadB rfl rfl (Done.at_ (C:=fun X=>Star (CellW w.heap.size (yA x.from_ x.to_ x.slot x.slots x.anew x.nick) 32) X) (Fr.r cS Fr.id_) HS2.out) Tryz.underlying32 rfl (by kernel_rfl)) ⟨HE2.out,?_⟩
      simp only [Act.put,jzU,jzV,jzW]
      refine rests_call 3 (oi:=_) (by simp only [jzG,jzH,jzI];rfl) 22 #[.agg #[.int .u32 y.from_,.int .u32 y.to_,.int .i64 y.slot,.int .i64 y.slots,.bool y.anew,.string y.nick]] _ (by kernel_rfl) (by rfl) (by go_simp) (dcalls_keep (cS.star cS) HS2.out (HYY.out _)) ?_
      rintro e w3 ⟨rfl,hs⟩;have HS3:=jzD hs;have HE3:Hid ((fun _=>True) w3):=jzD trivial;refine ⟨_,rfl,HE3.out,?_⟩;clear hs
      simp only [Act.put,jzU,jzV,jzW]
      refine rests_storeB 4 (oi:=_) (by simp only [jzG,jzH,jzI];rfl) (by kernel_rfl) (by rfl) 32 (.tmp 3) (.tmp 16) rfl w.heap.size #[.int .u32 xf,.int .u32 xt,.int .i64 xs,.int .i64 xn,.bool xa,.string xk] rfl rfl 32 _ (Done.at_ (C:=fun X=>Star (X) (CellW (w.heap.size + 1) (yA y.from_ y.to_ y.slot y.slots y.anew y.nick) 32)) (Fr.l Fr.id_ cS) HS3.out) (by kernel_rfl) rfl (by simp [Value.oneCell']) ?_
      intro w4 hg _ hh;have HS4:Hid (Done w [] (Star (CellW w.heap.size (yA xf xt xs xn xa xk) 32) (CellW (w.heap.size + 1) (yA y.from_ y.to_ y.slot y.slots y.anew y.nick) 32)) w4):=Done.put_ (C:=fun X=>Star (X) (CellW (w.heap.size + 1) (yA y.from_ y.to_ y.slot y.slots y.anew y.nick) 32)) (Fr.l Fr.id_ cS) HS3.out hg hh;have HE4:Hid ((fun _=>True) w4):=jzD trivial;refine ⟨HE4.out,?_⟩;clear hg hh
      simp only [Act.put,jzU,jzV,jzW]
      refine rests_storeB 5 (oi:=_) (by simp only [jzG,jzH,jzI];rfl) (by kernel_rfl) (by rfl) 32 (.tmp 4) (.tmp 18) rfl (w.heap.size + 1) #[.int .u32 yf,.int .u32 yt,.int .i64 ys,.int .i64 yn,.bool ya,.string yk] rfl rfl 32 _ (Done.at_ (C:=fun X=>Star (CellW w.heap.size (yA xf xt xs xn xa xk) 32) X) (Fr.r cS Fr.id_) HS4.out) (by kernel_rfl) rfl (by simp [Value.oneCell']) ?_
      intro w5 hg _ hh;have HS5:Hid (Done w [] (Star (CellW w.heap.size (yA xf xt xs xn xa xk) 32) (CellW (w.heap.size + 1) (yA yf yt ys yn ya yk) 32)) w5):=Done.put_ (C:=fun X=>Star (CellW w.heap.size (yA xf xt xs xn xa xk) 32) X) (Fr.r cS Fr.id_) HS4.out hg hh;have HE5:Hid ((fun _=>True) w5):=jzD trivial;refine ⟨HE5.out,?_⟩;clear hg hh
      simp only [Act.put,jzU,jzV,jzW]
      refine rests_done (by kernel_rfl) ?_
      exact hK w5 HS5.out
    · refine wp_val (v:=.agg #[.int .u32 y.from_,.int .u32 y.to_,.int .i64 y.slot,.int .i64 y.slots,.bool y.anew,.string y.nick]) (w' := w1.drew) (exec_loadB rfl rfl (Done.at_ (C:=fun X=>Star (CellW w.heap.size (yA x.from_ x.to_ x.slot x.slots x.anew x.nick) 32) X) (Fr.r cS Fr.id_) HSd.out) Tryz.underlying32 rfl (by kernel_rfl)) ⟨HEd.out,?_⟩
      simp only [Act.put,jzU,jzV,jzW]
      refine rests_call 1 (oi:=_) (by simp only [jzG,jzH,jzI];rfl) 22 #[.agg #[.int .u32 x.from_,.int .u32 x.to_,.int .i64 x.slot,.int .i64 x.slots,.bool x.anew,.string x.nick]] _ (by kernel_rfl) (by rfl) (by go_simp) (dcalls_keep (cS.star cS) HSd.out (HXX.out _)) ?_
      rintro e w2 ⟨rfl,hs⟩;have HS2:=jzD hs;have HE2:Hid ((fun _=>True) w2):=jzD trivial;refine ⟨_,rfl,HE2.out,?_⟩;clear hs
      simp only [Act.put,jzU,jzV,jzW]
      refine rests_call 3 (oi:=_) (by simp only [jzG,jzH,jzI];rfl) 22 #[.agg #[.int .u32 y.from_,.int .u32 y.to_,.int .i64 y.slot,.int .i64 y.slots,.bool y.anew,.string y.nick]] _ (by kernel_rfl) (by rfl) (by go_simp) (dcalls_keep (cS.star cS) HS2.out (HYY.out _)) ?_
      rintro e w3 ⟨rfl,hs⟩;have HS3:=jzD hs;have HE3:Hid ((fun _=>True) w3):=jzD trivial;refine ⟨_,rfl,HE3.out,?_⟩;clear hs
      simp only [Act.put,jzU,jzV,jzW]
      refine rests_storeB 4 (oi:=_) (by simp only [jzG,jzH,jzI];rfl) (by kernel_rfl) (by rfl) 32 (.tmp 3) (.tmp 16) rfl w.heap.size #[.int .u32 xf,.int .u32 xt,.int .i64 xs,.int .i64 xn,.bool xa,.string xk] rfl rfl 32 _ (Done.at_ (C:=fun X=>Star (X) (CellW (w.heap.size + 1) (yA y.from_ y.to_ y.slot y.slots y.anew y.nick) 32)) (Fr.l Fr.id_ cS) HS3.out) (by kernel_rfl) rfl (by simp [Value.oneCell']) ?_
      intro w4 hg _ hh;have HS4:Hid (Done w [] (Star (CellW w.heap.size (yA xf xt xs xn xa xk) 32) (CellW (w.heap.size + 1) (yA y.from_ y.to_ y.slot y.slots y.anew y.nick) 32)) w4):=Done.put_ (C:=fun X=>Star (X) (CellW (w.heap.size + 1) (yA y.from_ y.to_ y.slot y.slots y.anew y.nick) 32)) (Fr.l Fr.id_ cS) HS3.out hg hh;have HE4:Hid ((fun _=>True) w4):=jzD trivial;refine ⟨HE4.out,?_⟩;clear hg hh
      simp only [Act.put,jzU,jzV,jzW]
      refine rests_storeB 5 (oi:=_) (by simp only [jzG,jzH,jzI];rfl) (by kernel_rfl) (by rfl) 32 (.tmp 4) (.tmp 18) rfl (w.heap.size + 1) #[.int .u32 yf,.int .u32 yt,.int .i64 ys,.int .i64 yn,.bool ya,.string yk] rfl rfl 32 _ (Done.at_ (C:=fun X=>Star (CellW w.heap.size (yA xf xt xs xn xa xk) 32) X) (Fr.r cS Fr.id_) HS4.out) (by kernel_rfl) rfl (by simp [Value.oneCell']) ?_
      intro w5 hg _ hh;have HS5:Hid (Done w [] (Star (CellW w.heap.size (yA xf xt xs xn xa xk) 32) (CellW (w.heap.size + 1) (yA yf yt ys yn ya yk) 32)) w5):=Done.put_ (C:=fun X=>Star (CellW w.heap.size (yA xf xt xs xn xa xk) 32) X) (Fr.r cS Fr.id_) HS4.out hg hh;have HE5:Hid ((fun _=>True) w5):=jzD trivial;refine ⟨HE5.out,?_⟩;clear hg hh
      simp only [Act.put,jzU,jzV,jzW]
      refine rests_done (by kernel_rfl) ?_
      exact hK w5 HS5.out
  · refine wp_val (v:=.agg #[.int .u32 y.from_,.int .u32 y.to_,.int .i64 y.slot,.int .i64 y.slots,.bool y.anew,.string y.nick]) (w' := w1.drew) (exec_loadB rfl rfl (Done.at_ (C:=fun X=>Star (CellW w.heap.size (yA x.from_ x.to_ x.slot x.slots x.anew x.nick) 32) X) (Fr.r cS Fr.id_) HSd.out) Tryz.underlying32 rfl (by kernel_rfl)) ⟨HEd.out,?_⟩
    simp only [Act.put,jzU,jzV,jzW]
    refine rests_run 0 (oi:=_) (by simp only [jzG,jzH,jzI];rfl) (by kernel_rfl) (by rfl) (.agg #[.int .u32 x.from_,.int .u32 x.to_,.int .i64 x.slot,.int .i64 x.slots,.bool x.anew,.string x.nick]) (w1.drew) (exec_loadB rfl rfl (Done.at_ (C:=fun X=>Star (X) (CellW (w.heap.size + 1) (yA y.from_ y.to_ y.slot y.slots y.anew y.nick) 32)) (Fr.l Fr.id_ cS) HSd.out) Tryz.underlying32 rfl (by kernel_rfl)) ⟨HEd.out,?_⟩
    simp only [Act.put,jzU,jzV,jzW]
    refine rests_call 1 (oi:=_) (by simp only [jzG,jzH,jzI];rfl) 22 #[.agg #[.int .u32 x.from_,.int .u32 x.to_,.int .i64 x.slot,.int .i64 x.slots,.bool x.anew,.string x.nick]] _ (by kernel_rfl) (by rfl) (by go_simp) (dcalls_keep (cS.star cS) HSd.out (HXX.out _)) ?_
    rintro e w2 ⟨rfl,hs⟩;have HS2:=jzD hs;have HE2:Hid ((fun _=>True) w2):=jzD trivial;refine ⟨_,rfl,HE2.out,?_⟩;clear hs
    simp only [Act.put,jzU,jzV,jzW]
    refine rests_call 3 (oi:=_) (by simp only [jzG,jzH,jzI];rfl) 22 #[.agg #[.int .u32 y.from_,.int .u32 y.to_,.int .i64 y.slot,.int .i64 y.slots,.bool y.anew,.string y.nick]] _ (by kernel_rfl) (by rfl) (by go_simp) (dcalls_keep (cS.star cS) HS2.out (HYY.out _)) ?_
    rintro e w3 ⟨rfl,hs⟩;have HS3:=jzD hs;have HE3:Hid ((fun _=>True) w3):=jzD trivial;refine ⟨_,rfl,HE3.out,?_⟩;clear hs
    simp only [Act.put,jzU,jzV,jzW]
    refine rests_storeB 4 (oi:=_) (by simp only [jzG,jzH,jzI];rfl) (by kernel_rfl) (by rfl) 32 (.tmp 3) (.tmp 16) rfl w.heap.size #[.int .u32 xf,.int .u32 xt,.int .i64 xs,.int .i64 xn,.bool xa,.string xk] rfl rfl 32 _ (Done.at_ (C:=fun X=>Star (X) (CellW (w.heap.size + 1) (yA y.from_ y.to_ y.slot y.slots y.anew y.nick) 32)) (Fr.l Fr.id_ cS) HS3.out) (by kernel_rfl) rfl (by simp [Value.oneCell']) ?_
    intro w4 hg _ hh;have HS4:Hid (Done w [] (Star (CellW w.heap.size (yA xf xt xs xn xa xk) 32) (CellW (w.heap.size + 1) (yA y.from_ y.to_ y.slot y.slots y.anew y.nick) 32)) w4):=Done.put_ (C:=fun X=>Star (X) (CellW (w.heap.size + 1) (yA y.from_ y.to_ y.slot y.slots y.anew y.nick) 32)) (Fr.l Fr.id_ cS) HS3.out hg hh;have HE4:Hid ((fun _=>True) w4):=jzD trivial;refine ⟨HE4.out,?_⟩;clear hg hh
    simp only [Act.put,jzU,jzV,jzW]
    refine rests_storeB 5 (oi:=_) (by simp only [jzG,jzH,jzI];rfl) (by kernel_rfl) (by rfl) 32 (.tmp 4) (.tmp 18) rfl (w.heap.size + 1) #[.int .u32 yf,.int .u32 yt,.int .i64 ys,.int .i64 yn,.bool ya,.string yk] rfl rfl 32 _ (Done.at_ (C:=fun X=>Star (CellW w.heap.size (yA xf xt xs xn xa xk) 32) X) (Fr.r cS Fr.id_) HS4.out) (by kernel_rfl) rfl (by simp [Value.oneCell']) ?_
    intro w5 hg _ hh;have HS5:Hid (Done w [] (Star (CellW w.heap.size (yA xf xt xs xn xa xk) 32) (CellW (w.heap.size + 1) (yA yf yt ys yn ya yk) 32)) w5):=Done.put_ (C:=fun X=>Star (CellW w.heap.size (yA xf xt xs xn xa xk) 32) X) (Fr.r cS Fr.id_) HS4.out hg hh;have HE5:Hid ((fun _=>True) w5):=jzD trivial;refine ⟨HE5.out,?_⟩;clear hg hh
    simp only [Act.put,jzU,jzV,jzW]
    refine rests_done (by kernel_rfl) ?_
    exact hK w5 HS5.out
 case cont =>
  clear HSd HEd HS1
  intro w9 hs
  have HS9:=jzD hs
  clear hs
  rcases mx:mayX (XIn.xd (⟨xf,xt,xs,xn,xa,xk⟩:XIn)) with _ | _
  · have HMX:Hid (∀ w,Calls Tryz.prog 38 #[.agg #[.int .u32 xf,.int .u32 xt,.int .i64 xs,.int .i64 xn,.bool xa,.string xk]] w fun e w' => e=.returned (.bool false)∧Below w.heap.size w w'):=by show ∀ _,_;intro w;have := RMayX_any (⟨xf,xt,xs,xn,xa,xk⟩:XIn) w HXN.out;rw [mx] at this;exact this
    clear mx
    go_wp2_with (first
     | (with_reducible refine wpList_loadD (C:=fun X=>Star (X) (CellW (w.heap.size + 1) (yA yf yt ys yn ya yk) 32)) (Fr.l Fr.id_ cS) HS9.out rfl 32 (.tmp 3) rfl rfl _ Tryz.underlying32 rfl (by kernel_rfl) ?_)
     | (go_at_call 38;((with_reducible refine (dcalls_keep (cS.star cS) HS9.out (HMX.out _)).mono ?_);rintro e w10 ⟨rfl,hs⟩;have HS10:Hid (Done w [] (Star (CellW w.heap.size (yA xf xt xs xn xa xk) 32) (CellW (w.heap.size + 1) (yA yf yt ys yn ya yk) 32)) w10):=(by show Done _ _ _ _;exact hs);clear hs)))
    go_ret
    exact ⟨by first | rfl | (simp;done),HS10.out.bel⟩
  · rcases my:mayX (XIn.xd (⟨yf,yt,ys,yn,ya,yk⟩:XIn)) with _ | _
    · have HMX:Hid (∀ w,Calls Tryz.prog 38 #[.agg #[.int .u32 xf,.int .u32 xt,.int .i64 xs,.int .i64 xn,.bool xa,.string xk]] w fun e w' => e=.returned (.bool true)∧Below w.heap.size w w'):=by show ∀ _,_;intro w;have := RMayX_any (⟨xf,xt,xs,xn,xa,xk⟩:XIn) w HXN.out;rw [mx] at this;exact this
      have HMY:Hid (∀ w,Calls Tryz.prog 38 #[.agg #[.int .u32 yf,.int .u32 yt,.int .i64 ys,.int .i64 yn,.bool ya,.string yk]] w fun e w' => e=.returned (.bool false)∧Below w.heap.size w w'):=by show ∀ _,_;intro w;have := RMayX_any (⟨yf,yt,ys,yn,ya,yk⟩:XIn) w HYN.out;rw [my] at this;exact this
      clear mx my
      go_wp2_with (first
       | (with_reducible refine wpList_loadD (C:=fun X=>Star (X) (CellW (w.heap.size + 1) (yA yf yt ys yn ya yk) 32)) (Fr.l Fr.id_ cS) HS9.out rfl 32 (.tmp 3) rfl rfl _ Tryz.underlying32 rfl (by kernel_rfl) ?_)
       | (go_at_call 38;first
        | ((with_reducible refine (dcalls_keep (cS.star cS) HS9.out (HMX.out _)).mono ?_);rintro e w10 ⟨rfl,hs⟩;have HS10:Hid (Done w [] (Star (CellW w.heap.size (yA xf xt xs xn xa xk) 32) (CellW (w.heap.size + 1) (yA yf yt ys yn ya yk) 32)) w10):=(by show Done _ _ _ _;exact hs);have yc0_10:w10.cell? ⟨(w.heap.size + 1),0,none⟩=some (.int .u32 yf):=cell_at (Done.at_ (C:=fun X=>Star (CellW w.heap.size (yA xf xt xs xn xa xk) 32) X) (Fr.r cS Fr.id_) HS10.out) 0 _ rfl;have yc1_10:w10.cell? ⟨(w.heap.size + 1),1,none⟩=some (.int .u32 yt):=cell_at (Done.at_ (C:=fun X=>Star (CellW w.heap.size (yA xf xt xs xn xa xk) 32) X) (Fr.r cS Fr.id_) HS10.out) 1 _ rfl;have yc2_10:w10.cell? ⟨(w.heap.size + 1),2,none⟩=some (.int .i64 ys):=cell_at (Done.at_ (C:=fun X=>Star (CellW w.heap.size (yA xf xt xs xn xa xk) 32) X) (Fr.r cS Fr.id_) HS10.out) 2 _ rfl;have yc3_10:w10.cell? ⟨(w.heap.size + 1),3,none⟩=some (.int .i64 yn):=cell_at (Done.at_ (C:=fun X=>Star (CellW w.heap.size (yA xf xt xs xn xa xk) 32) X) (Fr.r cS Fr.id_) HS10.out) 3 _ rfl;have yc4_10:w10.cell? ⟨(w.heap.size + 1),4,none⟩=some (.bool ya):=cell_at (Done.at_ (C:=fun X=>Star (CellW w.heap.size (yA xf xt xs xn xa xk) 32) X) (Fr.r cS Fr.id_) HS10.out) 4 _ rfl;have yc5_10:w10.cell? ⟨(w.heap.size + 1),5,none⟩=some (.string yk):=cell_at (Done.at_ (C:=fun X=>Star (CellW w.heap.size (yA xf xt xs xn xa xk) 32) X) (Fr.r cS Fr.id_) HS10.out) 5 _ rfl;clear hs)
        | ((with_reducible refine (dcalls_keep (cS.star cS) HS10.out (HMY.out _)).mono ?_);rintro e w11 ⟨rfl,hs⟩;have HS11:Hid (Done w [] (Star (CellW w.heap.size (yA xf xt xs xn xa xk) 32) (CellW (w.heap.size + 1) (yA yf yt ys yn ya yk) 32)) w11):=(by show Done _ _ _ _;exact hs);clear hs)))
      go_ret
      exact ⟨by first | rfl | (simp;done),HS11.out.bel⟩
    · have HMX:Hid (∀ w,Calls Tryz.prog 38 #[.agg #[.int .u32 xf,.int .u32 xt,.int .i64 xs,.int .i64 xn,.bool xa,.string xk]] w fun e w' => e=.returned (.bool true)∧Below w.heap.size w w'):=by show ∀ _,_;intro w;have := RMayX_any (⟨xf,xt,xs,xn,xa,xk⟩:XIn) w HXN.out;rw [mx] at this;exact this
      have HMY:Hid (∀ w,Calls Tryz.prog 38 #[.agg #[.int .u32 yf,.int .u32 yt,.int .i64 ys,.int .i64 yn,.bool ya,.string yk]] w fun e w' => e=.returned (.bool true)∧Below w.heap.size w w'):=by show ∀ _,_;intro w;have := RMayX_any (⟨yf,yt,ys,yn,ya,yk⟩:XIn) w HYN.out;rw [my] at this;exact this
      obtain ⟨hb1,-⟩:=clash_first me (⟨xf,xt,xs,xn,xa,xk⟩:XIn) mx
      obtain ⟨hb2,hcl⟩:=clash_two (me:=me) mx my
      obtain ⟨m1,hm1⟩:∃ m,m=(LogM.new me).add (⟨xf,xt,xs,xn,xa,xk⟩:XIn):=⟨_,rfl⟩
      rw [← hm1] at hb2 hcl
      obtain ⟨m2,hm2⟩:∃ m,m=m1.add (⟨yf,yt,ys,yn,ya,yk⟩:XIn):=⟨_,rfl⟩
      rw [← hm2] at hcl
      obtain ⟨cn,hcn⟩:∃ n,n=m2.clash.length:=⟨_,rfl⟩
      rw [← hcn] at hcl
      have HCN:=jzD hcn
      have HM1:=jzD hm1
      have HM2:=jzD hm2
      simp only at hb1 hb2 hcl
      clear mx my hm1 hm2 hcn
      by_cases hp1:xf=me
      · by_cases hq1:yf=me
        · have hr1:xf=yf:=hp1.trans hq1.symm
          have HB1:Hid (false=(LogM.new me).addB (⟨xf,xt,xs,xn,xa,xk⟩:XIn)):=by show _=_;rw [hb1];simp [hp1,hq1,hr1]
          have HB2:Hid (false=m1.addB (⟨yf,yt,ys,yn,ya,yk⟩:XIn)):=by show _=_;rw [hb2];simp [ba_beq,hp1,hq1,hr1]
          have hp:0 < cn:=hcl.2 (by simp [hp1,hq1,hr1])
          have t1:decide ((0:Int) < (cn:Int))=true:=decide_eq_true (by omega)
          have t2:decide (0 < cn)=true:=decide_eq_true hp
          have p0:(xf == me)=true:=by simp [hp1,hq1,hr1]
          have p1:(xf != me)=false:=by simp [hp1,hq1,hr1]
          have q0:(yf == me)=true:=by simp [hp1,hq1,hr1]
          have q1:(yf != me)=false:=by simp [hp1,hq1,hr1]
          have r0:(xf == yf)=true:=by simp [hp1,hq1,hr1]
          have r1:(xf != yf)=false:=by simp [hp1,hq1,hr1]
          clear hb1 hb2 hcl hp hp1 hq1 hr1
          go_wp2_with (first
           | (with_reducible refine wpList_loadD (C:=fun X=>Star (X) (CellW (w.heap.size + 1) (yA yf yt ys yn ya yk) 32)) (Fr.l Fr.id_ cS) HS9.out rfl 32 (.tmp 3) rfl rfl _ Tryz.underlying32 rfl (by kernel_rfl) ?_)
           | (with_reducible refine wpList_loadD (C:=fun X=>Star (Star (X) (CellW (w.heap.size + 1) (yA yf yt ys yn ya yk) 32)) (LogW (.pointer (some a1)) (LogM.new me))) (Fr.l (Fr.l Fr.id_ cS) (LogW.stab _ _)) HS12.out rfl 32 (.tmp 3) rfl rfl _ Tryz.underlying32 rfl (by kernel_rfl) ?_)
           | (with_reducible refine wpList_loadD (C:=fun X=>Star (Star (CellW w.heap.size (yA xf xt xs xn xa xk) 32) X) (LogW (.pointer (some a1)) m1)) (Fr.l (Fr.r cS Fr.id_) (LogW.stab _ _)) HS13.out rfl 32 (.tmp 4) rfl rfl _ Tryz.underlying32 rfl (by kernel_rfl) ?_)
           | (go_at_call 38;first
            | ((with_reducible refine (dcalls_keep (cS.star cS) HS9.out (HMX.out _)).mono ?_);rintro e w10 ⟨rfl,hs⟩;have HS10:Hid (Done w [] (Star (CellW w.heap.size (yA xf xt xs xn xa xk) 32) (CellW (w.heap.size + 1) (yA yf yt ys yn ya yk) 32)) w10):=(by show Done _ _ _ _;exact hs);have yc0_10:w10.cell? ⟨(w.heap.size + 1),0,none⟩=some (.int .u32 yf):=cell_at (Done.at_ (C:=fun X=>Star (CellW w.heap.size (yA xf xt xs xn xa xk) 32) X) (Fr.r cS Fr.id_) HS10.out) 0 _ rfl;have yc1_10:w10.cell? ⟨(w.heap.size + 1),1,none⟩=some (.int .u32 yt):=cell_at (Done.at_ (C:=fun X=>Star (CellW w.heap.size (yA xf xt xs xn xa xk) 32) X) (Fr.r cS Fr.id_) HS10.out) 1 _ rfl;have yc2_10:w10.cell? ⟨(w.heap.size + 1),2,none⟩=some (.int .i64 ys):=cell_at (Done.at_ (C:=fun X=>Star (CellW w.heap.size (yA xf xt xs xn xa xk) 32) X) (Fr.r cS Fr.id_) HS10.out) 2 _ rfl;have yc3_10:w10.cell? ⟨(w.heap.size + 1),3,none⟩=some (.int .i64 yn):=cell_at (Done.at_ (C:=fun X=>Star (CellW w.heap.size (yA xf xt xs xn xa xk) 32) X) (Fr.r cS Fr.id_) HS10.out) 3 _ rfl;have yc4_10:w10.cell? ⟨(w.heap.size + 1),4,none⟩=some (.bool ya):=cell_at (Done.at_ (C:=fun X=>Star (CellW w.heap.size (yA xf xt xs xn xa xk) 32) X) (Fr.r cS Fr.id_) HS10.out) 4 _ rfl;have yc5_10:w10.cell? ⟨(w.heap.size + 1),5,none⟩=some (.string yk):=cell_at (Done.at_ (C:=fun X=>Star (CellW w.heap.size (yA xf xt xs xn xa xk) 32) X) (Fr.r cS Fr.id_) HS10.out) 5 _ rfl;clear hs)
            | ((with_reducible refine (dcalls_keep (cS.star cS) HS10.out (HMY.out _)).mono ?_);rintro e w11 ⟨rfl,hs⟩;have HS11:Hid (Done w [] (Star (CellW w.heap.size (yA xf xt xs xn xa xk) 32) (CellW (w.heap.size + 1) (yA yf yt ys yn ya yk) 32)) w11):=(by show Done _ _ _ _;exact hs);clear hs))
           | (go_at_call 53;((with_reducible refine (dL_new HME.out (cS.star cS) HS11.out).mono ?_);rintro e w12 ⟨a1,rfl,hs⟩;have HS12:Hid (Done w [] (Star (Star (CellW w.heap.size (yA xf xt xs xn xa xk) 32) (CellW (w.heap.size + 1) (yA yf yt ys yn ya yk) 32)) (LogW (.pointer (some a1)) (LogM.new me))) w12):=(by show Done _ _ _ _;exact hs);clear hs))
           | (go_at_call 51;first
            | ((with_reducible refine (dL_add (x:=(⟨xf,xt,xs,xn,xa,xk⟩:XIn)) (b:=false) (m' := m1) HXO.out HB1.out HM1.out (C:=fun X=>Star (Star (CellW w.heap.size (yA xf xt xs xn xa xk) 32) (CellW (w.heap.size + 1) (yA yf yt ys yn ya yk) 32)) X) (Fr.r (cS.star cS) Fr.id_) HS12.out).mono ?_);rintro e w13 ⟨rfl,hs⟩;have HS13:Hid (Done w [] (Star (Star (CellW w.heap.size (yA xf xt xs xn xa xk) 32) (CellW (w.heap.size + 1) (yA yf yt ys yn ya yk) 32)) (LogW (.pointer (some a1)) m1)) w13):=(by show Done _ _ _ _;exact hs);clear hs)
            | ((with_reducible refine (dL_add (x:=(⟨yf,yt,ys,yn,ya,yk⟩:XIn)) (b:=false) (m' := m2) HYO.out HB2.out HM2.out (C:=fun X=>Star (Star (CellW w.heap.size (yA xf xt xs xn xa xk) 32) (CellW (w.heap.size + 1) (yA yf yt ys yn ya yk) 32)) X) (Fr.r (cS.star cS) Fr.id_) HS13.out).mono ?_);rintro e w14 ⟨rfl,hs⟩;have HS14:Hid (Done w [] (Star (Star (CellW w.heap.size (yA xf xt xs xn xa xk) 32) (CellW (w.heap.size + 1) (yA yf yt ys yn ya yk) 32)) (LogW (.pointer (some a1)) m2)) w14):=(by show Done _ _ _ _;exact hs);have xc0_14:w14.cell? ⟨w.heap.size,0,none⟩=some (.int .u32 xf):=cell_at (Done.at_ (C:=fun X=>Star (Star (X) (CellW (w.heap.size + 1) (yA yf yt ys yn ya yk) 32)) (LogW (.pointer (some a1)) m2)) (Fr.l (Fr.l Fr.id_ cS) (LogW.stab _ _)) HS14.out) 0 _ rfl;have xc2_14:w14.cell? ⟨w.heap.size,2,none⟩=some (.int .i64 xs):=cell_at (Done.at_ (C:=fun X=>Star (Star (X) (CellW (w.heap.size + 1) (yA yf yt ys yn ya yk) 32)) (LogW (.pointer (some a1)) m2)) (Fr.l (Fr.l Fr.id_ cS) (LogW.stab _ _)) HS14.out) 2 _ rfl;have xc5_14:w14.cell? ⟨w.heap.size,5,none⟩=some (.string xk):=cell_at (Done.at_ (C:=fun X=>Star (Star (X) (CellW (w.heap.size + 1) (yA yf yt ys yn ya yk) 32)) (LogW (.pointer (some a1)) m2)) (Fr.l (Fr.l Fr.id_ cS) (LogW.stab _ _)) HS14.out) 5 _ rfl;have yc0_14:w14.cell? ⟨(w.heap.size + 1),0,none⟩=some (.int .u32 yf):=cell_at (Done.at_ (C:=fun X=>Star (Star (CellW w.heap.size (yA xf xt xs xn xa xk) 32) X) (LogW (.pointer (some a1)) m2)) (Fr.l (Fr.r cS Fr.id_) (LogW.stab _ _)) HS14.out) 0 _ rfl;have yc2_14:w14.cell? ⟨(w.heap.size + 1),2,none⟩=some (.int .i64 ys):=cell_at (Done.at_ (C:=fun X=>Star (Star (CellW w.heap.size (yA xf xt xs xn xa xk) 32) X) (LogW (.pointer (some a1)) m2)) (Fr.l (Fr.r cS Fr.id_) (LogW.stab _ _)) HS14.out) 2 _ rfl;have yc5_14:w14.cell? ⟨(w.heap.size + 1),5,none⟩=some (.string yk):=cell_at (Done.at_ (C:=fun X=>Star (Star (CellW w.heap.size (yA xf xt xs xn xa xk) 32) X) (LogW (.pointer (some a1)) m2)) (Fr.l (Fr.r cS Fr.id_) (LogW.stab _ _)) HS14.out) 5 _ rfl;clear hs))
           | (go_at_call 32;((with_reducible refine (dL_clash (m:=m2) (n:=cn) (xs:=u32s m2.clash) HCN.out rfl (C:=fun X=>Star (Star (CellW w.heap.size (yA xf xt xs xn xa xk) 32) (CellW (w.heap.size + 1) (yA yf yt ys yn ya yk) 32)) X) (Fr.r (cS.star cS) Fr.id_) HS14.out).mono ?_);rintro e w15 ⟨A1,c1,rfl,hc,hs⟩;have HS15:Hid (Done w [] (Star (Star (CellW w.heap.size (yA xf xt xs xn xa xk) 32) (CellW (w.heap.size + 1) (yA yf yt ys yn ya yk) 32)) (Star (LogW (.pointer (some a1)) m2) (SlW 1 (.slice A1 cn c1) cn (u32s m2.clash)))) w15):=(by show Done _ _ _ _;exact hs);clear hs hc)))
          go_ret
          exact ⟨by first | rfl | (simp;done),HS15.out.bel⟩
        · have hr1:¬ xf=yf:=fun h=>hq1 (h ▸ hp1)
          have hq2:¬ me=yf:=fun h=>hq1 h.symm
          have HB1:Hid (false=(LogM.new me).addB (⟨xf,xt,xs,xn,xa,xk⟩:XIn)):=by show _=_;rw [hb1];simp [hp1,hq1,hr1,hq2]
          have HB2:Hid (true=m1.addB (⟨yf,yt,ys,yn,ya,yk⟩:XIn)):=by show _=_;rw [hb2];simp [ba_beq,hp1,hq1,hr1,hq2]
          have hp:0 < cn:=hcl.2 (by simp [hp1,hq1,hr1,hq2])
          have t1:decide ((0:Int) < (cn:Int))=true:=decide_eq_true (by omega)
          have t2:decide (0 < cn)=true:=decide_eq_true hp
          have p0:(xf == me)=true:=by simp [hp1,hq1,hr1,hq2]
          have p1:(xf != me)=false:=by simp [hp1,hq1,hr1,hq2]
          have q0:(yf == me)=false:=by simp [hp1,hq1,hr1,hq2]
          have q1:(yf != me)=true:=by simp [hp1,hq1,hr1,hq2]
          have r0:(xf == yf)=false:=by simp [hp1,hq1,hr1,hq2]
          have r1:(xf != yf)=true:=by simp [hp1,hq1,hr1,hq2]
          clear hb1 hb2 hcl hp hp1 hq1 hr1 hq2
          go_wp2_with (first
           | (with_reducible refine wpList_loadD (C:=fun X=>Star (X) (CellW (w.heap.size + 1) (yA yf yt ys yn ya yk) 32)) (Fr.l Fr.id_ cS) HS9.out rfl 32 (.tmp 3) rfl rfl _ Tryz.underlying32 rfl (by kernel_rfl) ?_)
           | (with_reducible refine wpList_loadD (C:=fun X=>Star (Star (X) (CellW (w.heap.size + 1) (yA yf yt ys yn ya yk) 32)) (LogW (.pointer (some a1)) (LogM.new me))) (Fr.l (Fr.l Fr.id_ cS) (LogW.stab _ _)) HS12.out rfl 32 (.tmp 3) rfl rfl _ Tryz.underlying32 rfl (by kernel_rfl) ?_)
           | (with_reducible refine wpList_loadD (C:=fun X=>Star (Star (CellW w.heap.size (yA xf xt xs xn xa xk) 32) X) (LogW (.pointer (some a1)) m1)) (Fr.l (Fr.r cS Fr.id_) (LogW.stab _ _)) HS13.out rfl 32 (.tmp 4) rfl rfl _ Tryz.underlying32 rfl (by kernel_rfl) ?_)
           | (go_at_call 38;first
            | ((with_reducible refine (dcalls_keep (cS.star cS) HS9.out (HMX.out _)).mono ?_);rintro e w10 ⟨rfl,hs⟩;have HS10:Hid (Done w [] (Star (CellW w.heap.size (yA xf xt xs xn xa xk) 32) (CellW (w.heap.size + 1) (yA yf yt ys yn ya yk) 32)) w10):=(by show Done _ _ _ _;exact hs);have yc0_10:w10.cell? ⟨(w.heap.size + 1),0,none⟩=some (.int .u32 yf):=cell_at (Done.at_ (C:=fun X=>Star (CellW w.heap.size (yA xf xt xs xn xa xk) 32) X) (Fr.r cS Fr.id_) HS10.out) 0 _ rfl;have yc1_10:w10.cell? ⟨(w.heap.size + 1),1,none⟩=some (.int .u32 yt):=cell_at (Done.at_ (C:=fun X=>Star (CellW w.heap.size (yA xf xt xs xn xa xk) 32) X) (Fr.r cS Fr.id_) HS10.out) 1 _ rfl;have yc2_10:w10.cell? ⟨(w.heap.size + 1),2,none⟩=some (.int .i64 ys):=cell_at (Done.at_ (C:=fun X=>Star (CellW w.heap.size (yA xf xt xs xn xa xk) 32) X) (Fr.r cS Fr.id_) HS10.out) 2 _ rfl;have yc3_10:w10.cell? ⟨(w.heap.size + 1),3,none⟩=some (.int .i64 yn):=cell_at (Done.at_ (C:=fun X=>Star (CellW w.heap.size (yA xf xt xs xn xa xk) 32) X) (Fr.r cS Fr.id_) HS10.out) 3 _ rfl;have yc4_10:w10.cell? ⟨(w.heap.size + 1),4,none⟩=some (.bool ya):=cell_at (Done.at_ (C:=fun X=>Star (CellW w.heap.size (yA xf xt xs xn xa xk) 32) X) (Fr.r cS Fr.id_) HS10.out) 4 _ rfl;have yc5_10:w10.cell? ⟨(w.heap.size + 1),5,none⟩=some (.string yk):=cell_at (Done.at_ (C:=fun X=>Star (CellW w.heap.size (yA xf xt xs xn xa xk) 32) X) (Fr.r cS Fr.id_) HS10.out) 5 _ rfl;clear hs)
            | ((with_reducible refine (dcalls_keep (cS.star cS) HS10.out (HMY.out _)).mono ?_);rintro e w11 ⟨rfl,hs⟩;have HS11:Hid (Done w [] (Star (CellW w.heap.size (yA xf xt xs xn xa xk) 32) (CellW (w.heap.size + 1) (yA yf yt ys yn ya yk) 32)) w11):=(by show Done _ _ _ _;exact hs);clear hs))
           | (go_at_call 53;((with_reducible refine (dL_new HME.out (cS.star cS) HS11.out).mono ?_);rintro e w12 ⟨a1,rfl,hs⟩;have HS12:Hid (Done w [] (Star (Star (CellW w.heap.size (yA xf xt xs xn xa xk) 32) (CellW (w.heap.size + 1) (yA yf yt ys yn ya yk) 32)) (LogW (.pointer (some a1)) (LogM.new me))) w12):=(by show Done _ _ _ _;exact hs);clear hs))
           | (go_at_call 51;first
            | ((with_reducible refine (dL_add (x:=(⟨xf,xt,xs,xn,xa,xk⟩:XIn)) (b:=false) (m' := m1) HXO.out HB1.out HM1.out (C:=fun X=>Star (Star (CellW w.heap.size (yA xf xt xs xn xa xk) 32) (CellW (w.heap.size + 1) (yA yf yt ys yn ya yk) 32)) X) (Fr.r (cS.star cS) Fr.id_) HS12.out).mono ?_);rintro e w13 ⟨rfl,hs⟩;have HS13:Hid (Done w [] (Star (Star (CellW w.heap.size (yA xf xt xs xn xa xk) 32) (CellW (w.heap.size + 1) (yA yf yt ys yn ya yk) 32)) (LogW (.pointer (some a1)) m1)) w13):=(by show Done _ _ _ _;exact hs);clear hs)
            | ((with_reducible refine (dL_add (x:=(⟨yf,yt,ys,yn,ya,yk⟩:XIn)) (b:=true) (m' := m2) HYO.out HB2.out HM2.out (C:=fun X=>Star (Star (CellW w.heap.size (yA xf xt xs xn xa xk) 32) (CellW (w.heap.size + 1) (yA yf yt ys yn ya yk) 32)) X) (Fr.r (cS.star cS) Fr.id_) HS13.out).mono ?_);rintro e w14 ⟨rfl,hs⟩;have HS14:Hid (Done w [] (Star (Star (CellW w.heap.size (yA xf xt xs xn xa xk) 32) (CellW (w.heap.size + 1) (yA yf yt ys yn ya yk) 32)) (LogW (.pointer (some a1)) m2)) w14):=(by show Done _ _ _ _;exact hs);have xc0_14:w14.cell? ⟨w.heap.size,0,none⟩=some (.int .u32 xf):=cell_at (Done.at_ (C:=fun X=>Star (Star (X) (CellW (w.heap.size + 1) (yA yf yt ys yn ya yk) 32)) (LogW (.pointer (some a1)) m2)) (Fr.l (Fr.l Fr.id_ cS) (LogW.stab _ _)) HS14.out) 0 _ rfl;have xc2_14:w14.cell? ⟨w.heap.size,2,none⟩=some (.int .i64 xs):=cell_at (Done.at_ (C:=fun X=>Star (Star (X) (CellW (w.heap.size + 1) (yA yf yt ys yn ya yk) 32)) (LogW (.pointer (some a1)) m2)) (Fr.l (Fr.l Fr.id_ cS) (LogW.stab _ _)) HS14.out) 2 _ rfl;have xc5_14:w14.cell? ⟨w.heap.size,5,none⟩=some (.string xk):=cell_at (Done.at_ (C:=fun X=>Star (Star (X) (CellW (w.heap.size + 1) (yA yf yt ys yn ya yk) 32)) (LogW (.pointer (some a1)) m2)) (Fr.l (Fr.l Fr.id_ cS) (LogW.stab _ _)) HS14.out) 5 _ rfl;have yc0_14:w14.cell? ⟨(w.heap.size + 1),0,none⟩=some (.int .u32 yf):=cell_at (Done.at_ (C:=fun X=>Star (Star (CellW w.heap.size (yA xf xt xs xn xa xk) 32) X) (LogW (.pointer (some a1)) m2)) (Fr.l (Fr.r cS Fr.id_) (LogW.stab _ _)) HS14.out) 0 _ rfl;have yc2_14:w14.cell? ⟨(w.heap.size + 1),2,none⟩=some (.int .i64 ys):=cell_at (Done.at_ (C:=fun X=>Star (Star (CellW w.heap.size (yA xf xt xs xn xa xk) 32) X) (LogW (.pointer (some a1)) m2)) (Fr.l (Fr.r cS Fr.id_) (LogW.stab _ _)) HS14.out) 2 _ rfl;have yc5_14:w14.cell? ⟨(w.heap.size + 1),5,none⟩=some (.string yk):=cell_at (Done.at_ (C:=fun X=>Star (Star (CellW w.heap.size (yA xf xt xs xn xa xk) 32) X) (LogW (.pointer (some a1)) m2)) (Fr.l (Fr.r cS Fr.id_) (LogW.stab _ _)) HS14.out) 5 _ rfl;clear hs))
           | (go_at_call 32;((with_reducible refine (dL_clash (m:=m2) (n:=cn) (xs:=u32s m2.clash) HCN.out rfl (C:=fun X=>Star (Star (CellW w.heap.size (yA xf xt xs xn xa xk) 32) (CellW (w.heap.size + 1) (yA yf yt ys yn ya yk) 32)) X) (Fr.r (cS.star cS) Fr.id_) HS14.out).mono ?_);rintro e w15 ⟨A1,c1,rfl,hc,hs⟩;have HS15:Hid (Done w [] (Star (Star (CellW w.heap.size (yA xf xt xs xn xa xk) 32) (CellW (w.heap.size + 1) (yA yf yt ys yn ya yk) 32)) (Star (LogW (.pointer (some a1)) m2) (SlW 1 (.slice A1 cn c1) cn (u32s m2.clash)))) w15):=(by show Done _ _ _ _;exact hs);clear hs hc)))
          go_ret
          exact ⟨by first | rfl | (simp;done),HS15.out.bel⟩
      · by_cases hq1:yf=me
        · have hr1:¬ xf=yf:=fun h=>hp1 (h.trans hq1)
          have HB1:Hid (true=(LogM.new me).addB (⟨xf,xt,xs,xn,xa,xk⟩:XIn)):=by show _=_;rw [hb1];simp [hp1,hq1,hr1]
          have HB2:Hid (false=m1.addB (⟨yf,yt,ys,yn,ya,yk⟩:XIn)):=by show _=_;rw [hb2];simp [ba_beq,hp1,hq1,hr1]
          have hp:0 < cn:=hcl.2 (by simp [hp1,hq1,hr1])
          have t1:decide ((0:Int) < (cn:Int))=true:=decide_eq_true (by omega)
          have t2:decide (0 < cn)=true:=decide_eq_true hp
          have p0:(xf == me)=false:=by simp [hp1,hq1,hr1]
          have p1:(xf != me)=true:=by simp [hp1,hq1,hr1]
          have q0:(yf == me)=true:=by simp [hp1,hq1,hr1]
          have q1:(yf != me)=false:=by simp [hp1,hq1,hr1]
          have r0:(xf == yf)=false:=by simp [hp1,hq1,hr1]
          have r1:(xf != yf)=true:=by simp [hp1,hq1,hr1]
          clear hb1 hb2 hcl hp hp1 hq1 hr1
          go_wp2_with (first
           | (with_reducible refine wpList_loadD (C:=fun X=>Star (X) (CellW (w.heap.size + 1) (yA yf yt ys yn ya yk) 32)) (Fr.l Fr.id_ cS) HS9.out rfl 32 (.tmp 3) rfl rfl _ Tryz.underlying32 rfl (by kernel_rfl) ?_)
           | (with_reducible refine wpList_loadD (C:=fun X=>Star (Star (X) (CellW (w.heap.size + 1) (yA yf yt ys yn ya yk) 32)) (LogW (.pointer (some a1)) (LogM.new me))) (Fr.l (Fr.l Fr.id_ cS) (LogW.stab _ _)) HS12.out rfl 32 (.tmp 3) rfl rfl _ Tryz.underlying32 rfl (by kernel_rfl) ?_)
           | (with_reducible refine wpList_loadD (C:=fun X=>Star (Star (CellW w.heap.size (yA xf xt xs xn xa xk) 32) X) (LogW (.pointer (some a1)) m1)) (Fr.l (Fr.r cS Fr.id_) (LogW.stab _ _)) HS13.out rfl 32 (.tmp 4) rfl rfl _ Tryz.underlying32 rfl (by kernel_rfl) ?_)
           | (go_at_call 38;first
            | ((with_reducible refine (dcalls_keep (cS.star cS) HS9.out (HMX.out _)).mono ?_);rintro e w10 ⟨rfl,hs⟩;have HS10:Hid (Done w [] (Star (CellW w.heap.size (yA xf xt xs xn xa xk) 32) (CellW (w.heap.size + 1) (yA yf yt ys yn ya yk) 32)) w10):=(by show Done _ _ _ _;exact hs);have yc0_10:w10.cell? ⟨(w.heap.size + 1),0,none⟩=some (.int .u32 yf):=cell_at (Done.at_ (C:=fun X=>Star (CellW w.heap.size (yA xf xt xs xn xa xk) 32) X) (Fr.r cS Fr.id_) HS10.out) 0 _ rfl;have yc1_10:w10.cell? ⟨(w.heap.size + 1),1,none⟩=some (.int .u32 yt):=cell_at (Done.at_ (C:=fun X=>Star (CellW w.heap.size (yA xf xt xs xn xa xk) 32) X) (Fr.r cS Fr.id_) HS10.out) 1 _ rfl;have yc2_10:w10.cell? ⟨(w.heap.size + 1),2,none⟩=some (.int .i64 ys):=cell_at (Done.at_ (C:=fun X=>Star (CellW w.heap.size (yA xf xt xs xn xa xk) 32) X) (Fr.r cS Fr.id_) HS10.out) 2 _ rfl;have yc3_10:w10.cell? ⟨(w.heap.size + 1),3,none⟩=some (.int .i64 yn):=cell_at (Done.at_ (C:=fun X=>Star (CellW w.heap.size (yA xf xt xs xn xa xk) 32) X) (Fr.r cS Fr.id_) HS10.out) 3 _ rfl;have yc4_10:w10.cell? ⟨(w.heap.size + 1),4,none⟩=some (.bool ya):=cell_at (Done.at_ (C:=fun X=>Star (CellW w.heap.size (yA xf xt xs xn xa xk) 32) X) (Fr.r cS Fr.id_) HS10.out) 4 _ rfl;have yc5_10:w10.cell? ⟨(w.heap.size + 1),5,none⟩=some (.string yk):=cell_at (Done.at_ (C:=fun X=>Star (CellW w.heap.size (yA xf xt xs xn xa xk) 32) X) (Fr.r cS Fr.id_) HS10.out) 5 _ rfl;clear hs)
            | ((with_reducible refine (dcalls_keep (cS.star cS) HS10.out (HMY.out _)).mono ?_);rintro e w11 ⟨rfl,hs⟩;have HS11:Hid (Done w [] (Star (CellW w.heap.size (yA xf xt xs xn xa xk) 32) (CellW (w.heap.size + 1) (yA yf yt ys yn ya yk) 32)) w11):=(by show Done _ _ _ _;exact hs);clear hs))
           | (go_at_call 53;((with_reducible refine (dL_new HME.out (cS.star cS) HS11.out).mono ?_);rintro e w12 ⟨a1,rfl,hs⟩;have HS12:Hid (Done w [] (Star (Star (CellW w.heap.size (yA xf xt xs xn xa xk) 32) (CellW (w.heap.size + 1) (yA yf yt ys yn ya yk) 32)) (LogW (.pointer (some a1)) (LogM.new me))) w12):=(by show Done _ _ _ _;exact hs);clear hs))
           | (go_at_call 51;first
            | ((with_reducible refine (dL_add (x:=(⟨xf,xt,xs,xn,xa,xk⟩:XIn)) (b:=true) (m' := m1) HXO.out HB1.out HM1.out (C:=fun X=>Star (Star (CellW w.heap.size (yA xf xt xs xn xa xk) 32) (CellW (w.heap.size + 1) (yA yf yt ys yn ya yk) 32)) X) (Fr.r (cS.star cS) Fr.id_) HS12.out).mono ?_);rintro e w13 ⟨rfl,hs⟩;have HS13:Hid (Done w [] (Star (Star (CellW w.heap.size (yA xf xt xs xn xa xk) 32) (CellW (w.heap.size + 1) (yA yf yt ys yn ya yk) 32)) (LogW (.pointer (some a1)) m1)) w13):=(by show Done _ _ _ _;exact hs);clear hs)
            | ((with_reducible refine (dL_add (x:=(⟨yf,yt,ys,yn,ya,yk⟩:XIn)) (b:=false) (m' := m2) HYO.out HB2.out HM2.out (C:=fun X=>Star (Star (CellW w.heap.size (yA xf xt xs xn xa xk) 32) (CellW (w.heap.size + 1) (yA yf yt ys yn ya yk) 32)) X) (Fr.r (cS.star cS) Fr.id_) HS13.out).mono ?_);rintro e w14 ⟨rfl,hs⟩;have HS14:Hid (Done w [] (Star (Star (CellW w.heap.size (yA xf xt xs xn xa xk) 32) (CellW (w.heap.size + 1) (yA yf yt ys yn ya yk) 32)) (LogW (.pointer (some a1)) m2)) w14):=(by show Done _ _ _ _;exact hs);have xc0_14:w14.cell? ⟨w.heap.size,0,none⟩=some (.int .u32 xf):=cell_at (Done.at_ (C:=fun X=>Star (Star (X) (CellW (w.heap.size + 1) (yA yf yt ys yn ya yk) 32)) (LogW (.pointer (some a1)) m2)) (Fr.l (Fr.l Fr.id_ cS) (LogW.stab _ _)) HS14.out) 0 _ rfl;have xc2_14:w14.cell? ⟨w.heap.size,2,none⟩=some (.int .i64 xs):=cell_at (Done.at_ (C:=fun X=>Star (Star (X) (CellW (w.heap.size + 1) (yA yf yt ys yn ya yk) 32)) (LogW (.pointer (some a1)) m2)) (Fr.l (Fr.l Fr.id_ cS) (LogW.stab _ _)) HS14.out) 2 _ rfl;have xc5_14:w14.cell? ⟨w.heap.size,5,none⟩=some (.string xk):=cell_at (Done.at_ (C:=fun X=>Star (Star (X) (CellW (w.heap.size + 1) (yA yf yt ys yn ya yk) 32)) (LogW (.pointer (some a1)) m2)) (Fr.l (Fr.l Fr.id_ cS) (LogW.stab _ _)) HS14.out) 5 _ rfl;have yc0_14:w14.cell? ⟨(w.heap.size + 1),0,none⟩=some (.int .u32 yf):=cell_at (Done.at_ (C:=fun X=>Star (Star (CellW w.heap.size (yA xf xt xs xn xa xk) 32) X) (LogW (.pointer (some a1)) m2)) (Fr.l (Fr.r cS Fr.id_) (LogW.stab _ _)) HS14.out) 0 _ rfl;have yc2_14:w14.cell? ⟨(w.heap.size + 1),2,none⟩=some (.int .i64 ys):=cell_at (Done.at_ (C:=fun X=>Star (Star (CellW w.heap.size (yA xf xt xs xn xa xk) 32) X) (LogW (.pointer (some a1)) m2)) (Fr.l (Fr.r cS Fr.id_) (LogW.stab _ _)) HS14.out) 2 _ rfl;have yc5_14:w14.cell? ⟨(w.heap.size + 1),5,none⟩=some (.string yk):=cell_at (Done.at_ (C:=fun X=>Star (Star (CellW w.heap.size (yA xf xt xs xn xa xk) 32) X) (LogW (.pointer (some a1)) m2)) (Fr.l (Fr.r cS Fr.id_) (LogW.stab _ _)) HS14.out) 5 _ rfl;clear hs))
           | (go_at_call 32;((with_reducible refine (dL_clash (m:=m2) (n:=cn) (xs:=u32s m2.clash) HCN.out rfl (C:=fun X=>Star (Star (CellW w.heap.size (yA xf xt xs xn xa xk) 32) (CellW (w.heap.size + 1) (yA yf yt ys yn ya yk) 32)) X) (Fr.r (cS.star cS) Fr.id_) HS14.out).mono ?_);rintro e w15 ⟨A1,c1,rfl,hc,hs⟩;have HS15:Hid (Done w [] (Star (Star (CellW w.heap.size (yA xf xt xs xn xa xk) 32) (CellW (w.heap.size + 1) (yA yf yt ys yn ya yk) 32)) (Star (LogW (.pointer (some a1)) m2) (SlW 1 (.slice A1 cn c1) cn (u32s m2.clash)))) w15):=(by show Done _ _ _ _;exact hs);clear hs hc)))
          go_ret
          exact ⟨by first | rfl | (simp;done),HS15.out.bel⟩
        · by_cases hr1:xf=yf
          · by_cases hs:xk=yk
            · by_cases ht:xs=ys
              · skip
                have HB1:Hid (true=(LogM.new me).addB (⟨xf,xt,xs,xn,xa,xk⟩:XIn)):=by show _=_;rw [hb1];simp [hp1,hq1,hr1,hs,ht]
                have HB2:Hid (true=m1.addB (⟨yf,yt,ys,yn,ya,yk⟩:XIn)):=by show _=_;rw [hb2];simp [ba_beq,hp1,hq1,hr1,hs,ht]
                have hp:¬ 0 < cn:=fun h=>absurd (hcl.1 h) (by simp [hp1,hq1,hr1,hs,ht])
                have t1:decide ((0:Int) < (cn:Int))=false:=decide_eq_false (by omega)
                have t2:decide (0 < cn)=false:=decide_eq_false hp
                have p0:(xf == me)=false:=by simp [hp1,hq1,hr1,hs,ht]
                have p1:(xf != me)=true:=by simp [hp1,hq1,hr1,hs,ht]
                have q0:(yf == me)=false:=by simp [hp1,hq1,hr1,hs,ht]
                have q1:(yf != me)=true:=by simp [hp1,hq1,hr1,hs,ht]
                have r0:(xf == yf)=true:=by simp [hp1,hq1,hr1,hs,ht]
                have r1:(xf != yf)=false:=by simp [hp1,hq1,hr1,hs,ht]
                have s0:(xk.toList == yk.toList)=true:=by simp [hs,tl_eq]
                have s1:(xk.toList != yk.toList)=false:=by simp [hs,tl_eq]
                have t0:(xs == ys)=true:=by simp [hp1,hq1,hr1,hs,ht]
                have t1:(xs != ys)=false:=by simp [hp1,hq1,hr1,hs,ht]
                clear hb1 hb2 hcl hp hp1 hq1 hr1 hs ht
                go_wp2_with (first
                 | (with_reducible refine wpList_loadD (C:=fun X=>Star (X) (CellW (w.heap.size + 1) (yA yf yt ys yn ya yk) 32)) (Fr.l Fr.id_ cS) HS9.out rfl 32 (.tmp 3) rfl rfl _ Tryz.underlying32 rfl (by kernel_rfl) ?_)
                 | (with_reducible refine wpList_loadD (C:=fun X=>Star (Star (X) (CellW (w.heap.size + 1) (yA yf yt ys yn ya yk) 32)) (LogW (.pointer (some a1)) (LogM.new me))) (Fr.l (Fr.l Fr.id_ cS) (LogW.stab _ _)) HS12.out rfl 32 (.tmp 3) rfl rfl _ Tryz.underlying32 rfl (by kernel_rfl) ?_)
                 | (with_reducible refine wpList_loadD (C:=fun X=>Star (Star (CellW w.heap.size (yA xf xt xs xn xa xk) 32) X) (LogW (.pointer (some a1)) m1)) (Fr.l (Fr.r cS Fr.id_) (LogW.stab _ _)) HS13.out rfl 32 (.tmp 4) rfl rfl _ Tryz.underlying32 rfl (by kernel_rfl) ?_)
                 | (go_at_call 38;first
                  | ((with_reducible refine (dcalls_keep (cS.star cS) HS9.out (HMX.out _)).mono ?_);rintro e w10 ⟨rfl,hs⟩;have HS10:Hid (Done w [] (Star (CellW w.heap.size (yA xf xt xs xn xa xk) 32) (CellW (w.heap.size + 1) (yA yf yt ys yn ya yk) 32)) w10):=(by show Done _ _ _ _;exact hs);have yc0_10:w10.cell? ⟨(w.heap.size + 1),0,none⟩=some (.int .u32 yf):=cell_at (Done.at_ (C:=fun X=>Star (CellW w.heap.size (yA xf xt xs xn xa xk) 32) X) (Fr.r cS Fr.id_) HS10.out) 0 _ rfl;have yc1_10:w10.cell? ⟨(w.heap.size + 1),1,none⟩=some (.int .u32 yt):=cell_at (Done.at_ (C:=fun X=>Star (CellW w.heap.size (yA xf xt xs xn xa xk) 32) X) (Fr.r cS Fr.id_) HS10.out) 1 _ rfl;have yc2_10:w10.cell? ⟨(w.heap.size + 1),2,none⟩=some (.int .i64 ys):=cell_at (Done.at_ (C:=fun X=>Star (CellW w.heap.size (yA xf xt xs xn xa xk) 32) X) (Fr.r cS Fr.id_) HS10.out) 2 _ rfl;have yc3_10:w10.cell? ⟨(w.heap.size + 1),3,none⟩=some (.int .i64 yn):=cell_at (Done.at_ (C:=fun X=>Star (CellW w.heap.size (yA xf xt xs xn xa xk) 32) X) (Fr.r cS Fr.id_) HS10.out) 3 _ rfl;have yc4_10:w10.cell? ⟨(w.heap.size + 1),4,none⟩=some (.bool ya):=cell_at (Done.at_ (C:=fun X=>Star (CellW w.heap.size (yA xf xt xs xn xa xk) 32) X) (Fr.r cS Fr.id_) HS10.out) 4 _ rfl;have yc5_10:w10.cell? ⟨(w.heap.size + 1),5,none⟩=some (.string yk):=cell_at (Done.at_ (C:=fun X=>Star (CellW w.heap.size (yA xf xt xs xn xa xk) 32) X) (Fr.r cS Fr.id_) HS10.out) 5 _ rfl;clear hs)
                  | ((with_reducible refine (dcalls_keep (cS.star cS) HS10.out (HMY.out _)).mono ?_);rintro e w11 ⟨rfl,hs⟩;have HS11:Hid (Done w [] (Star (CellW w.heap.size (yA xf xt xs xn xa xk) 32) (CellW (w.heap.size + 1) (yA yf yt ys yn ya yk) 32)) w11):=(by show Done _ _ _ _;exact hs);clear hs))
                 | (go_at_call 53;((with_reducible refine (dL_new HME.out (cS.star cS) HS11.out).mono ?_);rintro e w12 ⟨a1,rfl,hs⟩;have HS12:Hid (Done w [] (Star (Star (CellW w.heap.size (yA xf xt xs xn xa xk) 32) (CellW (w.heap.size + 1) (yA yf yt ys yn ya yk) 32)) (LogW (.pointer (some a1)) (LogM.new me))) w12):=(by show Done _ _ _ _;exact hs);clear hs))
                 | (go_at_call 51;first
                  | ((with_reducible refine (dL_add (x:=(⟨xf,xt,xs,xn,xa,xk⟩:XIn)) (b:=true) (m' := m1) HXO.out HB1.out HM1.out (C:=fun X=>Star (Star (CellW w.heap.size (yA xf xt xs xn xa xk) 32) (CellW (w.heap.size + 1) (yA yf yt ys yn ya yk) 32)) X) (Fr.r (cS.star cS) Fr.id_) HS12.out).mono ?_);rintro e w13 ⟨rfl,hs⟩;have HS13:Hid (Done w [] (Star (Star (CellW w.heap.size (yA xf xt xs xn xa xk) 32) (CellW (w.heap.size + 1) (yA yf yt ys yn ya yk) 32)) (LogW (.pointer (some a1)) m1)) w13):=(by show Done _ _ _ _;exact hs);clear hs)
                  | ((with_reducible refine (dL_add (x:=(⟨yf,yt,ys,yn,ya,yk⟩:XIn)) (b:=true) (m' := m2) HYO.out HB2.out HM2.out (C:=fun X=>Star (Star (CellW w.heap.size (yA xf xt xs xn xa xk) 32) (CellW (w.heap.size + 1) (yA yf yt ys yn ya yk) 32)) X) (Fr.r (cS.star cS) Fr.id_) HS13.out).mono ?_);rintro e w14 ⟨rfl,hs⟩;have HS14:Hid (Done w [] (Star (Star (CellW w.heap.size (yA xf xt xs xn xa xk) 32) (CellW (w.heap.size + 1) (yA yf yt ys yn ya yk) 32)) (LogW (.pointer (some a1)) m2)) w14):=(by show Done _ _ _ _;exact hs);have xc0_14:w14.cell? ⟨w.heap.size,0,none⟩=some (.int .u32 xf):=cell_at (Done.at_ (C:=fun X=>Star (Star (X) (CellW (w.heap.size + 1) (yA yf yt ys yn ya yk) 32)) (LogW (.pointer (some a1)) m2)) (Fr.l (Fr.l Fr.id_ cS) (LogW.stab _ _)) HS14.out) 0 _ rfl;have xc2_14:w14.cell? ⟨w.heap.size,2,none⟩=some (.int .i64 xs):=cell_at (Done.at_ (C:=fun X=>Star (Star (X) (CellW (w.heap.size + 1) (yA yf yt ys yn ya yk) 32)) (LogW (.pointer (some a1)) m2)) (Fr.l (Fr.l Fr.id_ cS) (LogW.stab _ _)) HS14.out) 2 _ rfl;have xc5_14:w14.cell? ⟨w.heap.size,5,none⟩=some (.string xk):=cell_at (Done.at_ (C:=fun X=>Star (Star (X) (CellW (w.heap.size + 1) (yA yf yt ys yn ya yk) 32)) (LogW (.pointer (some a1)) m2)) (Fr.l (Fr.l Fr.id_ cS) (LogW.stab _ _)) HS14.out) 5 _ rfl;have yc0_14:w14.cell? ⟨(w.heap.size + 1),0,none⟩=some (.int .u32 yf):=cell_at (Done.at_ (C:=fun X=>Star (Star (CellW w.heap.size (yA xf xt xs xn xa xk) 32) X) (LogW (.pointer (some a1)) m2)) (Fr.l (Fr.r cS Fr.id_) (LogW.stab _ _)) HS14.out) 0 _ rfl;have yc2_14:w14.cell? ⟨(w.heap.size + 1),2,none⟩=some (.int .i64 ys):=cell_at (Done.at_ (C:=fun X=>Star (Star (CellW w.heap.size (yA xf xt xs xn xa xk) 32) X) (LogW (.pointer (some a1)) m2)) (Fr.l (Fr.r cS Fr.id_) (LogW.stab _ _)) HS14.out) 2 _ rfl;have yc5_14:w14.cell? ⟨(w.heap.size + 1),5,none⟩=some (.string yk):=cell_at (Done.at_ (C:=fun X=>Star (Star (CellW w.heap.size (yA xf xt xs xn xa xk) 32) X) (LogW (.pointer (some a1)) m2)) (Fr.l (Fr.r cS Fr.id_) (LogW.stab _ _)) HS14.out) 5 _ rfl;clear hs))
                 | (go_at_call 32;((with_reducible refine (dL_clash (m:=m2) (n:=cn) (xs:=u32s m2.clash) HCN.out rfl (C:=fun X=>Star (Star (CellW w.heap.size (yA xf xt xs xn xa xk) 32) (CellW (w.heap.size + 1) (yA yf yt ys yn ya yk) 32)) X) (Fr.r (cS.star cS) Fr.id_) HS14.out).mono ?_);rintro e w15 ⟨A1,c1,rfl,hc,hs⟩;have HS15:Hid (Done w [] (Star (Star (CellW w.heap.size (yA xf xt xs xn xa xk) 32) (CellW (w.heap.size + 1) (yA yf yt ys yn ya yk) 32)) (Star (LogW (.pointer (some a1)) m2) (SlW 1 (.slice A1 cn c1) cn (u32s m2.clash)))) w15):=(by show Done _ _ _ _;exact hs);clear hs hc)))
                go_ret
                exact ⟨by first | rfl | (simp;done),HS15.out.bel⟩
              · skip
                have HB1:Hid (true=(LogM.new me).addB (⟨xf,xt,xs,xn,xa,xk⟩:XIn)):=by show _=_;rw [hb1];simp [hp1,hq1,hr1,hs,ht]
                have HB2:Hid (false=m1.addB (⟨yf,yt,ys,yn,ya,yk⟩:XIn)):=by show _=_;rw [hb2];simp [ba_beq,hp1,hq1,hr1,hs,ht]
                have hp:0 < cn:=hcl.2 (by simp [hp1,hq1,hr1,hs,ht])
                have t1:decide ((0:Int) < (cn:Int))=true:=decide_eq_true (by omega)
                have t2:decide (0 < cn)=true:=decide_eq_true hp
                have p0:(xf == me)=false:=by simp [hp1,hq1,hr1,hs,ht]
                have p1:(xf != me)=true:=by simp [hp1,hq1,hr1,hs,ht]
                have q0:(yf == me)=false:=by simp [hp1,hq1,hr1,hs,ht]
                have q1:(yf != me)=true:=by simp [hp1,hq1,hr1,hs,ht]
                have r0:(xf == yf)=true:=by simp [hp1,hq1,hr1,hs,ht]
                have r1:(xf != yf)=false:=by simp [hp1,hq1,hr1,hs,ht]
                have s0:(xk.toList == yk.toList)=true:=by simp [hs,tl_eq]
                have s1:(xk.toList != yk.toList)=false:=by simp [hs,tl_eq]
                have t0:(xs == ys)=false:=by simp [hp1,hq1,hr1,hs,ht]
                have t1:(xs != ys)=true:=by simp [hp1,hq1,hr1,hs,ht]
                clear hb1 hb2 hcl hp hp1 hq1 hr1 hs ht
                go_wp2_with (first
                 | (with_reducible refine wpList_loadD (C:=fun X=>Star (X) (CellW (w.heap.size + 1) (yA yf yt ys yn ya yk) 32)) (Fr.l Fr.id_ cS) HS9.out rfl 32 (.tmp 3) rfl rfl _ Tryz.underlying32 rfl (by kernel_rfl) ?_)
                 | (with_reducible refine wpList_loadD (C:=fun X=>Star (Star (X) (CellW (w.heap.size + 1) (yA yf yt ys yn ya yk) 32)) (LogW (.pointer (some a1)) (LogM.new me))) (Fr.l (Fr.l Fr.id_ cS) (LogW.stab _ _)) HS12.out rfl 32 (.tmp 3) rfl rfl _ Tryz.underlying32 rfl (by kernel_rfl) ?_)
                 | (with_reducible refine wpList_loadD (C:=fun X=>Star (Star (CellW w.heap.size (yA xf xt xs xn xa xk) 32) X) (LogW (.pointer (some a1)) m1)) (Fr.l (Fr.r cS Fr.id_) (LogW.stab _ _)) HS13.out rfl 32 (.tmp 4) rfl rfl _ Tryz.underlying32 rfl (by kernel_rfl) ?_)
                 | (go_at_call 38;first
                  | ((with_reducible refine (dcalls_keep (cS.star cS) HS9.out (HMX.out _)).mono ?_);rintro e w10 ⟨rfl,hs⟩;have HS10:Hid (Done w [] (Star (CellW w.heap.size (yA xf xt xs xn xa xk) 32) (CellW (w.heap.size + 1) (yA yf yt ys yn ya yk) 32)) w10):=(by show Done _ _ _ _;exact hs);have yc0_10:w10.cell? ⟨(w.heap.size + 1),0,none⟩=some (.int .u32 yf):=cell_at (Done.at_ (C:=fun X=>Star (CellW w.heap.size (yA xf xt xs xn xa xk) 32) X) (Fr.r cS Fr.id_) HS10.out) 0 _ rfl;have yc1_10:w10.cell? ⟨(w.heap.size + 1),1,none⟩=some (.int .u32 yt):=cell_at (Done.at_ (C:=fun X=>Star (CellW w.heap.size (yA xf xt xs xn xa xk) 32) X) (Fr.r cS Fr.id_) HS10.out) 1 _ rfl;have yc2_10:w10.cell? ⟨(w.heap.size + 1),2,none⟩=some (.int .i64 ys):=cell_at (Done.at_ (C:=fun X=>Star (CellW w.heap.size (yA xf xt xs xn xa xk) 32) X) (Fr.r cS Fr.id_) HS10.out) 2 _ rfl;have yc3_10:w10.cell? ⟨(w.heap.size + 1),3,none⟩=some (.int .i64 yn):=cell_at (Done.at_ (C:=fun X=>Star (CellW w.heap.size (yA xf xt xs xn xa xk) 32) X) (Fr.r cS Fr.id_) HS10.out) 3 _ rfl;have yc4_10:w10.cell? ⟨(w.heap.size + 1),4,none⟩=some (.bool ya):=cell_at (Done.at_ (C:=fun X=>Star (CellW w.heap.size (yA xf xt xs xn xa xk) 32) X) (Fr.r cS Fr.id_) HS10.out) 4 _ rfl;have yc5_10:w10.cell? ⟨(w.heap.size + 1),5,none⟩=some (.string yk):=cell_at (Done.at_ (C:=fun X=>Star (CellW w.heap.size (yA xf xt xs xn xa xk) 32) X) (Fr.r cS Fr.id_) HS10.out) 5 _ rfl;clear hs)
                  | ((with_reducible refine (dcalls_keep (cS.star cS) HS10.out (HMY.out _)).mono ?_);rintro e w11 ⟨rfl,hs⟩;have HS11:Hid (Done w [] (Star (CellW w.heap.size (yA xf xt xs xn xa xk) 32) (CellW (w.heap.size + 1) (yA yf yt ys yn ya yk) 32)) w11):=(by show Done _ _ _ _;exact hs);clear hs))
                 | (go_at_call 53;((with_reducible refine (dL_new HME.out (cS.star cS) HS11.out).mono ?_);rintro e w12 ⟨a1,rfl,hs⟩;have HS12:Hid (Done w [] (Star (Star (CellW w.heap.size (yA xf xt xs xn xa xk) 32) (CellW (w.heap.size + 1) (yA yf yt ys yn ya yk) 32)) (LogW (.pointer (some a1)) (LogM.new me))) w12):=(by show Done _ _ _ _;exact hs);clear hs))
                 | (go_at_call 51;first
                  | ((with_reducible refine (dL_add (x:=(⟨xf,xt,xs,xn,xa,xk⟩:XIn)) (b:=true) (m' := m1) HXO.out HB1.out HM1.out (C:=fun X=>Star (Star (CellW w.heap.size (yA xf xt xs xn xa xk) 32) (CellW (w.heap.size + 1) (yA yf yt ys yn ya yk) 32)) X) (Fr.r (cS.star cS) Fr.id_) HS12.out).mono ?_);rintro e w13 ⟨rfl,hs⟩;have HS13:Hid (Done w [] (Star (Star (CellW w.heap.size (yA xf xt xs xn xa xk) 32) (CellW (w.heap.size + 1) (yA yf yt ys yn ya yk) 32)) (LogW (.pointer (some a1)) m1)) w13):=(by show Done _ _ _ _;exact hs);clear hs)
                  | ((with_reducible refine (dL_add (x:=(⟨yf,yt,ys,yn,ya,yk⟩:XIn)) (b:=false) (m' := m2) HYO.out HB2.out HM2.out (C:=fun X=>Star (Star (CellW w.heap.size (yA xf xt xs xn xa xk) 32) (CellW (w.heap.size + 1) (yA yf yt ys yn ya yk) 32)) X) (Fr.r (cS.star cS) Fr.id_) HS13.out).mono ?_);rintro e w14 ⟨rfl,hs⟩;have HS14:Hid (Done w [] (Star (Star (CellW w.heap.size (yA xf xt xs xn xa xk) 32) (CellW (w.heap.size + 1) (yA yf yt ys yn ya yk) 32)) (LogW (.pointer (some a1)) m2)) w14):=(by show Done _ _ _ _;exact hs);have xc0_14:w14.cell? ⟨w.heap.size,0,none⟩=some (.int .u32 xf):=cell_at (Done.at_ (C:=fun X=>Star (Star (X) (CellW (w.heap.size + 1) (yA yf yt ys yn ya yk) 32)) (LogW (.pointer (some a1)) m2)) (Fr.l (Fr.l Fr.id_ cS) (LogW.stab _ _)) HS14.out) 0 _ rfl;have xc2_14:w14.cell? ⟨w.heap.size,2,none⟩=some (.int .i64 xs):=cell_at (Done.at_ (C:=fun X=>Star (Star (X) (CellW (w.heap.size + 1) (yA yf yt ys yn ya yk) 32)) (LogW (.pointer (some a1)) m2)) (Fr.l (Fr.l Fr.id_ cS) (LogW.stab _ _)) HS14.out) 2 _ rfl;have xc5_14:w14.cell? ⟨w.heap.size,5,none⟩=some (.string xk):=cell_at (Done.at_ (C:=fun X=>Star (Star (X) (CellW (w.heap.size + 1) (yA yf yt ys yn ya yk) 32)) (LogW (.pointer (some a1)) m2)) (Fr.l (Fr.l Fr.id_ cS) (LogW.stab _ _)) HS14.out) 5 _ rfl;have yc0_14:w14.cell? ⟨(w.heap.size + 1),0,none⟩=some (.int .u32 yf):=cell_at (Done.at_ (C:=fun X=>Star (Star (CellW w.heap.size (yA xf xt xs xn xa xk) 32) X) (LogW (.pointer (some a1)) m2)) (Fr.l (Fr.r cS Fr.id_) (LogW.stab _ _)) HS14.out) 0 _ rfl;have yc2_14:w14.cell? ⟨(w.heap.size + 1),2,none⟩=some (.int .i64 ys):=cell_at (Done.at_ (C:=fun X=>Star (Star (CellW w.heap.size (yA xf xt xs xn xa xk) 32) X) (LogW (.pointer (some a1)) m2)) (Fr.l (Fr.r cS Fr.id_) (LogW.stab _ _)) HS14.out) 2 _ rfl;have yc5_14:w14.cell? ⟨(w.heap.size + 1),5,none⟩=some (.string yk):=cell_at (Done.at_ (C:=fun X=>Star (Star (CellW w.heap.size (yA xf xt xs xn xa xk) 32) X) (LogW (.pointer (some a1)) m2)) (Fr.l (Fr.r cS Fr.id_) (LogW.stab _ _)) HS14.out) 5 _ rfl;clear hs))
                 | (go_at_call 32;((with_reducible refine (dL_clash (m:=m2) (n:=cn) (xs:=u32s m2.clash) HCN.out rfl (C:=fun X=>Star (Star (CellW w.heap.size (yA xf xt xs xn xa xk) 32) (CellW (w.heap.size + 1) (yA yf yt ys yn ya yk) 32)) X) (Fr.r (cS.star cS) Fr.id_) HS14.out).mono ?_);rintro e w15 ⟨A1,c1,rfl,hc,hs⟩;have HS15:Hid (Done w [] (Star (Star (CellW w.heap.size (yA xf xt xs xn xa xk) 32) (CellW (w.heap.size + 1) (yA yf yt ys yn ya yk) 32)) (Star (LogW (.pointer (some a1)) m2) (SlW 1 (.slice A1 cn c1) cn (u32s m2.clash)))) w15):=(by show Done _ _ _ _;exact hs);clear hs hc)))
                go_ret
                exact ⟨by first | rfl | (simp;done),HS15.out.bel⟩
            · have hs:¬ xk=yk:=hs
              have HB1:Hid (true=(LogM.new me).addB (⟨xf,xt,xs,xn,xa,xk⟩:XIn)):=by show _=_;rw [hb1];simp [hp1,hq1,hr1,hs]
              have HB2:Hid (false=m1.addB (⟨yf,yt,ys,yn,ya,yk⟩:XIn)):=by show _=_;rw [hb2];simp [ba_beq,hp1,hq1,hr1,hs]
              have hp:0 < cn:=hcl.2 (by simp [hp1,hq1,hr1,hs])
              have t1:decide ((0:Int) < (cn:Int))=true:=decide_eq_true (by omega)
              have t2:decide (0 < cn)=true:=decide_eq_true hp
              have p0:(xf == me)=false:=by simp [hp1,hq1,hr1,hs]
              have p1:(xf != me)=true:=by simp [hp1,hq1,hr1,hs]
              have q0:(yf == me)=false:=by simp [hp1,hq1,hr1,hs]
              have q1:(yf != me)=true:=by simp [hp1,hq1,hr1,hs]
              have r0:(xf == yf)=true:=by simp [hp1,hq1,hr1,hs]
              have r1:(xf != yf)=false:=by simp [hp1,hq1,hr1,hs]
              have s0:(xk.toList == yk.toList)=false:=by simp [hs,tl_eq]
              have s1:(xk.toList != yk.toList)=true:=by simp [hs,tl_eq]
              clear hb1 hb2 hcl hp hp1 hq1 hr1 hs
              go_wp2_with (first
               | (with_reducible refine wpList_loadD (C:=fun X=>Star (X) (CellW (w.heap.size + 1) (yA yf yt ys yn ya yk) 32)) (Fr.l Fr.id_ cS) HS9.out rfl 32 (.tmp 3) rfl rfl _ Tryz.underlying32 rfl (by kernel_rfl) ?_)
               | (with_reducible refine wpList_loadD (C:=fun X=>Star (Star (X) (CellW (w.heap.size + 1) (yA yf yt ys yn ya yk) 32)) (LogW (.pointer (some a1)) (LogM.new me))) (Fr.l (Fr.l Fr.id_ cS) (LogW.stab _ _)) HS12.out rfl 32 (.tmp 3) rfl rfl _ Tryz.underlying32 rfl (by kernel_rfl) ?_)
               | (with_reducible refine wpList_loadD (C:=fun X=>Star (Star (CellW w.heap.size (yA xf xt xs xn xa xk) 32) X) (LogW (.pointer (some a1)) m1)) (Fr.l (Fr.r cS Fr.id_) (LogW.stab _ _)) HS13.out rfl 32 (.tmp 4) rfl rfl _ Tryz.underlying32 rfl (by kernel_rfl) ?_)
               | (go_at_call 38;first
                | ((with_reducible refine (dcalls_keep (cS.star cS) HS9.out (HMX.out _)).mono ?_);rintro e w10 ⟨rfl,hs⟩;have HS10:Hid (Done w [] (Star (CellW w.heap.size (yA xf xt xs xn xa xk) 32) (CellW (w.heap.size + 1) (yA yf yt ys yn ya yk) 32)) w10):=(by show Done _ _ _ _;exact hs);have yc0_10:w10.cell? ⟨(w.heap.size + 1),0,none⟩=some (.int .u32 yf):=cell_at (Done.at_ (C:=fun X=>Star (CellW w.heap.size (yA xf xt xs xn xa xk) 32) X) (Fr.r cS Fr.id_) HS10.out) 0 _ rfl;have yc1_10:w10.cell? ⟨(w.heap.size + 1),1,none⟩=some (.int .u32 yt):=cell_at (Done.at_ (C:=fun X=>Star (CellW w.heap.size (yA xf xt xs xn xa xk) 32) X) (Fr.r cS Fr.id_) HS10.out) 1 _ rfl;have yc2_10:w10.cell? ⟨(w.heap.size + 1),2,none⟩=some (.int .i64 ys):=cell_at (Done.at_ (C:=fun X=>Star (CellW w.heap.size (yA xf xt xs xn xa xk) 32) X) (Fr.r cS Fr.id_) HS10.out) 2 _ rfl;have yc3_10:w10.cell? ⟨(w.heap.size + 1),3,none⟩=some (.int .i64 yn):=cell_at (Done.at_ (C:=fun X=>Star (CellW w.heap.size (yA xf xt xs xn xa xk) 32) X) (Fr.r cS Fr.id_) HS10.out) 3 _ rfl;have yc4_10:w10.cell? ⟨(w.heap.size + 1),4,none⟩=some (.bool ya):=cell_at (Done.at_ (C:=fun X=>Star (CellW w.heap.size (yA xf xt xs xn xa xk) 32) X) (Fr.r cS Fr.id_) HS10.out) 4 _ rfl;have yc5_10:w10.cell? ⟨(w.heap.size + 1),5,none⟩=some (.string yk):=cell_at (Done.at_ (C:=fun X=>Star (CellW w.heap.size (yA xf xt xs xn xa xk) 32) X) (Fr.r cS Fr.id_) HS10.out) 5 _ rfl;clear hs)
                | ((with_reducible refine (dcalls_keep (cS.star cS) HS10.out (HMY.out _)).mono ?_);rintro e w11 ⟨rfl,hs⟩;have HS11:Hid (Done w [] (Star (CellW w.heap.size (yA xf xt xs xn xa xk) 32) (CellW (w.heap.size + 1) (yA yf yt ys yn ya yk) 32)) w11):=(by show Done _ _ _ _;exact hs);clear hs))
               | (go_at_call 53;((with_reducible refine (dL_new HME.out (cS.star cS) HS11.out).mono ?_);rintro e w12 ⟨a1,rfl,hs⟩;have HS12:Hid (Done w [] (Star (Star (CellW w.heap.size (yA xf xt xs xn xa xk) 32) (CellW (w.heap.size + 1) (yA yf yt ys yn ya yk) 32)) (LogW (.pointer (some a1)) (LogM.new me))) w12):=(by show Done _ _ _ _;exact hs);clear hs))
               | (go_at_call 51;first
                | ((with_reducible refine (dL_add (x:=(⟨xf,xt,xs,xn,xa,xk⟩:XIn)) (b:=true) (m' := m1) HXO.out HB1.out HM1.out (C:=fun X=>Star (Star (CellW w.heap.size (yA xf xt xs xn xa xk) 32) (CellW (w.heap.size + 1) (yA yf yt ys yn ya yk) 32)) X) (Fr.r (cS.star cS) Fr.id_) HS12.out).mono ?_);rintro e w13 ⟨rfl,hs⟩;have HS13:Hid (Done w [] (Star (Star (CellW w.heap.size (yA xf xt xs xn xa xk) 32) (CellW (w.heap.size + 1) (yA yf yt ys yn ya yk) 32)) (LogW (.pointer (some a1)) m1)) w13):=(by show Done _ _ _ _;exact hs);clear hs)
                | ((with_reducible refine (dL_add (x:=(⟨yf,yt,ys,yn,ya,yk⟩:XIn)) (b:=false) (m' := m2) HYO.out HB2.out HM2.out (C:=fun X=>Star (Star (CellW w.heap.size (yA xf xt xs xn xa xk) 32) (CellW (w.heap.size + 1) (yA yf yt ys yn ya yk) 32)) X) (Fr.r (cS.star cS) Fr.id_) HS13.out).mono ?_);rintro e w14 ⟨rfl,hs⟩;have HS14:Hid (Done w [] (Star (Star (CellW w.heap.size (yA xf xt xs xn xa xk) 32) (CellW (w.heap.size + 1) (yA yf yt ys yn ya yk) 32)) (LogW (.pointer (some a1)) m2)) w14):=(by show Done _ _ _ _;exact hs);have xc0_14:w14.cell? ⟨w.heap.size,0,none⟩=some (.int .u32 xf):=cell_at (Done.at_ (C:=fun X=>Star (Star (X) (CellW (w.heap.size + 1) (yA yf yt ys yn ya yk) 32)) (LogW (.pointer (some a1)) m2)) (Fr.l (Fr.l Fr.id_ cS) (LogW.stab _ _)) HS14.out) 0 _ rfl;have xc2_14:w14.cell? ⟨w.heap.size,2,none⟩=some (.int .i64 xs):=cell_at (Done.at_ (C:=fun X=>Star (Star (X) (CellW (w.heap.size + 1) (yA yf yt ys yn ya yk) 32)) (LogW (.pointer (some a1)) m2)) (Fr.l (Fr.l Fr.id_ cS) (LogW.stab _ _)) HS14.out) 2 _ rfl;have xc5_14:w14.cell? ⟨w.heap.size,5,none⟩=some (.string xk):=cell_at (Done.at_ (C:=fun X=>Star (Star (X) (CellW (w.heap.size + 1) (yA yf yt ys yn ya yk) 32)) (LogW (.pointer (some a1)) m2)) (Fr.l (Fr.l Fr.id_ cS) (LogW.stab _ _)) HS14.out) 5 _ rfl;have yc0_14:w14.cell? ⟨(w.heap.size + 1),0,none⟩=some (.int .u32 yf):=cell_at (Done.at_ (C:=fun X=>Star (Star (CellW w.heap.size (yA xf xt xs xn xa xk) 32) X) (LogW (.pointer (some a1)) m2)) (Fr.l (Fr.r cS Fr.id_) (LogW.stab _ _)) HS14.out) 0 _ rfl;have yc2_14:w14.cell? ⟨(w.heap.size + 1),2,none⟩=some (.int .i64 ys):=cell_at (Done.at_ (C:=fun X=>Star (Star (CellW w.heap.size (yA xf xt xs xn xa xk) 32) X) (LogW (.pointer (some a1)) m2)) (Fr.l (Fr.r cS Fr.id_) (LogW.stab _ _)) HS14.out) 2 _ rfl;have yc5_14:w14.cell? ⟨(w.heap.size + 1),5,none⟩=some (.string yk):=cell_at (Done.at_ (C:=fun X=>Star (Star (CellW w.heap.size (yA xf xt xs xn xa xk) 32) X) (LogW (.pointer (some a1)) m2)) (Fr.l (Fr.r cS Fr.id_) (LogW.stab _ _)) HS14.out) 5 _ rfl;clear hs))
               | (go_at_call 32;((with_reducible refine (dL_clash (m:=m2) (n:=cn) (xs:=u32s m2.clash) HCN.out rfl (C:=fun X=>Star (Star (CellW w.heap.size (yA xf xt xs xn xa xk) 32) (CellW (w.heap.size + 1) (yA yf yt ys yn ya yk) 32)) X) (Fr.r (cS.star cS) Fr.id_) HS14.out).mono ?_);rintro e w15 ⟨A1,c1,rfl,hc,hs⟩;have HS15:Hid (Done w [] (Star (Star (CellW w.heap.size (yA xf xt xs xn xa xk) 32) (CellW (w.heap.size + 1) (yA yf yt ys yn ya yk) 32)) (Star (LogW (.pointer (some a1)) m2) (SlW 1 (.slice A1 cn c1) cn (u32s m2.clash)))) w15):=(by show Done _ _ _ _;exact hs);clear hs hc)))
              go_ret
              exact ⟨by first | rfl | (simp;done),HS15.out.bel⟩
          · skip
            have HB1:Hid (true=(LogM.new me).addB (⟨xf,xt,xs,xn,xa,xk⟩:XIn)):=by show _=_;rw [hb1];simp [hp1,hq1,hr1]
            have HB2:Hid (true=m1.addB (⟨yf,yt,ys,yn,ya,yk⟩:XIn)):=by show _=_;rw [hb2];simp [ba_beq,hp1,hq1,hr1]
            have hp:¬ 0 < cn:=fun h=>absurd (hcl.1 h) (by simp [hp1,hq1,hr1])
            have t1:decide ((0:Int) < (cn:Int))=false:=decide_eq_false (by omega)
            have t2:decide (0 < cn)=false:=decide_eq_false hp
            have p0:(xf == me)=false:=by simp [hp1,hq1,hr1]
            have p1:(xf != me)=true:=by simp [hp1,hq1,hr1]
            have q0:(yf == me)=false:=by simp [hp1,hq1,hr1]
            have q1:(yf != me)=true:=by simp [hp1,hq1,hr1]
            have r0:(xf == yf)=false:=by simp [hp1,hq1,hr1]
            have r1:(xf != yf)=true:=by simp [hp1,hq1,hr1]
            clear hb1 hb2 hcl hp hp1 hq1 hr1
            go_wp2_with (first
             | (with_reducible refine wpList_loadD (C:=fun X=>Star (X) (CellW (w.heap.size + 1) (yA yf yt ys yn ya yk) 32)) (Fr.l Fr.id_ cS) HS9.out rfl 32 (.tmp 3) rfl rfl _ Tryz.underlying32 rfl (by kernel_rfl) ?_)
             | (with_reducible refine wpList_loadD (C:=fun X=>Star (Star (X) (CellW (w.heap.size + 1) (yA yf yt ys yn ya yk) 32)) (LogW (.pointer (some a1)) (LogM.new me))) (Fr.l (Fr.l Fr.id_ cS) (LogW.stab _ _)) HS12.out rfl 32 (.tmp 3) rfl rfl _ Tryz.underlying32 rfl (by kernel_rfl) ?_)
             | (with_reducible refine wpList_loadD (C:=fun X=>Star (Star (CellW w.heap.size (yA xf xt xs xn xa xk) 32) X) (LogW (.pointer (some a1)) m1)) (Fr.l (Fr.r cS Fr.id_) (LogW.stab _ _)) HS13.out rfl 32 (.tmp 4) rfl rfl _ Tryz.underlying32 rfl (by kernel_rfl) ?_)
             | (go_at_call 38;first
              | ((with_reducible refine (dcalls_keep (cS.star cS) HS9.out (HMX.out _)).mono ?_);rintro e w10 ⟨rfl,hs⟩;have HS10:Hid (Done w [] (Star (CellW w.heap.size (yA xf xt xs xn xa xk) 32) (CellW (w.heap.size + 1) (yA yf yt ys yn ya yk) 32)) w10):=(by show Done _ _ _ _;exact hs);have yc0_10:w10.cell? ⟨(w.heap.size + 1),0,none⟩=some (.int .u32 yf):=cell_at (Done.at_ (C:=fun X=>Star (CellW w.heap.size (yA xf xt xs xn xa xk) 32) X) (Fr.r cS Fr.id_) HS10.out) 0 _ rfl;have yc1_10:w10.cell? ⟨(w.heap.size + 1),1,none⟩=some (.int .u32 yt):=cell_at (Done.at_ (C:=fun X=>Star (CellW w.heap.size (yA xf xt xs xn xa xk) 32) X) (Fr.r cS Fr.id_) HS10.out) 1 _ rfl;have yc2_10:w10.cell? ⟨(w.heap.size + 1),2,none⟩=some (.int .i64 ys):=cell_at (Done.at_ (C:=fun X=>Star (CellW w.heap.size (yA xf xt xs xn xa xk) 32) X) (Fr.r cS Fr.id_) HS10.out) 2 _ rfl;have yc3_10:w10.cell? ⟨(w.heap.size + 1),3,none⟩=some (.int .i64 yn):=cell_at (Done.at_ (C:=fun X=>Star (CellW w.heap.size (yA xf xt xs xn xa xk) 32) X) (Fr.r cS Fr.id_) HS10.out) 3 _ rfl;have yc4_10:w10.cell? ⟨(w.heap.size + 1),4,none⟩=some (.bool ya):=cell_at (Done.at_ (C:=fun X=>Star (CellW w.heap.size (yA xf xt xs xn xa xk) 32) X) (Fr.r cS Fr.id_) HS10.out) 4 _ rfl;have yc5_10:w10.cell? ⟨(w.heap.size + 1),5,none⟩=some (.string yk):=cell_at (Done.at_ (C:=fun X=>Star (CellW w.heap.size (yA xf xt xs xn xa xk) 32) X) (Fr.r cS Fr.id_) HS10.out) 5 _ rfl;clear hs)
              | ((with_reducible refine (dcalls_keep (cS.star cS) HS10.out (HMY.out _)).mono ?_);rintro e w11 ⟨rfl,hs⟩;have HS11:Hid (Done w [] (Star (CellW w.heap.size (yA xf xt xs xn xa xk) 32) (CellW (w.heap.size + 1) (yA yf yt ys yn ya yk) 32)) w11):=(by show Done _ _ _ _;exact hs);clear hs))
             | (go_at_call 53;((with_reducible refine (dL_new HME.out (cS.star cS) HS11.out).mono ?_);rintro e w12 ⟨a1,rfl,hs⟩;have HS12:Hid (Done w [] (Star (Star (CellW w.heap.size (yA xf xt xs xn xa xk) 32) (CellW (w.heap.size + 1) (yA yf yt ys yn ya yk) 32)) (LogW (.pointer (some a1)) (LogM.new me))) w12):=(by show Done _ _ _ _;exact hs);clear hs))
             | (go_at_call 51;first
              | ((with_reducible refine (dL_add (x:=(⟨xf,xt,xs,xn,xa,xk⟩:XIn)) (b:=true) (m' := m1) HXO.out HB1.out HM1.out (C:=fun X=>Star (Star (CellW w.heap.size (yA xf xt xs xn xa xk) 32) (CellW (w.heap.size + 1) (yA yf yt ys yn ya yk) 32)) X) (Fr.r (cS.star cS) Fr.id_) HS12.out).mono ?_);rintro e w13 ⟨rfl,hs⟩;have HS13:Hid (Done w [] (Star (Star (CellW w.heap.size (yA xf xt xs xn xa xk) 32) (CellW (w.heap.size + 1) (yA yf yt ys yn ya yk) 32)) (LogW (.pointer (some a1)) m1)) w13):=(by show Done _ _ _ _;exact hs);clear hs)
              | ((with_reducible refine (dL_add (x:=(⟨yf,yt,ys,yn,ya,yk⟩:XIn)) (b:=true) (m' := m2) HYO.out HB2.out HM2.out (C:=fun X=>Star (Star (CellW w.heap.size (yA xf xt xs xn xa xk) 32) (CellW (w.heap.size + 1) (yA yf yt ys yn ya yk) 32)) X) (Fr.r (cS.star cS) Fr.id_) HS13.out).mono ?_);rintro e w14 ⟨rfl,hs⟩;have HS14:Hid (Done w [] (Star (Star (CellW w.heap.size (yA xf xt xs xn xa xk) 32) (CellW (w.heap.size + 1) (yA yf yt ys yn ya yk) 32)) (LogW (.pointer (some a1)) m2)) w14):=(by show Done _ _ _ _;exact hs);have xc0_14:w14.cell? ⟨w.heap.size,0,none⟩=some (.int .u32 xf):=cell_at (Done.at_ (C:=fun X=>Star (Star (X) (CellW (w.heap.size + 1) (yA yf yt ys yn ya yk) 32)) (LogW (.pointer (some a1)) m2)) (Fr.l (Fr.l Fr.id_ cS) (LogW.stab _ _)) HS14.out) 0 _ rfl;have xc2_14:w14.cell? ⟨w.heap.size,2,none⟩=some (.int .i64 xs):=cell_at (Done.at_ (C:=fun X=>Star (Star (X) (CellW (w.heap.size + 1) (yA yf yt ys yn ya yk) 32)) (LogW (.pointer (some a1)) m2)) (Fr.l (Fr.l Fr.id_ cS) (LogW.stab _ _)) HS14.out) 2 _ rfl;have xc5_14:w14.cell? ⟨w.heap.size,5,none⟩=some (.string xk):=cell_at (Done.at_ (C:=fun X=>Star (Star (X) (CellW (w.heap.size + 1) (yA yf yt ys yn ya yk) 32)) (LogW (.pointer (some a1)) m2)) (Fr.l (Fr.l Fr.id_ cS) (LogW.stab _ _)) HS14.out) 5 _ rfl;have yc0_14:w14.cell? ⟨(w.heap.size + 1),0,none⟩=some (.int .u32 yf):=cell_at (Done.at_ (C:=fun X=>Star (Star (CellW w.heap.size (yA xf xt xs xn xa xk) 32) X) (LogW (.pointer (some a1)) m2)) (Fr.l (Fr.r cS Fr.id_) (LogW.stab _ _)) HS14.out) 0 _ rfl;have yc2_14:w14.cell? ⟨(w.heap.size + 1),2,none⟩=some (.int .i64 ys):=cell_at (Done.at_ (C:=fun X=>Star (Star (CellW w.heap.size (yA xf xt xs xn xa xk) 32) X) (LogW (.pointer (some a1)) m2)) (Fr.l (Fr.r cS Fr.id_) (LogW.stab _ _)) HS14.out) 2 _ rfl;have yc5_14:w14.cell? ⟨(w.heap.size + 1),5,none⟩=some (.string yk):=cell_at (Done.at_ (C:=fun X=>Star (Star (CellW w.heap.size (yA xf xt xs xn xa xk) 32) X) (LogW (.pointer (some a1)) m2)) (Fr.l (Fr.r cS Fr.id_) (LogW.stab _ _)) HS14.out) 5 _ rfl;clear hs))
             | (go_at_call 32;((with_reducible refine (dL_clash (m:=m2) (n:=cn) (xs:=u32s m2.clash) HCN.out rfl (C:=fun X=>Star (Star (CellW w.heap.size (yA xf xt xs xn xa xk) 32) (CellW (w.heap.size + 1) (yA yf yt ys yn ya yk) 32)) X) (Fr.r (cS.star cS) Fr.id_) HS14.out).mono ?_);rintro e w15 ⟨A1,c1,rfl,hc,hs⟩;have HS15:Hid (Done w [] (Star (Star (CellW w.heap.size (yA xf xt xs xn xa xk) 32) (CellW (w.heap.size + 1) (yA yf yt ys yn ya yk) 32)) (Star (LogW (.pointer (some a1)) m2) (SlW 1 (.slice A1 cn c1) cn (u32s m2.clash)))) w15):=(by show Done _ _ _ _;exact hs);clear hs hc)))
            go_ret
            exact ⟨by first | rfl | (simp;done),HS15.out.bel⟩
end Go.Proofs.YtjddbjmcjhjpiaaGreatDoor
