/- The law BoxTurn. -/
import Derived.Test.YtjddbjmcjhjpiaaGreatDoorN16J
import Derived.Test.YtjddbjmcjhjpiaaGreatDoorL16j1xBoxTurn
import Derived.Test.YtjddbjmcjhjpiaaGreatDoorL16j2xBoxTurn
import Derived.Test.YtjddbjmcjhjpiaaGreatDoorL16j3xBoxTurn
import Derived.Test.YtjddbjmcjhjpiaaGreatDoorL16jxBoxTurn

set_option linter.all false

namespace Go.Proofs.YtjddbjmcjhjpiaaGreatDoor
open Go.RowKit M

theorem BoxTurn_law (kind n id:Int) (s:ByteArray) (w:World) (hk:(Lit.int .i64 kind).wf=true) (hn:(Lit.int .i64 n).wf=true) (hi:(Lit.int .u32 id).wf=true) (hs:s.size≤maxLen) (hC:Codes w):Calls Tryz.prog 14 #[.int .i64 kind,.int .i64 n,.int .u32 id,.string s] w fun e w' => e=.returned (.bool true)∧Below w.heap.size w w' := by
 have ht:=fun w=>Text_any s 70 w hs (by omega)
 have hts:(s.extract 0 (min s.size 70)).size≤maxLen:=by rw [ByteArray.size_extract];omega
 generalize s.extract 0 (min s.size 70)=t at ht hts
 have hse:=ba_empty t
 by_cases h1:n=1
 · subst h1
   by_cases hi0:id=0
   · subst hi0
     by_cases hz:t.size=0
     · skip
       exact BoxTurn_10e kind 1 0 t s w hk hn hi hts hC ht rfl rfl rfl rfl rfl (by rw [hse,hz];rfl) (mayA_want kind 1 0 t (by simp [ownN,hz]) (by simp [ownN,hz]) (by simp [ownN,hz]) (by simp [ownN,hz]))
     · skip
       exact BoxTurn_10n kind 1 0 t s w hk hn hi hts hC ht rfl rfl rfl rfl rfl (by rw [hse];exact beq_eq_false_iff_ne.2 hz) (mayA_want kind 1 0 t (by simp [ownN,hz]) (by simp [ownN,hz]) (by simp [ownN,hz]) (by simp [ownN,hz]))
   · by_cases him:id=4294967295
     · subst him
       exact BoxTurn_1m kind 1 4294967295 t s w hk hn hi hts hC ht rfl rfl rfl rfl rfl (mayA_want kind 1 4294967295 t (by simp [ownN]) (by simp [ownN]) (by simp [ownN]) (by simp [ownN]))
     · skip
       exact BoxTurn_1x kind 1 id t s w hk hn hi hts hC ht rfl rfl (beq_eq_false_iff_ne.2 hi0) (bne_iff_ne.2 hi0) (bne_iff_ne.2 him) (mayA_want kind 1 id t (by simp [ownN,hi0,him]) (by simp [ownN,hi0,him]) (by simp [ownN,hi0,him]) (by simp [ownN,hi0,him]))
 · skip
   by_cases h6:n=6
   · subst h6
     by_cases hi0:id=0
     · subst hi0
       by_cases hz:t.size=0
       · skip
         exact BoxTurn_60e kind 6 0 t s w hk hn hi hts hC ht rfl rfl rfl rfl rfl rfl (by rw [hse,hz];rfl) (mayA_want kind 6 0 t (by simp [ownN,hz]) (by simp [ownN,hz]) (by simp [ownN,hz]) (by simp [ownN,hz]))
       · skip
         exact BoxTurn_60n kind 6 0 t s w hk hn hi hts hC ht rfl rfl rfl rfl rfl rfl (by rw [hse];exact beq_eq_false_iff_ne.2 hz) (mayA_want kind 6 0 t (by simp [ownN,hz]) (by simp [ownN,hz]) (by simp [ownN,hz]) (by simp [ownN,hz]))
     · by_cases him:id=4294967295
       · subst him
         exact BoxTurn_6m kind 6 4294967295 t s w hk hn hi hts hC ht rfl rfl rfl rfl rfl rfl (mayA_want kind 6 4294967295 t (by simp [ownN]) (by simp [ownN]) (by simp [ownN]) (by simp [ownN]))
       · skip
         exact BoxTurn_6x kind 6 id t s w hk hn hi hts hC ht rfl rfl rfl (beq_eq_false_iff_ne.2 hi0) (bne_iff_ne.2 hi0) (bne_iff_ne.2 him) (mayA_want kind 6 id t (by simp [ownN,hi0,him]) (by simp [ownN,hi0,him]) (by simp [ownN,hi0,him]) (by simp [ownN,hi0,him]))
   · skip
     by_cases h8:n=8
     · subst h8
       by_cases hi0:id=0
       · subst hi0
         by_cases hz:t.size=0
         · skip
           exact BoxTurn_80e kind 8 0 t s w hk hn hi hts hC ht rfl rfl rfl rfl rfl rfl rfl (by rw [hse,hz];rfl) (mayA_want kind 8 0 t (by simp [ownN,hz]) (by simp [ownN,hz]) (by simp [ownN,hz]) (by simp [ownN,hz]))
         · skip
           exact BoxTurn_80n kind 8 0 t s w hk hn hi hts hC ht rfl rfl rfl rfl rfl rfl rfl (by rw [hse];exact beq_eq_false_iff_ne.2 hz) (mayA_want kind 8 0 t (by simp [ownN,hz]) (by simp [ownN,hz]) (by simp [ownN,hz]) (by simp [ownN,hz]))
       · by_cases him:id=4294967295
         · subst him
           exact BoxTurn_8m kind 8 4294967295 t s w hk hn hi hts hC ht rfl rfl rfl rfl rfl rfl rfl (mayA_want kind 8 4294967295 t (by simp [ownN]) (by simp [ownN]) (by simp [ownN]) (by simp [ownN]))
         · skip
           exact BoxTurn_8x kind 8 id t s w hk hn hi hts hC ht rfl rfl rfl rfl (beq_eq_false_iff_ne.2 hi0) (bne_iff_ne.2 hi0) (bne_iff_ne.2 him) (mayA_want kind 8 id t (by simp [ownN,hi0,him]) (by simp [ownN,hi0,him]) (by simp [ownN,hi0,him]) (by simp [ownN,hi0,him]))
     · skip
       by_cases h0:n=0
       · subst h0
         by_cases hi0:id=0
         · subst hi0
           by_cases hz:t.size=0
           · skip
             exact BoxTurn_00e kind 0 0 t s w hk hn hi hts hC ht rfl rfl rfl rfl rfl rfl rfl (by rw [hse,hz];rfl) (decide_eq_true (by omega)) (decide_eq_true (by omega)) (mayA_want kind 0 0 t (by simp [ownN,hz]) (by simp [ownN,hz]) (by simp [ownN,hz]) (by simp [ownN,hz]))
           · by_cases hl:t.size≤64
             · skip
               exact BoxTurn_00l kind 0 0 t s w hk hn hi hts hC ht rfl rfl rfl rfl rfl rfl rfl (by rw [hse];exact beq_eq_false_iff_ne.2 hz) (decide_eq_true (by omega)) (decide_eq_true (by omega)) (mayA_want kind 0 0 t (by simp [ownN,hz,hl]) (by simp [ownN,hz,hl]) (by simp [ownN,hz,hl]) (by simp [ownN,hz,hl]))
             · skip
               exact BoxTurn_00b kind 0 0 t s w hk hn hi hts hC ht rfl rfl rfl rfl rfl rfl rfl (by rw [hse];exact beq_eq_false_iff_ne.2 hz) (decide_eq_false (by omega)) (decide_eq_false (by omega)) (mayA_want kind 0 0 t (by simp [ownN,hz,hl]) (by simp [ownN,hz,hl]) (by simp [ownN,hz,hl]) (by simp [ownN,hz,hl]))
         · by_cases him:id=4294967295
           · subst him
             exact BoxTurn_0m kind 0 4294967295 t s w hk hn hi hts hC ht rfl rfl rfl rfl rfl rfl rfl (mayA_want kind 0 4294967295 t (by simp [ownN]) (by simp [ownN]) (by simp [ownN]) (by simp [ownN]))
           · skip
             by_cases hz:t.size=0
             · skip
               exact BoxTurn_0xe kind 0 id t s w hk hn hi hts hC ht rfl rfl rfl rfl (beq_eq_false_iff_ne.2 hi0) (bne_iff_ne.2 hi0) (bne_iff_ne.2 him) (by rw [hse,hz];rfl) (mayA_want kind 0 id t (by simp [ownN,hi0,him,hz]) (by simp [ownN,hi0,him,hz]) (by simp [ownN,hi0,him,hz]) (by simp [ownN,hi0,him,hz]))
             · skip
               exact BoxTurn_0xn kind 0 id t s w hk hn hi hts hC ht rfl rfl rfl rfl (beq_eq_false_iff_ne.2 hi0) (bne_iff_ne.2 hi0) (bne_iff_ne.2 him) (by rw [hse];exact beq_eq_false_iff_ne.2 hz) (mayA_want kind 0 id t (by simp [ownN,hi0,him,hz]) (by simp [ownN,hi0,him,hz]) (by simp [ownN,hi0,him,hz]) (by simp [ownN,hi0,him,hz]))
       · skip
         by_cases hi0:id=0
         · subst hi0
           exact BoxTurn_x0 kind n 0 t s w hk hn hi hts hC ht (beq_eq_false_iff_ne.2 h0) (beq_eq_false_iff_ne.2 h1) (beq_eq_false_iff_ne.2 h6) (beq_eq_false_iff_ne.2 h8) rfl rfl rfl (mayA_want kind n 0 t (by simp [ownN,h1,h6,h8,h0]) (by simp [ownN,h1,h6,h8,h0]) (by simp [ownN,h1,h6,h8,h0]) (by simp [ownN,h1,h6,h8,h0]))
         · by_cases him:id=4294967295
           · subst him
             exact BoxTurn_xm kind n 4294967295 t s w hk hn hi hts hC ht (beq_eq_false_iff_ne.2 h0) (beq_eq_false_iff_ne.2 h1) (beq_eq_false_iff_ne.2 h6) (beq_eq_false_iff_ne.2 h8) rfl rfl rfl (mayA_want kind n 4294967295 t (by simp [ownN,h1,h6,h8,h0]) (by simp [ownN,h1,h6,h8,h0]) (by simp [ownN,h1,h6,h8,h0]) (by simp [ownN,h1,h6,h8,h0]))
           · skip
             exact BoxTurn_xx kind n id t s w hk hn hi hts hC ht (beq_eq_false_iff_ne.2 h0) (beq_eq_false_iff_ne.2 h1) (beq_eq_false_iff_ne.2 h6) (beq_eq_false_iff_ne.2 h8) (beq_eq_false_iff_ne.2 hi0) (bne_iff_ne.2 hi0) (bne_iff_ne.2 him) (mayA_want kind n id t (by simp [ownN,h1,h6,h8,h0,hi0,him]) (by simp [ownN,h1,h6,h8,h0,hi0,him]) (by simp [ownN,h1,h6,h8,h0,hi0,him]) (by simp [ownN,h1,h6,h8,h0,hi0,him]))
end Go.Proofs.YtjddbjmcjhjpiaaGreatDoor
