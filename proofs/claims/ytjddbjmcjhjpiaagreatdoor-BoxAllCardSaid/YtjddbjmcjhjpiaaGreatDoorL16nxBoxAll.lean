/- The reference of layer 16: what one may be asked for. -/
import Derived.Test.YtjddbjmcjhjpiaaGreatDoorN16J
import Derived.Test.YtjddbjmcjhjpiaaGreatDoorN16B
import Derived.Test.YtjddbjmcjhjpiaaGreatDoorN16C

set_option linter.all false

namespace Go.Proofs.YtjddbjmcjhjpiaaGreatDoor
set_option maxRecDepth 100000
set_option maxHeartbeats 32000000
open Go.RowKit M

theorem RMayAsk_any (a:AIn) (w:World):Calls Tryz.prog 45 #[a.val] w fun e w' => e=.returned (.bool (mayA a))∧Below w.heap.size w w' := by
 obtain ⟨k,n,id,s⟩:=a
 show Calls Tryz.prog 45 #[.agg #[.int .i64 k,.int .i64 n,.int .u32 id,.string s]] w fun e w' => e=.returned (.bool (mayA ⟨k,n,id,s⟩))∧Below w.heap.size w w'
 have hoa:=fun w=>ROwn_any id w
 have H0:=jzD (heap_alloc_new w (.cells (yC k n id s) 68))
 have hse:=ba_empty s
 go_enter Tryz.func45,Tryz.ntmps45
 go_wp2
 refine regq (fun W=>Below (w.alloc (.cells (yC k n id s) 68)).heap.size (w.alloc (.cells (yC k n id s) 68)) W) (by kernel_rfl) (by kernel_rfl) ((Below.refl _ _).drew) ?_
 refine qtk ?_
 refine qtk ?_ (hy:=by intro W HW;have c1w:W.cell? ⟨w.heap.size,1,none⟩=some (.int .i64 n):=cell_at (keep_at H0.out HW) 1 _ rfl;go_simp;try with_reducible rfl)
 iterate 2 refine qtk ?_
 refine qtk ?_ (hy:=by intro W HW;have c2w:W.cell? ⟨w.heap.size,2,none⟩=some (.int .u32 id):=cell_at (keep_at H0.out HW) 2 _ rfl;go_simp;try with_reducible rfl)
 iterate 2 refine qtk ?_
 refine qtk ?_ (hy:=by intro W HW;have c3w:W.cell? ⟨w.heap.size,3,none⟩=some (.string s):=cell_at (keep_at H0.out HW) 3 _ rfl;go_simp;try with_reducible rfl)
 iterate 4 refine qtk ?_
 refine q_done ?_
 intro w1 hb
 have HH1:=jzD (keep_at H0.out hb)
 have HB1:=jzD (bel_trans (bal (bel0 w) (.cells (yC k n id s) 68)) hb)
 have c0:w1.cell? ⟨w.heap.size,0,none⟩=some (.int .i64 k):=cell_at HH1.out 0 _ rfl
 have c1:w1.cell? ⟨w.heap.size,1,none⟩=some (.int .i64 n):=cell_at HH1.out 1 _ rfl
 have c2:w1.cell? ⟨w.heap.size,2,none⟩=some (.int .u32 id):=cell_at HH1.out 2 _ rfl
 have c3:w1.cell? ⟨w.heap.size,3,none⟩=some (.string s):=cell_at HH1.out 3 _ rfl
 clear hb H0 HH1
 by_cases hk1:k=1
 · subst hk1
   by_cases hn1:n=1
   · subst hn1
     by_cases hi0:id=0
     · subst hi0
       by_cases hz:s.size=0
       · skip
         have hz2:s=ByteArray.empty:=by simpa using hz
         have HZ2:=jzD hz2
         have ee:s.toList.isEmpty=true:=by rw [hse];rw [hz];rfl
         have hma:mayA ⟨1,1,0,s⟩=true:=by simp [mayA,hz,hz2]
         have HMA:=jzD hma
         clear hma hse hoa hz hz2
         go_wp2
         go_ret
         exact ⟨by rw [HMA.out];first | rfl | (simp;done) | (simp [HZ2.out];done),HB1.out⟩
       · skip
         have hz2:¬ s=ByteArray.empty:=by simpa using hz
         have HZ2:=jzD hz2
         have ee:s.toList.isEmpty=false:=by rw [hse];exact beq_eq_false_iff_ne.2 hz
         have hma:mayA ⟨1,1,0,s⟩=false:=by simp [mayA,hz,hz2]
         have HMA:=jzD hma
         clear hma hse hoa hz hz2
         go_wp2
         go_ret
         exact ⟨by rw [HMA.out];first | rfl | (simp;done) | (simp [HZ2.out];done),HB1.out⟩
     · skip
       have ii0:(id == 0)=false:=beq_eq_false_iff_ne.2 hi0
       have ii0b:(id != 0)=true:=bne_iff_ne.2 hi0
       have hma:mayA ⟨1,1,id,s⟩=false:=by simp [mayA,hi0]
       have HMA:=jzD hma
       clear hma hse hoa hi0
       go_wp2
       go_ret
       exact ⟨by rw [HMA.out];first | rfl | (simp;done),HB1.out⟩
   · skip
     by_cases hn6:n=6
     · subst hn6
       by_cases hi0:id=0
       · subst hi0
         by_cases hz:s.size=0
         · skip
           have hz2:s=ByteArray.empty:=by simpa using hz
           have HZ2:=jzD hz2
           have ee:s.toList.isEmpty=true:=by rw [hse];rw [hz];rfl
           have hma:mayA ⟨1,6,0,s⟩=true:=by simp [mayA,hz,hz2]
           have HMA:=jzD hma
           clear hma hse hoa hz hz2
           go_wp2
           go_ret
           exact ⟨by rw [HMA.out];first | rfl | (simp;done) | (simp [HZ2.out];done),HB1.out⟩
         · skip
           have hz2:¬ s=ByteArray.empty:=by simpa using hz
           have HZ2:=jzD hz2
           have ee:s.toList.isEmpty=false:=by rw [hse];exact beq_eq_false_iff_ne.2 hz
           have hma:mayA ⟨1,6,0,s⟩=false:=by simp [mayA,hz,hz2]
           have HMA:=jzD hma
           clear hma hse hoa hz hz2
           go_wp2
           go_ret
           exact ⟨by rw [HMA.out];first | rfl | (simp;done) | (simp [HZ2.out];done),HB1.out⟩
       · skip
         have ii0:(id == 0)=false:=beq_eq_false_iff_ne.2 hi0
         have ii0b:(id != 0)=true:=bne_iff_ne.2 hi0
         have hma:mayA ⟨1,6,id,s⟩=false:=by simp [mayA,hi0]
         have HMA:=jzD hma
         clear hma hse hoa hi0
         go_wp2
         go_ret
         exact ⟨by rw [HMA.out];first | rfl | (simp;done),HB1.out⟩
     · skip
       by_cases hn8:n=8
       · subst hn8
         by_cases hi0:id=0
         · subst hi0
           by_cases hz:s.size=0
           · skip
             have hz2:s=ByteArray.empty:=by simpa using hz
             have HZ2:=jzD hz2
             have ee:s.toList.isEmpty=true:=by rw [hse];rw [hz];rfl
             have hma:mayA ⟨1,8,0,s⟩=true:=by simp [mayA,hz,hz2]
             have HMA:=jzD hma
             clear hma hse hoa hz hz2
             go_wp2
             go_ret
             exact ⟨by rw [HMA.out];first | rfl | (simp;done) | (simp [HZ2.out];done),HB1.out⟩
           · skip
             have hz2:¬ s=ByteArray.empty:=by simpa using hz
             have HZ2:=jzD hz2
             have ee:s.toList.isEmpty=false:=by rw [hse];exact beq_eq_false_iff_ne.2 hz
             have hma:mayA ⟨1,8,0,s⟩=false:=by simp [mayA,hz,hz2]
             have HMA:=jzD hma
             clear hma hse hoa hz hz2
             go_wp2
             go_ret
             exact ⟨by rw [HMA.out];first | rfl | (simp;done) | (simp [HZ2.out];done),HB1.out⟩
         · skip
           have ii0:(id == 0)=false:=beq_eq_false_iff_ne.2 hi0
           have ii0b:(id != 0)=true:=bne_iff_ne.2 hi0
           have hma:mayA ⟨1,8,id,s⟩=false:=by simp [mayA,hi0]
           have HMA:=jzD hma
           clear hma hse hoa hi0
           go_wp2
           go_ret
           exact ⟨by rw [HMA.out];first | rfl | (simp;done),HB1.out⟩
       · skip
         have nn1:(n == 1)=false:=beq_eq_false_iff_ne.2 hn1
         have nn6:(n == 6)=false:=beq_eq_false_iff_ne.2 hn6
         have nn8:(n == 8)=false:=beq_eq_false_iff_ne.2 hn8
         have hma:mayA ⟨1,n,id,s⟩=false:=by simp [mayA,hn1,hn6,hn8]
         have HMA:=jzD hma
         clear hma hse hoa hn1 hn6 hn8
         go_wp2
         go_ret
         exact ⟨by rw [HMA.out];first | rfl | (simp;done),HB1.out⟩
 · skip
   by_cases hk2:k=2
   · subst hk2
     rcases ho:ownN id with _ | _
     · skip
       rw [ho] at hoa
       have HOA:=jzD hoa
       have hma:mayA ⟨2,n,id,s⟩=false:=by simp [mayA,ho]
       have HMA:=jzD hma
       clear hma hse ho
       clear hoa
       go_wp2_with (go_at_call 37;((with_reducible refine (HOA.out _).mono ?_);rintro e w' ⟨rfl,hw'⟩;rw [hw'];clear hw'))
       go_ret
       exact ⟨by rw [HMA.out];first | rfl | (simp;done),HB1.out⟩
     · by_cases hn0:n=0
       · subst hn0
         by_cases hz:s.size=0
         · skip
           have hz2:s=ByteArray.empty:=by simpa using hz
           have HZ2:=jzD hz2
           have ee:s.toList.isEmpty=true:=by rw [hse];rw [hz];rfl
           rw [ho] at hoa
           have HOA:=jzD hoa
           have hma:mayA ⟨2,0,id,s⟩=true:=by simp [mayA,hz,hz2,ho]
           have HMA:=jzD hma
           clear hma hse hz hz2 ho
           clear hoa
           go_wp2_with (go_at_call 37;((with_reducible refine (HOA.out _).mono ?_);rintro e w' ⟨rfl,hw'⟩;rw [hw'];clear hw'))
           go_ret
           exact ⟨by rw [HMA.out];first | rfl | (simp;done) | (simp [HZ2.out];done),HB1.out⟩
         · skip
           have hz2:¬ s=ByteArray.empty:=by simpa using hz
           have HZ2:=jzD hz2
           have ee:s.toList.isEmpty=false:=by rw [hse];exact beq_eq_false_iff_ne.2 hz
           rw [ho] at hoa
           have HOA:=jzD hoa
           have hma:mayA ⟨2,0,id,s⟩=false:=by simp [mayA,hz,hz2,ho]
           have HMA:=jzD hma
           clear hma hse hz hz2 ho
           clear hoa
           go_wp2_with (go_at_call 37;((with_reducible refine (HOA.out _).mono ?_);rintro e w' ⟨rfl,hw'⟩;rw [hw'];clear hw'))
           go_ret
           exact ⟨by rw [HMA.out];first | rfl | (simp;done) | (simp [HZ2.out];done),HB1.out⟩
       · skip
         have nn0:(n == 0)=false:=beq_eq_false_iff_ne.2 hn0
         have nn0b:(n != 0)=true:=bne_iff_ne.2 hn0
         rw [ho] at hoa
         have HOA:=jzD hoa
         have hma:mayA ⟨2,n,id,s⟩=false:=by simp [mayA,hn0,ho]
         have HMA:=jzD hma
         clear hma hse hn0 ho
         clear hoa
         go_wp2_with (go_at_call 37;((with_reducible refine (HOA.out _).mono ?_);rintro e w' ⟨rfl,hw'⟩;rw [hw'];clear hw'))
         go_ret
         exact ⟨by rw [HMA.out];first | rfl | (simp;done),HB1.out⟩
   · skip
     by_cases hk7:k=7
     · subst hk7
       rcases ho:ownN id with _ | _
       · skip
         rw [ho] at hoa
         have HOA:=jzD hoa
         have hma:mayA ⟨7,n,id,s⟩=false:=by simp [mayA,ho]
         have HMA:=jzD hma
         clear hma hse ho
         clear hoa
         go_wp2_with (go_at_call 37;((with_reducible refine (HOA.out _).mono ?_);rintro e w' ⟨rfl,hw'⟩;rw [hw'];clear hw'))
         go_ret
         exact ⟨by rw [HMA.out];first | rfl | (simp;done),HB1.out⟩
       · by_cases hn0:n=0
         · subst hn0
           by_cases hz:s.size=0
           · skip
             have hz2:s=ByteArray.empty:=by simpa using hz
             have HZ2:=jzD hz2
             have ee:s.toList.isEmpty=true:=by rw [hse];rw [hz];rfl
             rw [ho] at hoa
             have HOA:=jzD hoa
             have hma:mayA ⟨7,0,id,s⟩=true:=by simp [mayA,hz,hz2,ho]
             have HMA:=jzD hma
             clear hma hse hz hz2 ho
             clear hoa
             go_wp2_with (go_at_call 37;((with_reducible refine (HOA.out _).mono ?_);rintro e w' ⟨rfl,hw'⟩;rw [hw'];clear hw'))
             go_ret
             exact ⟨by rw [HMA.out];first | rfl | (simp;done) | (simp [HZ2.out];done),HB1.out⟩
           · skip
             have hz2:¬ s=ByteArray.empty:=by simpa using hz
             have HZ2:=jzD hz2
             have ee:s.toList.isEmpty=false:=by rw [hse];exact beq_eq_false_iff_ne.2 hz
             rw [ho] at hoa
             have HOA:=jzD hoa
             have hma:mayA ⟨7,0,id,s⟩=false:=by simp [mayA,hz,hz2,ho]
             have HMA:=jzD hma
             clear hma hse hz hz2 ho
             clear hoa
             go_wp2_with (go_at_call 37;((with_reducible refine (HOA.out _).mono ?_);rintro e w' ⟨rfl,hw'⟩;rw [hw'];clear hw'))
             go_ret
             exact ⟨by rw [HMA.out];first | rfl | (simp;done) | (simp [HZ2.out];done),HB1.out⟩
         · skip
           have nn0:(n == 0)=false:=beq_eq_false_iff_ne.2 hn0
           have nn0b:(n != 0)=true:=bne_iff_ne.2 hn0
           rw [ho] at hoa
           have HOA:=jzD hoa
           have hma:mayA ⟨7,n,id,s⟩=false:=by simp [mayA,hn0,ho]
           have HMA:=jzD hma
           clear hma hse hn0 ho
           clear hoa
           go_wp2_with (go_at_call 37;((with_reducible refine (HOA.out _).mono ?_);rintro e w' ⟨rfl,hw'⟩;rw [hw'];clear hw'))
           go_ret
           exact ⟨by rw [HMA.out];first | rfl | (simp;done),HB1.out⟩
     · skip
       by_cases hk3:k=3
       · subst hk3
         by_cases hl:s.size≤64
         · by_cases hn0:n=0
           · subst hn0
             by_cases hi0:id=0
             · subst hi0
               have l1:decide (s.size≤64)=true:=decide_eq_true hl
               have l2:decide ((s.size:Int)≤64)=true:=decide_eq_true (by omega)
               have hma:mayA ⟨3,0,0,s⟩=true:=by simp [mayA,hl]
               have HMA:=jzD hma
               clear hma hse hoa hl
               go_wp2
               go_ret
               exact ⟨by rw [HMA.out];first | rfl | (simp;done),HB1.out⟩
             · skip
               have ii0:(id == 0)=false:=beq_eq_false_iff_ne.2 hi0
               have ii0b:(id != 0)=true:=bne_iff_ne.2 hi0
               have l1:decide (s.size≤64)=true:=decide_eq_true hl
               have l2:decide ((s.size:Int)≤64)=true:=decide_eq_true (by omega)
               have hma:mayA ⟨3,0,id,s⟩=false:=by simp [mayA,hi0,hl]
               have HMA:=jzD hma
               clear hma hse hoa hi0 hl
               go_wp2
               go_ret
               exact ⟨by rw [HMA.out];first | rfl | (simp;done),HB1.out⟩
           · skip
             have nn0:(n == 0)=false:=beq_eq_false_iff_ne.2 hn0
             have nn0b:(n != 0)=true:=bne_iff_ne.2 hn0
             have l1:decide (s.size≤64)=true:=decide_eq_true hl
             have l2:decide ((s.size:Int)≤64)=true:=decide_eq_true (by omega)
             have hma:mayA ⟨3,n,id,s⟩=false:=by simp [mayA,hn0,hl]
             have HMA:=jzD hma
             clear hma hse hoa hn0 hl
             go_wp2
             go_ret
             exact ⟨by rw [HMA.out];first | rfl | (simp;done),HB1.out⟩
         · skip
           have l1:decide (s.size≤64)=false:=decide_eq_false hl
           have l2:decide ((s.size:Int)≤64)=false:=decide_eq_false (by omega)
           have hma:mayA ⟨3,n,id,s⟩=false:=by simp [mayA,hl]
           have HMA:=jzD hma
           clear hma hse hoa hl
           go_wp2
           go_ret
           exact ⟨by rw [HMA.out];first | rfl | (simp;done),HB1.out⟩
       · skip
         by_cases hk4:k=4
         · subst hk4
           by_cases hn0:n=0
           · subst hn0
             by_cases hi0:id=0
             · subst hi0
               by_cases hz:s.size=0
               · skip
                 have hz2:s=ByteArray.empty:=by simpa using hz
                 have HZ2:=jzD hz2
                 have ee:s.toList.isEmpty=true:=by rw [hse];rw [hz];rfl
                 have hma:mayA ⟨4,0,0,s⟩=true:=by simp [mayA,hz,hz2]
                 have HMA:=jzD hma
                 clear hma hse hoa hz hz2
                 go_wp2
                 go_ret
                 exact ⟨by rw [HMA.out];first | rfl | (simp;done) | (simp [HZ2.out];done),HB1.out⟩
               · skip
                 have hz2:¬ s=ByteArray.empty:=by simpa using hz
                 have HZ2:=jzD hz2
                 have ee:s.toList.isEmpty=false:=by rw [hse];exact beq_eq_false_iff_ne.2 hz
                 have hma:mayA ⟨4,0,0,s⟩=false:=by simp [mayA,hz,hz2]
                 have HMA:=jzD hma
                 clear hma hse hoa hz hz2
                 go_wp2
                 go_ret
                 exact ⟨by rw [HMA.out];first | rfl | (simp;done) | (simp [HZ2.out];done),HB1.out⟩
             · skip
               have ii0:(id == 0)=false:=beq_eq_false_iff_ne.2 hi0
               have ii0b:(id != 0)=true:=bne_iff_ne.2 hi0
               have hma:mayA ⟨4,0,id,s⟩=false:=by simp [mayA,hi0]
               have HMA:=jzD hma
               clear hma hse hoa hi0
               go_wp2
               go_ret
               exact ⟨by rw [HMA.out];first | rfl | (simp;done),HB1.out⟩
           · skip
             have nn0:(n == 0)=false:=beq_eq_false_iff_ne.2 hn0
             have nn0b:(n != 0)=true:=bne_iff_ne.2 hn0
             have hma:mayA ⟨4,n,id,s⟩=false:=by simp [mayA,hn0]
             have HMA:=jzD hma
             clear hma hse hoa hn0
             go_wp2
             go_ret
             exact ⟨by rw [HMA.out];first | rfl | (simp;done),HB1.out⟩
         · skip
           by_cases hk5:k=5
           · subst hk5
             by_cases hn0:n=0
             · subst hn0
               by_cases hi0:id=0
               · subst hi0
                 by_cases hz:s.size=0
                 · skip
                   have hz2:s=ByteArray.empty:=by simpa using hz
                   have HZ2:=jzD hz2
                   have ee:s.toList.isEmpty=true:=by rw [hse];rw [hz];rfl
                   have hma:mayA ⟨5,0,0,s⟩=true:=by simp [mayA,hz,hz2]
                   have HMA:=jzD hma
                   clear hma hse hoa hz hz2
                   go_wp2
                   go_ret
                   exact ⟨by rw [HMA.out];first | rfl | (simp;done) | (simp [HZ2.out];done),HB1.out⟩
                 · skip
                   have hz2:¬ s=ByteArray.empty:=by simpa using hz
                   have HZ2:=jzD hz2
                   have ee:s.toList.isEmpty=false:=by rw [hse];exact beq_eq_false_iff_ne.2 hz
                   have hma:mayA ⟨5,0,0,s⟩=false:=by simp [mayA,hz,hz2]
                   have HMA:=jzD hma
                   clear hma hse hoa hz hz2
                   go_wp2
                   go_ret
                   exact ⟨by rw [HMA.out];first | rfl | (simp;done) | (simp [HZ2.out];done),HB1.out⟩
               · skip
                 have ii0:(id == 0)=false:=beq_eq_false_iff_ne.2 hi0
                 have ii0b:(id != 0)=true:=bne_iff_ne.2 hi0
                 have hma:mayA ⟨5,0,id,s⟩=false:=by simp [mayA,hi0]
                 have HMA:=jzD hma
                 clear hma hse hoa hi0
                 go_wp2
                 go_ret
                 exact ⟨by rw [HMA.out];first | rfl | (simp;done),HB1.out⟩
             · skip
               have nn0:(n == 0)=false:=beq_eq_false_iff_ne.2 hn0
               have nn0b:(n != 0)=true:=bne_iff_ne.2 hn0
               have hma:mayA ⟨5,n,id,s⟩=false:=by simp [mayA,hn0]
               have HMA:=jzD hma
               clear hma hse hoa hn0
               go_wp2
               go_ret
               exact ⟨by rw [HMA.out];first | rfl | (simp;done),HB1.out⟩
           · skip
             by_cases hk6:k=6
             · subst hk6
               by_cases hn0:n=0
               · subst hn0
                 by_cases hi0:id=0
                 · subst hi0
                   by_cases hz:s.size=0
                   · skip
                     have hz2:s=ByteArray.empty:=by simpa using hz
                     have HZ2:=jzD hz2
                     have ee:s.toList.isEmpty=true:=by rw [hse];rw [hz];rfl
                     have hma:mayA ⟨6,0,0,s⟩=true:=by simp [mayA,hz,hz2]
                     have HMA:=jzD hma
                     clear hma hse hoa hz hz2
                     go_wp2
                     go_ret
                     exact ⟨by rw [HMA.out];first | rfl | (simp;done) | (simp [HZ2.out];done),HB1.out⟩
                   · skip
                     have hz2:¬ s=ByteArray.empty:=by simpa using hz
                     have HZ2:=jzD hz2
                     have ee:s.toList.isEmpty=false:=by rw [hse];exact beq_eq_false_iff_ne.2 hz
                     have hma:mayA ⟨6,0,0,s⟩=false:=by simp [mayA,hz,hz2]
                     have HMA:=jzD hma
                     clear hma hse hoa hz hz2
                     go_wp2
                     go_ret
                     exact ⟨by rw [HMA.out];first | rfl | (simp;done) | (simp [HZ2.out];done),HB1.out⟩
                 · skip
                   have ii0:(id == 0)=false:=beq_eq_false_iff_ne.2 hi0
                   have ii0b:(id != 0)=true:=bne_iff_ne.2 hi0
                   have hma:mayA ⟨6,0,id,s⟩=false:=by simp [mayA,hi0]
                   have HMA:=jzD hma
                   clear hma hse hoa hi0
                   go_wp2
                   go_ret
                   exact ⟨by rw [HMA.out];first | rfl | (simp;done),HB1.out⟩
               · skip
                 have nn0:(n == 0)=false:=beq_eq_false_iff_ne.2 hn0
                 have nn0b:(n != 0)=true:=bne_iff_ne.2 hn0
                 have hma:mayA ⟨6,n,id,s⟩=false:=by simp [mayA,hn0]
                 have HMA:=jzD hma
                 clear hma hse hoa hn0
                 go_wp2
                 go_ret
                 exact ⟨by rw [HMA.out];first | rfl | (simp;done),HB1.out⟩
             · skip
               have kk1:(k == 1)=false:=beq_eq_false_iff_ne.2 hk1
               have kk2:(k == 2)=false:=beq_eq_false_iff_ne.2 hk2
               have kk3:(k == 3)=false:=beq_eq_false_iff_ne.2 hk3
               have kk4:(k == 4)=false:=beq_eq_false_iff_ne.2 hk4
               have kk5:(k == 5)=false:=beq_eq_false_iff_ne.2 hk5
               have kk6:(k == 6)=false:=beq_eq_false_iff_ne.2 hk6
               have kk7:(k == 7)=false:=beq_eq_false_iff_ne.2 hk7
               have hma:mayA ⟨k,n,id,s⟩=false:=by simp [mayA,hk1,hk2,hk3,hk4,hk5,hk6,hk7]
               have HMA:=jzD hma
               clear hma hse hoa hk1 hk2 hk3 hk4 hk5 hk6 hk7
               go_wp2
               go_ret
               exact ⟨by rw [HMA.out];first | rfl | (simp;done),HB1.out⟩
end Go.Proofs.YtjddbjmcjhjpiaaGreatDoor
