/- Of layer 12: QA4, MA1, MA2, ZA2, ZA3, Ref8h, Ref8i. -/
import Derived.Test.YtjddbjmcjhjpiaaGreatDoorN16D
import Derived.Test.YtjddbjmcjhjpiaaGreatDoorN16C
import Derived.Test.YtjddbjmcjhjpiaaGreatDoorN16B
import Derived.Test.YtjddbjmcjhjpiaaGreatDoorM4D
import Derived.Test.YtjddbjmcjhjpiaaGreatDoorM4G
import Derived.Test.YtjddbjmcjhjpiaaGreatDoorM4E
import Derived.Laws.Bits64

set_option linter.all false

namespace Go.Proofs.YtjddbjmcjhjpiaaGreatDoor
set_option maxRecDepth 100000
set_option maxHeartbeats 8000000
open Go.RowKit M

theorem Qfirst_any (v:Value) (l:List Tp) (id:Int) (w:World) (hr:RdT w v l) (hl:l.length≤1000) (hz:∀ t ∈ l,t.2.length≤1000):Calls Tryz.prog 107 #[v,.int .i64 id] w fun e w' => e=.returned (.int .i64 (valT l id))∧Below w.heap.size w w' := by
 have hf:=TFind_any v l id w hr hl hz
 obtain ⟨A,cap,rfl,-,-,-⟩:=hr
 clear hl hz
 obtain ⟨q,hq⟩:∃ q,q=valT l id:=⟨_,rfl⟩
 rw [← hq]
 have e0:fnd1 l id=fnd l id:=rfl
 cases hfn:fnd l id with
 | none =>
  rw [hfn] at hf
  simp only [Option.getD_none,Option.isSome_none] at hf
  have HF:=jzD hf
  have HQ:Hid (q=0):=by show q=0;rw [hq];exact valT_none (e0.trans hfn)
  clear hf hq hfn e0
  go_enter Tryz.func107,Tryz.ntmps107
  go_wp2_with (go_at_call 133;refine (HF.out).mono ?_;rintro e w2 ⟨rfl,hb⟩;have HB2:=jzD hb;clear hb)
  go_ret
  exact ⟨by rw [HQ.out];rfl,HB2.out⟩
 | some t =>
  rw [hfn] at hf
  simp only [Option.getD_some,Option.isSome_some] at hf
  obtain ⟨T,hT⟩:∃ T:ByteArray,T=⟨t.toArray⟩:=⟨_,rfl⟩
  have hTs:T.size=t.length:=by rw [hT];show (t.toArray).size=_;simp
  rw [← hT] at hf
  have HF:=jzD hf
  clear hf
  by_cases h1:T.size=1
  · have hp0:0 < T.size:=by omega
    obtain ⟨a,ha⟩:∃ a,T[0]'hp0=a:=⟨_,rfl⟩
    have HQ:Hid (q=(a.toNat:Int)):=by
     show q=_
     rw [hq]
     match t,hT,hTs,hfn with
     | [],_,hTs,_=>exact absurd (hTs.symm.trans h1) (by simp)
     | [x],hT,_,hfn =>
      subst hT
      rw [← ha]
      exact valT_one (e0.trans hfn)
     | _ :: _ :: _,_,hTs,_=>exact absurd (hTs.symm.trans h1) (by simp)
    have hal:=a.toNat_lt
    have v0:(0:Int) < (T.size:Int):=by omega
    have v1:IntKind.i64.wrap (a.toNat:Int)=(a.toNat:Int):=IntWalk.i64_in _ (by omega)
    have v2:((T.size:Int) == 1)=true:=by rw [h1];rfl
    clear hq hfn e0 hT hTs h1
    go_enter Tryz.func107,Tryz.ntmps107
    go_wp2_with (go_at_call 133;refine (HF.out).mono ?_;rintro e w2 ⟨rfl,hb⟩;have HB2:=jzD hb;clear hb)
    go_ret
    exact ⟨by rw [HQ.out];rfl,HB2.out⟩
  · have HQ:Hid (q=0):=by show q=0;rw [hq];exact valT_not (e0.trans hfn) (by omega)
    have v2:((T.size:Int) == 1)=false:=by rw [beq_eq_false_iff_ne];omega
    clear hq hfn e0 hT hTs h1
    go_enter Tryz.func107,Tryz.ntmps107
    go_wp2_with (go_at_call 133;refine (HF.out).mono ?_;rintro e w2 ⟨rfl,hb⟩;have HB2:=jzD hb;clear hb)
    go_ret
    exact ⟨by rw [HQ.out];rfl,HB2.out⟩
theorem QGet_none (s:ByteArray) (w:World) (hs:s.size≤maxLen) (hg:getT s.data.toList=none):Calls Tryz.prog 84 #[.string s] w (OfferR (getO s.data.toList) w):=by
 have hgt:=fun w=>TGet_any s w hs
 unfold GetTP at hgt
 rw [hg] at hgt
 simp only [Option.isSome_none,Option.getD_none] at hgt
 have HGT:=jzD hgt
 have HO:Hid (getO s.data.toList=none):=by show getO _=_;unfold getO;rw [hg];rfl
 clear hgt hg hs
 go_enter Tryz.func84,Tryz.ntmps84
 go_wp2_with (first
  | (go_at_call 106;(with_reducible refine (HGT.out _).mono ?_);rintro e w2 ⟨v,rfl,ho,hb⟩;obtain ⟨A,cap,rfl,_,_⟩:=ho.shape;have HB2:=jzD (bel_trans (bal (bel0 w) _) hb);have HR2:=jzD (keep_at (heap_alloc_new w _) hb);clear hb ho)
  | ((with_reducible refine wpList_storeB rfl 133 (.tmp 2) _ rfl w.heap.size #[.int .i64 0,.int .i64 0,.int .i64 0,.int .i64 0,.int .i64 0] rfl rfl 133 _ HR2.out (by kernel_rfl) (by kernel_rfl) (by kernel_rfl) ?_);intro w6 hg6 hz6 hh6;have HB6:=jzD (bel_grown HB2.out hg6 (Nat.le_refl _));have HR6:=jzD hh6;clear hg6 hz6 hh6))
 exact ⟨rfl,_,results_cell2 rfl _ _ w.heap.size _ _ _ _ (.bool false) rfl rfl HR6.out Tryz.underlying133 rfl (by kernel_rfl),offerR_none HO.out HB6.out⟩
theorem QGet_some (s:ByteArray) (w:World) (l:List Tp) (hs:s.size≤maxLen) (hg:getT s.data.toList=some l):Calls Tryz.prog 84 #[.string s] w (OfferR (getO s.data.toList) w):=by
 have hgt:=fun w=>TGet_any s w hs
 unfold GetTP at hgt
 rw [hg] at hgt
 simp only [Option.isSome_some,Option.getD_some] at hgt
 have HGT:=jzD hgt
 obtain ⟨hll,hok⟩:=getT_small hg
 have hzz:∀ t ∈ l,t.2.length≤1000:=fun t ht=>by have := (hok t ht).2.2;omega
 have hG:getO s.data.toList=if mayO (offerT l) then some (offerT l) else none:=by unfold getO;rw [hg];rfl
 have hfs:=fun id v W (h:RdT W v l)=>Qfirst_any v l id W h (by omega) hzz
 have f1:=hfs 1
 have f2:=hfs 2
 have f3:=hfs 3
 have f4:=hfs 4
 have f5:=hfs 5
 have b1:=valT_bound l 1
 have b2:=valT_bound l 2
 have b3:=valT_bound l 3
 have b4:=valT_bound l 4
 have b5:=valT_bound l 5
 unfold offerT at hG
 generalize valT l 1=x1 at f1 b1 hG
 generalize valT l 2=x2 at f2 b2 hG
 generalize valT l 3=x3 at f3 b3 hG
 generalize valT l 4=x4 at f4 b4 hG
 generalize valT l 5=x5 at f5 b5 hG
 have HF1:=jzD (fun W {v} h=>f1 v W h)
 have HF2:=jzD (fun W {v} h=>f2 v W h)
 have HF3:=jzD (fun W {v} h=>f3 v W h)
 have HF4:=jzD (fun W {v} h=>f4 v W h)
 have HF5:=jzD (fun W {v} h=>f5 v W h)
 have hmay:=fun w=>QMay_any ⟨x1,x2,x3,x4,x5⟩ w ⟨wf64 (n:=x1) (by omega),wf64 (n:=x2) (by omega),wf64 (n:=x3) (by omega),wf64 (n:=x4) (by omega),wf64 (n:=x5) (by omega)⟩
 have HONE:Hid ((#[.int .i64 x1,.int .i64 x2,.int .i64 x3,.int .i64 x4,.int .i64 x5]:Array Value).all (·.oneCell')=true):=by show _=true;simp [Value.oneCell']
 by_cases hm:mayO ⟨x1,x2,x3,x4,x5⟩=true
 · rw [hm] at hmay
   have HMAY:=jzD hmay
   have HO:Hid (getO s.data.toList=some ⟨x1,x2,x3,x4,x5⟩):=by show getO _=_;rw [hG];exact if_pos hm
   clear hmay hm hG hgt hg hs hok hzz hfs f1 f2 f3 f4 f5 b1 b2 b3 b4 b5
   go_enter Tryz.func84,Tryz.ntmps84
   go_wp2_with (first
    | (go_at_call 106;(with_reducible refine (HGT.out _).mono ?_);rintro e w2 ⟨v,rfl,ho,hb⟩;obtain ⟨A,cap,rfl,_,_⟩:=ho.shape;have HB2:=jzD (bel_trans (bal (bel0 w) _) hb);have HR2:=jzD (keep_at (heap_alloc_new w _) hb);have HRD2:=jzD ho.rd;clear hb ho)
    | (go_at_call 107;first
     | ((with_reducible refine (HF1.out _ HRD2.out).mono ?_);rintro e w3 ⟨rfl,hb⟩;have HB3:=jzD (bel_trans HB2.out hb);have HR3:=jzD (keep_at HR2.out hb);have HRD3:=jzD (HRD2.out.below hb);clear hb)
     | ((with_reducible refine (HF2.out _ HRD3.out).mono ?_);rintro e w4 ⟨rfl,hb⟩;have HB4:=jzD (bel_trans HB3.out hb);have HR4:=jzD (keep_at HR3.out hb);have HRD4:=jzD (HRD3.out.below hb);clear hb)
     | ((with_reducible refine (HF3.out _ HRD4.out).mono ?_);rintro e w5 ⟨rfl,hb⟩;have HB5:=jzD (bel_trans HB4.out hb);have HR5:=jzD (keep_at HR4.out hb);have HRD5:=jzD (HRD4.out.below hb);clear hb)
     | ((with_reducible refine (HF4.out _ HRD5.out).mono ?_);rintro e w6 ⟨rfl,hb⟩;have HB6:=jzD (bel_trans HB5.out hb);have HR6:=jzD (keep_at HR5.out hb);have HRD6:=jzD (HRD5.out.below hb);clear hb)
     | ((with_reducible refine (HF5.out _ HRD6.out).mono ?_);rintro e w7 ⟨rfl,hb⟩;have HB7:=jzD (bel_trans HB6.out hb);have HR7:=jzD (keep_at HR6.out hb);have HRD7:=jzD (HRD6.out.below hb);clear hb))
    | ((with_reducible refine wpList_storeB rfl 133 (.tmp 6) _ rfl w7.heap.size #[.int .i64 x1,.int .i64 x2,.int .i64 x3,.int .i64 x4,.int .i64 x5] rfl rfl 133 _ (heap_alloc_new w7 (.cells (yI 0 0 0 0 0) 133)) (by kernel_rfl) (by kernel_rfl) HONE.out ?_);intro w8 hg8 hz8 hh8;have HB8:=jzD (bel_grown (bal HB7.out (.cells (yI 0 0 0 0 0) 133)) hg8 (HB7.out.size));have HR8:=jzD (keep_grown (keep_at HR7.out (bal (bel0 w7) (.cells (yI 0 0 0 0 0) 133))) hg8 (Nat.ne_of_lt (lt_at HR7.out)));have HK8:=jzD hh8;clear hg8 hz8 hh8)
    | (with_reducible refine wpList_loadB rfl 133 (.tmp 6) rfl w7.heap.size rfl 133 _ HK8.out _ Tryz.underlying133 rfl (by kernel_rfl) ?_)
    | (go_at_call 103;(with_reducible refine (HMAY.out _).mono ?_);rintro e w9 ⟨rfl,hb⟩;have HB9:=jzD (bel_trans HB8.out hb);have HR9:=jzD (keep_at HR8.out hb);have HK9:=jzD (keep_at HK8.out hb);clear hb)
    | (with_reducible refine wpList_loadB rfl 133 (.tmp 6) rfl w7.heap.size rfl 133 _ HK9.out _ Tryz.underlying133 rfl (by kernel_rfl) ?_)
    | ((with_reducible refine wpList_storeB rfl 133 (.tmp 2) _ rfl w.heap.size #[.int .i64 x1,.int .i64 x2,.int .i64 x3,.int .i64 x4,.int .i64 x5] rfl rfl 133 _ HR9.out (by kernel_rfl) (by kernel_rfl) HONE.out ?_);intro w10 hg hz hh;have HB10:=jzD (bel_grown HB9.out hg (Nat.le_refl _));have HR10:=jzD hh;clear hg hz hh))
   exact ⟨rfl,_,results_cell2 rfl _ _ w.heap.size _ _ _ _ (.bool true) rfl rfl HR10.out Tryz.underlying133 rfl (by kernel_rfl),offerR_some HO.out HB10.out⟩
 · have hm' : mayO ⟨x1,x2,x3,x4,x5⟩=false:=by simpa using hm
   rw [hm'] at hmay
   have HMAY:=jzD hmay
   have HO:Hid (getO s.data.toList=none):=by show getO _=_;rw [hG];exact if_neg hm
   clear hmay hm hm' hG hgt hg hs hok hzz hfs f1 f2 f3 f4 f5 b1 b2 b3 b4 b5
   go_enter Tryz.func84,Tryz.ntmps84
   go_wp2_with (first
    | (go_at_call 106;(with_reducible refine (HGT.out _).mono ?_);rintro e w2 ⟨v,rfl,ho,hb⟩;obtain ⟨A,cap,rfl,_,_⟩:=ho.shape;have HB2:=jzD (bel_trans (bal (bel0 w) _) hb);have HR2:=jzD (keep_at (heap_alloc_new w _) hb);have HRD2:=jzD ho.rd;clear hb ho)
    | (go_at_call 107;first
     | ((with_reducible refine (HF1.out _ HRD2.out).mono ?_);rintro e w3 ⟨rfl,hb⟩;have HB3:=jzD (bel_trans HB2.out hb);have HR3:=jzD (keep_at HR2.out hb);have HRD3:=jzD (HRD2.out.below hb);clear hb)
     | ((with_reducible refine (HF2.out _ HRD3.out).mono ?_);rintro e w4 ⟨rfl,hb⟩;have HB4:=jzD (bel_trans HB3.out hb);have HR4:=jzD (keep_at HR3.out hb);have HRD4:=jzD (HRD3.out.below hb);clear hb)
     | ((with_reducible refine (HF3.out _ HRD4.out).mono ?_);rintro e w5 ⟨rfl,hb⟩;have HB5:=jzD (bel_trans HB4.out hb);have HR5:=jzD (keep_at HR4.out hb);have HRD5:=jzD (HRD4.out.below hb);clear hb)
     | ((with_reducible refine (HF4.out _ HRD5.out).mono ?_);rintro e w6 ⟨rfl,hb⟩;have HB6:=jzD (bel_trans HB5.out hb);have HR6:=jzD (keep_at HR5.out hb);have HRD6:=jzD (HRD5.out.below hb);clear hb)
     | ((with_reducible refine (HF5.out _ HRD6.out).mono ?_);rintro e w7 ⟨rfl,hb⟩;have HB7:=jzD (bel_trans HB6.out hb);have HR7:=jzD (keep_at HR6.out hb);have HRD7:=jzD (HRD6.out.below hb);clear hb))
    | ((with_reducible refine wpList_storeB rfl 133 (.tmp 6) _ rfl w7.heap.size #[.int .i64 x1,.int .i64 x2,.int .i64 x3,.int .i64 x4,.int .i64 x5] rfl rfl 133 _ (heap_alloc_new w7 (.cells (yI 0 0 0 0 0) 133)) (by kernel_rfl) (by kernel_rfl) HONE.out ?_);intro w8 hg8 hz8 hh8;have HB8:=jzD (bel_grown (bal HB7.out (.cells (yI 0 0 0 0 0) 133)) hg8 (HB7.out.size));have HR8:=jzD (keep_grown (keep_at HR7.out (bal (bel0 w7) (.cells (yI 0 0 0 0 0) 133))) hg8 (Nat.ne_of_lt (lt_at HR7.out)));have HK8:=jzD hh8;clear hg8 hz8 hh8)
    | (with_reducible refine wpList_loadB rfl 133 (.tmp 6) rfl w7.heap.size rfl 133 _ HK8.out _ Tryz.underlying133 rfl (by kernel_rfl) ?_)
    | (go_at_call 103;(with_reducible refine (HMAY.out _).mono ?_);rintro e w9 ⟨rfl,hb⟩;have HB9:=jzD (bel_trans HB8.out hb);have HR9:=jzD (keep_at HR8.out hb);have HK9:=jzD (keep_at HK8.out hb);clear hb)
    | ((with_reducible refine wpList_storeB rfl 133 (.tmp 2) _ rfl w.heap.size #[.int .i64 0,.int .i64 0,.int .i64 0,.int .i64 0,.int .i64 0] rfl rfl 133 _ HR9.out (by kernel_rfl) (by kernel_rfl) (by kernel_rfl) ?_);intro w10 hg hz hh;have HB10:=jzD (bel_grown HB9.out hg (Nat.le_refl _));have HR10:=jzD hh;clear hg hz hh))
   exact ⟨rfl,_,results_cell2 rfl _ _ w.heap.size _ _ _ _ (.bool false) rfl rfl HR10.out Tryz.underlying133 rfl (by kernel_rfl),offerR_none HO.out HB10.out⟩
theorem QGet_any (s:ByteArray) (w:World) (hs:s.size≤maxLen):Calls Tryz.prog 84 #[.string s] w (OfferR (getO s.data.toList) w):=by
 cases hg:getT s.data.toList with
 | none=>exact QGet_none s w hs hg
 | some l=>exact QGet_some s w l hs hg
end Go.Proofs.YtjddbjmcjhjpiaaGreatDoor

namespace Go.Proofs.YtjddbjmcjhjpiaaGreatDoor
set_option maxRecDepth 100000
open Go.RowKit

theorem winM_t {f:Int} {m:Nat} (h:((m:Int) + 1) * f≤30):winM f (m + 1)=(m:Int) + 1:=by
 show (if ((m:Int) + 1) * f≤30 then (m:Int) + 1 else winM f m)=_
 rw [if_pos h]
theorem winM_f {f:Int} {m:Nat} (h:¬ ((m:Int) + 1) * f≤30):winM f (m + 1)=winM f m:=by
 show (if ((m:Int) + 1) * f≤30 then (m:Int) + 1 else winM f m)=_
 rw [if_neg h]
theorem winM_one (f:Int):winM f 1=1:=by
 show (if (((0:Nat):Int) + 1) * f≤30 then ((0:Nat):Int) + 1 else (1:Int))=1
 split <;> rfl
theorem winM_at {f:Int} {n:Nat} (h1:1≤n) (h:(n:Int) * f≤30):winM f n=(n:Int):=by
 obtain ⟨m,rfl⟩:∃ m,n=m + 1:=⟨n - 1,by omega⟩
 have e:((m + 1:Nat):Int)=(m:Int) + 1:=by omega
 rw [e] at h ⊢
 exact winM_t h
theorem winM_dec {f:Int} {n:Nat} (h1:1≤n) (h:¬ (n:Int) * f≤30):winM f n=winM f (n - 1):=by
 obtain ⟨m,rfl⟩:∃ m,n=m + 1:=⟨n - 1,by omega⟩
 have e:((m + 1:Nat):Int)=(m:Int) + 1:=by omega
 rw [e] at h
 exact winM_f h
theorem mul_small {n f:Int} (hn:0≤n∧n≤7) (hf:0≤f∧f≤1000):0≤n * f∧n * f≤7000:=by
 refine ⟨Int.mul_nonneg hn.1 hf.1,?_⟩
 have h1:n * f≤7 * f:=Int.mul_le_mul_of_nonneg_right hn.2 hf.1
 omega
theorem Mwin_any (k:Nat) (f:Int) (w:World) (hk:1≤k∧k≤7) (hf:0≤f∧f≤1000):Calls Tryz.prog 111 #[.int .i64 (k:Int),.int .i64 f] w fun e w' => e=.returned (.int .i64 (winM f k))∧w' = w:=by
 obtain ⟨r,hr⟩:∃ r,r=winM f k:=⟨_,rfl⟩
 rw [← hr]
 have HR:=jzD hr.symm
 have HF:=jzD hf
 have HK:=jzD hk
 clear hr hf hk
 go_enter Tryz.func111,Tryz.ntmps111
 go_wp2
 go_loopw [5] (fun i wr=>wr=w∧∃ n:Nat,1≤n∧n≤7∧i=.int .i64 (n:Int)∧winM f n=r) (fun i _=>(intOf i).toNat)
 case atStart=>exact ⟨rfl,k,HK.out.1,HK.out.2,rfl,HR.out⟩
 case round =>
  obtain ⟨rfl,n,h1,h7,rfl,hq⟩:=hrel
  by_cases hn:1 < n
  · have hs:=mul_small (n:=(n:Int)) (by omega) HF.out
    have td:decide ((1:Int) < (n:Int))=true:=decide_eq_true (by omega)
    have ew:IntKind.i64.wrap ((n:Int) * f)=(n:Int) * f:=IntWalk.i64_in _ (by omega)
    by_cases h30:(n:Int) * f≤30
    · have HQ:Hid (r=(n:Int)):=by show r=_;rw [← hq,winM_at h1 h30]
      have t3:decide ((30:Int) < (n:Int) * f)=false:=decide_eq_false (by omega)
      clear hq
      go_wp2
      go_ret
      exact ⟨by rw [HQ.out];rfl,rfl⟩
    · have HQ:Hid (winM f (n - 1)=r):=by show winM f (n - 1)=r;rw [← hq,winM_dec h1 h30]
      have t3:decide ((30:Int) < (n:Int) * f)=true:=decide_eq_true (by omega)
      have e2:IntKind.i64.wrap ((n:Int) - 1)=((n - 1:Nat):Int):=by rw [IntWalk.i64_in _ (by omega)];omega
      have HV:Hid (((n:Int) - 1)=((n - 1:Nat):Int)):=by show _=_;omega
      clear hq h30
      go_wp2
      go_roundw
      case rel=>exact ⟨trivial,n - 1,by omega,by omega,by first | rfl | (rw [HV.out]),HQ.out⟩
      case measure=>simp [intOf] <;> omega
  · have HQ:Hid (r=(n:Int)):=by
     obtain rfl:n=1:=by omega
     show r=_
     rw [← hq,winM_one];rfl
    have td:decide ((1:Int) < (n:Int))=false:=decide_eq_false (by omega)
    clear hq
    go_wp2
    go_ret
    exact ⟨by rw [HQ.out];rfl,rfl⟩
theorem MFrame_any (s d:Int) (w:World) (hs:0≤s∧s≤1000) (hd:(Lit.int .i64 d).wf=true):Calls Tryz.prog 94 #[.int .i64 s,.int .i64 d] w fun e w' => e=.returned (.int .i64 (frameM s d))∧Below w.heap.size w w' := by
 have t1:decide (s < (-5:Int))=false:=decide_eq_false (by omega)
 have t2:decide (s≤(4611686018427387897:Int))=true:=decide_eq_true (by omega)
 have e1:IntKind.i64.wrap (s + 5)=s + 5:=IntWalk.i64_in _ (by omega)
 have e2:IntKind.i64.wrap (2 * (s + 5))=2 * (s + 5):=IntWalk.i64_in _ (by omega)
 have e3:IntKind.i64.wrap (2 * (s + 5) + 2)=2 * (s + 5) + 2:=IntWalk.i64_in _ (by omega)
 have HT:=jzD (QTicks_any (2 * (s + 5) + 2) d w (wf64 (by omega)) hd)
 clear hs hd
 go_enter Tryz.func94,Tryz.ntmps94
 go_wp2_with (go_at_call 93;(with_reducible refine (HT.out).mono ?_);rintro e w2 ⟨rfl,hb⟩;have HB2:=jzD hb;clear hb)
 go_ret
 exact ⟨rfl,HB2.out⟩
theorem and_hi2 {x y:Int} (hx:0≤x∧x≤15) (hy:0≤y∧y≤15):high (bits .and .i64 x y)=hi2 x y 4:=by
 obtain ⟨m,rfl⟩:∃ m:Nat,x=m:=⟨x.toNat,by omega⟩
 obtain ⟨n,rfl⟩:∃ n:Nat,y=n:=⟨y.toNat,by omega⟩
 rw [i64_and_nat m n (by omega) (by omega)]
 have h:∀ a b:Fin 16,high ((a.1 &&& b.1:Nat):Int)=hi2 (a.1:Int) (b.1:Int) 4:=by decide +kernel
 exact h ⟨m,by omega⟩ ⟨n,by omega⟩
theorem and_lo2 {x y:Int} (hx:0≤x∧x≤7) (hy:0≤y∧y≤7):low (bits .and .i64 x y)=lo2 3 x y 3:=by
 obtain ⟨m,rfl⟩:∃ m:Nat,x=m:=⟨x.toNat,by omega⟩
 obtain ⟨n,rfl⟩:∃ n:Nat,y=n:=⟨y.toNat,by omega⟩
 rw [i64_and_nat m n (by omega) (by omega)]
 have h:∀ a b:Fin 8,low ((a.1 &&& b.1:Nat):Int)=lo2 3 (a.1:Int) (b.1:Int) 3:=by decide +kernel
 exact h ⟨m,by omega⟩ ⟨n,by omega⟩
theorem and_wf (x y:Int):(Lit.int .i64 (bits .and .i64 x y)).wf=true:=by
 show (Lit.int .i64 (IntKind.i64.wrap ((BitVec.ofInt 64 x &&& BitVec.ofInt 64 y).toNat:Nat))).wf=true
 rw [IntKind.wrap_i64]
 refine wf64 ?_
 omega
end Go.Proofs.YtjddbjmcjhjpiaaGreatDoor

namespace Go.Proofs.YtjddbjmcjhjpiaaGreatDoor
set_option maxRecDepth 100000
set_option maxHeartbeats 16000000
open Go.RowKit

structure TwoB (p q:Nat) (A B:Array Value) (W:World):Prop where
 a:W.heap[p]?=some (.cells A 133 (0,0))
 b:W.heap[q]?=some (.cells B 133 (0,0))
theorem TwoB.below {p q:Nat} {A B:Array Value} {W W' : World} (h:TwoB p q A B W) (hb:Below W.heap.size W W'):TwoB p q A B W' := ⟨keep_at h.a hb,keep_at h.b hb⟩
theorem TwoB.grown {p q g:Nat} {A B:Array Value} {W W' : World} (h:TwoB p q A B W) (hg:W.grownBy W' (some g)) (h1:p ≠ g) (h2:q ≠ g):TwoB p q A B W' := ⟨keep_grown h.a hg h1,keep_grown h.b hg h2⟩
theorem MDeal_no1 (a0 a1 a2 a3 a4 b0 b1 b2 b3 b4:Int) (w:World) (ha:Of5.ok ⟨a0,a1,a2,a3,a4⟩) (hm:mayO ⟨a0,a1,a2,a3,a4⟩=false):Calls Tryz.prog 85 #[.agg #[.int .i64 a0,.int .i64 a1,.int .i64 a2,.int .i64 a3,.int .i64 a4],.agg #[.int .i64 b0,.int .i64 b1,.int .i64 b2,.int .i64 b3,.int .i64 b4]] w (DealR (dealM ⟨a0,a1,a2,a3,a4⟩ ⟨b0,b1,b2,b3,b4⟩) w):=by
 have hm1:=fun w=>QMay_any ⟨a0,a1,a2,a3,a4⟩ w ha
 rw [hm] at hm1
 have HM1:=jzD hm1
 have HM2:Hid True:=trivial
 have HP:Hid (dealM ⟨a0,a1,a2,a3,a4⟩ ⟨b0,b1,b2,b3,b4⟩=none):=by show dealM _ _=_;unfold dealM;rw [hm];rfl
 clear hm hm1 ha
 go_enter Tryz.func85,Tryz.ntmps85
 go_wp2_with (first
  | ((with_reducible refine wpList_boxS rfl 133 _ (.tmp 0) rfl rfl (run_boxOf ⟨a0,a1,a2,a3,a4⟩) ?_);intro w1 hb hlt hh;have HB1:=jzD hb;have HA1:=jzD hh;clear hb hlt hh)
  | ((with_reducible refine wpList_boxS rfl 133 _ (.tmp 1) rfl rfl (run_boxOf ⟨b0,b1,b2,b3,b4⟩) ?_);intro w2 hb hlt hh;have HB2:=jzD (bel_trans HB1.out hb);have HA2:=jzD (keep_at HA1.out hb);have HP2:=jzD hh;clear hb hlt hh)
  | (with_reducible refine wpList_loadB rfl 133 (.tmp 2) rfl w.heap.size rfl 133 _ (keep_at HA2.out (bal (bel0 w2) (.cells (yI 0 0 0 0 0) 138))) _ Tryz.underlying133 rfl (by kernel_rfl) ?_)
  | (go_at_call 103;first
   | ((with_reducible refine (HM1.out _).mono ?_);rintro e w3 ⟨rfl,hb⟩;have HB3:=jzD (bel_trans (bal HB2.out (.cells (yI 0 0 0 0 0) 138)) hb);have HA3:=jzD (keep_at (keep_at HA2.out (bal (bel0 w2) (.cells (yI 0 0 0 0 0) 138))) hb);have HP3:=jzD (keep_at (keep_at HP2.out (bal (bel0 w2) (.cells (yI 0 0 0 0 0) 138))) hb);have HQ3:=jzD (keep_at (heap_alloc_new w2 (.cells (yI 0 0 0 0 0) 138)) hb);clear hb)
   | ((with_reducible refine (HM2.out _).mono ?_);rintro e w4 ⟨rfl,hb⟩;have HB4:=jzD (bel_trans HB3.out hb);have HA4:=jzD (keep_at HA3.out hb);have HP4:=jzD (keep_at HP3.out hb);have HQ4:=jzD (keep_at HQ3.out hb);clear hb))
  | ((with_reducible refine wpList_storeB rfl 138 (.tmp 4) _ rfl w2.heap.size #[.int .i64 0,.int .i64 0,.int .i64 0,.int .i64 0,.int .i64 0] rfl rfl 138 _ HQ3.out (by kernel_rfl) (by kernel_rfl) (by kernel_rfl) ?_);intro w6 hg hz hh;have HB6:=jzD (bel_grown HB3.out hg HB2.out.size);have HR6:=jzD hh;clear hg hz hh))
 exact ⟨rfl,_,results_cell2 rfl _ _ w2.heap.size _ _ _ _ (.bool false) rfl rfl HR6.out Tryz.underlying138 rfl (by kernel_rfl),dealR_none HP.out HB6.out⟩
theorem MDeal_no2 (a0 a1 a2 a3 a4 b0 b1 b2 b3 b4:Int) (w:World) (ha:Of5.ok ⟨a0,a1,a2,a3,a4⟩) (hb:Of5.ok ⟨b0,b1,b2,b3,b4⟩) (hm:mayO ⟨a0,a1,a2,a3,a4⟩=true) (hn:mayO ⟨b0,b1,b2,b3,b4⟩=false):Calls Tryz.prog 85 #[.agg #[.int .i64 a0,.int .i64 a1,.int .i64 a2,.int .i64 a3,.int .i64 a4],.agg #[.int .i64 b0,.int .i64 b1,.int .i64 b2,.int .i64 b3,.int .i64 b4]] w (DealR (dealM ⟨a0,a1,a2,a3,a4⟩ ⟨b0,b1,b2,b3,b4⟩) w):=by
 have hm1:=fun w=>QMay_any ⟨a0,a1,a2,a3,a4⟩ w ha
 have hm2:=fun w=>QMay_any ⟨b0,b1,b2,b3,b4⟩ w hb
 rw [hm] at hm1
 rw [hn] at hm2
 have HM1:=jzD hm1
 have HM2:=jzD hm2
 have HP:Hid (dealM ⟨a0,a1,a2,a3,a4⟩ ⟨b0,b1,b2,b3,b4⟩=none):=by show dealM _ _=_;unfold dealM;rw [hm,hn];rfl
 clear hm hn hm1 hm2 ha hb
 go_enter Tryz.func85,Tryz.ntmps85
 go_wp2_with (first
  | ((with_reducible refine wpList_boxS rfl 133 _ (.tmp 0) rfl rfl (run_boxOf ⟨a0,a1,a2,a3,a4⟩) ?_);intro w1 hb hlt hh;have HB1:=jzD hb;have HA1:=jzD hh;clear hb hlt hh)
  | ((with_reducible refine wpList_boxS rfl 133 _ (.tmp 1) rfl rfl (run_boxOf ⟨b0,b1,b2,b3,b4⟩) ?_);intro w2 hb hlt hh;have HB2:=jzD (bel_trans HB1.out hb);have HA2:=jzD (keep_at HA1.out hb);have HP2:=jzD hh;clear hb hlt hh)
  | (with_reducible refine wpList_loadB rfl 133 (.tmp 2) rfl w.heap.size rfl 133 _ (keep_at HA2.out (bal (bel0 w2) (.cells (yI 0 0 0 0 0) 138))) _ Tryz.underlying133 rfl (by kernel_rfl) ?_)
  | (with_reducible refine wpList_loadG (by kernel_rfl) 133 (.tmp 3) rfl w1.heap.size rfl 133 #[.int .i64 b0,.int .i64 b1,.int .i64 b2,.int .i64 b3,.int .i64 b4] HP3.out _ Tryz.underlying133 rfl (by kernel_rfl) ?_)
  | (go_at_call 103;first
   | ((with_reducible refine (HM1.out _).mono ?_);rintro e w3 ⟨rfl,hb⟩;have HB3:=jzD (bel_trans (bal HB2.out (.cells (yI 0 0 0 0 0) 138)) hb);have HA3:=jzD (keep_at (keep_at HA2.out (bal (bel0 w2) (.cells (yI 0 0 0 0 0) 138))) hb);have HP3:=jzD (keep_at (keep_at HP2.out (bal (bel0 w2) (.cells (yI 0 0 0 0 0) 138))) hb);have HQ3:=jzD (keep_at (heap_alloc_new w2 (.cells (yI 0 0 0 0 0) 138)) hb);clear hb)
   | ((with_reducible refine (HM2.out _).mono ?_);rintro e w4 ⟨rfl,hb⟩;have HB4:=jzD (bel_trans HB3.out hb);have HA4:=jzD (keep_at HA3.out hb);have HP4:=jzD (keep_at HP3.out hb);have HQ4:=jzD (keep_at HQ3.out hb);clear hb))
  | ((with_reducible refine wpList_storeB rfl 138 (.tmp 4) _ rfl w2.heap.size #[.int .i64 0,.int .i64 0,.int .i64 0,.int .i64 0,.int .i64 0] rfl rfl 138 _ HQ4.out (by kernel_rfl) (by kernel_rfl) (by kernel_rfl) ?_);intro w6 hg hz hh;have HB6:=jzD (bel_grown HB4.out hg HB2.out.size);have HR6:=jzD hh;clear hg hz hh))
 exact ⟨rfl,_,results_cell2 rfl _ _ w2.heap.size _ _ _ _ (.bool false) rfl rfl HR6.out Tryz.underlying138 rfl (by kernel_rfl),dealR_none HP.out HB6.out⟩
theorem MDeal_yes (a0 a1 a2 a3 a4 b0 b1 b2 b3 b4:Int) (w:World) (ha:Of5.ok ⟨a0,a1,a2,a3,a4⟩) (hb:Of5.ok ⟨b0,b1,b2,b3,b4⟩) (hm:mayO ⟨a0,a1,a2,a3,a4⟩=true) (hn:mayO ⟨b0,b1,b2,b3,b4⟩=true):Calls Tryz.prog 85 #[.agg #[.int .i64 a0,.int .i64 a1,.int .i64 a2,.int .i64 a3,.int .i64 a4],.agg #[.int .i64 b0,.int .i64 b1,.int .i64 b2,.int .i64 b3,.int .i64 b4]] w (DealR (dealM ⟨a0,a1,a2,a3,a4⟩ ⟨b0,b1,b2,b3,b4⟩) w):=by
 have hm1:=fun w=>QMay_any ⟨a0,a1,a2,a3,a4⟩ w ha
 have hm2:=fun w=>QMay_any ⟨b0,b1,b2,b3,b4⟩ w hb
 rw [hm] at hm1
 rw [hn] at hm2
 have HM1:=jzD hm1
 have HM2:=jzD hm2
 have hbd:=dealD_bounds hm hn
 have hP:dealM ⟨a0,a1,a2,a3,a4⟩ ⟨b0,b1,b2,b3,b4⟩=some (dealD ⟨a0,a1,a2,a3,a4⟩ ⟨b0,b1,b2,b3,b4⟩):=by unfold dealM;rw [hm,hn];rfl
 have hwb:=high_bound (mayO_parts hn).2.2.1.1 7 (by decide) (by have h127:b2≤127:=(mayO_parts hn).2.2.1.2;show b2 < 128;omega)
 obtain ⟨p1,p2,p3,p4,p5⟩:=mayO_parts hm
 obtain ⟨q1,q2,q3,q4,q5⟩:=mayO_parts hn
 simp only at p1 p2 p3 p4 p5 q1 q2 q3 q4 q5
 unfold dealD at hbd hP
 simp only at hbd hP hwb
 have hh1:=fun w=>QHigh_any (bits .and .i64 a0 b0) w (and_wf _ _)
 rw [and_hi2 (by omega) (by omega)] at hh1
 have hl1:=fun w=>QLow_any (bits .and .i64 a1 b1) w (and_wf _ _)
 rw [and_lo2 (by omega) (by omega)] at hl1
 have xh:=hi2_lt a0 b0 4
 have xl:=lo2_ge 3 a1 b1 3 (Nat.le_refl _)
 have hba:=fun w=>QBaud_any (hi2 a0 b0 4) w (wf64 (by omega))
 have hh3:=fun w=>QHigh_any b3 w (wf64 (by omega))
 have xh3:=highB_lt b3 16
 have hsz:=fun w=>QSize_any (high b3) w (wf64 (by unfold high;omega))
 have hsi:=fun w=>QSilent_any (lo2 3 a1 b1 3) w (wf64 (by omega))
 have hhw:=fun w=>QHigh_any b2 w (wf64 (by omega))
 have hlo:=fun w=>QLow_any b4 w (wf64 (by omega))
 have hfr:=fun w=>MFrame_any (sizeQ (high b3)) (baud (hi2 a0 b0 4)) w (by omega) (wf64 (by omega))
 clear xh xl xh3 p1 p2 p3 p4 p5 q1 q2 q3 q4 q5
 generalize hi2 a0 b0 4=hi at *
 generalize lo2 3 a1 b1 3=ls at *
 generalize high b3=hs at *
 generalize sizeQ hs=sz at *
 generalize baud hi=bd at *
 generalize silent ls=sl at *
 generalize low b4=lo at *
 generalize high b2=hw at *
 generalize frameM sz bd=f at *
 obtain ⟨hn7,ehn⟩:∃ n:Nat,hw + 1=(n:Int):=⟨(hw + 1).toNat,by omega⟩
 have hf5:1≤f∧f≤5:=hbd.2.2.1
 have hwi:=fun w=>Mwin_any hn7 f w (by omega) (by omega)
 rw [show (hw + 1).toNat=hn7 by omega] at hP
 generalize winM f hn7=wn at *
 have ehw:IntKind.i64.wrap (hw + 1)=(hn7:Int):=by rw [ehn];exact IntWalk.i64_in _ (by omega)
 have HH1:=jzD hh1
 have HBA:=jzD hba
 have HH3:=jzD hh3
 have HSZ:=jzD hsz
 have HL1:=jzD hl1
 have HSI:=jzD hsi
 have HHW:=jzD hhw
 have HFR:=jzD hfr
 have HWI:=jzD hwi
 have HL2:=jzD hlo
 have HP:=jzD hP
 have HONE:Hid ((#[.int .i64 bd,.int .i64 sl,.int .i64 wn,.int .i64 sz,.int .i64 lo]:Array Value).all (·.oneCell')=true):=by show _=true;simp [Value.oneCell']
 clear hm hn hm1 hm2 hbd hP hwb hh1 hba hh3 hsz hl1 hsi hhw hfr hwi hlo ehn hf5 ha hb
 go_enter Tryz.func85,Tryz.ntmps85
 go_wp2_with (first
  | ((with_reducible refine wpList_boxS rfl 133 _ (.tmp 0) rfl rfl (run_boxOf ⟨a0,a1,a2,a3,a4⟩) ?_);intro w1 hb hlt hh;have HB1:=jzD hb;have HA1:=jzD hh;clear hb hlt hh)
  | ((with_reducible refine wpList_boxS rfl 133 _ (.tmp 1) rfl rfl (run_boxOf ⟨b0,b1,b2,b3,b4⟩) ?_);intro w2 hb hlt hh;have HB2:=jzD (bel_trans HB1.out hb);have HA2:=jzD (keep_at HA1.out hb);have HP2:=jzD hh;clear hb hlt hh)
  | (with_reducible refine wpList_loadB rfl 133 (.tmp 2) rfl w.heap.size rfl 133 _ (keep_at HA2.out (bal (bel0 w2) (.cells (yI 0 0 0 0 0) 138))) _ Tryz.underlying133 rfl (by kernel_rfl) ?_)
  | (with_reducible refine wpList_loadG (by kernel_rfl) 133 (.tmp 3) rfl w1.heap.size rfl 133 #[.int .i64 b0,.int .i64 b1,.int .i64 b2,.int .i64 b3,.int .i64 b4] HP3.out _ Tryz.underlying133 rfl (by kernel_rfl) ?_)
  | (go_at_call 103;first
   | ((with_reducible refine (HM1.out _).mono ?_);rintro e w3 ⟨rfl,hb⟩;have HB3:=jzD (bel_trans (bal HB2.out (.cells (yI 0 0 0 0 0) 138)) hb);have HA3:=jzD (keep_at (keep_at HA2.out (bal (bel0 w2) (.cells (yI 0 0 0 0 0) 138))) hb);have HP3:=jzD (keep_at (keep_at HP2.out (bal (bel0 w2) (.cells (yI 0 0 0 0 0) 138))) hb);have HQ3:=jzD (keep_at (heap_alloc_new w2 (.cells (yI 0 0 0 0 0) 138)) hb);clear hb)
   | ((with_reducible refine (HM2.out _).mono ?_);rintro e w4 ⟨rfl,hb⟩;have HB4:=jzD (bel_trans HB3.out hb);have HA4:=jzD (keep_at HA3.out hb);have HP4:=jzD (keep_at HP3.out hb);have HQ4:=jzD (keep_at HQ3.out hb);have ca:w4.cell? ⟨w.heap.size,0,none⟩=some (.int .i64 a0):=cell_at HA4.out 0 _ rfl;have cb:w4.cell? ⟨w1.heap.size,0,none⟩=some (.int .i64 b0):=cell_at HP4.out 0 _ rfl;clear hb))
  | (go_at_call 91;first
   | ((with_reducible refine (HH1.out _).mono ?_);rintro e w5 ⟨rfl,hb⟩;have HB5:=jzD (bel_trans HB4.out hb);have HA5:=jzD (keep_at HA4.out hb);have HP5:=jzD (keep_at HP4.out hb);have HQ5:=jzD (keep_at HQ4.out hb);clear hb)
   | ((with_reducible refine (HH3.out _).mono ?_);rintro e w7 ⟨rfl,hb⟩;have HB7:=jzD (bel_trans HB6.out hb);have HA7:=jzD (keep_at HA6.out hb);have HP7:=jzD (keep_at HP6.out hb);have HQ7:=jzD (keep_at HQ6.out hb);clear hb))
  | (go_at_call 108;((with_reducible refine (HBA.out _).mono ?_);rintro e w6 ⟨rfl,hb⟩;have HB6:=jzD (bel_trans HB5.out hb);have HA6:=jzD (keep_at HA5.out hb);have HP6:=jzD (keep_at HP5.out hb);have HQ6:=jzD (keep_at HQ5.out hb);have cb6:w6.cell? ⟨w1.heap.size,3,none⟩=some (.int .i64 b3):=cell_at HP6.out 3 _ rfl;clear hb))
  | (go_at_call 109;((with_reducible refine (HSZ.out _).mono ?_);rintro e w8 ⟨rfl,hb⟩;have HB8:=jzD (bel_trans HB7.out hb);have HA8:=jzD (keep_at HA7.out hb);have HP8:=jzD (keep_at HP7.out hb);have HQ8:=jzD (keep_at HQ7.out hb);clear hb)))
 have HB_8:=jzD (HB8.out).drew
 have HE_8:Hid (TwoB w.heap.size w1.heap.size #[.int .i64 a0,.int .i64 a1,.int .i64 a2,.int .i64 a3,.int .i64 a4] #[.int .i64 b0,.int .i64 b1,.int .i64 b2,.int .i64 b3,.int .i64 b4] w8.drew):=by show _ ;exact ⟨HA8.out,HP8.out⟩
 have HQ_8:=jzD (show w8.drew.heap[w2.heap.size]?=_ from HQ8.out)
 have HN1:Hid (w.heap.size ≠ w2.heap.size):=by show _ ≠ _;exact Nat.ne_of_lt (lt_at HA2.out)
 have HN2:Hid (w1.heap.size ≠ w2.heap.size):=by show _ ≠ _;exact Nat.ne_of_lt (lt_at HP2.out)
 refine rests_begin (TwoB w.heap.size w1.heap.size #[.int .i64 a0,.int .i64 a1,.int .i64 a2,.int .i64 a3,.int .i64 a4] #[.int .i64 b0,.int .i64 b1,.int .i64 b2,.int .i64 b3,.int .i64 b4]) (by kernel_rfl) ?_
 refine rtk 0 HE_8.out ?_
 refine rtk 1 HE_8.out ?_
 refine rtk 2 HE_8.out ?_ (hy:=by intro W HW;have cw1:W.cell? ⟨w.heap.size,1,none⟩=some (.int .i64 a1):=cell_at HW.a 1 _ rfl;go_simp;try with_reducible rfl)
 refine rtk 3 HE_8.out ?_
 refine rtk 4 HE_8.out ?_ (hy:=by intro W HW;have cw1:W.cell? ⟨w1.heap.size,1,none⟩=some (.int .i64 b1):=cell_at HW.b 1 _ rfl;go_simp;try with_reducible rfl)
 refine rtk 5 HE_8.out ?_
 refine rtk 8 HE_8.out ?_
 refine rtk 9 HE_8.out ?_ (hy:=by intro W HW;have cw2:W.cell? ⟨w1.heap.size,2,none⟩=some (.int .i64 b2):=cell_at HW.b 2 _ rfl;go_simp;try with_reducible rfl)
 refine rtk 12 HE_8.out ?_
 refine rtk 13 HE_8.out ?_
 refine rtk 16 HE_8.out ?_
 refine rtk 17 HE_8.out ?_
 refine rtk 18 HE_8.out ?_ (hy:=by intro W HW;have cw4:W.cell? ⟨w1.heap.size,4,none⟩=some (.int .i64 b4):=cell_at HW.b 4 _ rfl;go_simp;try with_reducible rfl)
 refine rests_call 6 (oi:=_) (by simp only [jzG,jzH,jzI];rfl) 92 #[.int .i64 (bits .and .i64 a1 b1)] _ (by kernel_rfl) (by rfl) (by go_simp) (HL1.out (w8.drew)) ?_
 rintro e w9 ⟨rfl,hb⟩;have HB_9:=jzD (bel_trans (w:=w8.drew) HB_8.out hb);have HE_9:=jzD ((HE_8.out).below hb);have HQ_9:=jzD (keep_at (w:=w8.drew) HQ_8.out hb);refine ⟨_,rfl,HE_9.out,?_⟩;clear hb
 simp only [Act.put,jzU,jzV,jzW]
 refine rests_call 7 (oi:=_) (by simp only [jzG,jzH,jzI];rfl) 110 #[.int .i64 ls] _ (by kernel_rfl) (by rfl) (by go_simp) (HSI.out (w9)) ?_
 rintro e w10 ⟨rfl,hb⟩;have HB_10:=jzD (bel_trans (w:=w9) HB_9.out hb);have HE_10:=jzD ((HE_9.out).below hb);have HQ_10:=jzD (keep_at (w:=w9) HQ_9.out hb);refine ⟨_,rfl,HE_10.out,?_⟩;clear hb
 simp only [Act.put,jzU,jzV,jzW]
 refine rests_call 10 (oi:=_) (by simp only [jzG,jzH,jzI];rfl) 91 #[.int .i64 b2] _ (by kernel_rfl) (by rfl) (by go_simp) (HHW.out (w10)) ?_
 rintro e w11 ⟨rfl,hb⟩;have HB_11:=jzD (bel_trans (w:=w10) HB_10.out hb);have HE_11:=jzD ((HE_10.out).below hb);have HQ_11:=jzD (keep_at (w:=w10) HQ_10.out hb);refine ⟨_,rfl,HE_11.out,?_⟩;clear hb
 simp only [Act.put,jzU,jzV,jzW]
 refine rtk 11 HE_11.out ?_
 refine rests_call 14 (oi:=_) (by simp only [jzG,jzH,jzI];rfl) 94 #[.int .i64 sz,.int .i64 bd] _ (by kernel_rfl) (by rfl) (by go_simp) (HFR.out (w11)) ?_
 rintro e w12 ⟨rfl,hb⟩;have HB_12:=jzD (bel_trans (w:=w11) HB_11.out hb);have HE_12:=jzD ((HE_11.out).below hb);have HQ_12:=jzD (keep_at (w:=w11) HQ_11.out hb);refine ⟨_,rfl,HE_12.out,?_⟩;clear hb
 simp only [Act.put,jzU,jzV,jzW]
 refine rests_call 15 (oi:=_) (by simp only [jzG,jzH,jzI];rfl) 111 #[.int .i64 (hn7:Int),.int .i64 f] _ (by kernel_rfl) (by rfl) (by go_simp) (HWI.out (w12)) ?_
 rintro e w' ⟨rfl,hw'⟩;rw [hw'];clear hw'; refine ⟨_,rfl,HE_12.out,?_⟩
 simp only [Act.put,jzU,jzV,jzW]
 refine rests_call 19 (oi:=_) (by simp only [jzG,jzH,jzI];rfl) 92 #[.int .i64 b4] _ (by kernel_rfl) (by rfl) (by go_simp) (HL2.out (w12)) ?_
 rintro e w13 ⟨rfl,hb⟩;have HB_13:=jzD (bel_trans (w:=w12) HB_12.out hb);have HE_13:=jzD ((HE_12.out).below hb);have HQ_13:=jzD (keep_at (w:=w12) HQ_12.out hb);refine ⟨_,rfl,HE_13.out,?_⟩;clear hb
 simp only [Act.put,jzU,jzV,jzW]
 refine rtk 20 HE_13.out ?_
 refine rests_storeB 21 (oi:=_) (by simp only [jzG,jzH,jzI];rfl) (by kernel_rfl) (by rfl) 138 (.tmp 4) (.tmp 48) rfl (w2.heap.size) #[.int .i64 bd,.int .i64 sl,.int .i64 wn,.int .i64 sz,.int .i64 lo] rfl rfl 138 _ HQ_13.out (by kernel_rfl) rfl HONE.out ?_
 intro w14 hg14 hz14 hh14;have HR14:=jzD hh14;have HB14:=jzD (bel_grown HB_13.out hg14 HB2.out.size);have HE14:=jzD ((HE_13.out).grown hg14 HN1.out HN2.out);refine ⟨HE14.out,?_⟩;clear hg14 hz14 hh14
 simp only [Act.put,jzU,jzV,jzW]
 refine rtk 22 HE14.out ?_
 refine rests_done (by kernel_rfl) ?_
 go_wp2
 exact ⟨rfl,_,results_cell2 rfl _ _ w2.heap.size _ _ _ _ (.bool true) rfl rfl HR14.out Tryz.underlying138 rfl (by kernel_rfl),dealR_some HP.out HB14.out⟩
theorem MDeal_any (a b:Of5) (w:World) (ha:a.ok) (hb:b.ok):Calls Tryz.prog 85 #[a.val,b.val] w (DealR (dealM a b) w):=by
 obtain ⟨a0,a1,a2,a3,a4⟩:=a
 obtain ⟨b0,b1,b2,b3,b4⟩:=b
 rcases hm:mayO ⟨a0,a1,a2,a3,a4⟩ with _ | _
 · exact MDeal_no1 a0 a1 a2 a3 a4 b0 b1 b2 b3 b4 w ha hm
 · rcases hn:mayO ⟨b0,b1,b2,b3,b4⟩ with _ | _
   · exact MDeal_no2 a0 a1 a2 a3 a4 b0 b1 b2 b3 b4 w ha hb hm hn
   · exact MDeal_yes a0 a1 a2 a3 a4 b0 b1 b2 b3 b4 w ha hb hm hn
end Go.Proofs.YtjddbjmcjhjpiaaGreatDoor

namespace Go.Proofs.YtjddbjmcjhjpiaaGreatDoor
set_option maxRecDepth 100000
set_option maxHeartbeats 4000000
open Go.RowKit

theorem Xflag_any (b:Bool) (w:World):Calls Tryz.prog 113 #[.bool b] w fun e w' => e=.returned (.int .u8 (if b then 1 else 0))∧w' = w:=by
 cases b <;>
 · go_enter Tryz.func113,Tryz.ntmps113
   go_wp2
   go_ret
   exact ⟨rfl,rfl⟩

def idB (n:Int) (k:Nat):List UInt8:=(le4 n).take k
theorem idB_4 (n:Int):idB n 4=le4 n:=rfl
theorem idB_0 (n:Int):idB n 0=[]:=rfl
theorem idB_s0 (n:Int):idB n 1=idB n 0 ++ [by8 (n % 256)]:=rfl
theorem idB_s1 (n:Int):idB n 2=idB n 1 ++ [by8 (n / 256 % 256)]:=rfl
theorem idB_s2 (n:Int):idB n 3=idB n 2 ++ [by8 (n / 65536 % 256)]:=rfl
theorem idB_s3 (n:Int):idB n 4=idB n 3 ++ [by8 (n / 16777216 % 256)]:=rfl
theorem own_one (w:World) (a:Int) (ha:0≤a∧a < 256):Rds (w.alloc (.cells #[.int .u8 a] 5)) (.slice (some ⟨w.heap.size,0,none⟩) 1 1) [by8 a]:=by
 have h:=Own.built w [by8 a] 0 (Nat.zero_le _) (by simp [maxLen])
 have e:(bcs [by8 a]).toArray=#[.int .u8 a]:=by
  show #[bc (by8 a)]=_
  rw [by8_bc ha]
 rw [e] at h
 exact h.rds
theorem XaddId_any (v:Value) (l:List UInt8) (n:Int) (base:Nat) (w:World) (h:Own w base v l) (hn:u32 n) (hl:l.length≤1000) (hb:base≤w.heap.size) :
 Calls Tryz.prog 112 #[v,.int .u32 n] w fun e w' => ∃ v', e=.returned v' ∧ Own w' base v' (l ++ le4 n)∧Below base w w' := by
 have HO:=jzD h
 have HBS:=jzD hb
 unfold u32 at hn
 have w0:IntKind.u8.wrap n=n % 256:=IntKind.wrap_u8 n
 have w1:IntKind.u8.wrap (n / 256)=n / 256 % 256:=IntKind.wrap_u8 _
 have w2:IntKind.u8.wrap (n / 65536)=n / 65536 % 256:=IntKind.wrap_u8 _
 have w3:IntKind.u8.wrap (n / 16777216)=n / 16777216 % 256:=IntKind.wrap_u8 _
 have x1:IntKind.u32.wrap (n / 256)=n / 256:=by rw [IntKind.wrap_u32'];omega
 have x2:IntKind.u32.wrap (n / 65536)=n / 65536:=by rw [IntKind.wrap_u32'];omega
 have x3:IntKind.u32.wrap (n / 16777216)=n / 16777216:=by rw [IntKind.wrap_u32'];omega
 have HR0:Hid (0≤n % 256∧n % 256 < 256):=by show _∧_;omega
 have HR1:Hid (0≤n / 256 % 256∧n / 256 % 256 < 256):=by show _∧_;omega
 have HR2:Hid (0≤n / 65536 % 256∧n / 65536 % 256 < 256):=by show _∧_;omega
 have HR3:Hid (0≤n / 16777216 % 256∧n / 16777216 % 256 < 256):=by show _∧_;omega
 clear h hn hb
 go_enter Tryz.func112,Tryz.ntmps112
 go_wp2
 go_loopw [0,6] (fun t i wr=>∃ k:Nat,k≤4∧i=.int .i64 (k:Int)∧Own wr base t (l ++ idB n k)∧Below base w wr) (fun _ i _=>4 - (intOf i).toNat)
 case atStart=>exact ⟨0,by omega,rfl,by rw [idB_0,List.append_nil];exact HO.out,Below.refl _ _⟩
 case round =>
  obtain ⟨k,hk,rfl,ho,hbl⟩:=hrel
  have HK:=jzD ho
  have HBL:=jzD hbl
  have hz:base≤wr.heap.size:=Nat.le_trans HBS.out hbl.size
  clear ho hbl
  rcases (show k=0 ∨ k=1 ∨ k=2 ∨ k=3 ∨ k=4 by omega) with rfl | rfl | rfl | rfl | rfl
  · go_wp2_with (at_builtin;refine wpList_app rfl (.tmp 9) (.tmp 15) rfl base u0 (.slice (some ⟨wr.heap.size,0,none⟩) 1 1) (l ++ idB n 0) [by8 (n % 256)] rfl rfl (HK.out.alloc _) (own_one wr _ HR0.out) (by simp [idB,le4];omega) (by simp;omega) ?_;intro v2 w2 hown2 hg2 hat2)
    go_roundw
    case rel=>exact ⟨1,by omega,by go_num,by rw [idB_s0,← List.append_assoc];exact hown2,(HBL.out.alloc hz _).grown hg2 (by simp;omega) (fun j hj=>(HK.out.lt j hj).1)⟩
    case measure=>simp [intOf] <;> omega
  · go_wp2_with (at_builtin;refine wpList_app rfl (.tmp 9) (.tmp 15) rfl base u0 (.slice (some ⟨wr.heap.size,0,none⟩) 1 1) (l ++ idB n 1) [by8 (n / 256 % 256)] rfl rfl (HK.out.alloc _) (own_one wr _ HR1.out) (by simp [idB,le4];omega) (by simp;omega) ?_;intro v2 w2 hown2 hg2 hat2)
    go_roundw
    case rel=>exact ⟨2,by omega,by go_num,by rw [idB_s1,← List.append_assoc];exact hown2,(HBL.out.alloc hz _).grown hg2 (by simp;omega) (fun j hj=>(HK.out.lt j hj).1)⟩
    case measure=>simp [intOf] <;> omega
  · go_wp2_with (at_builtin;refine wpList_app rfl (.tmp 9) (.tmp 15) rfl base u0 (.slice (some ⟨wr.heap.size,0,none⟩) 1 1) (l ++ idB n 2) [by8 (n / 65536 % 256)] rfl rfl (HK.out.alloc _) (own_one wr _ HR2.out) (by simp [idB,le4];omega) (by simp;omega) ?_;intro v2 w2 hown2 hg2 hat2)
    go_roundw
    case rel=>exact ⟨3,by omega,by go_num,by rw [idB_s2,← List.append_assoc];exact hown2,(HBL.out.alloc hz _).grown hg2 (by simp;omega) (fun j hj=>(HK.out.lt j hj).1)⟩
    case measure=>simp [intOf] <;> omega
  · go_wp2_with (at_builtin;refine wpList_app rfl (.tmp 9) (.tmp 15) rfl base u0 (.slice (some ⟨wr.heap.size,0,none⟩) 1 1) (l ++ idB n 3) [by8 (n / 16777216 % 256)] rfl rfl (HK.out.alloc _) (own_one wr _ HR3.out) (by simp [idB,le4];omega) (by simp;omega) ?_;intro v2 w2 hown2 hg2 hat2)
    go_roundw
    case rel=>exact ⟨4,by omega,by go_num,by rw [idB_s3,← List.append_assoc];exact hown2,(HBL.out.alloc hz _).grown hg2 (by simp;omega) (fun j hj=>(HK.out.lt j hj).1)⟩
    case measure=>simp [intOf] <;> omega
  · go_wp2
    go_ret
    exact ⟨_,rfl,by rw [← idB_4];exact HK.out,HBL.out⟩

theorem u32_or_nat (a b:Nat) (ha:a < 4294967296) (hb:b < 4294967296):bits .or .u32 (a:Int) (b:Int)=((a ||| b:Nat):Int):=by
 show IntKind.u32.wrap ((BitVec.ofInt 32 (a:Int) ||| BitVec.ofInt 32 (b:Int)).toNat:Nat)=_
 have hx:∀ c:Nat,c < 4294967296→(BitVec.ofInt 32 (c:Int)).toNat=c:=fun c hc=>by
  rw [BitVec.toNat_ofInt];omega
 rw [BitVec.toNat_or,hx a ha,hx b hb,IntKind.wrap_u32']
 have := Nat.or_lt_two_pow (n:=32) ha hb
 omega
theorem or_add (a b k:Nat) (h:a < 2 ^ k):a ||| b * 2 ^ k=a + b * 2 ^ k:=by
 rw [Nat.mul_comm,Nat.or_comm,← Nat.two_pow_add_eq_or_of_lt h b,Nat.add_comm]
def partN (a b c d:UInt8) (k:Nat):Int:=if k=0 then 0 else if k=1 then (a.toNat:Int) else if k=2 then (a.toNat:Int) + (b.toNat:Int) * 256 else if k=3 then (a.toNat:Int) + (b.toNat:Int) * 256 + (c.toNat:Int) * 65536 else num4 a b c d
theorem or_0 (a:UInt8):bits .or .u32 0 (a.toNat:Int)=(a.toNat:Int):=by
 have ha:=a.toNat_lt
 have := u32_or_nat 0 a.toNat (by omega) (by omega)
 rw [Nat.zero_or] at this
 exact this
theorem or_1 (a b:UInt8):bits .or .u32 (a.toNat:Int) ((b.toNat:Int) * 256)=(a.toNat:Int) + (b.toNat:Int) * 256:=by
 have ha:=a.toNat_lt;have hb:=b.toNat_lt
 have := u32_or_nat a.toNat (b.toNat * 2 ^ 8) (by omega) (by omega)
 rw [or_add _ _ 8 (by omega)] at this
 rw [show (b.toNat:Int) * 256=((b.toNat * 2 ^ 8:Nat):Int) by omega,this]
 omega
theorem or_2 (a b c:UInt8):bits .or .u32 ((a.toNat:Int) + (b.toNat:Int) * 256) ((c.toNat:Int) * 65536)=(a.toNat:Int) + (b.toNat:Int) * 256 + (c.toNat:Int) * 65536:=by
 have ha:=a.toNat_lt;have hb:=b.toNat_lt;have hc:=c.toNat_lt
 have := u32_or_nat (a.toNat + b.toNat * 256) (c.toNat * 2 ^ 16) (by omega) (by omega)
 rw [or_add _ _ 16 (by omega)] at this
 rw [show (c.toNat:Int) * 65536=((c.toNat * 2 ^ 16:Nat):Int) by omega,show (a.toNat:Int) + (b.toNat:Int) * 256=((a.toNat + b.toNat * 256:Nat):Int) by omega,this]
 omega
theorem or_3 (a b c d:UInt8):bits .or .u32 ((a.toNat:Int) + (b.toNat:Int) * 256 + (c.toNat:Int) * 65536) ((d.toNat:Int) * 16777216)=num4 a b c d:=by
 have ha:=a.toNat_lt;have hb:=b.toNat_lt;have hc:=c.toNat_lt;have hd:=d.toNat_lt
 have := u32_or_nat (a.toNat + b.toNat * 256 + c.toNat * 65536) (d.toNat * 2 ^ 24) (by omega) (by omega)
 rw [or_add _ _ 24 (by omega)] at this
 rw [show (d.toNat:Int) * 16777216=((d.toNat * 2 ^ 24:Nat):Int) by omega,show (a.toNat:Int) + (b.toNat:Int) * 256 + (c.toNat:Int) * 65536=((a.toNat + b.toNat * 256 + c.toNat * 65536:Nat):Int) by omega,this]
 unfold num4
 omega
theorem Xlead_core (s:ByteArray) (w:World) (a b c d:UInt8) (h0:0 < s.size) (h1:1 < s.size) (h2:2 < s.size) (h3:3 < s.size) (e0:s[0]=a) (e1:s[1]=b) (e2:s[2]=c) (e3:s[3]=d) :
 Calls Tryz.prog 114 #[.string s] w fun e w' => e=.returned (.int .u32 (num4 a b c d))∧w' = w:=by
 have ha:=a.toNat_lt
 have hb:=b.toNat_lt
 have hc:=c.toNat_lt
 have hd:=d.toNat_lt
 have i0:(0:Int) < (s.size:Int):=by omega
 have i1:(1:Int) < (s.size:Int):=by omega
 have i2:(2:Int) < (s.size:Int):=by omega
 have i3:(3:Int) < (s.size:Int):=by omega
 have im:¬ (s.size:Int) < 4:=by omega
 have w0:IntKind.u32.wrap (a.toNat:Int)=(a.toNat:Int):=by rw [IntKind.wrap_u32'];omega
 have w1:IntKind.u32.wrap (b.toNat:Int)=(b.toNat:Int):=by rw [IntKind.wrap_u32'];omega
 have w2:IntKind.u32.wrap (c.toNat:Int)=(c.toNat:Int):=by rw [IntKind.wrap_u32'];omega
 have w3:IntKind.u32.wrap (d.toNat:Int)=(d.toNat:Int):=by rw [IntKind.wrap_u32'];omega
 have w4:IntKind.u32.wrap ((b.toNat:Int) * 256)=(b.toNat:Int) * 256:=by rw [IntKind.wrap_u32'];omega
 have w5:IntKind.u32.wrap ((c.toNat:Int) * 65536)=(c.toNat:Int) * 65536:=by rw [IntKind.wrap_u32'];omega
 have w6:IntKind.u32.wrap ((d.toNat:Int) * 16777216)=(d.toNat:Int) * 16777216:=by rw [IntKind.wrap_u32'];omega
 have o0:=or_0 a
 have o1:=or_1 a b
 have o2:=or_2 a b c
 have o3:=or_3 a b c d
 have HP0:Hid ((0:Int)=partN a b c d 0):=rfl
 have HP1:Hid ((a.toNat:Int)=partN a b c d 1):=rfl
 have HP2:Hid ((a.toNat:Int) + (b.toNat:Int) * 256=partN a b c d 2):=rfl
 have HP3:Hid ((a.toNat:Int) + (b.toNat:Int) * 256 + (c.toNat:Int) * 65536=partN a b c d 3):=rfl
 have HP4:Hid (num4 a b c d=partN a b c d 4):=rfl
 generalize num4 a b c d=N at *
 clear ha hb hc hd
 go_enter Tryz.func114,Tryz.ntmps114
 go_wp2
 go_loopw [3,8] (fun q i wr=>wr=w∧∃ k:Nat,k≤4∧i=.int .i64 (k:Int)∧q=.int .u32 (partN a b c d k)) (fun _ i _=>4 - (intOf i).toNat)
 case atStart=>exact ⟨rfl,0,by omega,rfl,by rw [← HP0.out]⟩
 case round =>
  obtain ⟨rfl,k,hk,rfl,rfl⟩:=hrel
  rcases (show k=0 ∨ k=1 ∨ k=2 ∨ k=3 ∨ k=4 by omega) with rfl | rfl | rfl | rfl | rfl
  · rw [← HP0.out]
    go_wp2
    go_roundw
    case rel=>exact ⟨trivial,1,by omega,by go_num,by rw [← HP1.out]⟩
    case measure=>simp [intOf] <;> omega
  · rw [← HP1.out]
    go_wp2
    go_roundw
    case rel=>exact ⟨trivial,2,by omega,by go_num,by rw [← HP2.out]⟩
    case measure=>simp [intOf] <;> omega
  · rw [← HP2.out]
    go_wp2
    go_roundw
    case rel=>exact ⟨trivial,3,by omega,by go_num,by rw [← HP3.out]⟩
    case measure=>simp [intOf] <;> omega
  · rw [← HP3.out]
    go_wp2
    go_roundw
    case rel=>exact ⟨trivial,4,by omega,by go_num,by rw [← HP4.out]⟩
    case measure=>simp [intOf] <;> omega
  · rw [← HP4.out]
    go_wp2
    go_ret
    exact ⟨rfl,rfl⟩
theorem Xlead_any (s:ByteArray) (w:World) {a b c d:UInt8} {r:List UInt8} (h:s.data.toList=a :: b :: c :: d :: r):Calls Tryz.prog 114 #[.string s] w fun e w' => e=.returned (.int .u32 (num4 a b c d))∧w' = w:=by
 obtain ⟨h3,e0,e1,e2,e3⟩:=four_at h
 exact Xlead_core s w a b c d (by omega) (by omega) (by omega) h3 e0 e1 e2 e3
end Go.Proofs.YtjddbjmcjhjpiaaGreatDoor

namespace Go.Proofs.YtjddbjmcjhjpiaaGreatDoor
set_option maxRecDepth 100000
set_option maxHeartbeats 8000000
open Go.RowKit M

theorem XPut_none (x:XIn) (w:World) (hm:mayX x.xd=false):Calls Tryz.prog 86 #[x.val] w (PutR (putX x.xd) w):=by
 have hmay:=fun w=>XMay_all x w
 rw [hm] at hmay
 have HM:=jzD hmay
 have HP:Hid (putX x.xd=none):=by show putX x.xd=_;unfold putX;rw [hm];rfl
 clear hmay hm
 obtain ⟨fr,tt,sl,sn,an,nk⟩:=x
 go_enter Tryz.func86,Tryz.ntmps86
 go_wp2_with (first
  | ((with_reducible refine wpList_boxS rfl 32 _ (.tmp 0) rfl rfl (run_boxX ⟨fr,tt,sl,sn,an,nk⟩) ?_);intro w1 hb1 hlt1 hh1;have HB1:=jzD hb1;have HP1:=jzD hh1;clear hb1 hh1)
  | (with_reducible refine wpList_loadB rfl 32 (.tmp 1) rfl w.heap.size rfl 32 _ HP1.out _ Tryz.underlying32 rfl (by kernel_rfl) ?_)
  | (go_at_call 57;(with_reducible refine (HM.out _).mono ?_);rintro e w2 ⟨rfl,hb⟩;have HB2:=jzD (bel_trans HB1.out hb);have HE2:=jzD hb;have HP2:=jzD (keep_at HP1.out hb);have d5:=cell_at HP2.out 5 _ rfl;clear hb))
 go_ret2
 exact putR_none HP.out HB2.out

theorem mayL_size {s:ByteArray} (h:mayL (bl s)=true):s.size≤20:=by
 unfold mayL at h
 rw [Bool.and_eq_true,decide_eq_true_eq,bl_length] at h
 exact h.1
theorem mayX_room {x:XIn} (h:mayX x.xd=true):x.nick.size≤20∧0≤x.slots∧x.slots < 256:=by
 have h' := (mayX_iff x).1 h
 obtain ⟨_,h1,_,h2⟩:=h'
 have := mayL_size h2
 omega
theorem putX_all (x:XIn):(([] ++ le4 x.from_ ++ le4 x.to_) ++ midX x.anew x.slots x.slot) ++ x.nick.data.toList=bytesX x.xd:=rfl
theorem rds_mid (w:World) {fl sn sl:Int} {an:Bool} (h:fl=if an then 1 else 0) (hb:∀ n,n=(if an then 1 else 0)→(#[.int .u8 n,.int .u8 sn,.int .u8 (sl % 256)]:Array Value)=(bcs (midX an sn sl)).toArray) :
 Rds (w.alloc (.cells #[.int .u8 fl,.int .u8 sn,.int .u8 (sl % 256)] 5)) (.slice (some ⟨w.heap.size,0,none⟩) 3 3) (midX an sn sl):=by
 rw [hb fl h]
 exact (Own.built w (midX an sn sl) 0 (Nat.zero_le _) (by simp [maxLen,midX])).rds
theorem XPut_some (x:XIn) (w:World) (hok:x.ok) (hm:mayX x.xd=true):Calls Tryz.prog 86 #[x.val] w (PutR (putX x.xd) w):=by
 have hmay:=fun w=>XMay_all x w
 rw [hm] at hmay
 obtain ⟨hnk,hs0,hs1⟩:=mayX_room hm
 obtain ⟨hu1,hu2⟩:=XIn.u hok
 have HM:=jzD hmay
 have HP:Hid (putX x.xd=some (bytesX x.xd)):=by show putX x.xd=_;unfold putX;rw [hm];rfl
 have HALL:=jzD (putX_all x)
 clear hmay hm hok
 obtain ⟨fr,tt,sl,sn,an,nk⟩:=x
 simp only [XIn.xd] at hnk hs0 hs1 hu1 hu2
 have HUF:=jzD hu1
 have HUT:=jzD hu2
 have HA:Hid (∀ (v:Value) (l:List UInt8) (n:Int) (w:World) (base:Nat),Own w base v l→u32 n→l.length≤1000→base≤w.heap.size→Calls Tryz.prog 112 #[v,.int .u32 n] w fun e w' => ∃ v', e=.returned v' ∧ Own w' base v' (l ++ le4 n)∧Below base w w'):=by
  show ∀ _,_
  intro v l n w base h1 h2 h3 h4
  exact XaddId_any v l n base w h1 h2 h3 h4
 have HFL:=jzD (fun w=>Xflag_any an w)
 have q1:IntKind.u8.wrap sn=sn:=IntWalk.u8_in _ (by omega)
 have q2:IntKind.u8.wrap sl=sl % 256:=IntKind.wrap_u8 sl
 have HB3:=jzD (fun n (hn:n=if an then 1 else 0)=>bcs3 (sl:=sl) hn ⟨hs0,hs1⟩)
 have HC11:Hid (11 + (nk.size:Int)=((11 + nk.size:Nat):Int)):=by show _=_;omega
 have hC11:11 + nk.size≤1000000:=by omega
 obtain ⟨i0,hi0,hz0,hz1,hz2⟩:=info_parts byte_info
 clear hu1 hu2 hs0 hs1
 go_enter Tryz.func86,Tryz.ntmps86
 go_wp2_with (first
  | ((with_reducible refine wpList_boxS rfl 32 _ (.tmp 0) rfl rfl (run_boxX ⟨fr,tt,sl,sn,an,nk⟩) ?_);intro w1 hb1 hlt1 hh1;have HB1:=jzD hb1;have HP1:=jzD hh1;clear hb1 hh1)
  | (with_reducible refine wpList_loadB rfl 32 (.tmp 1) rfl w.heap.size rfl 32 _ HP1.out _ Tryz.underlying32 rfl (by kernel_rfl) ?_)
  | (go_at_call 57;(with_reducible refine (HM.out _).mono ?_);rintro e w2 ⟨rfl,hb⟩;have HB2:=jzD (bel_trans HB1.out hb);have HE2:=jzD hb;have HP2:=jzD (keep_at HP1.out hb);have d5:=cell_at HP2.out 5 _ rfl;clear hb)
  | ((with_reducible refine wpList_make0 rfl (.const (.int .i64 0)) (.tmp 11) rfl .i64 .i64 (11 + (nk.size:Int)) (11 + nk.size) w1.heap.size rfl rfl HC11.out hC11 HE2.out.size ?_);intro w3 hown3 hb3 hlt3;have HO3:=jzD hown3;have HE3:=jzD (bel_trans HE2.out hb3);have HP3:=jzD (keep_at HP1.out HE3.out);have c0:=cell_at HP3.out 0 _ rfl;clear hown3 hb3 hlt3)
  | (go_at_call 112;first | ((with_reducible refine (HA.out _ _ _ _ _ HO3.out HUF.out (by simp) HE3.out.size).mono ?_);rintro e w4 ⟨v4,rfl,ho4,hb4⟩;obtain ⟨L4,hL4⟩:∃ L,L=[] ++ le4 fr:=⟨_,rfl⟩;rw [← hL4] at ho4;have HL4:=jzD hL4;clear hL4;have HE4:=jzD (HE3.out.trans hb4);have HP4:=jzD (keep_at HP1.out HE4.out);have HO4:=jzD ho4;obtain ⟨A4,cap4,rfl,_⟩:=ho4.rds;have c1:=cell_at HP4.out 1 _ rfl;clear ho4 hb4) | ((with_reducible refine (HA.out _ _ _ _ _ HO4.out HUT.out (by rw [HL4.out];simp [le4]) HE4.out.size).mono ?_);rintro e w5 ⟨v5,rfl,ho5,hb5⟩;obtain ⟨L5,hL5⟩:∃ L,L=L4 ++ le4 tt:=⟨_,rfl⟩;rw [← hL5] at ho5;have HL5:=jzD hL5;clear hL5;have HE5:=jzD (HE4.out.trans hb5);have HP5:=jzD (keep_at HP1.out HE5.out);have HO5:=jzD ho5;obtain ⟨A5,cap5,rfl,_⟩:=ho5.rds;clear ho5 hb5)))
 have hlt:w.heap.size < w1.heap.size:=lt_at HP1.out
 have HKP:Hid (∀ W,From w1 W→W.heap[w.heap.size]?=some (.cells (yA fr tt sl sn an nk) 32 (0,0))):=by show ∀ _,_;exact fun W HW=>keep_at HP1.out HW
 refine rests_begin (From w1) (by kernel_rfl) ?_
 refine rtk 0 HE5.out.drew ?_
 refine rtk 1 HE5.out.drew ?_
 refine rtk 2 HE5.out.drew ?_ (hy:=by intro W HW;have cw4:W.cell? ⟨w.heap.size,4,none⟩=some (.bool an):=cell_at (HKP.out W HW) 4 _ rfl;go_simp;try with_reducible rfl)
 refine rtk 4 HE5.out.drew ?_
 refine rtk 5 HE5.out.drew ?_ (hy:=by intro W HW;have cw3:W.cell? ⟨w.heap.size,3,none⟩=some (.int .i64 sn):=cell_at (HKP.out W HW) 3 _ rfl;go_simp;try with_reducible rfl)
 refine rtk 6 HE5.out.drew ?_
 refine rtk 7 HE5.out.drew ?_
 refine rtk 8 HE5.out.drew ?_ (hy:=by intro W HW;have cw2:W.cell? ⟨w.heap.size,2,none⟩=some (.int .i64 sl):=cell_at (HKP.out W HW) 2 _ rfl;go_simp;try with_reducible rfl)
 refine rtk 9 HE5.out.drew ?_
 refine rests_call 3 (oi:=_) (by simp only [jzG,jzH,jzI];rfl) 113 #[.bool an] _ (by kernel_rfl) (by rfl) (by go_simp) (HFL.out w5.drew) ?_
 rintro e w6 ⟨rfl,rfl⟩;refine ⟨_,rfl,HE5.out.drew,?_⟩;obtain ⟨fl,hfl⟩:∃ fl:Int,fl=(if an then 1 else 0):=⟨_,rfl⟩;rw [← hfl];have HFLG:=jzD hfl;clear hfl
 simp only [Act.put,jzU,jzV,jzW]
 refine rests_run 10 (oi:=_) (by simp only [jzG,jzH,jzI];rfl) (by kernel_rfl) (by rfl) (.slice (some ⟨w5.drew.heap.size,0,none⟩) 3 3) (w5.drew.alloc (.cells #[.int .u8 fl,.int .u8 sn,.int .u8 (sl % 256)] 5)) (by go_simp) ⟨bal HE5.out.drew _,?_⟩
 simp only [Act.put,jzU,jzV,jzW]
 refine rests_app 11 (oi:=_) (by simp only [jzG,jzH,jzI];rfl) (.tmp 21) (.tmp 31) (by kernel_rfl) (by rfl) rfl w1.heap.size _ _ L5 (midX an sn sl) rfl rfl (HO5.out.below (w:=w5) (bal (bel0 w5).drew _)) (rds_mid w5.drew HFLG.out HB3.out) (by rw [HL5.out,HL4.out];simp [le4,midX]) (bal HE5.out.drew _).size ?_
 intro u6 w6 hown6 hg6 hat6;have HE6:=jzD ((bal HE5.out.drew (.cells #[.int .u8 fl,.int .u8 sn,.int .u8 (sl % 256)] 5)).grown hg6 (bal HE5.out.drew _).size (fun k hk=>(HO5.out.lt k hk).1));have HP6:=jzD (keep_at HP1.out HE6.out);obtain ⟨L6,hL6⟩:∃ L,L=L5 ++ midX an sn sl:=⟨_,rfl⟩;rw [← hL6] at hown6;have HL6:=jzD hL6;have HO6:=jzD hown6;obtain ⟨A6,cap6,rfl,_⟩:=hown6.rds;refine ⟨HE6.out,?_⟩;clear hL6 hown6 hg6 hat6
 simp only [Act.put,jzU,jzV,jzW]
 refine rtk 12 HE6.out ?_
 refine rests_done (by kernel_rfl) ?_
 have e5:=cell_at HP6.out 5 _ rfl
 have HLL:Hid (L6.length=11):=by show _=_;rw [HL6.out,HL5.out,HL4.out];rfl
 go_wp2_with (first
  | (
   at_builtin
   refine Lib.wpList_append_own_string _ rfl (.tmp 33) (.tmp 35) 152 9 rfl w1.heap.size 5 i0 Tryz.underlying152 Tryz.underlying9 hi0 hz0 hz1 hz2 _ L6.length _ rfl HO6.out nk rfl (by have := HLL.out;unfold maxLen;omega) (by have := HLL.out;omega) HE6.out.size ?_
   intro u7 w7 hown7 hg7 _hnil
   have h7:Own w7 w1.heap.size u7 (L6 ++ nk.data.toList):=(by
    unfold Own
    rw [bcs_append,List.length_append,len_data]
    exact hown7)
   have HO7:=jzD h7
   have HE7:=jzD (HE6.out.grown hg7 HE6.out.size (fun k hk=>(HO6.out.lt k hk).1))
   clear h7 hown7 hg7 _hnil)
  | (with_reducible refine wpList_strB rfl (.tmp 36) rfl u7 (L6 ++ nk.data.toList) rfl HO7.out.rds ?_))
 go_ret2
 refine ⟨?_,HB1.out.trans (HE7.out.mono (Nat.le_of_lt hlt))⟩
 have hb:=HALL.out
 rw [HP.out,← hb,HL6.out,HL5.out,HL4.out]
 rfl
theorem XPut_any (x:XIn) (w:World) (hx:x.ok):Calls Tryz.prog 86 #[x.val] w (PutR (putX x.xd) w):=by
 rcases h:mayX x.xd with _ | _
 · exact XPut_none x w h
 · exact XPut_some x w hx h
end Go.Proofs.YtjddbjmcjhjpiaaGreatDoor

namespace Go.Proofs.YtjddbjmcjhjpiaaGreatDoor
open Go.RowKit M

theorem xOne (a b c d:Int) (e:Bool) (f:ByteArray):(#[.int .u32 a,.int .u32 b,.int .i64 c,.int .i64 d,.bool e,.string f]:Array Value).all (·.oneCell')=true:=by simp [Value.oneCell']
theorem xidR_of {r:Option Xd} {x:XIn} {w w' : World} {v:Value} (h:r=some x.xd) (hv:v=x.val) (hb:Below w.heap.size w w'):XidR r w (.returned (.tuple #[v,.bool true])) w' := by
 subst h;subst hv
 exact ⟨by show _=Ending.returned (.tuple #[x.xd.xin.val,.bool true]);rw [XIn.back],hb⟩
end Go.Proofs.YtjddbjmcjhjpiaaGreatDoor

namespace Go.Proofs.YtjddbjmcjhjpiaaGreatDoor
open Go.RowKit M

theorem at_of {s:ByteArray} {l:List UInt8} (h:s.data.toList=l) (i:Nat) (hi:i < s.size) {x:UInt8} (hx:l[i]?=some x):s[i]=x:=by
 subst h
 show s.data[i]'hi=x
 rw [← Array.getElem_toList]
 rw [List.getElem?_eq_getElem (by rw [Array.length_toList];exact hi)] at hx
 injection hx
theorem bl_from_toList (s:ByteArray) (k:Nat):(s.extract k s.size).data.toList=s.data.toList.drop k:=bl_from s k
theorem eleven {l:List UInt8} (h:11≤l.length):∃ a b c d e f g h' i j k r,l=a :: b :: c :: d :: e :: f :: g :: h' :: i :: j :: k :: r:=by
 match l,h with
 | a :: b :: c :: d :: e :: f :: g :: h' :: i :: j :: k :: r,_=>exact ⟨a,b,c,d,e,f,g,h', i,j,k,r,rfl⟩
end Go.Proofs.YtjddbjmcjhjpiaaGreatDoor
