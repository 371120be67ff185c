/- Of layer 12: ZA4, Ref8j, SA1, Ref8k, SA2, Ref8l, Ref8m. -/
import Derived.Test.YtjddbjmcjhjpiaaGreatDoorN16C
import Derived.Test.YtjddbjmcjhjpiaaGreatDoorN16E
import Derived.Test.YtjddbjmcjhjpiaaGreatDoorN16D

set_option linter.all false

namespace Go.Proofs.YtjddbjmcjhjpiaaGreatDoor
set_option maxRecDepth 100000
set_option maxHeartbeats 16000000
open Go.RowKit M

theorem XGet_short (s:ByteArray) (w:World) (h:s.size < 11):Calls Tryz.prog 87 #[.string s] w (XidR none w):=by
 have h1:(s.size:Int) < 11:=by omega
 clear h
 go_enter Tryz.func87,Tryz.ntmps87
 go_wp2
 exact ⟨rfl,_,results_cell2 rfl _ _ w.heap.size _ _ _ _ (.bool false) rfl rfl (heap_alloc_new w _) Tryz.underlying32 rfl (by kernel_rfl),xidR_none rfl (bal (bel0 w) _)⟩
theorem XGet_anew (s:ByteArray) (w:World) (i:UInt8) (h8:8 < s.size) (h:11≤s.size) (e8:s[8]=i) (hi:1 < i.toNat):Calls Tryz.prog 87 #[.string s] w (XidR none w):=by
 have h1:¬ (s.size:Int) < 11:=by omega
 have h2:(8:Int) < (s.size:Int):=by omega
 have h3:(1:Int) < (i.toNat:Int):=by omega
 clear h hi
 go_enter Tryz.func87,Tryz.ntmps87
 go_wp2
 exact ⟨rfl,_,results_cell2 rfl _ _ w.heap.size _ _ _ _ (.bool false) rfl rfl (heap_alloc_new w _) Tryz.underlying32 rfl (by kernel_rfl),xidR_none rfl (bal (bel0 w) _)⟩
theorem XGet_core (s:ByteArray) (w:World) (fr tt sl:Int) (i j k:UInt8) (an:Bool) (hs:s.size≤1000000) (h8:8 < s.size) (h9:9 < s.size) (h10:10 < s.size) (e8:s[8]=i) (e9:s[9]=j) (e10:s[10]=k) (hi:i.toNat≤1) (han:((i.toNat:Int) == 1)=an)
 (v2:IntKind.i8.wrap (k.toNat:Int)=sl) (v3:IntKind.i64.wrap sl=sl)
 (hf:∀ w,Calls Tryz.prog 114 #[.string (s.extract 0 s.size)] w fun e w' => e=.returned (.int .u32 fr)∧w' = w) (ht:∀ w,Calls Tryz.prog 114 #[.string (s.extract 4 s.size)] w fun e w' => e=.returned (.int .u32 tt)∧w' = w) :
 Calls Tryz.prog 87 #[.string s] w (XidR (if mayX (XIn.xd (⟨fr,tt,sl,(j.toNat:Int),an,(s.extract 11 s.size)⟩:XIn)) then some (XIn.xd (⟨fr,tt,sl,(j.toNat:Int),an,(s.extract 11 s.size)⟩:XIn)) else none) w):=by
 have hjl:=j.toNat_lt
 have i1:¬ (s.size:Int) < 11:=by omega
 have i2:(8:Int) < (s.size:Int):=by omega
 have i3:(9:Int) < (s.size:Int):=by omega
 have i4:(10:Int) < (s.size:Int):=by omega
 have i5:(4:Int)≤(s.size:Int):=by omega
 have i6:(11:Int)≤(s.size:Int):=by omega
 have i7:¬ (1:Int) < (i.toNat:Int):=by omega
 have v1:IntKind.i64.wrap (j.toNat:Int)=(j.toNat:Int):=IntWalk.i64_in _ (by omega)
 have hnk:(s.extract 11 s.size).size≤1000000:=by rw [ByteArray.size_extract];omega
 have HCL:=jzD (fun w=>SClone_any (s.extract 11 s.size) w hnk)
 have HONE0:=jzD (xOne fr tt sl (j.toNat:Int) an (s.extract 11 s.size))
 have HF:=jzD hf
 have HT:=jzD ht
 obtain ⟨r,hr⟩:∃ r,r=(if mayX (XIn.xd (⟨fr,tt,sl,(j.toNat:Int),an,(s.extract 11 s.size)⟩:XIn)) then some (XIn.xd (⟨fr,tt,sl,(j.toNat:Int),an,(s.extract 11 s.size)⟩:XIn)) else none):=⟨_,rfl⟩
 rw [← hr]
 have HRR:=jzD hr
 clear hr hf ht hi hjl hs
 go_enter Tryz.func87,Tryz.ntmps87
 go_wp2
 obtain ⟨w1,hw1⟩:∃ w1,w1=w.alloc (.cells (yA 0 0 0 0 false ⟨#[]⟩) 32):=⟨_,rfl⟩
 have HB_2:Hid (Below w.heap.size w w1.drew):=by show Below _ _ _;rw [hw1];exact (bal (bel0 w) _).drew
 have HR_2:Hid (w1.drew.heap[w.heap.size]?=some (.cells (yA 0 0 0 0 false ⟨#[]⟩) 32 (0,0))):=by show _=_;rw [hw1];exact heap_alloc_new w _
 have HE_2:Hid (Below w1.heap.size w1 w1.drew):=(bel0 w1).drew
 have hlt:w.heap.size < w1.heap.size:=lt_at HR_2.out
 have HG:Hid (w.heap.size≤w1.heap.size):=Nat.le_of_lt hlt
 rw [← hw1]
 clear hw1
 refine' region_shared (fun W=>Below w.heap.size w W∧W.heap[w.heap.size]?=some (.cells (yA 0 0 0 0 false ⟨#[]⟩) 32 (0,0))∧W.heap[w1.heap.size]?=some (.cells (yA fr tt sl (j.toNat:Int) an (s.extract 11 s.size)) 32 (0,0))) _ ?cont ?reg
 case reg =>
  intro hK
  refine rests_begin (From w1) (by kernel_rfl) ?_
  refine rtk 0 HE_2.out ?_
  refine rtk 1 HE_2.out ?_
  refine rtk 3 HE_2.out ?_
  refine rtk 4 HE_2.out ?_
  refine rtk 6 HE_2.out ?_
  refine rtk 7 HE_2.out ?_
  refine rtk 8 HE_2.out ?_
  refine rtk 9 HE_2.out ?_
  refine rtk 10 HE_2.out ?_
  refine rtk 11 HE_2.out ?_
  refine rtk 12 HE_2.out ?_
  refine rtk 13 HE_2.out ?_
  refine rtk 14 HE_2.out ?_
  refine rtk 15 HE_2.out ?_
  refine rtk 16 HE_2.out ?_
  refine rtk 17 HE_2.out ?_
  refine rests_two 2 19 (oi:=_) (oj:=_) (by simp only [jzG,jzH,jzI];rfl) (by simp only [jzG,jzH,jzI];rfl) (by kernel_rfl) (by rfl) (by rfl) ?_ ?_
  · refine wp_enter (f:=114) (args:=#[.string (s.extract 0 s.size)]) (by go_simp) (HF.out (w1.drew)) ?_
    rintro e w' ⟨rfl,hw'⟩;rw [hw'];clear hw'; refine ⟨_,rfl,HE_2.out,?_⟩
    simp only [Act.put,jzU,jzV,jzW]
    refine rests_two 5 19 (oi:=_) (oj:=_) (by simp only [jzG,jzH,jzI];rfl) (by simp only [jzG,jzH,jzI];rfl) (by kernel_rfl) (by rfl) (by rfl) ?_ ?_
    · refine wp_enter (f:=114) (args:=#[.string (s.extract 4 s.size)]) (by go_simp) (HT.out (w1.drew)) ?_
      rintro e w' ⟨rfl,hw'⟩;rw [hw'];clear hw'; refine ⟨_,rfl,HE_2.out,?_⟩
      simp only [Act.put,jzU,jzV,jzW]
      refine rtk 18 HE_2.out ?_
      refine rests_run 19 (oi:=_) (by simp only [jzG,jzH,jzI];rfl) (by kernel_rfl) (by rfl) (.pointer (some ⟨w1.heap.size,0,none⟩)) ((w1.drew).alloc (.cells (yA 0 0 0 0 false ⟨#[]⟩) 32)) (by go_simp) ⟨bal HE_2.out _,?_⟩
      have HB_3:=jzD (bal (w:=w1.drew) HB_2.out (.cells (yA 0 0 0 0 false ⟨#[]⟩) 32));have HE_3:=jzD (bal (w:=w1.drew) HE_2.out (.cells (yA 0 0 0 0 false ⟨#[]⟩) 32));have HR_3:=jzD (keep_at (w:=w1.drew) HR_2.out (bal (bel0 (w1.drew)) (.cells (yA 0 0 0 0 false ⟨#[]⟩) 32)));have HX_3:=jzD (heap_alloc_new (w1.drew) (.cells (yA 0 0 0 0 false ⟨#[]⟩) 32))
      simp only [Act.put,jzU,jzV,jzW]
      refine rests_storeB 20 (oi:=_) (by simp only [jzG,jzH,jzI];rfl) (by kernel_rfl) (by rfl) 32 (.tmp 4) (.tmp 32) rfl w1.heap.size #[.int .u32 fr,.int .u32 tt,.int .i64 sl,.int .i64 (j.toNat:Int),.bool an,.string (s.extract 11 s.size)] rfl rfl 32 _ HX_3.out (by kernel_rfl) rfl HONE0.out ?_
      intro w4 hg4 hz4 hh4;have HB_4:=jzD (bel_grown HB_3.out hg4 (Nat.le_of_lt hlt));have HE_4:=jzD (bel_grown HE_3.out hg4 (Nat.le_refl _));have HR_4:=jzD (keep_grown HR_3.out hg4 (Nat.ne_of_lt hlt));have HX_4:=jzD hh4;refine ⟨HE_4.out,?_⟩;clear hg4 hz4 hh4
      simp only [Act.put,jzU,jzV,jzW]
      refine rests_done (by kernel_rfl) ?_
      exact hK _ ⟨HB_4.out,HR_4.out,HX_4.out⟩
    · refine wp_val (v:=.pointer (some ⟨w1.heap.size,0,none⟩)) (w' := (w1.drew).alloc (.cells (yA 0 0 0 0 false ⟨#[]⟩) 32)) (by go_simp) ⟨bal HE_2.out _,?_⟩
      have HB_3:=jzD (bal (w:=w1.drew) HB_2.out (.cells (yA 0 0 0 0 false ⟨#[]⟩) 32));have HE_3:=jzD (bal (w:=w1.drew) HE_2.out (.cells (yA 0 0 0 0 false ⟨#[]⟩) 32));have HR_3:=jzD (keep_at (w:=w1.drew) HR_2.out (bal (bel0 (w1.drew)) (.cells (yA 0 0 0 0 false ⟨#[]⟩) 32)));have HX_3:=jzD (heap_alloc_new (w1.drew) (.cells (yA 0 0 0 0 false ⟨#[]⟩) 32))
      simp only [Act.put,jzU,jzV,jzW]
      refine rests_call 5 (oi:=_) (by simp only [jzG,jzH,jzI];rfl) 114 #[.string (s.extract 4 s.size)] _ (by kernel_rfl) (by rfl) (by go_simp) (HT.out (((w1.drew).alloc (.cells (yA 0 0 0 0 false ⟨#[]⟩) 32)))) ?_
      rintro e w' ⟨rfl,hw'⟩;rw [hw'];clear hw'; refine ⟨_,rfl,HE_3.out,?_⟩
      simp only [Act.put,jzU,jzV,jzW]
      refine rtk 18 HE_3.out ?_
      refine rests_storeB 20 (oi:=_) (by simp only [jzG,jzH,jzI];rfl) (by kernel_rfl) (by rfl) 32 (.tmp 4) (.tmp 32) rfl w1.heap.size #[.int .u32 fr,.int .u32 tt,.int .i64 sl,.int .i64 (j.toNat:Int),.bool an,.string (s.extract 11 s.size)] rfl rfl 32 _ HX_3.out (by kernel_rfl) rfl HONE0.out ?_
      intro w4 hg4 hz4 hh4;have HB_4:=jzD (bel_grown HB_3.out hg4 (Nat.le_of_lt hlt));have HE_4:=jzD (bel_grown HE_3.out hg4 (Nat.le_refl _));have HR_4:=jzD (keep_grown HR_3.out hg4 (Nat.ne_of_lt hlt));have HX_4:=jzD hh4;refine ⟨HE_4.out,?_⟩;clear hg4 hz4 hh4
      simp only [Act.put,jzU,jzV,jzW]
      refine rests_done (by kernel_rfl) ?_
      exact hK _ ⟨HB_4.out,HR_4.out,HX_4.out⟩
  · refine wp_val (v:=.pointer (some ⟨w1.heap.size,0,none⟩)) (w' := (w1.drew).alloc (.cells (yA 0 0 0 0 false ⟨#[]⟩) 32)) (by go_simp) ⟨bal HE_2.out _,?_⟩
    have HB_3:=jzD (bal (w:=w1.drew) HB_2.out (.cells (yA 0 0 0 0 false ⟨#[]⟩) 32));have HE_3:=jzD (bal (w:=w1.drew) HE_2.out (.cells (yA 0 0 0 0 false ⟨#[]⟩) 32));have HR_3:=jzD (keep_at (w:=w1.drew) HR_2.out (bal (bel0 (w1.drew)) (.cells (yA 0 0 0 0 false ⟨#[]⟩) 32)));have HX_3:=jzD (heap_alloc_new (w1.drew) (.cells (yA 0 0 0 0 false ⟨#[]⟩) 32))
    simp only [Act.put,jzU,jzV,jzW]
    refine rests_call 2 (oi:=_) (by simp only [jzG,jzH,jzI];rfl) 114 #[.string (s.extract 0 s.size)] _ (by kernel_rfl) (by rfl) (by go_simp) (HF.out (((w1.drew).alloc (.cells (yA 0 0 0 0 false ⟨#[]⟩) 32)))) ?_
    rintro e w' ⟨rfl,hw'⟩;rw [hw'];clear hw'; refine ⟨_,rfl,HE_3.out,?_⟩
    simp only [Act.put,jzU,jzV,jzW]
    refine rests_call 5 (oi:=_) (by simp only [jzG,jzH,jzI];rfl) 114 #[.string (s.extract 4 s.size)] _ (by kernel_rfl) (by rfl) (by go_simp) (HT.out (((w1.drew).alloc (.cells (yA 0 0 0 0 false ⟨#[]⟩) 32)))) ?_
    rintro e w' ⟨rfl,hw'⟩;rw [hw'];clear hw'; refine ⟨_,rfl,HE_3.out,?_⟩
    simp only [Act.put,jzU,jzV,jzW]
    refine rtk 18 HE_3.out ?_
    refine rests_storeB 20 (oi:=_) (by simp only [jzG,jzH,jzI];rfl) (by kernel_rfl) (by rfl) 32 (.tmp 4) (.tmp 32) rfl w1.heap.size #[.int .u32 fr,.int .u32 tt,.int .i64 sl,.int .i64 (j.toNat:Int),.bool an,.string (s.extract 11 s.size)] rfl rfl 32 _ HX_3.out (by kernel_rfl) rfl HONE0.out ?_
    intro w4 hg4 hz4 hh4;have HB_4:=jzD (bel_grown HB_3.out hg4 (Nat.le_of_lt hlt));have HE_4:=jzD (bel_grown HE_3.out hg4 (Nat.le_refl _));have HR_4:=jzD (keep_grown HR_3.out hg4 (Nat.ne_of_lt hlt));have HX_4:=jzD hh4;refine ⟨HE_4.out,?_⟩;clear hg4 hz4 hh4
    simp only [Act.put,jzU,jzV,jzW]
    refine rests_done (by kernel_rfl) ?_
    exact hK _ ⟨HB_4.out,HR_4.out,HX_4.out⟩
 case cont =>
  rintro w4 ⟨hb4,hr4,hx4⟩
  have HB_4:=jzD hb4
  have HR_4:=jzD hr4
  have HX_4:=jzD hx4
  clear hb4 hr4 hx4
  have hmay:=fun w=>XMay_all (⟨fr,tt,sl,(j.toNat:Int),an,(s.extract 11 s.size)⟩:XIn) w
  rcases hm:mayX (XIn.xd (⟨fr,tt,sl,(j.toNat:Int),an,(s.extract 11 s.size)⟩:XIn)) with _ | _
  · rw [hm] at hmay
    have HM:=jzD hmay
    have HO:Hid ((if mayX (XIn.xd (⟨fr,tt,sl,(j.toNat:Int),an,(s.extract 11 s.size)⟩:XIn)) then some (XIn.xd (⟨fr,tt,sl,(j.toNat:Int),an,(s.extract 11 s.size)⟩:XIn)) else none)=none):=by show (if _ then _ else _)=_;rw [hm];rfl
    clear hmay hm
    go_wp2_with (first
     | (go_at_call 57;(with_reducible refine (HM.out _).mono ?_);rintro e wm ⟨rfl,hb⟩;have HBM:=jzD (bel_trans (w:=w4) HB_4.out hb);have HRM:=jzD (keep_at (w:=w4) HR_4.out hb);have HXM:=jzD (keep_at (w:=w4) HX_4.out hb);have c5:=cell_at HXM.out 5 _ rfl;clear hb)
     | (with_reducible refine wpList_loadB rfl 32 (.tmp 4) rfl w1.heap.size rfl 32 _ HX_4.out _ Tryz.underlying32 rfl (by kernel_rfl) ?_)
     | ((with_reducible refine wpList_storeB rfl 32 (.tmp 2) _ rfl w.heap.size #[.int .u32 0,.int .u32 0,.int .i64 0,.int .i64 0,.bool false,.string ⟨#[]⟩] rfl rfl 32 _ HRM.out (by kernel_rfl) (by kernel_rfl) (by kernel_rfl) ?_);intro wz hgz hzz hhz;have HBZ:=jzD (bel_grown HBM.out hgz (Nat.le_refl _));have HRZ:=jzD hhz;clear hgz hzz hhz))
    exact ⟨rfl,_,results_cell2 rfl _ _ w.heap.size _ _ _ _ (.bool false) rfl rfl HRZ.out Tryz.underlying32 rfl (by kernel_rfl),xidR_none (HRR.out.trans HO.out) HBZ.out⟩
  · rw [hm] at hmay
    have HM:=jzD hmay
    have HO:Hid ((if mayX (XIn.xd (⟨fr,tt,sl,(j.toNat:Int),an,(s.extract 11 s.size)⟩:XIn)) then some (XIn.xd (⟨fr,tt,sl,(j.toNat:Int),an,(s.extract 11 s.size)⟩:XIn)) else none)=some (XIn.xd (⟨fr,tt,sl,(j.toNat:Int),an,(s.extract 11 s.size)⟩:XIn))):=by show (if _ then _ else _)=_;rw [hm];rfl
    clear hmay hm
    go_wp2_with (first
     | (go_at_call 57;(with_reducible refine (HM.out _).mono ?_);rintro e wm ⟨rfl,hb⟩;have HBM:=jzD (bel_trans (w:=w4) HB_4.out hb);have HRM:=jzD (keep_at (w:=w4) HR_4.out hb);have HXM:=jzD (keep_at (w:=w4) HX_4.out hb);have c5:=cell_at HXM.out 5 _ rfl;clear hb)
     | (go_at_call 58;(with_reducible refine (HCL.out _).mono ?_);rintro e wc ⟨rfl,hb⟩;have HBC:=jzD (bel_trans (w:=wm) HBM.out hb);have HRC:=jzD (keep_at (w:=wm) HRM.out hb);have HXC:=jzD (keep_at (w:=wm) HXM.out hb);clear hb)
     | (with_reducible refine wpList_loadB rfl 32 (.tmp 4) rfl w1.heap.size rfl 32 _ HX_4.out _ Tryz.underlying32 rfl (by kernel_rfl) ?_)
     | ((with_reducible refine wpList_store1 rfl 9 (.tmp 40) (.tmp 39) rfl w1.heap.size 5 (.string (s.extract 11 s.size)) rfl rfl 32 _ HXC.out (by simp) (storeStr w1.heap.size 5 (s.extract 11 s.size)) ?_);intro ws hgs hhs;have HBS:=jzD (bel_grown HBC.out hgs HG.out);have HRS:=jzD (keep_grown HRC.out hgs (Nat.ne_of_lt hlt));have HXS:Hid (ws.heap[w1.heap.size]?=some (.cells (yA fr tt sl (j.toNat:Int) an (s.extract 11 s.size)) 32 (0,0))):=hhs;clear hgs hhs)
     | (with_reducible refine wpList_loadB rfl 32 (.tmp 4) rfl w1.heap.size rfl 32 _ HXS.out _ Tryz.underlying32 rfl (by kernel_rfl) ?_)
     | ((with_reducible refine wpList_storeB rfl 32 (.tmp 2) _ rfl w.heap.size #[.int .u32 fr,.int .u32 tt,.int .i64 sl,.int .i64 (j.toNat:Int),.bool an,.string (s.extract 11 s.size)] rfl rfl 32 _ HRS.out (by kernel_rfl) (by kernel_rfl) HONE0.out ?_);intro wz hgz hzz hhz;have HBZ:=jzD (bel_grown HBS.out hgz (Nat.le_refl _));have HRZ:=jzD hhz;clear hgz hzz hhz))
    exact ⟨rfl,_,results_cell2 rfl _ _ w.heap.size _ _ _ _ (.bool true) rfl rfl HRZ.out Tryz.underlying32 rfl (by kernel_rfl),xidR_of (HRR.out.trans HO.out) rfl HBZ.out⟩

theorem i8_of (k:UInt8):IntKind.i8.wrap (k.toNat:Int)=if k.toNat < 128 then (k.toNat:Int) else (k.toNat:Int) - 256:=by
 have h:∀ c:Fin 256,IntKind.i8.wrap ((c.1:Nat):Int)=if c.1 < 128 then (c.1:Int) else (c.1:Int) - 256:=by decide +kernel
 exact h ⟨k.toNat,k.toNat_lt⟩
theorem slot_i8 (f t:Int) (k:UInt8) (n:Int) (a:Bool) (r:List UInt8) (sl:Int) (h:sl=if k.toNat < 128 then (k.toNat:Int) else (k.toNat:Int) - 256) :
 (if mayX ⟨f,t,sl,n,a,r⟩ then some (⟨f,t,sl,n,a,r⟩:Xd) else none)=(if mayX ⟨f,t,slotOf k,n,a,r⟩ then some ⟨f,t,slotOf k,n,a,r⟩ else none):=by
 have hk:=k.toNat_lt
 by_cases h1:k.toNat < 128
 · rw [if_pos h1] at h
   rw [show slotOf k=sl by unfold slotOf;rw [if_neg (by omega),h]]
 · rw [if_neg h1] at h
   by_cases h2:k.toNat=255
   · rw [show slotOf k=sl by unfold slotOf;rw [if_pos h2,h];omega]
   · have e1:slotOf k=(k.toNat:Int):=by unfold slotOf;rw [if_neg h2]
     have a1:mayX ⟨f,t,sl,n,a,r⟩=false:=by
      unfold mayX
      have : decide (-1≤sl∧sl < n)=false:=decide_eq_false (by omega)
      simp only [this,Bool.and_false,Bool.false_and]
     have a2:mayX ⟨f,t,slotOf k,n,a,r⟩=false:=by
      unfold mayX
      simp only [e1]
      by_cases hn:n=1 ∨ n=6 ∨ n=8
      · have : decide (-1≤(k.toNat:Int)∧(k.toNat:Int) < n)=false:=decide_eq_false (by omega)
        simp only [this,Bool.and_false,Bool.false_and]
      · simp only [decide_eq_false hn,Bool.and_false,Bool.false_and]
     rw [a1,a2]
     rfl
theorem XGet_any (s:ByteArray) (w:World) (hs:s.size≤1000000):Calls Tryz.prog 87 #[.string s] w (XidR (getX s.data.toList) w):=by
 have hl:=ba_len s
 by_cases h11:s.size < 11
 · rw [getX_short (by omega)]
   exact XGet_short s w h11
 · obtain ⟨a,b,c,d,e,f,g,h,i,j,k,r,hq⟩:=eleven (l:=s.data.toList) (by omega)
   have e8:=at_of hq 8 (by omega) (x:=i) rfl
   have e9:=at_of hq 9 (by omega) (x:=j) rfl
   have e10:=at_of hq 10 (by omega) (x:=k) rfl
   have hk:getX s.data.toList=if i.toNat≤1 then (if mayX ⟨num4 a b c d,num4 e f g h,slotOf k,(j.toNat:Int),i.toNat == 1,r⟩ then some ⟨num4 a b c d,num4 e f g h,slotOf k,(j.toNat:Int),i.toNat == 1,r⟩ else none) else none:=by rw [hq];rfl
   rw [hk]
   by_cases hi:i.toNat≤1
   · rw [if_pos hi]
     have hr:(s.extract 11 s.size).data.toList=r:=by rw [bl_from_toList,hq];rfl
     have h0:(s.extract 0 s.size).data.toList=a :: b :: c :: d :: e :: f :: g :: h :: i :: j :: k :: r:=by rw [bl_from_toList,hq];rfl
     have h4:(s.extract 4 s.size).data.toList=e :: f :: g :: h :: i :: j :: k :: r:=by rw [bl_from_toList,hq];rfl
     obtain ⟨sl,hsl⟩:∃ sl,sl=if k.toNat < 128 then (k.toNat:Int) else (k.toNat:Int) - 256:=⟨_,rfl⟩
     have hx:(XIn.xd ⟨num4 a b c d,num4 e f g h,sl,(j.toNat:Int),i.toNat == 1,s.extract 11 s.size⟩)=⟨num4 a b c d,num4 e f g h,sl,(j.toNat:Int),i.toNat == 1,r⟩:=by
      unfold XIn.xd
      rw [hr]
     have hkl:=k.toNat_lt
     have := XGet_core s w (num4 a b c d) (num4 e f g h) sl i j k (i.toNat == 1) hs (by omega) (by omega) (by omega) e8 e9 e10 hi (by
      rw [Bool.eq_iff_iff,beq_iff_eq,beq_iff_eq];omega) (by rw [i8_of,hsl]) (IntWalk.i64_in _ (by rw [hsl];split <;> omega)) (fun w=>Xlead_any _ w h0) (fun w=>Xlead_any _ w h4)
     rw [hx,slot_i8 _ _ k _ _ _ sl hsl] at this
     exact this
   · rw [if_neg hi]
     exact XGet_anew s w i (by omega) (by omega) e8 (by omega)
end Go.Proofs.YtjddbjmcjhjpiaaGreatDoor

namespace Go.Proofs.YtjddbjmcjhjpiaaGreatDoor
open Go.RowKit M

theorem run_boxS (s:St) (w:World):(Instr.box 146 s.val).run Tryz.prog w=.ok (.pointer (some ⟨w.heap.size,0,none⟩)) (w.alloc (.cells (yB s.from_ s.to_ s.seat s.count s.o.baud s.o.silent s.o.win s.o.size s.o.wait) 146)):=by
 obtain ⟨a,b,c,d,⟨e,f,g,h,i⟩⟩:=s
 kernel_rfl
end Go.Proofs.YtjddbjmcjhjpiaaGreatDoor

namespace Go.Proofs.YtjddbjmcjhjpiaaGreatDoor
set_option maxRecDepth 100000
set_option maxHeartbeats 4000000
open Go.RowKit M

theorem run_boxA (a b:Int) (w:World):(Instr.box 144 (.agg #[.int .i64 a,.int .i64 b])).run Tryz.prog w=.ok (.pointer (some ⟨w.heap.size,0,none⟩)) (w.alloc (.cells #[.int .i64 a,.int .i64 b] 144)):=by
 kernel_rfl
def addrOk (a b:Int):Bool:=decide (0≤a∧a < 8) && decide (0≤b∧b≤249)
def fineS (s:St):Bool:=ownN s.from_ && ownN s.to_ && addrOk s.seat s.count
theorem maySt_fine (s:St):maySt s=(fineS s && mayO s.o):=by
 unfold maySt fineS addrOk
 simp only [Bool.and_assoc]
theorem SisAddress_any (a b:Int) (w:World):Calls Tryz.prog 135 #[.agg #[.int .i64 a,.int .i64 b]] w fun e w' => e=.returned (.bool (addrOk a b))∧Below w.heap.size w w' := by
 obtain ⟨q,hq⟩:∃ q,q=addrOk a b:=⟨_,rfl⟩
 rw [← hq]
 have HQ:Hid (∀ c:Bool,(c=true ↔ (0≤a∧a < 8∧0≤b∧b≤249))→Ending.returned (.bool c)=.returned (.bool q)):=by
  show ∀ _,_
  intro c h
  congr 2
  rw [Bool.eq_iff_iff,h,hq]
  unfold addrOk
  rw [Bool.and_eq_true,decide_eq_true_eq,decide_eq_true_eq,and_assoc]
 clear hq
 go_enter Tryz.func135,Tryz.ntmps135
 go_wp2_with (with_reducible refine wpList_boxS rfl 144 _ (.tmp 0) rfl rfl (run_boxA a b) ?_)
 intro w1 hb1 hlt1 hh1
 have c0:w1.cell? ⟨w.heap.size,0,none⟩=some (.int .i64 a):=cell_at hh1 0 _ rfl
 have c1:w1.cell? ⟨w.heap.size,1,none⟩=some (.int .i64 b):=cell_at hh1 1 _ rfl
 have HB:=jzD hb1
 clear hb1 hh1
 go_wp2
 all_goals
  go_ret
  refine ⟨HQ.out _ ?_,HB.out⟩
  clear HQ HB c0 c1
  first | (simp at *;done) | (simp at *;omega) | omega
theorem SareFine_any (s:St) (w:World):Calls Tryz.prog 115 #[s.val] w fun e w' => e=.returned (.bool (fineS s))∧Below w.heap.size w w' := by
 obtain ⟨fr,tt,se,co,⟨b,si,wi,z,wa⟩⟩:=s
 obtain ⟨r,hr⟩:∃ r,r=fineS ⟨fr,tt,se,co,⟨b,si,wi,z,wa⟩⟩:=⟨_,rfl⟩
 rw [← hr]
 have hf:=fun w=>XisId_any fr w
 have ht:=fun w=>XisId_any tt w
 have ha:=fun w=>SisAddress_any se co w
 unfold fineS at hr
 simp only at hr
 generalize ownN fr=o1 at *
 generalize ownN tt=o2 at *
 generalize addrOk se co=o3 at *
 have HR:=jzD hr
 have HF:=jzD hf
 have HT:=jzD ht
 have HA:=jzD ha
 clear hr hf ht ha
 go_enter Tryz.func115,Tryz.ntmps115
 go_wp2_with (with_reducible refine wpList_boxS rfl 146 _ (.tmp 0) rfl rfl (run_boxS ⟨fr,tt,se,co,⟨b,si,wi,z,wa⟩⟩) ?_)
 intro w1 hb1 hlt1 hh1
 have c0:w1.cell? ⟨w.heap.size,0,none⟩=some (.int .u32 fr):=cell_at hh1 0 _ rfl
 have c1:w1.cell? ⟨w.heap.size,1,none⟩=some (.int .u32 tt):=cell_at hh1 1 _ rfl
 have c2:w1.cell? ⟨w.heap.size,2,none⟩=some (.int .i64 se):=cell_at hh1 2 _ rfl
 have c3:w1.cell? ⟨w.heap.size,3,none⟩=some (.int .i64 co):=cell_at hh1 3 _ rfl
 have HB:=jzD hb1
 clear hb1 hh1
 go_wp2_with (first
  | (go_at_call 65;first | ((with_reducible refine (HF.out _).mono ?_);rintro e w' ⟨rfl,rfl⟩) | ((with_reducible refine (HT.out _).mono ?_);rintro e w' ⟨rfl,rfl⟩))
  | (go_at_call 135;(with_reducible refine (HA.out _).mono ?_);rintro e w2 ⟨rfl,hb⟩;have HB2:=jzD (bel_trans HB.out hb);clear hb))
 all_goals
  go_ret
  refine ⟨?_,by first | exact HB2.out | exact HB.out⟩
  have h:=HR.out
  clear HB HF HT HA HR c0 c1 c2 c3
  cases o1 <;> cases o2 <;> cases o3 <;> simp_all
end Go.Proofs.YtjddbjmcjhjpiaaGreatDoor

namespace Go.Proofs.YtjddbjmcjhjpiaaGreatDoor
open Go.RowKit M

def midS (se co:Int):List UInt8:=[UInt8.ofNat se.toNat,UInt8.ofNat co.toNat]
theorem bcs2 {se co:Int} (hs:0≤se∧se < 256) (hc:0≤co∧co < 256):(#[.int .u8 se,.int .u8 co]:Array Value)=(bcs (midS se co)).toArray:=by
 show _=(#[bc (by8 se),bc (by8 co)]:Array Value)
 rw [by8_bc hs,by8_bc hc]
end Go.Proofs.YtjddbjmcjhjpiaaGreatDoor

namespace Go.Proofs.YtjddbjmcjhjpiaaGreatDoor
set_option maxRecDepth 100000
set_option maxHeartbeats 8000000
open Go.RowKit M

theorem SPut_poor (fr tt se co b si wi z wa:Int) (w:World) (hok:Of5.ok ⟨b,si,wi,z,wa⟩) (hm:mayO ⟨b,si,wi,z,wa⟩=false):Calls Tryz.prog 88 #[.agg #[.int .u32 fr,.int .u32 tt,.int .i64 se,.int .i64 co,.int .i64 b,.int .i64 si,.int .i64 wi,.int .i64 z,.int .i64 wa]] w (PutR (putS ⟨fr,tt,se,co,⟨b,si,wi,z,wa⟩⟩) w):=by
 have hpo:=fun w=>QPut_any ⟨b,si,wi,z,wa⟩ w hok
 unfold PutR at hpo
 rw [show putO ⟨b,si,wi,z,wa⟩=none by unfold putO;rw [hm];rfl] at hpo
 simp only [Option.getD_none,Option.isSome_none] at hpo
 have HPO:=jzD hpo
 have HP:Hid (putS ⟨fr,tt,se,co,⟨b,si,wi,z,wa⟩⟩=none):=by show putS _=_;unfold putS;rw [maySt_fine];simp only;rw [hm,Bool.and_false];rfl
 clear hpo hm hok
 go_enter Tryz.func88,Tryz.ntmps88
 go_wp2_with (first
  | ((with_reducible refine wpList_boxS rfl 146 _ (.tmp 0) rfl rfl (run_boxS ⟨fr,tt,se,co,⟨b,si,wi,z,wa⟩⟩) ?_);intro w1 hb1 hlt1 hh1;have HB1:=jzD hb1;have HP1:=jzD hh1;have c4:w1.cell? ⟨w.heap.size,4,none⟩=some (.int .i64 b):=cell_at hh1 4 _ rfl;have c5:w1.cell? ⟨w.heap.size,5,none⟩=some (.int .i64 si):=cell_at hh1 5 _ rfl;have c6:w1.cell? ⟨w.heap.size,6,none⟩=some (.int .i64 wi):=cell_at hh1 6 _ rfl;have c7:w1.cell? ⟨w.heap.size,7,none⟩=some (.int .i64 z):=cell_at hh1 7 _ rfl;have c8:w1.cell? ⟨w.heap.size,8,none⟩=some (.int .i64 wa):=cell_at hh1 8 _ rfl;clear hb1 hh1)
  | (go_at_call 83;(with_reducible refine (HPO.out _).mono ?_);rintro e w2 ⟨rfl,hb⟩;have HB2:=jzD (bel_trans HB1.out hb);have HP2:=jzD (keep_at HP1.out hb);clear hb))
 go_ret2
 exact putR_none HP.out HB2.out
theorem SPut_bad (fr tt se co b si wi z wa:Int) (w:World) (hok:Of5.ok ⟨b,si,wi,z,wa⟩) (hm:mayO ⟨b,si,wi,z,wa⟩=true) (hn:fineS ⟨fr,tt,se,co,⟨b,si,wi,z,wa⟩⟩=false):Calls Tryz.prog 88 #[.agg #[.int .u32 fr,.int .u32 tt,.int .i64 se,.int .i64 co,.int .i64 b,.int .i64 si,.int .i64 wi,.int .i64 z,.int .i64 wa]] w (PutR (putS ⟨fr,tt,se,co,⟨b,si,wi,z,wa⟩⟩) w):=by
 have hpo:=fun w=>QPut_any ⟨b,si,wi,z,wa⟩ w hok
 unfold PutR at hpo
 rw [show putO ⟨b,si,wi,z,wa⟩=some (bytesO ⟨b,si,wi,z,wa⟩) by unfold putO;rw [if_pos hm]] at hpo
 simp only [Option.getD_some,Option.isSome_some] at hpo
 have hfi:=fun w=>SareFine_any ⟨fr,tt,se,co,⟨b,si,wi,z,wa⟩⟩ w
 rw [hn] at hfi
 have HM:=jzD hfi
 have HP:Hid (putS ⟨fr,tt,se,co,⟨b,si,wi,z,wa⟩⟩=none):=by show putS _=_;unfold putS;rw [maySt_fine,hn];rfl
 have HPO:=jzD hpo
 clear hpo hm hn hok hfi
 go_enter Tryz.func88,Tryz.ntmps88
 go_wp2_with (first
  | ((with_reducible refine wpList_boxS rfl 146 _ (.tmp 0) rfl rfl (run_boxS ⟨fr,tt,se,co,⟨b,si,wi,z,wa⟩⟩) ?_);intro w1 hb1 hlt1 hh1;have HB1:=jzD hb1;have HP1:=jzD hh1;have c4:w1.cell? ⟨w.heap.size,4,none⟩=some (.int .i64 b):=cell_at hh1 4 _ rfl;have c5:w1.cell? ⟨w.heap.size,5,none⟩=some (.int .i64 si):=cell_at hh1 5 _ rfl;have c6:w1.cell? ⟨w.heap.size,6,none⟩=some (.int .i64 wi):=cell_at hh1 6 _ rfl;have c7:w1.cell? ⟨w.heap.size,7,none⟩=some (.int .i64 z):=cell_at hh1 7 _ rfl;have c8:w1.cell? ⟨w.heap.size,8,none⟩=some (.int .i64 wa):=cell_at hh1 8 _ rfl;clear hb1 hh1)
  | (go_at_call 83;(with_reducible refine (HPO.out _).mono ?_);rintro e w2 ⟨rfl,hb⟩;have HB2:=jzD (bel_trans HB1.out hb);have HP2:=jzD (keep_at HP1.out hb);clear hb)
  | (with_reducible refine wpList_loadG (by kernel_rfl) 146 (.tmp 1) rfl w.heap.size rfl 146 #[.int .u32 fr,.int .u32 tt,.int .i64 se,.int .i64 co,.int .i64 b,.int .i64 si,.int .i64 wi,.int .i64 z,.int .i64 wa] HP2.out _ Tryz.underlying146 rfl (by kernel_rfl) ?_)
  | (go_at_call 115;(with_reducible refine (HM.out _).mono ?_);rintro e w3 ⟨rfl,hb⟩;have HB3:=jzD (bel_trans HB2.out hb);have HP3:=jzD (keep_at HP2.out hb);clear hb))
 go_ret2
 exact putR_none HP.out HB3.out
theorem SPut_some (fr tt se co b si wi z wa:Int) (w:World) (hok:Of5.ok ⟨b,si,wi,z,wa⟩) (hf:u32 fr) (ht:u32 tt) (hm:mayO ⟨b,si,wi,z,wa⟩=true) (hn:fineS ⟨fr,tt,se,co,⟨b,si,wi,z,wa⟩⟩=true):Calls Tryz.prog 88 #[.agg #[.int .u32 fr,.int .u32 tt,.int .i64 se,.int .i64 co,.int .i64 b,.int .i64 si,.int .i64 wi,.int .i64 z,.int .i64 wa]] w (PutR (putS ⟨fr,tt,se,co,⟨b,si,wi,z,wa⟩⟩) w):=by
 have hpo:=fun w=>QPut_any ⟨b,si,wi,z,wa⟩ w hok
 unfold PutR at hpo
 rw [show putO ⟨b,si,wi,z,wa⟩=some (bytesO ⟨b,si,wi,z,wa⟩) by unfold putO;rw [if_pos hm]] at hpo
 simp only [Option.getD_some,Option.isSome_some] at hpo
 have hfi:=fun w=>SareFine_any ⟨fr,tt,se,co,⟨b,si,wi,z,wa⟩⟩ w
 rw [hn] at hfi
 have HM:=jzD hfi
 have hi:(0≤se∧se < 8)∧(0≤co∧co≤249):=by
  unfold fineS addrOk at hn
  simp only [Bool.and_eq_true,decide_eq_true_eq] at hn
  exact hn.2
 have HP:Hid (putS ⟨fr,tt,se,co,⟨b,si,wi,z,wa⟩⟩=some (headS ⟨fr,tt,se,co,⟨b,si,wi,z,wa⟩⟩ ++ bytesO ⟨b,si,wi,z,wa⟩)):=by show putS _=_;unfold putS;rw [maySt_fine,hn];simp only;rw [hm];rfl
 obtain ⟨B,hB⟩:∃ B:ByteArray,B=⟨(bytesO ⟨b,si,wi,z,wa⟩).toArray⟩:=⟨_,rfl⟩
 rw [← hB] at hpo
 have hBs:B.size≤20:=by rw [hB];show (bytesO ⟨b,si,wi,z,wa⟩).toArray.size≤20;rw [List.size_toArray];exact (by decide:15≤20)
 have HALL:Hid ((([] ++ le4 fr ++ le4 tt) ++ midS se co) ++ B.data.toList=headS ⟨fr,tt,se,co,⟨b,si,wi,z,wa⟩⟩ ++ bytesO ⟨b,si,wi,z,wa⟩):=by show _=_;rw [hB];rfl
 have HPO:=jzD hpo
 have e1:IntKind.u8.wrap se=se:=IntWalk.u8_in _ (by omega)
 have e2:IntKind.u8.wrap co=co:=IntWalk.u8_in _ (by omega)
 have hbc:=bcs2 (se:=se) (co:=co) (by omega) (by omega)
 have HRD:Hid (∀ (W:World) (g:Nat),W.heap[g]?=some (.cells #[.int .u8 se,.int .u8 co] 5 (0,0))→Rds W (.slice (some ⟨g,0,none⟩) 2 2) (midS se co)):=by
  show ∀ _ _,_
  intro W g h
  rw [hbc] at h
  exact rds_new (l:=midS se co) h (by show 2≤1000000;decide)
 have HUF:=jzD hf
 have HUT:=jzD ht
 have HA:Hid (∀ (v:Value) (l:List UInt8) (n:Int) (w:World) (base:Nat),Own w base v l→u32 n→l.length≤1000→base≤w.heap.size→Calls Tryz.prog 112 #[v,.int .u32 n] w fun e w' => ∃ v', e=.returned v' ∧ Own w' base v' (l ++ le4 n)∧Below base w w'):=by
  show ∀ _,_
  intro v l n w base h1 h2 h3 h4
  exact XaddId_any v l n base w h1 h2 h3 h4
 have HC10:Hid (10 + (B.size:Int)=((10 + B.size:Nat):Int)):=by show _=_;omega
 have hC10:10 + B.size≤1000000:=by omega
 obtain ⟨i0,hi0,hz0,hz1,hz2⟩:=info_parts byte_info
 clear hpo hm hn hok hfi hi hf ht hbc hB
 go_enter Tryz.func88,Tryz.ntmps88
 go_wp2_with (first
  | ((with_reducible refine wpList_boxS rfl 146 _ (.tmp 0) rfl rfl (run_boxS ⟨fr,tt,se,co,⟨b,si,wi,z,wa⟩⟩) ?_);intro w1 hb1 hlt1 hh1;have HB1:=jzD hb1;have HP1:=jzD hh1;have c4:w1.cell? ⟨w.heap.size,4,none⟩=some (.int .i64 b):=cell_at hh1 4 _ rfl;have c5:w1.cell? ⟨w.heap.size,5,none⟩=some (.int .i64 si):=cell_at hh1 5 _ rfl;have c6:w1.cell? ⟨w.heap.size,6,none⟩=some (.int .i64 wi):=cell_at hh1 6 _ rfl;have c7:w1.cell? ⟨w.heap.size,7,none⟩=some (.int .i64 z):=cell_at hh1 7 _ rfl;have c8:w1.cell? ⟨w.heap.size,8,none⟩=some (.int .i64 wa):=cell_at hh1 8 _ rfl;clear hb1 hh1)
  | (go_at_call 83;(with_reducible refine (HPO.out _).mono ?_);rintro e w2 ⟨rfl,hb⟩;have HB2:=jzD (bel_trans HB1.out hb);have HP2:=jzD (keep_at HP1.out hb);clear hb)
  | (with_reducible refine wpList_loadG (by kernel_rfl) 146 (.tmp 1) rfl w.heap.size rfl 146 #[.int .u32 fr,.int .u32 tt,.int .i64 se,.int .i64 co,.int .i64 b,.int .i64 si,.int .i64 wi,.int .i64 z,.int .i64 wa] HP2.out _ Tryz.underlying146 rfl (by kernel_rfl) ?_)
  | (go_at_call 115;(with_reducible refine (HM.out _).mono ?_);rintro e w3 ⟨rfl,hb⟩;have HB3:=jzD (bel_trans HB2.out hb);have HP3:=jzD (keep_at HP2.out hb);clear hb)
  | ((with_reducible refine wpList_make0 rfl (.const (.int .i64 0)) (.tmp 22) rfl .i64 .i64 (10 + (B.size:Int)) (10 + B.size) w3.heap.size rfl rfl HC10.out hC10 (Nat.le_refl _) ?_);intro w4 hown4 hb4 hlt4;have HO4:=jzD hown4;have HE4:=jzD hb4;have HP4:=jzD (keep_at HP3.out hb4);have c0:w4.cell? ⟨w.heap.size,0,none⟩=some (.int .u32 fr):=cell_at HP4.out 0 _ rfl;clear hown4 hb4 hlt4)
  | (go_at_call 112;first | ((with_reducible refine (HA.out _ _ _ _ _ HO4.out HUF.out (by simp) HE4.out.size).mono ?_);rintro e w5 ⟨v5,rfl,ho5,hb5⟩;obtain ⟨L5,hL5⟩:∃ L,L=[] ++ le4 fr:=⟨_,rfl⟩;rw [← hL5] at ho5;have HL5:=jzD hL5;clear hL5;have HE5:=jzD (HE4.out.trans hb5);have HP5:=jzD (keep_at HP3.out HE5.out);have HO5:=jzD ho5;obtain ⟨A5,cap5,rfl,_⟩:=ho5.rds;have c1:w5.cell? ⟨w.heap.size,1,none⟩=some (.int .u32 tt):=cell_at HP5.out 1 _ rfl;clear ho5 hb5) | ((with_reducible refine (HA.out _ _ _ _ _ HO5.out HUT.out (by rw [HL5.out];simp [le4]) HE5.out.size).mono ?_);rintro e w6 ⟨v6,rfl,ho6,hb6⟩;obtain ⟨L6,hL6⟩:∃ L,L=L5 ++ le4 tt:=⟨_,rfl⟩;rw [← hL6] at ho6;have HL6:=jzD hL6;clear hL6;have HE6:=jzD (HE5.out.trans hb6);have HP6:=jzD (keep_at HP3.out HE6.out);have HO6:=jzD ho6;obtain ⟨A6,cap6,rfl,_⟩:=ho6.rds;have c2:w6.cell? ⟨w.heap.size,2,none⟩=some (.int .i64 se):=cell_at HP6.out 2 _ rfl;have c3:w6.cell? ⟨w.heap.size,3,none⟩=some (.int .i64 co):=cell_at HP6.out 3 _ rfl;clear ho6 hb6))
  | (at_builtin;refine wpList_app rfl (.tmp 32) (.tmp 41) rfl w3.heap.size _ (.slice (some ⟨w6.heap.size,0,none⟩) 2 2) L6 (midS se co) rfl rfl (HO6.out.alloc _) (HRD.out _ _ (heap_alloc_new w6 _)) (by rw [HL6.out,HL5.out];simp [le4,midS]) (by have := HE6.out.size;simp;omega) ?_;intro u7 w7 hown7 hg7 hat7;have HE7:=jzD ((HE6.out.alloc HE6.out.size _).grown hg7 (by have := HE6.out.size;simp;omega) (fun k hk=>(HO6.out.lt k hk).1));obtain ⟨L7,hL7⟩:∃ L,L=L6 ++ midS se co:=⟨_,rfl⟩;rw [← hL7] at hown7;have HL7:=jzD hL7;have HO7:=jzD hown7;obtain ⟨A7,cap7,rfl,_⟩:=hown7.rds;have HLL:Hid (L7.length=10):=(by show _=_;rw [HL7.out,HL6.out,HL5.out];rfl);clear hL7 hown7 hg7 hat7)
  | (
   at_builtin
   refine Lib.wpList_append_own_string _ rfl (.tmp 43) (.tmp 44) 152 9 rfl w3.heap.size 5 i0 Tryz.underlying152 Tryz.underlying9 hi0 hz0 hz1 hz2 _ L7.length _ rfl HO7.out B rfl (by have := HLL.out;unfold maxLen;omega) (by have := HLL.out;omega) HE7.out.size ?_
   intro u8 w8 hown8 hg8 _hnil
   have h8:Own w8 w3.heap.size u8 (L7 ++ B.data.toList):=(by
    unfold Own
    rw [bcs_append,List.length_append,len_data]
    exact hown8)
   have HO8:=jzD h8
   have HE8:=jzD (HE7.out.grown hg8 HE7.out.size (fun k hk=>(HO7.out.lt k hk).1))
   clear h8 hown8 hg8 _hnil)
  | (with_reducible refine wpList_strB rfl (.tmp 45) rfl u8 (L7 ++ B.data.toList) rfl HO8.out.rds ?_))
 go_ret2
 have hlt:w.heap.size≤w3.heap.size:=Nat.le_of_lt (lt_at HP3.out)
 refine ⟨?_,HB3.out.trans (HE8.out.mono hlt)⟩
 have hb:=HALL.out
 rw [HP.out,← hb,HL7.out,HL6.out,HL5.out]
 rfl
theorem SPut_any (s:St) (w:World) (hs:s.ok):Calls Tryz.prog 88 #[s.val] w (PutR (putS s) w):=by
 obtain ⟨hu1,hu2⟩:=St.u hs
 have hok:s.o.ok:=hs.2.2.2.2
 obtain ⟨fr,tt,se,co,⟨b,si,wi,z,wa⟩⟩:=s
 cases hm:mayO ⟨b,si,wi,z,wa⟩ with
 | false=>exact SPut_poor fr tt se co b si wi z wa w hok hm
 | true =>
  cases hn:fineS ⟨fr,tt,se,co,⟨b,si,wi,z,wa⟩⟩ with
  | false=>exact SPut_bad fr tt se co b si wi z wa w hok hm hn
  | true=>exact SPut_some fr tt se co b si wi z wa w hok hu1 hu2 hm hn
end Go.Proofs.YtjddbjmcjhjpiaaGreatDoor

namespace Go.Proofs.YtjddbjmcjhjpiaaGreatDoor
open Go.RowKit M

theorem ten {l:List UInt8} (h:10≤l.length):∃ a b c d e f g h' i j r,l=a :: b :: c :: d :: e :: f :: g :: h' :: i :: j :: r:=by
 match l,h with
 | a :: b :: c :: d :: e :: f :: g :: h' :: i :: j :: r,_=>exact ⟨a,b,c,d,e,f,g,h', i,j,r,rfl⟩
theorem getS_cons (a b c d e f g h i j:UInt8) (r:List UInt8):getS (a :: b :: c :: d :: e :: f :: g :: h :: i :: j :: r)=(getO r).bind fun o=>if maySt ⟨num4 a b c d,num4 e f g h,(i.toNat:Int),(j.toNat:Int),o⟩ then some ⟨num4 a b c d,num4 e f g h,(i.toNat:Int),(j.toNat:Int),o⟩ else none:=rfl
end Go.Proofs.YtjddbjmcjhjpiaaGreatDoor

namespace Go.Proofs.YtjddbjmcjhjpiaaGreatDoor
open Go.RowKit M

theorem getS_none {a b c d e f g h i j:UInt8} {r:List UInt8} (hg:getO r=none):getS (a :: b :: c :: d :: e :: f :: g :: h :: i :: j :: r)=none:=by
 rw [getS_cons,hg];rfl
theorem getS_bad {a b c d e f g h i j:UInt8} {r:List UInt8} {o:Of5} (hg:getO r=some o) (hm:maySt ⟨num4 a b c d,num4 e f g h,(i.toNat:Int),(j.toNat:Int),o⟩=false):getS (a :: b :: c :: d :: e :: f :: g :: h :: i :: j :: r)=none:=by
 rw [getS_cons,hg,Option.bind_some,hm];rfl
theorem getS_good {a b c d e f g h i j:UInt8} {r:List UInt8} {o:Of5} (hg:getO r=some o) (hm:maySt ⟨num4 a b c d,num4 e f g h,(i.toNat:Int),(j.toNat:Int),o⟩=true):getS (a :: b :: c :: d :: e :: f :: g :: h :: i :: j :: r)=some ⟨num4 a b c d,num4 e f g h,(i.toNat:Int),(j.toNat:Int),o⟩:=by
 rw [getS_cons,hg,Option.bind_some,hm];rfl
end Go.Proofs.YtjddbjmcjhjpiaaGreatDoor
