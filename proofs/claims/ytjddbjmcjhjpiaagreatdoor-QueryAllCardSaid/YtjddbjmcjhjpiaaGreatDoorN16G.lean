/- Of layer 12: SA3, Q8S, Eq8, Eq8b, StrB, TurnA2, S12, Ref12a, OpenG, OwnO, X16, LinD. -/
import Derived.Test.YtjddbjmcjhjpiaaGreatDoorN16F
import Derived.Test.YtjddbjmcjhjpiaaGreatDoorN16E
import Derived.Test.YtjddbjmcjhjpiaaGreatDoorN16C
import Derived.Test.YtjddbjmcjhjpiaaGreatDoorN16D
import Derived.Test.YtjddbjmcjhjpiaaGreatDoorM4G
import Derived.Test.YtjddbjmcjhjpiaaGreatDoorM4H
import Derived.Test.YtjddbjmcjhjpiaaGreatDoorN16B
import Derived.Test.YtjddbjmcjhjpiaaGreatDoorBegun4
import Derived.Test.YtjddbjmcjhjpiaaGreatDoorN16A
import Derived.Test.YtjddbjmcjhjpiaaGreatDoorM4D
import Derived.Test.YtjddbjmcjhjpiaaGreatDoorM4A
import Derived.Laws.IdiomStrings
import Derived.ArgAppend

set_option linter.all false

namespace Go.Proofs.YtjddbjmcjhjpiaaGreatDoor
set_option maxRecDepth 100000
set_option maxHeartbeats 16000000
open Go.RowKit M

theorem SGet_short (s:ByteArray) (w:World) (h:s.size < 10):Calls Tryz.prog 89 #[.string s] w (SetupR none w):=by
 have h1:(s.size:Int) < 10:=by omega
 clear h
 go_enter Tryz.func89,Tryz.ntmps89
 go_wp2
 exact ⟨rfl,_,results_cell2 rfl _ _ w.heap.size _ _ _ _ (.bool false) rfl rfl (heap_alloc_new w _) Tryz.underlying146 rfl (by kernel_rfl),setupR_none rfl (bal (bel0 w) _)⟩

theorem SGet_no (s:ByteArray) (w:World) (fr tt b si wi z wa:Int) (i j:UInt8) (h8:8 < s.size) (h9:9 < s.size) (e8:s[8]=i) (e9:s[9]=j)
 (ho:∀ w,Calls Tryz.prog 84 #[.string (s.extract 10 s.size)] w fun e w' => e=.returned (.tuple #[.agg #[.int .i64 b,.int .i64 si,.int .i64 wi,.int .i64 z,.int .i64 wa],.bool false])∧Below w.heap.size w w')
 (hf:∀ w,Calls Tryz.prog 114 #[.string (s.extract 0 s.size)] w fun e w' => e=.returned (.int .u32 fr)∧w' = w) (ht:∀ w,Calls Tryz.prog 114 #[.string (s.extract 4 s.size)] w fun e w' => e=.returned (.int .u32 tt)∧w' = w) :
 Calls Tryz.prog 89 #[.string s] w (SetupR none w):=by
 have hil:=i.toNat_lt
 have hjl:=j.toNat_lt
 have i1:¬ (s.size:Int) < 10:=by omega
 have i2:(8:Int) < (s.size:Int):=by omega
 have i3:(9:Int) < (s.size:Int):=by omega
 have i5:(4:Int)≤(s.size:Int):=by omega
 have i6:(10:Int)≤(s.size:Int):=by omega
 have v1:IntKind.i64.wrap (i.toNat:Int)=(i.toNat:Int):=IntWalk.i64_in _ (by omega)
 have v2:IntKind.i64.wrap (j.toNat:Int)=(j.toNat:Int):=IntWalk.i64_in _ (by omega)
 have HONE:Hid ((#[.int .u32 fr,.int .u32 tt,.int .i64 (i.toNat:Int),.int .i64 (j.toNat:Int),.int .i64 b,.int .i64 si,.int .i64 wi,.int .i64 z,.int .i64 wa]:Array Value).all (·.oneCell')=true):=by show _=true;simp [Value.oneCell']
 have HF:=jzD hf
 have HT:=jzD ht
 have HGO:=jzD ho
 clear hf ht ho hil hjl
 go_enter Tryz.func89,Tryz.ntmps89
 go_wp2_with (go_at_call 84;(with_reducible refine (HGO.out _).mono ?_);rintro e w2 ⟨rfl,hb⟩;have HB2:=jzD (bal (bel_trans (bal (bel0 w) (.cells (yB 0 0 0 0 0 0 0 0 0) 146)) hb) (.cells (yI b si wi z wa) 133));have HR2:=jzD (keep_at (keep_at (heap_alloc_new w (.cells (yB 0 0 0 0 0 0 0 0 0) 146)) hb) (bal (bel0 w2) (.cells (yI b si wi z wa) 133)));have HO2:=jzD (heap_alloc_new w2 (.cells (yI b si wi z wa) 133));have HLT2:Hid (w.heap.size < w2.heap.size):=lt_at (keep_at (heap_alloc_new w (.cells (yB 0 0 0 0 0 0 0 0 0) 146)) hb);clear hb)
 obtain ⟨w3,hw3⟩:∃ w3,w3=w2.alloc (.cells (yI b si wi z wa) 133):=⟨_,rfl⟩
 have HB_3:Hid (Below w.heap.size w w3.drew):=by show Below _ _ _;rw [hw3];exact HB2.out.drew
 have HR_3:Hid (w3.drew.heap[w.heap.size]?=some (.cells (yB 0 0 0 0 0 0 0 0 0) 146 (0,0))):=by show _=_;rw [hw3];exact HR2.out
 have HO3:Hid (w3.heap[w2.heap.size]?=some (.cells (yI b si wi z wa) 133 (0,0))):=by show _=_;rw [hw3];exact HO2.out
 have HE_3:Hid (Below w3.heap.size w3 w3.drew):=(bel0 w3).drew
 have HLT:Hid (w.heap.size < w3.heap.size):=lt_at HR_3.out
 have HLE:Hid (w.heap.size≤w3.heap.size):=Nat.le_of_lt HLT.out
 rw [← hw3]
 clear hw3
 refine' region_shared (fun W=>Below w.heap.size w W∧W.heap[w.heap.size]?=some (.cells (yB 0 0 0 0 0 0 0 0 0) 146 (0,0))∧W.heap[w3.heap.size]?=some (.cells (yB fr tt (i.toNat:Int) (j.toNat:Int) b si wi z wa) 146 (0,0))) _ ?cont ?reg
 case reg =>
  intro hK
  refine rests_begin (From w3) (by kernel_rfl) ?_
  refine rtk 0 HE_3.out ?_
  refine rtk 1 HE_3.out ?_
  refine rtk 3 HE_3.out ?_
  refine rtk 4 HE_3.out ?_
  refine rtk 6 HE_3.out ?_
  refine rtk 7 HE_3.out ?_
  refine rtk 8 HE_3.out ?_
  refine rtk 9 HE_3.out ?_
  refine rtk 10 HE_3.out ?_
  refine rtk 11 HE_3.out ?_
  refine rtk 12 HE_3.out ?_
  refine rests_loadB 13 (oi:=_) (by simp only [jzG,jzH,jzI];rfl) (by kernel_rfl) (by kernel_rfl) (by kernel_rfl) #[.int .i64 b,.int .i64 si,.int .i64 wi,.int .i64 z,.int .i64 wa] (by exact fun _ _ _ h=>h) (HE_3.out) (by rfl) 133 (.tmp 4) rfl w2.heap.size rfl 133 (fun W HW=>keep_at HO3.out HW) _ Tryz.underlying133 rfl (by kernel_rfl) ?_
  simp only [Act.put,jzU,jzV,jzW]
  refine rests_two 2 15 (oi:=_) (oj:=_) (by simp only [jzG,jzH,jzI];rfl) (by simp only [jzG,jzH,jzI];rfl) (by kernel_rfl) (by rfl) (by rfl) ?_ ?_
  · refine wp_enter (f:=114) (args:=#[.string (s.extract 0 s.size)]) (by go_simp) (HF.out (w3.drew)) ?_
    rintro e w' ⟨rfl,hw'⟩;rw [hw'];clear hw'; refine ⟨_,rfl,HE_3.out,?_⟩
    simp only [Act.put,jzU,jzV,jzW]
    refine rests_two 5 15 (oi:=_) (oj:=_) (by simp only [jzG,jzH,jzI];rfl) (by simp only [jzG,jzH,jzI];rfl) (by kernel_rfl) (by rfl) (by rfl) ?_ ?_
    · refine wp_enter (f:=114) (args:=#[.string (s.extract 4 s.size)]) (by go_simp) (HT.out (w3.drew)) ?_
      rintro e w' ⟨rfl,hw'⟩;rw [hw'];clear hw'; refine ⟨_,rfl,HE_3.out,?_⟩
      simp only [Act.put,jzU,jzV,jzW]
      refine rtk 14 HE_3.out ?_
      refine rests_run 15 (oi:=_) (by simp only [jzG,jzH,jzI];rfl) (by kernel_rfl) (by rfl) (.pointer (some ⟨w3.heap.size,0,none⟩)) ((w3.drew).alloc (.cells (yB 0 0 0 0 0 0 0 0 0) 146)) (by go_simp) ⟨bal HE_3.out _,?_⟩
      have HB_4:=jzD (bal (w:=w3.drew) HB_3.out (.cells (yB 0 0 0 0 0 0 0 0 0) 146));have HE_4:=jzD (bal (w:=w3.drew) HE_3.out (.cells (yB 0 0 0 0 0 0 0 0 0) 146));have HR_4:=jzD (keep_at (w:=w3.drew) HR_3.out (bal (bel0 (w3.drew)) (.cells (yB 0 0 0 0 0 0 0 0 0) 146)));have HX_4:=jzD (heap_alloc_new (w3.drew) (.cells (yB 0 0 0 0 0 0 0 0 0) 146))
      simp only [Act.put,jzU,jzV,jzW]
      refine rests_storeB 16 (oi:=_) (by simp only [jzG,jzH,jzI];rfl) (by kernel_rfl) (by rfl) 146 (.tmp 6) (.tmp 31) rfl w3.heap.size #[.int .u32 fr,.int .u32 tt,.int .i64 (i.toNat:Int),.int .i64 (j.toNat:Int),.int .i64 b,.int .i64 si,.int .i64 wi,.int .i64 z,.int .i64 wa] rfl rfl 146 _ HX_4.out (by kernel_rfl) rfl HONE.out ?_
      intro w5 hg5 hz5 hh5;have HB_5:=jzD (bel_grown HB_4.out hg5 HLE.out);have HE_5:=jzD (bel_grown HE_4.out hg5 (Nat.le_refl _));have HR_5:=jzD (keep_grown HR_4.out hg5 (Nat.ne_of_lt HLT.out));have HX_5:=jzD hh5;refine ⟨HE_5.out,?_⟩;clear hg5 hz5 hh5
      simp only [Act.put,jzU,jzV,jzW]
      refine rests_done (by kernel_rfl) ?_
      exact hK _ ⟨HB_5.out,HR_5.out,HX_5.out⟩
    · refine wp_val (v:=.pointer (some ⟨w3.heap.size,0,none⟩)) (w' := (w3.drew).alloc (.cells (yB 0 0 0 0 0 0 0 0 0) 146)) (by go_simp) ⟨bal HE_3.out _,?_⟩
      have HB_4:=jzD (bal (w:=w3.drew) HB_3.out (.cells (yB 0 0 0 0 0 0 0 0 0) 146));have HE_4:=jzD (bal (w:=w3.drew) HE_3.out (.cells (yB 0 0 0 0 0 0 0 0 0) 146));have HR_4:=jzD (keep_at (w:=w3.drew) HR_3.out (bal (bel0 (w3.drew)) (.cells (yB 0 0 0 0 0 0 0 0 0) 146)));have HX_4:=jzD (heap_alloc_new (w3.drew) (.cells (yB 0 0 0 0 0 0 0 0 0) 146))
      simp only [Act.put,jzU,jzV,jzW]
      refine rests_call 5 (oi:=_) (by simp only [jzG,jzH,jzI];rfl) 114 #[.string (s.extract 4 s.size)] _ (by kernel_rfl) (by rfl) (by go_simp) (HT.out (((w3.drew).alloc (.cells (yB 0 0 0 0 0 0 0 0 0) 146)))) ?_
      rintro e w' ⟨rfl,hw'⟩;rw [hw'];clear hw'; refine ⟨_,rfl,HE_4.out,?_⟩
      simp only [Act.put,jzU,jzV,jzW]
      refine rtk 14 HE_4.out ?_
      refine rests_storeB 16 (oi:=_) (by simp only [jzG,jzH,jzI];rfl) (by kernel_rfl) (by rfl) 146 (.tmp 6) (.tmp 31) rfl w3.heap.size #[.int .u32 fr,.int .u32 tt,.int .i64 (i.toNat:Int),.int .i64 (j.toNat:Int),.int .i64 b,.int .i64 si,.int .i64 wi,.int .i64 z,.int .i64 wa] rfl rfl 146 _ HX_4.out (by kernel_rfl) rfl HONE.out ?_
      intro w5 hg5 hz5 hh5;have HB_5:=jzD (bel_grown HB_4.out hg5 HLE.out);have HE_5:=jzD (bel_grown HE_4.out hg5 (Nat.le_refl _));have HR_5:=jzD (keep_grown HR_4.out hg5 (Nat.ne_of_lt HLT.out));have HX_5:=jzD hh5;refine ⟨HE_5.out,?_⟩;clear hg5 hz5 hh5
      simp only [Act.put,jzU,jzV,jzW]
      refine rests_done (by kernel_rfl) ?_
      exact hK _ ⟨HB_5.out,HR_5.out,HX_5.out⟩
  · refine wp_val (v:=.pointer (some ⟨w3.heap.size,0,none⟩)) (w' := (w3.drew).alloc (.cells (yB 0 0 0 0 0 0 0 0 0) 146)) (by go_simp) ⟨bal HE_3.out _,?_⟩
    have HB_4:=jzD (bal (w:=w3.drew) HB_3.out (.cells (yB 0 0 0 0 0 0 0 0 0) 146));have HE_4:=jzD (bal (w:=w3.drew) HE_3.out (.cells (yB 0 0 0 0 0 0 0 0 0) 146));have HR_4:=jzD (keep_at (w:=w3.drew) HR_3.out (bal (bel0 (w3.drew)) (.cells (yB 0 0 0 0 0 0 0 0 0) 146)));have HX_4:=jzD (heap_alloc_new (w3.drew) (.cells (yB 0 0 0 0 0 0 0 0 0) 146))
    simp only [Act.put,jzU,jzV,jzW]
    refine rests_call 2 (oi:=_) (by simp only [jzG,jzH,jzI];rfl) 114 #[.string (s.extract 0 s.size)] _ (by kernel_rfl) (by rfl) (by go_simp) (HF.out (((w3.drew).alloc (.cells (yB 0 0 0 0 0 0 0 0 0) 146)))) ?_
    rintro e w' ⟨rfl,hw'⟩;rw [hw'];clear hw'; refine ⟨_,rfl,HE_4.out,?_⟩
    simp only [Act.put,jzU,jzV,jzW]
    refine rests_call 5 (oi:=_) (by simp only [jzG,jzH,jzI];rfl) 114 #[.string (s.extract 4 s.size)] _ (by kernel_rfl) (by rfl) (by go_simp) (HT.out (((w3.drew).alloc (.cells (yB 0 0 0 0 0 0 0 0 0) 146)))) ?_
    rintro e w' ⟨rfl,hw'⟩;rw [hw'];clear hw'; refine ⟨_,rfl,HE_4.out,?_⟩
    simp only [Act.put,jzU,jzV,jzW]
    refine rtk 14 HE_4.out ?_
    refine rests_storeB 16 (oi:=_) (by simp only [jzG,jzH,jzI];rfl) (by kernel_rfl) (by rfl) 146 (.tmp 6) (.tmp 31) rfl w3.heap.size #[.int .u32 fr,.int .u32 tt,.int .i64 (i.toNat:Int),.int .i64 (j.toNat:Int),.int .i64 b,.int .i64 si,.int .i64 wi,.int .i64 z,.int .i64 wa] rfl rfl 146 _ HX_4.out (by kernel_rfl) rfl HONE.out ?_
    intro w5 hg5 hz5 hh5;have HB_5:=jzD (bel_grown HB_4.out hg5 HLE.out);have HE_5:=jzD (bel_grown HE_4.out hg5 (Nat.le_refl _));have HR_5:=jzD (keep_grown HR_4.out hg5 (Nat.ne_of_lt HLT.out));have HX_5:=jzD hh5;refine ⟨HE_5.out,?_⟩;clear hg5 hz5 hh5
    simp only [Act.put,jzU,jzV,jzW]
    refine rests_done (by kernel_rfl) ?_
    exact hK _ ⟨HB_5.out,HR_5.out,HX_5.out⟩
 case cont =>
  rintro w4 ⟨hb4,hr4,hx4⟩
  have HB_4:=jzD hb4
  have HR_4:=jzD hr4
  have HX_4:=jzD hx4
  clear hb4 hr4 hx4
  go_wp2_with ((with_reducible refine wpList_storeB rfl 146 (.tmp 2) _ rfl w.heap.size #[.int .u32 0,.int .u32 0,.int .i64 0,.int .i64 0,.int .i64 0,.int .i64 0,.int .i64 0,.int .i64 0,.int .i64 0] rfl rfl 146 _ HR_4.out (by kernel_rfl) (by kernel_rfl) (by kernel_rfl) ?_);intro wz hgz hzz hhz;have HBZ:=jzD (bel_grown HB_4.out hgz (Nat.le_refl _));have HRZ:=jzD hhz;clear hgz hzz hhz)
  exact ⟨rfl,_,results_cell2 rfl _ _ w.heap.size _ _ _ _ (.bool false) rfl rfl HRZ.out Tryz.underlying146 rfl (by kernel_rfl),setupR_none rfl HBZ.out⟩

theorem SGet_bad (s:ByteArray) (w:World) (fr tt b si wi z wa:Int) (i j:UInt8) (h8:8 < s.size) (h9:9 < s.size) (e8:s[8]=i) (e9:s[9]=j) (hm:fineS ⟨fr,tt,(i.toNat:Int),(j.toNat:Int),⟨b,si,wi,z,wa⟩⟩=false)
 (ho:∀ w,Calls Tryz.prog 84 #[.string (s.extract 10 s.size)] w fun e w' => e=.returned (.tuple #[.agg #[.int .i64 b,.int .i64 si,.int .i64 wi,.int .i64 z,.int .i64 wa],.bool true])∧Below w.heap.size w w')
 (hf:∀ w,Calls Tryz.prog 114 #[.string (s.extract 0 s.size)] w fun e w' => e=.returned (.int .u32 fr)∧w' = w) (ht:∀ w,Calls Tryz.prog 114 #[.string (s.extract 4 s.size)] w fun e w' => e=.returned (.int .u32 tt)∧w' = w) :
 Calls Tryz.prog 89 #[.string s] w (SetupR none w):=by
 have hil:=i.toNat_lt
 have hjl:=j.toNat_lt
 have i1:¬ (s.size:Int) < 10:=by omega
 have i2:(8:Int) < (s.size:Int):=by omega
 have i3:(9:Int) < (s.size:Int):=by omega
 have i5:(4:Int)≤(s.size:Int):=by omega
 have i6:(10:Int)≤(s.size:Int):=by omega
 have v1:IntKind.i64.wrap (i.toNat:Int)=(i.toNat:Int):=IntWalk.i64_in _ (by omega)
 have v2:IntKind.i64.wrap (j.toNat:Int)=(j.toNat:Int):=IntWalk.i64_in _ (by omega)
 have HONE:Hid ((#[.int .u32 fr,.int .u32 tt,.int .i64 (i.toNat:Int),.int .i64 (j.toNat:Int),.int .i64 b,.int .i64 si,.int .i64 wi,.int .i64 z,.int .i64 wa]:Array Value).all (·.oneCell')=true):=by show _=true;simp [Value.oneCell']
 have HF:=jzD hf
 have HT:=jzD ht
 have HGO:=jzD ho
 have HM:=jzD (show ∀ w,Calls Tryz.prog 115 #[.agg #[.int .u32 fr,.int .u32 tt,.int .i64 (i.toNat:Int),.int .i64 (j.toNat:Int),.int .i64 b,.int .i64 si,.int .i64 wi,.int .i64 z,.int .i64 wa]] w fun e w' => e=.returned (.bool false)∧Below w.heap.size w w' from fun w=>by have h:=SareFine_any ⟨fr,tt,(i.toNat:Int),(j.toNat:Int),⟨b,si,wi,z,wa⟩⟩ w;rw [hm] at h;exact h)
 clear hm
 clear hf ht ho hil hjl
 go_enter Tryz.func89,Tryz.ntmps89
 go_wp2_with (go_at_call 84;(with_reducible refine (HGO.out _).mono ?_);rintro e w2 ⟨rfl,hb⟩;have HB2:=jzD (bal (bel_trans (bal (bel0 w) (.cells (yB 0 0 0 0 0 0 0 0 0) 146)) hb) (.cells (yI b si wi z wa) 133));have HR2:=jzD (keep_at (keep_at (heap_alloc_new w (.cells (yB 0 0 0 0 0 0 0 0 0) 146)) hb) (bal (bel0 w2) (.cells (yI b si wi z wa) 133)));have HO2:=jzD (heap_alloc_new w2 (.cells (yI b si wi z wa) 133));have HLT2:Hid (w.heap.size < w2.heap.size):=lt_at (keep_at (heap_alloc_new w (.cells (yB 0 0 0 0 0 0 0 0 0) 146)) hb);clear hb)
 obtain ⟨w3,hw3⟩:∃ w3,w3=w2.alloc (.cells (yI b si wi z wa) 133):=⟨_,rfl⟩
 have HB_3:Hid (Below w.heap.size w w3.drew):=by show Below _ _ _;rw [hw3];exact HB2.out.drew
 have HR_3:Hid (w3.drew.heap[w.heap.size]?=some (.cells (yB 0 0 0 0 0 0 0 0 0) 146 (0,0))):=by show _=_;rw [hw3];exact HR2.out
 have HO3:Hid (w3.heap[w2.heap.size]?=some (.cells (yI b si wi z wa) 133 (0,0))):=by show _=_;rw [hw3];exact HO2.out
 have HE_3:Hid (Below w3.heap.size w3 w3.drew):=(bel0 w3).drew
 have HLT:Hid (w.heap.size < w3.heap.size):=lt_at HR_3.out
 have HLE:Hid (w.heap.size≤w3.heap.size):=Nat.le_of_lt HLT.out
 rw [← hw3]
 clear hw3
 refine' region_shared (fun W=>Below w.heap.size w W∧W.heap[w.heap.size]?=some (.cells (yB 0 0 0 0 0 0 0 0 0) 146 (0,0))∧W.heap[w3.heap.size]?=some (.cells (yB fr tt (i.toNat:Int) (j.toNat:Int) b si wi z wa) 146 (0,0))) _ ?cont ?reg
 case reg =>
  intro hK
  refine rests_begin (From w3) (by kernel_rfl) ?_
  refine rtk 0 HE_3.out ?_
  refine rtk 1 HE_3.out ?_
  refine rtk 3 HE_3.out ?_
  refine rtk 4 HE_3.out ?_
  refine rtk 6 HE_3.out ?_
  refine rtk 7 HE_3.out ?_
  refine rtk 8 HE_3.out ?_
  refine rtk 9 HE_3.out ?_
  refine rtk 10 HE_3.out ?_
  refine rtk 11 HE_3.out ?_
  refine rtk 12 HE_3.out ?_
  refine rests_loadB 13 (oi:=_) (by simp only [jzG,jzH,jzI];rfl) (by kernel_rfl) (by kernel_rfl) (by kernel_rfl) #[.int .i64 b,.int .i64 si,.int .i64 wi,.int .i64 z,.int .i64 wa] (by exact fun _ _ _ h=>h) (HE_3.out) (by rfl) 133 (.tmp 4) rfl w2.heap.size rfl 133 (fun W HW=>keep_at HO3.out HW) _ Tryz.underlying133 rfl (by kernel_rfl) ?_
  simp only [Act.put,jzU,jzV,jzW]
  refine rests_two 2 15 (oi:=_) (oj:=_) (by simp only [jzG,jzH,jzI];rfl) (by simp only [jzG,jzH,jzI];rfl) (by kernel_rfl) (by rfl) (by rfl) ?_ ?_
  · refine wp_enter (f:=114) (args:=#[.string (s.extract 0 s.size)]) (by go_simp) (HF.out (w3.drew)) ?_
    rintro e w' ⟨rfl,hw'⟩;rw [hw'];clear hw'; refine ⟨_,rfl,HE_3.out,?_⟩
    simp only [Act.put,jzU,jzV,jzW]
    refine rests_two 5 15 (oi:=_) (oj:=_) (by simp only [jzG,jzH,jzI];rfl) (by simp only [jzG,jzH,jzI];rfl) (by kernel_rfl) (by rfl) (by rfl) ?_ ?_
    · refine wp_enter (f:=114) (args:=#[.string (s.extract 4 s.size)]) (by go_simp) (HT.out (w3.drew)) ?_
      rintro e w' ⟨rfl,hw'⟩;rw [hw'];clear hw'; refine ⟨_,rfl,HE_3.out,?_⟩
      simp only [Act.put,jzU,jzV,jzW]
      refine rtk 14 HE_3.out ?_
      refine rests_run 15 (oi:=_) (by simp only [jzG,jzH,jzI];rfl) (by kernel_rfl) (by rfl) (.pointer (some ⟨w3.heap.size,0,none⟩)) ((w3.drew).alloc (.cells (yB 0 0 0 0 0 0 0 0 0) 146)) (by go_simp) ⟨bal HE_3.out _,?_⟩
      have HB_4:=jzD (bal (w:=w3.drew) HB_3.out (.cells (yB 0 0 0 0 0 0 0 0 0) 146));have HE_4:=jzD (bal (w:=w3.drew) HE_3.out (.cells (yB 0 0 0 0 0 0 0 0 0) 146));have HR_4:=jzD (keep_at (w:=w3.drew) HR_3.out (bal (bel0 (w3.drew)) (.cells (yB 0 0 0 0 0 0 0 0 0) 146)));have HX_4:=jzD (heap_alloc_new (w3.drew) (.cells (yB 0 0 0 0 0 0 0 0 0) 146))
      simp only [Act.put,jzU,jzV,jzW]
      refine rests_storeB 16 (oi:=_) (by simp only [jzG,jzH,jzI];rfl) (by kernel_rfl) (by rfl) 146 (.tmp 6) (.tmp 31) rfl w3.heap.size #[.int .u32 fr,.int .u32 tt,.int .i64 (i.toNat:Int),.int .i64 (j.toNat:Int),.int .i64 b,.int .i64 si,.int .i64 wi,.int .i64 z,.int .i64 wa] rfl rfl 146 _ HX_4.out (by kernel_rfl) rfl HONE.out ?_
      intro w5 hg5 hz5 hh5;have HB_5:=jzD (bel_grown HB_4.out hg5 HLE.out);have HE_5:=jzD (bel_grown HE_4.out hg5 (Nat.le_refl _));have HR_5:=jzD (keep_grown HR_4.out hg5 (Nat.ne_of_lt HLT.out));have HX_5:=jzD hh5;refine ⟨HE_5.out,?_⟩;clear hg5 hz5 hh5
      simp only [Act.put,jzU,jzV,jzW]
      refine rests_done (by kernel_rfl) ?_
      exact hK _ ⟨HB_5.out,HR_5.out,HX_5.out⟩
    · refine wp_val (v:=.pointer (some ⟨w3.heap.size,0,none⟩)) (w' := (w3.drew).alloc (.cells (yB 0 0 0 0 0 0 0 0 0) 146)) (by go_simp) ⟨bal HE_3.out _,?_⟩
      have HB_4:=jzD (bal (w:=w3.drew) HB_3.out (.cells (yB 0 0 0 0 0 0 0 0 0) 146));have HE_4:=jzD (bal (w:=w3.drew) HE_3.out (.cells (yB 0 0 0 0 0 0 0 0 0) 146));have HR_4:=jzD (keep_at (w:=w3.drew) HR_3.out (bal (bel0 (w3.drew)) (.cells (yB 0 0 0 0 0 0 0 0 0) 146)));have HX_4:=jzD (heap_alloc_new (w3.drew) (.cells (yB 0 0 0 0 0 0 0 0 0) 146))
      simp only [Act.put,jzU,jzV,jzW]
      refine rests_call 5 (oi:=_) (by simp only [jzG,jzH,jzI];rfl) 114 #[.string (s.extract 4 s.size)] _ (by kernel_rfl) (by rfl) (by go_simp) (HT.out (((w3.drew).alloc (.cells (yB 0 0 0 0 0 0 0 0 0) 146)))) ?_
      rintro e w' ⟨rfl,hw'⟩;rw [hw'];clear hw'; refine ⟨_,rfl,HE_4.out,?_⟩
      simp only [Act.put,jzU,jzV,jzW]
      refine rtk 14 HE_4.out ?_
      refine rests_storeB 16 (oi:=_) (by simp only [jzG,jzH,jzI];rfl) (by kernel_rfl) (by rfl) 146 (.tmp 6) (.tmp 31) rfl w3.heap.size #[.int .u32 fr,.int .u32 tt,.int .i64 (i.toNat:Int),.int .i64 (j.toNat:Int),.int .i64 b,.int .i64 si,.int .i64 wi,.int .i64 z,.int .i64 wa] rfl rfl 146 _ HX_4.out (by kernel_rfl) rfl HONE.out ?_
      intro w5 hg5 hz5 hh5;have HB_5:=jzD (bel_grown HB_4.out hg5 HLE.out);have HE_5:=jzD (bel_grown HE_4.out hg5 (Nat.le_refl _));have HR_5:=jzD (keep_grown HR_4.out hg5 (Nat.ne_of_lt HLT.out));have HX_5:=jzD hh5;refine ⟨HE_5.out,?_⟩;clear hg5 hz5 hh5
      simp only [Act.put,jzU,jzV,jzW]
      refine rests_done (by kernel_rfl) ?_
      exact hK _ ⟨HB_5.out,HR_5.out,HX_5.out⟩
  · refine wp_val (v:=.pointer (some ⟨w3.heap.size,0,none⟩)) (w' := (w3.drew).alloc (.cells (yB 0 0 0 0 0 0 0 0 0) 146)) (by go_simp) ⟨bal HE_3.out _,?_⟩
    have HB_4:=jzD (bal (w:=w3.drew) HB_3.out (.cells (yB 0 0 0 0 0 0 0 0 0) 146));have HE_4:=jzD (bal (w:=w3.drew) HE_3.out (.cells (yB 0 0 0 0 0 0 0 0 0) 146));have HR_4:=jzD (keep_at (w:=w3.drew) HR_3.out (bal (bel0 (w3.drew)) (.cells (yB 0 0 0 0 0 0 0 0 0) 146)));have HX_4:=jzD (heap_alloc_new (w3.drew) (.cells (yB 0 0 0 0 0 0 0 0 0) 146))
    simp only [Act.put,jzU,jzV,jzW]
    refine rests_call 2 (oi:=_) (by simp only [jzG,jzH,jzI];rfl) 114 #[.string (s.extract 0 s.size)] _ (by kernel_rfl) (by rfl) (by go_simp) (HF.out (((w3.drew).alloc (.cells (yB 0 0 0 0 0 0 0 0 0) 146)))) ?_
    rintro e w' ⟨rfl,hw'⟩;rw [hw'];clear hw'; refine ⟨_,rfl,HE_4.out,?_⟩
    simp only [Act.put,jzU,jzV,jzW]
    refine rests_call 5 (oi:=_) (by simp only [jzG,jzH,jzI];rfl) 114 #[.string (s.extract 4 s.size)] _ (by kernel_rfl) (by rfl) (by go_simp) (HT.out (((w3.drew).alloc (.cells (yB 0 0 0 0 0 0 0 0 0) 146)))) ?_
    rintro e w' ⟨rfl,hw'⟩;rw [hw'];clear hw'; refine ⟨_,rfl,HE_4.out,?_⟩
    simp only [Act.put,jzU,jzV,jzW]
    refine rtk 14 HE_4.out ?_
    refine rests_storeB 16 (oi:=_) (by simp only [jzG,jzH,jzI];rfl) (by kernel_rfl) (by rfl) 146 (.tmp 6) (.tmp 31) rfl w3.heap.size #[.int .u32 fr,.int .u32 tt,.int .i64 (i.toNat:Int),.int .i64 (j.toNat:Int),.int .i64 b,.int .i64 si,.int .i64 wi,.int .i64 z,.int .i64 wa] rfl rfl 146 _ HX_4.out (by kernel_rfl) rfl HONE.out ?_
    intro w5 hg5 hz5 hh5;have HB_5:=jzD (bel_grown HB_4.out hg5 HLE.out);have HE_5:=jzD (bel_grown HE_4.out hg5 (Nat.le_refl _));have HR_5:=jzD (keep_grown HR_4.out hg5 (Nat.ne_of_lt HLT.out));have HX_5:=jzD hh5;refine ⟨HE_5.out,?_⟩;clear hg5 hz5 hh5
    simp only [Act.put,jzU,jzV,jzW]
    refine rests_done (by kernel_rfl) ?_
    exact hK _ ⟨HB_5.out,HR_5.out,HX_5.out⟩
 case cont =>
  rintro w4 ⟨hb4,hr4,hx4⟩
  have HB_4:=jzD hb4
  have HR_4:=jzD hr4
  have HX_4:=jzD hx4
  clear hb4 hr4 hx4
  go_wp2_with (first
   | (go_at_call 115;(with_reducible refine (HM.out _).mono ?_);rintro e wm ⟨rfl,hb⟩;have HBM:=jzD (bel_trans HB_4.out hb);have HRM:=jzD (keep_at HR_4.out hb);have HXM:=jzD (keep_at HX_4.out hb);clear hb)
   | (with_reducible refine wpList_loadG (by kernel_rfl) 146 (.tmp 6) rfl w3.heap.size rfl 146 #[.int .u32 fr,.int .u32 tt,.int .i64 (i.toNat:Int),.int .i64 (j.toNat:Int),.int .i64 b,.int .i64 si,.int .i64 wi,.int .i64 z,.int .i64 wa] HX_4.out _ Tryz.underlying146 rfl (by kernel_rfl) ?_)
   | ((with_reducible refine wpList_storeB rfl 146 (.tmp 2) _ rfl w.heap.size #[.int .u32 0,.int .u32 0,.int .i64 0,.int .i64 0,.int .i64 0,.int .i64 0,.int .i64 0,.int .i64 0,.int .i64 0] rfl rfl 146 _ HRM.out (by kernel_rfl) (by kernel_rfl) (by kernel_rfl) ?_);intro wz hgz hzz hhz;have HBZ:=jzD (bel_grown HBM.out hgz (Nat.le_refl _));have HRZ:=jzD hhz;clear hgz hzz hhz))
  exact ⟨rfl,_,results_cell2 rfl _ _ w.heap.size _ _ _ _ (.bool false) rfl rfl HRZ.out Tryz.underlying146 rfl (by kernel_rfl),setupR_none rfl HBZ.out⟩

theorem SGet_good (s:ByteArray) (w:World) (fr tt b si wi z wa:Int) (i j:UInt8) (h8:8 < s.size) (h9:9 < s.size) (e8:s[8]=i) (e9:s[9]=j) (hm:fineS ⟨fr,tt,(i.toNat:Int),(j.toNat:Int),⟨b,si,wi,z,wa⟩⟩=true)
 (ho:∀ w,Calls Tryz.prog 84 #[.string (s.extract 10 s.size)] w fun e w' => e=.returned (.tuple #[.agg #[.int .i64 b,.int .i64 si,.int .i64 wi,.int .i64 z,.int .i64 wa],.bool true])∧Below w.heap.size w w')
 (hf:∀ w,Calls Tryz.prog 114 #[.string (s.extract 0 s.size)] w fun e w' => e=.returned (.int .u32 fr)∧w' = w) (ht:∀ w,Calls Tryz.prog 114 #[.string (s.extract 4 s.size)] w fun e w' => e=.returned (.int .u32 tt)∧w' = w) :
 Calls Tryz.prog 89 #[.string s] w (SetupR (some ⟨fr,tt,(i.toNat:Int),(j.toNat:Int),⟨b,si,wi,z,wa⟩⟩) w):=by
 have hil:=i.toNat_lt
 have hjl:=j.toNat_lt
 have i1:¬ (s.size:Int) < 10:=by omega
 have i2:(8:Int) < (s.size:Int):=by omega
 have i3:(9:Int) < (s.size:Int):=by omega
 have i5:(4:Int)≤(s.size:Int):=by omega
 have i6:(10:Int)≤(s.size:Int):=by omega
 have v1:IntKind.i64.wrap (i.toNat:Int)=(i.toNat:Int):=IntWalk.i64_in _ (by omega)
 have v2:IntKind.i64.wrap (j.toNat:Int)=(j.toNat:Int):=IntWalk.i64_in _ (by omega)
 have HONE:Hid ((#[.int .u32 fr,.int .u32 tt,.int .i64 (i.toNat:Int),.int .i64 (j.toNat:Int),.int .i64 b,.int .i64 si,.int .i64 wi,.int .i64 z,.int .i64 wa]:Array Value).all (·.oneCell')=true):=by show _=true;simp [Value.oneCell']
 have HF:=jzD hf
 have HT:=jzD ht
 have HGO:=jzD ho
 have HM:=jzD (show ∀ w,Calls Tryz.prog 115 #[.agg #[.int .u32 fr,.int .u32 tt,.int .i64 (i.toNat:Int),.int .i64 (j.toNat:Int),.int .i64 b,.int .i64 si,.int .i64 wi,.int .i64 z,.int .i64 wa]] w fun e w' => e=.returned (.bool true)∧Below w.heap.size w w' from fun w=>by have h:=SareFine_any ⟨fr,tt,(i.toNat:Int),(j.toNat:Int),⟨b,si,wi,z,wa⟩⟩ w;rw [hm] at h;exact h)
 clear hm
 clear hf ht ho hil hjl
 go_enter Tryz.func89,Tryz.ntmps89
 go_wp2_with (go_at_call 84;(with_reducible refine (HGO.out _).mono ?_);rintro e w2 ⟨rfl,hb⟩;have HB2:=jzD (bal (bel_trans (bal (bel0 w) (.cells (yB 0 0 0 0 0 0 0 0 0) 146)) hb) (.cells (yI b si wi z wa) 133));have HR2:=jzD (keep_at (keep_at (heap_alloc_new w (.cells (yB 0 0 0 0 0 0 0 0 0) 146)) hb) (bal (bel0 w2) (.cells (yI b si wi z wa) 133)));have HO2:=jzD (heap_alloc_new w2 (.cells (yI b si wi z wa) 133));have HLT2:Hid (w.heap.size < w2.heap.size):=lt_at (keep_at (heap_alloc_new w (.cells (yB 0 0 0 0 0 0 0 0 0) 146)) hb);clear hb)
 obtain ⟨w3,hw3⟩:∃ w3,w3=w2.alloc (.cells (yI b si wi z wa) 133):=⟨_,rfl⟩
 have HB_3:Hid (Below w.heap.size w w3.drew):=by show Below _ _ _;rw [hw3];exact HB2.out.drew
 have HR_3:Hid (w3.drew.heap[w.heap.size]?=some (.cells (yB 0 0 0 0 0 0 0 0 0) 146 (0,0))):=by show _=_;rw [hw3];exact HR2.out
 have HO3:Hid (w3.heap[w2.heap.size]?=some (.cells (yI b si wi z wa) 133 (0,0))):=by show _=_;rw [hw3];exact HO2.out
 have HE_3:Hid (Below w3.heap.size w3 w3.drew):=(bel0 w3).drew
 have HLT:Hid (w.heap.size < w3.heap.size):=lt_at HR_3.out
 have HLE:Hid (w.heap.size≤w3.heap.size):=Nat.le_of_lt HLT.out
 rw [← hw3]
 clear hw3
 refine' region_shared (fun W=>Below w.heap.size w W∧W.heap[w.heap.size]?=some (.cells (yB 0 0 0 0 0 0 0 0 0) 146 (0,0))∧W.heap[w3.heap.size]?=some (.cells (yB fr tt (i.toNat:Int) (j.toNat:Int) b si wi z wa) 146 (0,0))) _ ?cont ?reg
 case reg =>
  intro hK
  refine rests_begin (From w3) (by kernel_rfl) ?_
  refine rtk 0 HE_3.out ?_
  refine rtk 1 HE_3.out ?_
  refine rtk 3 HE_3.out ?_
  refine rtk 4 HE_3.out ?_
  refine rtk 6 HE_3.out ?_
  refine rtk 7 HE_3.out ?_
  refine rtk 8 HE_3.out ?_
  refine rtk 9 HE_3.out ?_
  refine rtk 10 HE_3.out ?_
  refine rtk 11 HE_3.out ?_
  refine rtk 12 HE_3.out ?_
  refine rests_loadB 13 (oi:=_) (by simp only [jzG,jzH,jzI];rfl) (by kernel_rfl) (by kernel_rfl) (by kernel_rfl) #[.int .i64 b,.int .i64 si,.int .i64 wi,.int .i64 z,.int .i64 wa] (by exact fun _ _ _ h=>h) (HE_3.out) (by rfl) 133 (.tmp 4) rfl w2.heap.size rfl 133 (fun W HW=>keep_at HO3.out HW) _ Tryz.underlying133 rfl (by kernel_rfl) ?_
  simp only [Act.put,jzU,jzV,jzW]
  refine rests_two 2 15 (oi:=_) (oj:=_) (by simp only [jzG,jzH,jzI];rfl) (by simp only [jzG,jzH,jzI];rfl) (by kernel_rfl) (by rfl) (by rfl) ?_ ?_
  · refine wp_enter (f:=114) (args:=#[.string (s.extract 0 s.size)]) (by go_simp) (HF.out (w3.drew)) ?_
    rintro e w' ⟨rfl,hw'⟩;rw [hw'];clear hw'; refine ⟨_,rfl,HE_3.out,?_⟩
    simp only [Act.put,jzU,jzV,jzW]
    refine rests_two 5 15 (oi:=_) (oj:=_) (by simp only [jzG,jzH,jzI];rfl) (by simp only [jzG,jzH,jzI];rfl) (by kernel_rfl) (by rfl) (by rfl) ?_ ?_
    · refine wp_enter (f:=114) (args:=#[.string (s.extract 4 s.size)]) (by go_simp) (HT.out (w3.drew)) ?_
      rintro e w' ⟨rfl,hw'⟩;rw [hw'];clear hw'; refine ⟨_,rfl,HE_3.out,?_⟩
      simp only [Act.put,jzU,jzV,jzW]
      refine rtk 14 HE_3.out ?_
      refine rests_run 15 (oi:=_) (by simp only [jzG,jzH,jzI];rfl) (by kernel_rfl) (by rfl) (.pointer (some ⟨w3.heap.size,0,none⟩)) ((w3.drew).alloc (.cells (yB 0 0 0 0 0 0 0 0 0) 146)) (by go_simp) ⟨bal HE_3.out _,?_⟩
      have HB_4:=jzD (bal (w:=w3.drew) HB_3.out (.cells (yB 0 0 0 0 0 0 0 0 0) 146));have HE_4:=jzD (bal (w:=w3.drew) HE_3.out (.cells (yB 0 0 0 0 0 0 0 0 0) 146));have HR_4:=jzD (keep_at (w:=w3.drew) HR_3.out (bal (bel0 (w3.drew)) (.cells (yB 0 0 0 0 0 0 0 0 0) 146)));have HX_4:=jzD (heap_alloc_new (w3.drew) (.cells (yB 0 0 0 0 0 0 0 0 0) 146))
      simp only [Act.put,jzU,jzV,jzW]
      refine rests_storeB 16 (oi:=_) (by simp only [jzG,jzH,jzI];rfl) (by kernel_rfl) (by rfl) 146 (.tmp 6) (.tmp 31) rfl w3.heap.size #[.int .u32 fr,.int .u32 tt,.int .i64 (i.toNat:Int),.int .i64 (j.toNat:Int),.int .i64 b,.int .i64 si,.int .i64 wi,.int .i64 z,.int .i64 wa] rfl rfl 146 _ HX_4.out (by kernel_rfl) rfl HONE.out ?_
      intro w5 hg5 hz5 hh5;have HB_5:=jzD (bel_grown HB_4.out hg5 HLE.out);have HE_5:=jzD (bel_grown HE_4.out hg5 (Nat.le_refl _));have HR_5:=jzD (keep_grown HR_4.out hg5 (Nat.ne_of_lt HLT.out));have HX_5:=jzD hh5;refine ⟨HE_5.out,?_⟩;clear hg5 hz5 hh5
      simp only [Act.put,jzU,jzV,jzW]
      refine rests_done (by kernel_rfl) ?_
      exact hK _ ⟨HB_5.out,HR_5.out,HX_5.out⟩
    · refine wp_val (v:=.pointer (some ⟨w3.heap.size,0,none⟩)) (w' := (w3.drew).alloc (.cells (yB 0 0 0 0 0 0 0 0 0) 146)) (by go_simp) ⟨bal HE_3.out _,?_⟩
      have HB_4:=jzD (bal (w:=w3.drew) HB_3.out (.cells (yB 0 0 0 0 0 0 0 0 0) 146));have HE_4:=jzD (bal (w:=w3.drew) HE_3.out (.cells (yB 0 0 0 0 0 0 0 0 0) 146));have HR_4:=jzD (keep_at (w:=w3.drew) HR_3.out (bal (bel0 (w3.drew)) (.cells (yB 0 0 0 0 0 0 0 0 0) 146)));have HX_4:=jzD (heap_alloc_new (w3.drew) (.cells (yB 0 0 0 0 0 0 0 0 0) 146))
      simp only [Act.put,jzU,jzV,jzW]
      refine rests_call 5 (oi:=_) (by simp only [jzG,jzH,jzI];rfl) 114 #[.string (s.extract 4 s.size)] _ (by kernel_rfl) (by rfl) (by go_simp) (HT.out (((w3.drew).alloc (.cells (yB 0 0 0 0 0 0 0 0 0) 146)))) ?_
      rintro e w' ⟨rfl,hw'⟩;rw [hw'];clear hw'; refine ⟨_,rfl,HE_4.out,?_⟩
      simp only [Act.put,jzU,jzV,jzW]
      refine rtk 14 HE_4.out ?_
      refine rests_storeB 16 (oi:=_) (by simp only [jzG,jzH,jzI];rfl) (by kernel_rfl) (by rfl) 146 (.tmp 6) (.tmp 31) rfl w3.heap.size #[.int .u32 fr,.int .u32 tt,.int .i64 (i.toNat:Int),.int .i64 (j.toNat:Int),.int .i64 b,.int .i64 si,.int .i64 wi,.int .i64 z,.int .i64 wa] rfl rfl 146 _ HX_4.out (by kernel_rfl) rfl HONE.out ?_
      intro w5 hg5 hz5 hh5;have HB_5:=jzD (bel_grown HB_4.out hg5 HLE.out);have HE_5:=jzD (bel_grown HE_4.out hg5 (Nat.le_refl _));have HR_5:=jzD (keep_grown HR_4.out hg5 (Nat.ne_of_lt HLT.out));have HX_5:=jzD hh5;refine ⟨HE_5.out,?_⟩;clear hg5 hz5 hh5
      simp only [Act.put,jzU,jzV,jzW]
      refine rests_done (by kernel_rfl) ?_
      exact hK _ ⟨HB_5.out,HR_5.out,HX_5.out⟩
  · refine wp_val (v:=.pointer (some ⟨w3.heap.size,0,none⟩)) (w' := (w3.drew).alloc (.cells (yB 0 0 0 0 0 0 0 0 0) 146)) (by go_simp) ⟨bal HE_3.out _,?_⟩
    have HB_4:=jzD (bal (w:=w3.drew) HB_3.out (.cells (yB 0 0 0 0 0 0 0 0 0) 146));have HE_4:=jzD (bal (w:=w3.drew) HE_3.out (.cells (yB 0 0 0 0 0 0 0 0 0) 146));have HR_4:=jzD (keep_at (w:=w3.drew) HR_3.out (bal (bel0 (w3.drew)) (.cells (yB 0 0 0 0 0 0 0 0 0) 146)));have HX_4:=jzD (heap_alloc_new (w3.drew) (.cells (yB 0 0 0 0 0 0 0 0 0) 146))
    simp only [Act.put,jzU,jzV,jzW]
    refine rests_call 2 (oi:=_) (by simp only [jzG,jzH,jzI];rfl) 114 #[.string (s.extract 0 s.size)] _ (by kernel_rfl) (by rfl) (by go_simp) (HF.out (((w3.drew).alloc (.cells (yB 0 0 0 0 0 0 0 0 0) 146)))) ?_
    rintro e w' ⟨rfl,hw'⟩;rw [hw'];clear hw'; refine ⟨_,rfl,HE_4.out,?_⟩
    simp only [Act.put,jzU,jzV,jzW]
    refine rests_call 5 (oi:=_) (by simp only [jzG,jzH,jzI];rfl) 114 #[.string (s.extract 4 s.size)] _ (by kernel_rfl) (by rfl) (by go_simp) (HT.out (((w3.drew).alloc (.cells (yB 0 0 0 0 0 0 0 0 0) 146)))) ?_
    rintro e w' ⟨rfl,hw'⟩;rw [hw'];clear hw'; refine ⟨_,rfl,HE_4.out,?_⟩
    simp only [Act.put,jzU,jzV,jzW]
    refine rtk 14 HE_4.out ?_
    refine rests_storeB 16 (oi:=_) (by simp only [jzG,jzH,jzI];rfl) (by kernel_rfl) (by rfl) 146 (.tmp 6) (.tmp 31) rfl w3.heap.size #[.int .u32 fr,.int .u32 tt,.int .i64 (i.toNat:Int),.int .i64 (j.toNat:Int),.int .i64 b,.int .i64 si,.int .i64 wi,.int .i64 z,.int .i64 wa] rfl rfl 146 _ HX_4.out (by kernel_rfl) rfl HONE.out ?_
    intro w5 hg5 hz5 hh5;have HB_5:=jzD (bel_grown HB_4.out hg5 HLE.out);have HE_5:=jzD (bel_grown HE_4.out hg5 (Nat.le_refl _));have HR_5:=jzD (keep_grown HR_4.out hg5 (Nat.ne_of_lt HLT.out));have HX_5:=jzD hh5;refine ⟨HE_5.out,?_⟩;clear hg5 hz5 hh5
    simp only [Act.put,jzU,jzV,jzW]
    refine rests_done (by kernel_rfl) ?_
    exact hK _ ⟨HB_5.out,HR_5.out,HX_5.out⟩
 case cont =>
  rintro w4 ⟨hb4,hr4,hx4⟩
  have HB_4:=jzD hb4
  have HR_4:=jzD hr4
  have HX_4:=jzD hx4
  clear hb4 hr4 hx4
  go_wp2_with (first
   | (go_at_call 115;(with_reducible refine (HM.out _).mono ?_);rintro e wm ⟨rfl,hb⟩;have HBM:=jzD (bel_trans HB_4.out hb);have HRM:=jzD (keep_at HR_4.out hb);have HXM:=jzD (keep_at HX_4.out hb);clear hb)
   | (with_reducible refine wpList_loadG (by kernel_rfl) 146 (.tmp 6) rfl w3.heap.size rfl 146 #[.int .u32 fr,.int .u32 tt,.int .i64 (i.toNat:Int),.int .i64 (j.toNat:Int),.int .i64 b,.int .i64 si,.int .i64 wi,.int .i64 z,.int .i64 wa] HX_4.out _ Tryz.underlying146 rfl (by kernel_rfl) ?_)
   | (with_reducible refine wpList_loadB rfl 146 (.tmp 6) rfl w3.heap.size rfl 146 _ HXM.out _ Tryz.underlying146 rfl (by kernel_rfl) ?_)
   | ((with_reducible refine wpList_storeB rfl 146 (.tmp 2) _ rfl w.heap.size #[.int .u32 fr,.int .u32 tt,.int .i64 (i.toNat:Int),.int .i64 (j.toNat:Int),.int .i64 b,.int .i64 si,.int .i64 wi,.int .i64 z,.int .i64 wa] rfl rfl 146 _ HRM.out (by kernel_rfl) (by kernel_rfl) HONE.out ?_);intro wz hgz hzz hhz;have HBZ:=jzD (bel_grown HBM.out hgz (Nat.le_refl _));have HRZ:=jzD hhz;clear hgz hzz hhz))
  exact ⟨rfl,_,results_cell2 rfl _ _ w.heap.size _ _ _ _ (.bool true) rfl rfl HRZ.out Tryz.underlying146 rfl (by kernel_rfl),setupR_some rfl HBZ.out⟩

theorem mayO_got {r:List UInt8} {o:Of5} (h:getO r=some o):mayO o=true:=by
 unfold getO at h
 cases hl:getT r with
 | none=>rw [hl] at h;exact absurd h (by simp)
 | some l =>
  rw [hl,Option.bind_some] at h
  by_cases hm:mayO (offerT l)=true
  · rw [if_pos hm] at h
    injection h with h
    rw [← h]
    exact hm
  · rw [if_neg hm] at h
    exact absurd h (by simp)
theorem sg_offer (s:ByteArray) (r:List UInt8) (w:World) (hs:s.size≤1000000) (hr:(s.extract 10 s.size).data.toList=r):Calls Tryz.prog 84 #[.string (s.extract 10 s.size)] w (OfferR (getO r) w):=by
 have h:=QGet_any (s.extract 10 s.size) w (by rw [ByteArray.size_extract];unfold maxLen;omega)
 rw [hr] at h
 exact h
theorem sg_none {r:List UInt8} {s:ByteArray} (hg:getO r=none) (h:∀ w,Calls Tryz.prog 84 #[.string (s.extract 10 s.size)] w (OfferR (getO r) w)):∀ w,Calls Tryz.prog 84 #[.string (s.extract 10 s.size)] w fun e w' => e=.returned (.tuple #[.agg #[.int .i64 0,.int .i64 0,.int .i64 0,.int .i64 0,.int .i64 0],.bool false])∧Below w.heap.size w w' := by
 intro w
 have := h w
 rw [hg] at this
 exact this
theorem sg_some {r:List UInt8} {s:ByteArray} {o:Of5} (hg:getO r=some o) (h:∀ w,Calls Tryz.prog 84 #[.string (s.extract 10 s.size)] w (OfferR (getO r) w)):∀ w,Calls Tryz.prog 84 #[.string (s.extract 10 s.size)] w fun e w' => e=.returned (.tuple #[.agg #[.int .i64 o.baud,.int .i64 o.silent,.int .i64 o.win,.int .i64 o.size,.int .i64 o.wait],.bool true])∧Below w.heap.size w w' := by
 intro w
 have := h w
 rw [hg] at this
 exact this
theorem SGet_any (s:ByteArray) (w:World) (hs:s.size≤1000000):Calls Tryz.prog 89 #[.string s] w (SetupR (getS s.data.toList) w):=by
 have hl:=ba_len s
 by_cases h10:s.size < 10
 · rw [getS_short (by omega)]
   exact SGet_short s w h10
 · obtain ⟨a,b,c,d,e,f,g,h,i,j,r,hq⟩:=ten (l:=s.data.toList) (by omega)
   have e8:=at_of hq 8 (by omega) (x:=i) rfl
   have e9:=at_of hq 9 (by omega) (x:=j) rfl
   have hr:(s.extract 10 s.size).data.toList=r:=by rw [bl_from_toList,hq];rfl
   have h0:(s.extract 0 s.size).data.toList=a :: b :: c :: d :: e :: f :: g :: h :: i :: j :: r:=by rw [bl_from_toList,hq];rfl
   have h4:(s.extract 4 s.size).data.toList=e :: f :: g :: h :: i :: j :: r:=by rw [bl_from_toList,hq];rfl
   have ho:=fun w=>sg_offer s r w hs hr
   cases hg:getO r with
   | none =>
    rw [hq,getS_none hg]
    exact SGet_no s w (num4 a b c d) (num4 e f g h) 0 0 0 0 0 i j (by omega) (by omega) e8 e9 (sg_none hg ho) (fun w=>Xlead_any _ w h0) (fun w=>Xlead_any _ w h4)
   | some o =>
    have hmo:=mayO_got hg
    cases hm:fineS ⟨num4 a b c d,num4 e f g h,(i.toNat:Int),(j.toNat:Int),o⟩ with
    | false =>
     rw [hq,getS_bad hg (by rw [maySt_fine,hm];rfl)]
     exact SGet_bad s w (num4 a b c d) (num4 e f g h) o.baud o.silent o.win o.size o.wait i j (by omega) (by omega) e8 e9 hm (sg_some hg ho) (fun w=>Xlead_any _ w h0) (fun w=>Xlead_any _ w h4)
    | true =>
     rw [hq,getS_good hg (by rw [maySt_fine,hm];exact hmo)]
     exact SGet_good s w (num4 a b c d) (num4 e f g h) o.baud o.silent o.win o.size o.wait i j (by omega) (by omega) e8 e9 hm (sg_some hg ho) (fun w=>Xlead_any _ w h0) (fun w=>Xlead_any _ w h4)
end Go.Proofs.YtjddbjmcjhjpiaaGreatDoor

namespace Go.Proofs.YtjddbjmcjhjpiaaGreatDoor
end Go.Proofs.YtjddbjmcjhjpiaaGreatDoor

namespace Go.Proofs.YtjddbjmcjhjpiaaGreatDoor
open Go.RowKit

end Go.Proofs.YtjddbjmcjhjpiaaGreatDoor

namespace Go.Proofs.YtjddbjmcjhjpiaaGreatDoor
set_option maxRecDepth 100000
open Go.RowKit

theorem eql_X (a b c d:Int) (e:Bool) (f:ByteArray) (a' b' c' d' : Int) (e' : Bool) (f' : ByteArray) (w:World) :
 (binOp .eql 32 (.agg #[.int .u32 a,.int .u32 b,.int .i64 c,.int .i64 d,.bool e,.string f]) (.agg #[.int .u32 a', .int .u32 b', .int .i64 c', .int .i64 d', .bool e', .string f'])).run Tryz.prog w =
  .ok (.bool (a == a' && (b == b' && (c == c' && (d == d' && (e == e' && f.toList == f'.toList)))))) w:=by
 have u1:=Tryz.underlying22
 have u3:=Tryz.underlying3
 have u4:=Tryz.underlying4
 have u9:=Tryz.underlying9
 have hS:Tryz.prog.underlying 32=some (.struct (Tryz.prog.fieldsOf 32)):=by kernel_rfl
 have hp:Tryz.prog.stoodInHeld 32=false:=by kernel_rfl
 rw [run_eql_struct,show (10000:Nat)=9999 + 1 from rfl,run_equalIn_agg w 9999 32 _ _ hS hp]
 simp only [Program.fieldsOf,Tryz.underlying32]
 go_simp
 by_cases h0:a=a'
 · subst h0
   by_cases h1:b=b'
   · subst h1
     by_cases h2:c=c'
     · subst h2
       by_cases h3:d=d'
       · subst h3
         by_cases h4:e=e'
         · subst h4
           by_cases h9:f.toList=f'.toList <;> simp [h9]
         · simp [h4]
       · simp [h3]
     · simp [h2]
   · simp [h1]
 · simp [h0]
theorem ba_eq {x y:ByteArray}:x.toList=y.toList ↔ x.data.toList=y.data.toList:=by
 rw [ByteArray.toList_eq,ByteArray.toList_eq]
theorem eql_xin (x y:XIn) (w:World):(binOp .eql 32 x.val y.val).run Tryz.prog w=.ok (.bool (decide (x.xd=y.xd))) w:=by
 rw [eql_X]
 congr 2
 obtain ⟨a,b,c,d,e,f⟩:=x
 obtain ⟨a', b', c', d', e', f'⟩:=y
 rw [Bool.eq_iff_iff]
 simp [XIn.xd,ba_eq]
theorem guard_X (op:BinOp) (x y:Operand) (xs ys:Array Value) (W:World):(eqGuard op 32 x y (.agg xs) (.agg ys)).run Tryz.prog W=.ok () W:=run_eqGuard_agg W op 32 x y xs ys (by kernel_rfl)
theorem wpList_eq {P:Program} {ops:Array Oper} {rest:List Oper} {o:Oper} {a:Act} {w:World} {Q:Exit→Act→World→Prop} (hw:Region.wanted o (yielded ops a.tmps)=true) (t:TypeId) (x y:Operand) (xs ys:Array Value) (b:Bool) (ho:o.op=.binOp .eql t x y t)
 (hx:a.eval x=.agg xs) (hy:a.eval y=.agg ys) (hg:∀ op x y W,(eqGuard op t x y (.agg xs) (.agg ys)).run P W=.ok () W) (hb:∀ W,(binOp .eql t (.agg xs) (.agg ys)).run P W=.ok (.bool b) W)
 (h:wpList P ops Q rest (a.put o.dst (.bool b)) w):wpList P ops Q (o :: rest) a w :=
 Go.BigFrame.wpList_want hw fun K hK=>wp_val (exec_cmp ho hx hy (hg _ _ _ _) (hb _)) (hK _ _ h)
theorem wpList_ne {P:Program} {ops:Array Oper} {rest:List Oper} {o:Oper} {a:Act} {w:World} {Q:Exit→Act→World→Prop} (hw:Region.wanted o (yielded ops a.tmps)=true) (t:TypeId) (x y:Operand) (xs ys:Array Value) (b:Bool) (ho:o.op=.binOp .neq t x y t)
 (hx:a.eval x=.agg xs) (hy:a.eval y=.agg ys) (hg:∀ op x y W,(eqGuard op t x y (.agg xs) (.agg ys)).run P W=.ok () W) (hb:∀ W,(binOp .neq t (.agg xs) (.agg ys)).run P W=.ok (.bool b) W)
 (h:wpList P ops Q rest (a.put o.dst (.bool b)) w):wpList P ops Q (o :: rest) a w :=
 Go.BigFrame.wpList_want hw fun K hK=>wp_val (exec_cmp ho hx hy (hg _ _ _ _) (hb _)) (hK _ _ h)
end Go.Proofs.YtjddbjmcjhjpiaaGreatDoor

namespace Go.Proofs.YtjddbjmcjhjpiaaGreatDoor
open Go.RowKit

def BStr (g cap:Nat) (l:List UInt8) (w:World):Prop:=∃ (cs:Array Value) (n:Nat),w.heap[g]?=some (.cells cs 5 (n,n + 1))∧cs.size=n∧l.length≤n∧l.length≤cap∧cap≤maxLen∧∀ j (h:j < l.length),cs[j]?=some (.int .u8 (l[j].toNat:Int))
theorem BStr.below {g cap:Nat} {l:List UInt8} {w w' : World} (h:BStr g cap l w) (hb:Below w.heap.size w w'):BStr g cap l w' := by
 obtain ⟨cs,n,h1,h2⟩:=h
 exact ⟨cs,n,keep_at h1 hb,h2⟩
theorem BStr.lt {g cap:Nat} {l:List UInt8} {w:World} (h:BStr g cap l w):g < w.heap.size:=by
 obtain ⟨cs,n,h1,h2⟩:=h
 exact lt_at h1
theorem BStr.cell {g cap:Nat} {l:List UInt8} {w:World} (h:BStr g cap l w) {j:Nat} (hj:j < l.length):w.cell? ⟨g,j,none⟩=some (.int .u8 (l[j].toNat:Int)):=by
 obtain ⟨cs,n,h1,-,-,-,-,h6⟩:=h
 unfold World.cell?
 simp [h1,h6 j hj]
theorem BStr.rds {g cap n:Nat} {l:List UInt8} {w:World} (h:BStr g cap l w) (hn:n=l.length):Rds w (.slice (some ⟨g,0,none⟩) n cap) l:=by
 subst hn
 have hc:=fun j hj=>h.cell (j:=j) hj
 obtain ⟨cs,n,h1,h2,h3,h4,h5,h6⟩:=h
 refine ⟨_,cap,rfl,h4,h5,fun h0=>⟨g,0,rfl,fun j hj=>?_⟩⟩
 rw [Nat.zero_add,hc j hj]
 simp [bc,List.getD,hj]
end Go.Proofs.YtjddbjmcjhjpiaaGreatDoor

namespace Go.Proofs.YtjddbjmcjhjpiaaGreatDoor
open Go.RowKit M

end Go.Proofs.YtjddbjmcjhjpiaaGreatDoor

namespace Go.Proofs.YtjddbjmcjhjpiaaGreatDoor
open Go.RowKit

def PIn.okT (p:PIn):Prop:=p.ok∧p.body.size≤281474976710656
end Go.Proofs.YtjddbjmcjhjpiaaGreatDoor

namespace Go.Proofs.YtjddbjmcjhjpiaaGreatDoor
open Go.RowKit

end Go.Proofs.YtjddbjmcjhjpiaaGreatDoor

namespace Go.Proofs.YtjddbjmcjhjpiaaGreatDoor
set_option maxRecDepth 100000
open Go.ChangeShapes Go.WideShapes Go.ChangeAt Go.RowKit

section
variable {α:Type} {f:α→List Value} {k:Nat}
theorem flat_length (hf:∀ x,(f x).length=k):∀ l:List α,(l.flatMap f).length=l.length * k
 | []=>by simp
 | x :: l=>by rw [List.flatMap_cons,List.length_append,hf,flat_length hf l,List.length_cons,Nat.succ_mul];omega
theorem flat_at (hf:∀ x,(f x).length=k):∀ (l:List α) (i r:Nat) (h:i < l.length),r < k→(l.flatMap f)[i * k + r]?=(f l[i])[r]?
 | [],i,r,h,_=>by simp at h
 | x :: l,0,r,_,hr=>by
  rw [List.flatMap_cons,Nat.zero_mul,Nat.zero_add,List.getElem?_append_left (by rw [hf];exact hr)]
  rfl
 | x :: l,i + 1,r,h,hr=>by
  rw [List.flatMap_cons,List.getElem?_append_right (by rw [hf,Nat.succ_mul];omega),hf,show (i + 1) * k + r - k=i * k + r by rw [Nat.succ_mul];omega,flat_at hf l i r (by simpa using h) hr]
  rfl
theorem RdG.row {w:World} {A:Option Addr} {n cap:Nat} {l:List α} (hf:∀ x,(f x).length=k) (h:RdG k w (.slice A n cap) l.length (l.flatMap f)) {i:Nat} (hi:i < l.length) :
 ∃ b off,A=some ⟨b,off,none⟩∧b < w.heap.size∧∀ r u,r < k→(f l[i])[r]?=some u→w.cell? ⟨b,off + i * k + r,none⟩=some u:=by
 obtain ⟨b,off,e,hlt,hc⟩:=h.at_ hi
 exact ⟨b,off,e,hlt,fun r u hr hu=>hc r u hr (by rw [flat_at hf l i r hi hr];exact hu)⟩
theorem open_rows {H:Type} {enc:TypeId × Value→H} {W:World} {v:Value} {d:DataW H} {p:List MemPlace} (okx:α→Prop) (hk:0 < k) (hf:∀ x,(f x).length=k) (t e:TypeId) (ht:Tryz.prog.underlying t=some (.slice e)) (hce:Tryz.prog.cellsOf e=k)
 (hel0:∀ m cs y,DataW.trod enc Tryz.prog W 0 (fun _=>true) true m e cs=some y→cs.length=k→∃ x,cs=f x∧okx x)
 (hval:Value.okWide Tryz.prog W .any 0 t v) (h:DataW.Trod enc Tryz.prog W 0 (fun _=>true) true t v d p):∃ l:List α,RdG k W v l.length (l.flatMap f)∧∀ x ∈ l,okx x:=by
 obtain ⟨A,len,cap,rfl⟩:=okWide_slice ht hval
 obtain ⟨fuel,hfu⟩:=h
 simp only [Value.cells] at hfu
 rcases DataW.trod_slice ht hfu with ⟨hcs,_⟩ | ⟨a,len', cap', elems,rest,m,_,hcs,_,_,hl,hm,hlen,hel,_,_⟩
 · injection hcs with hcs
   exact ⟨[],by rw [hcs];exact RdG.nil_ k W,fun _ h=>by cases h⟩
 · injection hcs with hcs
   rw [hcs]
   have key:∀ i,i < len' → ∃ x:α,okx x∧∀ r u,(f x)[r]?=some u→W.cell? (a.add (i * k + r))=some u:=by
    intro i hi
    have h1:=hel i hi
    rw [hce,List.getElem?_eq_getElem (by omega)] at h1
    obtain ⟨cs,hc,htr⟩:=Option.bind_eq_some_iff.1 h1
    obtain ⟨_,hcl,hat⟩:=World.cells?_some hc
    obtain ⟨x,rfl,hx⟩:=hel0 m cs _ htr hcl
    refine ⟨x,hx,fun r u hu=>?_⟩
    have hr:=(List.getElem?_eq_some_iff.1 hu)
    have := hat r (by have h1:=hr.1;rw [hf] at h1;exact h1)
    rw [add_of_add] at this
    first
     | (rw [this];exact hu)
     | (rw [this,hr.2])
   by_cases h0:len' = 0
   · subst h0
     exact ⟨[],⟨by simp,some a,cap', rfl,hl,hm,fun h=>absurd h (by simp)⟩,fun _ h=>by cases h⟩
   · obtain ⟨x0,hx0,hc0⟩:=key 0 (by omega)
     have ex:∀ i,∃ x:α,i < len' → okx x∧∀ r u,(f x)[r]?=some u→W.cell? (a.add (i * k + r))=some u:=fun i=>by
      by_cases hi:i < len'
      · obtain ⟨x,hx⟩:=key i hi
        exact ⟨x,fun _=>hx⟩
      · exact ⟨x0,fun h=>absurd h hi⟩
     obtain ⟨g,hg⟩:∃ g:Nat→α,∀ i,i < len' → okx (g i)∧∀ r u,(f (g i))[r]?=some u→W.cell? (a.add (i * k + r))=some u:=⟨fun i=>(ex i).choose,fun i=>(ex i).choose_spec⟩
     have hll:((List.range len').map g).length=len' := by simp
     obtain ⟨b,off,spot⟩:=a
     obtain ⟨u0,hu0⟩:∃ u,(f x0)[0]?=some u:=⟨(f x0)[0]'(by rw [hf];exact hk),List.getElem?_eq_getElem _⟩
     have hz:=hc0 0 u0 hu0
     have hspot:spot=none:=by simpa [Addr.add] using World.cell?_spot hz
     subst hspot
     have hlt:=World.block_lt_of_cell? W _ hz
     rw [block_of_add] at hlt
     refine ⟨(List.range len').map g,⟨flat_length hf _,some ⟨b,off,none⟩,cap', by rw [hll],by rw [hll];exact hl,hm,fun _=>⟨b,off,rfl,hlt,fun j u hu=>?_⟩⟩,fun x hx=>?_⟩
     · have hj:=(List.getElem?_eq_some_iff.1 hu).1
       rw [flat_length hf,hll] at hj
       have hi:j / k < len' := Nat.div_lt_of_lt_mul (by rw [Nat.mul_comm];exact hj)
       have hjr:j=j / k * k + j % k:=by rw [Nat.mul_comm];exact (Nat.div_add_mod j k).symm
       rw [hjr,flat_at hf _ (j / k) (j % k) (by rw [hll];exact hi) (Nat.mod_lt _ hk)] at hu
       have := (hg (j / k) hi).2 (j % k) u (by simpa using hu)
       rw [addr_add,← hjr] at this
       exact this
     · obtain ⟨i,hi,rfl⟩:=List.mem_map.1 hx
       exact (hg i (List.mem_range.1 hi)).1
end

section
variable {H:Type} {enc:TypeId × Value→H} {W:World}
theorem oneL {α:Type} {cs:List α} (h:cs.length=1):∃ a,cs=[a]:=by
 match cs,h with
 | [a],_=>exact ⟨a,rfl⟩
def ic (n:Int):List Value:=[.int .i64 n]
def sc (s:ByteArray):List Value:=[.string s]
theorem ints_flat (l:List Int):l.flatMap ic=ints l:=by induction l with
 | nil=>rfl
 | cons x l ih=>rw [List.flatMap_cons,ih];rfl
theorem strg_flat (l:List ByteArray):l.flatMap sc=strg l:=by induction l with
 | nil=>rfl
 | cons x l ih=>rw [List.flatMap_cons,ih];rfl
theorem open_ints_ {v:Value} {d:DataW H} {p:List MemPlace} (hval:Value.okWide Tryz.prog W .any 0 24 v) (h:DataW.Trod enc Tryz.prog W 0 (fun _=>true) true 24 v d p):∃ l:List Int,RdG 1 W v l.length (ints l)∧∀ n ∈ l,(Lit.int .i64 n).wf=true:=by
 obtain ⟨l,h1,h2⟩:=open_rows (f:=ic) (fun n=>(Lit.int .i64 n).wf=true) (by decide) (fun _=>rfl) 24 3 Tryz.underlying24 (by kernel_rfl) (fun m cs y hy hl=>by
  obtain ⟨a,rfl⟩:=oneL hl
  obtain ⟨n0,h0,_,w0⟩:=DataW.trod_int Tryz.underlying3 hy
  exact ⟨n0,by rw [h0];rfl,w0⟩) hval h
 rw [ints_flat] at h1
 exact ⟨l,h1,h2⟩
theorem open_strs_ {v:Value} {d:DataW H} {p:List MemPlace} (hval:Value.okWide Tryz.prog W .any 0 84 v) (h:DataW.Trod enc Tryz.prog W 0 (fun _=>true) true 84 v d p):∃ l:List ByteArray,RdG 1 W v l.length (strg l)∧∀ s ∈ l,s.size≤maxLen:=by
 obtain ⟨l,h1,h2⟩:=open_rows (f:=sc) (fun s=>s.size≤maxLen) (by decide) (fun _=>rfl) 84 9 Tryz.underlying84 (by kernel_rfl) (fun m cs y hy hl=>by
  obtain ⟨a,rfl⟩:=oneL hl
  obtain ⟨s,h0,_,w0⟩:=DataW.trod_string Tryz.underlying9 hy
  exact ⟨s,by rw [h0];rfl,w0⟩) hval h
 rw [strg_flat] at h1
 exact ⟨l,h1,h2⟩

structure OpIn where
 kind:Int
 n:Int
 body:ByteArray
 p:PIn
def OpIn.ok (x:OpIn):Prop:=(Lit.int .i64 x.kind).wf=true∧(Lit.int .i64 x.n).wf=true∧x.body.size≤maxLen∧x.p.ok
structure StIn where
 kind:Int
 n:Int
 loss:Int
 body:ByteArray
def StIn.ok (x:StIn):Prop:=(Lit.int .i64 x.kind).wf=true∧(Lit.int .i64 x.n).wf=true∧(Lit.int .i64 x.loss).wf=true∧x.body.size≤maxLen
theorem fourL {α:Type} {cs:List α} (h:cs.length=4):∃ a0 a1 a2 a3,cs=[a0,a1,a2,a3]:=by
 match cs,h with
 | [a0,a1,a2,a3],_=>exact ⟨a0,a1,a2,a3,rfl⟩
theorem twelve {α:Type} {cs:List α} (h:cs.length=12):∃ a0 a1 a2 a3 a4 a5 a6 a7 a8 a9 a10 a11,cs=[a0,a1,a2,a3,a4,a5,a6,a7,a8,a9,a10,a11]:=by
 match cs,h with
 | [a0,a1,a2,a3,a4,a5,a6,a7,a8,a9,a10,a11],_=>exact ⟨a0,a1,a2,a3,a4,a5,a6,a7,a8,a9,a10,a11,rfl⟩
structure De5In where
 b:Int
 s:Int
 wi:Int
 z:Int
 wa:Int
abbrev De5In.val (d:De5In):Value:=.agg #[.int .i64 d.b,.int .i64 d.s,.int .i64 d.wi,.int .i64 d.z,.int .i64 d.wa]
def De5In.ok (d:De5In):Prop:=(Lit.int .i64 d.b).wf=true∧(Lit.int .i64 d.s).wf=true∧(Lit.int .i64 d.wi).wf=true∧(Lit.int .i64 d.z).wf=true∧(Lit.int .i64 d.wa).wf=true
end
end Go.Proofs.YtjddbjmcjhjpiaaGreatDoor

namespace Go.Proofs.YtjddbjmcjhjpiaaGreatDoor
open Go.RowKit M

def OwnO (e:TypeId) (k:Nat) (v:Value) (n:Nat) (xs:List Value):Obj:=fun w F=>F=blk v∧xs.length=n * k ∧
 ((v=.slice none 0 0∧n=0) ∨ ∃ g off cap cur,v=.slice (some ⟨g,off,none⟩) n cap∧w.heap[g]?=some (.cells cur e (0,0))∧n≤cap∧cap≤maxLen∧off + cap * k≤cur.size∧(cur.toList.drop off).take (n * k)=xs)
section
variable {e:TypeId} {k:Nat} {v:Value} {n:Nat} {xs:List Value} {w w' : World} {F:List Nat}
theorem OwnO.stab (e:TypeId) (k:Nat) (v:Value) (n:Nat) (xs:List Value):Stab (OwnO e k v n xs) where
 in_:=by
  rintro w F ⟨rfl,_,h⟩ g hg
  rcases h with ⟨rfl,_⟩ | ⟨g', off,cap,cur,rfl,h1,_⟩
  · cases hg
  · simp only [blk,List.mem_singleton] at hg
    subst hg
    exact lt_at h1
 tch:=by
  rintro w w' F G ⟨rfl,hl,h⟩ ht hd
  refine ⟨rfl,hl,?_⟩
  rcases h with h | ⟨g', off,cap,cur,rfl,h1,h2⟩
  · exact .inl h
  · exact .inr ⟨g', off,cap,cur,rfl,ht.at_ h1 (hd g' (by simp [blk])),h2⟩
theorem oS {e k v n xs}:Stab (OwnO e k v n xs):=OwnO.stab e k v n xs
theorem OwnO.nilD (e:TypeId) (k:Nat) (w:World):Done w [] (OwnO e k (.slice none 0 0) 0 []) w:=⟨[],⟨rfl,by simp,.inl ⟨rfl,rfl⟩⟩,Tch.refl _ _,fun _ h=>.inl h⟩
theorem OwnO.of_own {base:Nat} (h:w.ownsRow base e k v n xs):OwnO e k v n xs w (blk v):=by
 refine ⟨rfl,h.1,h.2.imp id ?_⟩
 rintro ⟨g,cap,cur,rfl,_,h1,h2,h3,h4,h5⟩
 exact ⟨g,0,cap,cur,rfl,h1,h2,h3,by omega,by simpa using h5⟩
theorem OwnO.shape (h:OwnO e k v n xs w F):∃ A cap,v=.slice A n cap∧n≤cap∧cap≤maxLen:=by
 obtain ⟨_,_,⟨rfl,rfl⟩ | ⟨g,off,cap,cur,rfl,_,h2,h3,_⟩⟩:=h
 · exact ⟨none,0,rfl,Nat.le_refl _,by simp [maxLen]⟩
 · exact ⟨_,cap,rfl,h2,h3⟩
theorem OwnO.rd (h:OwnO e k v n xs w F):RdG k w v n xs:=by
 obtain ⟨_,hl,⟨rfl,rfl⟩ | ⟨g,off,cap,cur,rfl,h1,h2,h3,h4,h5⟩⟩:=h
 · exact ⟨hl,none,0,rfl,Nat.le_refl _,by simp [maxLen],fun h=>absurd h (by omega)⟩
 · refine ⟨hl,_,cap,rfl,h2,h3,fun _=>⟨g,off,rfl,lt_at h1,fun j u hu=>?_⟩⟩
   have hj:=(List.getElem?_eq_some_iff.1 hu).1
   rw [hl] at hj
   rw [← h5,List.getElem?_take_of_lt hj,List.getElem?_drop] at hu
   exact cell_at h1 (off + j) u (by simpa using hu)
theorem OwnO.addr {A:Option Addr} {c:Nat} (h:OwnO e k (.slice A n c) n xs w F) (hn:0 < n):∃ g off,A=some ⟨g,off,none⟩:=by
 obtain ⟨_,_,⟨_,h0⟩ | ⟨g,off,cap,cur,h1,_⟩⟩:=h
 · omega
 · injection h1 with h1
   exact ⟨g,off,h1⟩
theorem OwnO.cell {g off c:Nat} (h:OwnO e k (.slice (some ⟨g,off,none⟩) n c) n xs w F) {i:Nat} {u:Value} (hu:xs[i]?=some u):w.cell? ⟨g,off + i,none⟩=some u:=by
 obtain ⟨_,hl,⟨h0,_⟩ | ⟨g', off', cap,cur,e1,h1,h2,h3,h4,h5⟩⟩:=h
 · cases h0
 · injection e1 with e1
   injection e1 with e1
   injection e1 with e1 e2
   subst e1;subst e2
   have hj:=(List.getElem?_eq_some_iff.1 hu).1
   rw [hl] at hj
   rw [← h5,List.getElem?_take_of_lt hj,List.getElem?_drop] at hu
   exact cell_at h1 (off + i) u (by simpa using hu)
theorem OwnO.rest {g off c:Nat} (h:OwnO e k (.slice (some ⟨g,off,none⟩) n c) n xs w F) (hn:0 < n) {B:Option Addr} (hB:B=if c=1 then some ⟨g,off,none⟩ else some ⟨g,off + k,none⟩):OwnO e k (.slice B (n - 1) (c - 1)) (n - 1) (xs.drop k) w F:=by
 obtain ⟨rfl,hl,⟨h0,_⟩ | ⟨g', off', cap,cur,e1,h1,h2,h3,h4,h5⟩⟩:=h
 · cases h0
 · injection e1 with e1 _ e3
   injection e1 with e1
   injection e1 with e1 e2
   subst e1;subst e2;subst e3
   have hlen:(xs.drop k).length=(n - 1) * k:=by rw [List.length_drop,hl,Nat.sub_mul,Nat.one_mul]
   by_cases hc:c=1
   · rw [if_pos hc] at hB
     subst hB;subst hc
     obtain rfl:n=1:=by omega
     refine ⟨rfl,hlen,.inr ⟨g,off,0,cur,rfl,h1,by omega,by omega,by omega,?_⟩⟩
     rw [Nat.sub_self,Nat.zero_mul,List.take_zero]
     exact (List.eq_nil_of_length_eq_zero (by rw [hlen];omega)).symm
   · rw [if_neg hc] at hB
     subst hB
     have e4:c * k=(c - 1) * k + k:=by
      obtain ⟨d,rfl⟩:∃ d,c=d + 1:=⟨c - 1,by omega⟩
      rw [Nat.add_sub_cancel,Nat.add_mul,Nat.one_mul]
     refine ⟨rfl,hlen,.inr ⟨g,off + k,c - 1,cur,rfl,h1,by omega,by omega,by omega,?_⟩⟩
     rw [← h5,List.drop_take,List.drop_drop,Nat.sub_mul,Nat.one_mul]
theorem OwnO.app {P:Program} (h:OwnO e k v n xs w F) (t ty:TypeId) (i:TypeInfo) (z:Value) (bytes:Nat) (ht:P.underlying t=some (.slice e)) (hi:P.info? e=some i) (hz:i.zero=some z)
 (hsize:i.size=k) (hby:i.bytes=bytes) (hzs:z.cells.size=k) (hk:0 < k∧bytes≤1000) (u:Value) (m:Nat) (ys:List Value) (hr:RdG k w u m ys) (hm:0 < m) (h1:∀ y ∈ ys,y.oneCell' = true) (hlen:n + m≤1000000) :
 ∃ A c w', (Builtin.append_ #[t,t] ty #[v,u]).run P w=.ok (.slice A (n + m) c) w' ∧ (n + m≤c∧c≤maxLen)∧Done w F (OwnO e k (.slice A (n + m) c) (n + m) (xs ++ ys)) w' := by
 obtain ⟨hly,A', cu,rfl,hc1,hc2,hc3⟩:=hr
 obtain ⟨b,bo,rfl,hb,hcells⟩:=hc3 hm
 have hbytes:(n + m) * bytes≤140737488355328:=by
  have := Nat.mul_le_mul hlen hk.2
  omega
 obtain ⟨rfl,hl,h⟩:=h
 rcases h with ⟨rfl,rfl⟩ | ⟨g,off,cap,cur,rfl,g1,g2,g3,g4,g5⟩
 · have hx:xs=[]:=List.eq_nil_of_length_eq_zero (by simpa using hl)
   subst hx
   obtain ⟨v', w', hrun,ho,hg,_,hat⟩:=run_append_own_at (P:=P) w 0 t ty e i z k bytes ht hi hz hsize hby hzs hk.1 (.slice none 0 0) 0 [] (World.ownsRow_nil w 0 e k) ⟨b,bo,none⟩ m cu ys hly (fun j u hu=>by rw [addr_add];exact hcells j u hu) h1 (by simp only [maxLen];omega) hbytes (Nat.zero_le _)
   obtain ⟨A,c,rfl,hc⟩:=own_shape ho
   refine ⟨A,c,w', hrun,hc,blk (.slice A (0 + m) c),OwnO.of_own ho,⟨hg.os,hg.tape,hg.output,hg.size,fun g hlt _=>hg.block g hlt (fun e' => by simp [Value.ownBlock] at e')⟩,fun g hg' => ?_⟩
   have h2:=(blk_own _ g).1 hg'
   rcases hat with h3 | h3
   · rw [h3] at h2;simp [Value.ownBlock] at h2
   · rw [h3] at h2
     injection h2 with h2
     exact .inr (by omega)
 · by_cases hroom:n + m≤cap
   · subst hsize
     have hmk:(n + m) * i.size≤cap * i.size:=Nat.mul_le_mul_right _ hroom
     rw [Nat.add_mul] at hmk
     have hin:∀ j,j < ys.length→off + n * i.size + j < cur.size:=fun j hj=>by rw [hly] at hj;omega
     have hrun:=run_append_room_cells (P:=P) w t ty e i ht hi g off n cap ⟨b,bo,none⟩ m cu ys hly (fun j u hu=>by rw [addr_add];exact hcells j u hu) h1 hroom
      (fun j hj=>by
       rw [cell_at g1 (off + n * i.size + j) _ (Array.getElem?_eq_getElem (hin j hj))]
       rfl) (fun j hj=>frz_at g1 _)
     have hh:w.heap[g]?=some (.cells cur.toList.toArray e (0,0)):=by rw [Array.toArray_toList];exact g1
     have h6:=heap_sets ys (off + n * i.size) w cur.toList hh
     rw [setL_eq ys cur.toList (off + n * i.size) (by rw [hly,Array.length_toList];omega)] at h6
     refine ⟨some ⟨g,off,none⟩,cap,_,hrun,⟨hroom,g3⟩,[g],⟨rfl,by rw [List.length_append,hl,hly,Nat.add_mul],.inr ⟨g,off,cap,_,rfl,h6,hroom,g3,?_,?_⟩⟩,tch_sets g ys _ w,Sub.refl _ _⟩
     · rw [List.size_toArray,List.length_append,List.length_append,List.length_take,List.length_drop,Array.length_toList]
       omega
     · show ((cur.toList.take (off + n * i.size) ++ ys ++ cur.toList.drop (off + n * i.size + ys.length)).drop off).take _=_
       have e1:(cur.toList.take (off + n * i.size)).drop off=xs:=by rw [List.drop_take,Nat.add_sub_cancel_left];exact g5
       rw [List.append_assoc,List.drop_append_of_le_length (by rw [List.length_take,Array.length_toList];omega),e1,← List.append_assoc,List.take_left' (by rw [List.length_append,hl,hly,Nat.add_mul])]
   · obtain ⟨v', w', hrun,ho,hg⟩:=run_append_arg_grows (P:=P) w t ty e i z k bytes ht hi hz hsize hby hzs hk.1 ⟨g,off,none⟩ n cap xs hl (fun j u hu=>by
      rw [addr_add]
      exact OwnO.cell (e:=e) (k:=k) (n:=n) (c:=cap) (w:=w) ⟨rfl,hl,.inr ⟨g,off,cap,cur,rfl,g1,g2,g3,g4,g5⟩⟩ hu) ⟨b,bo,none⟩ m cu ys hly (fun j u hu=>by rw [addr_add];exact hcells j u hu) (by omega) (by simp only [maxLen];omega) hbytes
     obtain ⟨A,c,rfl,hc⟩:=own_shape ho
     exact ⟨A,c,w', hrun,hc,blk (.slice A (n + m) c),OwnO.of_own ho,⟨hg.os,hg.tape,hg.output,hg.size,fun g hlt _=>hg.block g hlt (by simp)⟩,fun g hg' => .inr (ownG_blk ho g hg').1⟩
end
section
variable {ops:Array Oper} {rest:List Oper} {o:Oper} {a:Act} {w0 w:World} {F0:List Nat} {Q:Exit→Act→World→Prop} {C:Obj→Obj} {e:TypeId} {k n:Nat} {v:Value} {xs:List Value}
theorem wp_appO {K:Act→World→Prop} (hC:Fr C) (h:Done w0 F0 (C (OwnO e k v n xs)) w) (s x:Operand) (t:TypeId) (bytes:Nat) (z:Value)
 (ho:o.op=.call { callee:=.builtin .append,args:=#[s,x],argTypes:=#[t,t] })
 (hu:Tryz.prog.underlying t=some (.slice e)) (hin:(Tryz.prog.info? e).map (fun i=>(i.zero,i.size,i.bytes))=some (some z,k,bytes)) (hzs:z.cells.size=k) (hk:0 < k∧bytes≤1000)
 (u:Value) (m:Nat) (ys:List Value) (hs:a.eval s=v) (hx:a.eval x=u) (hr:RdG k w u m ys) (hm:0 < m) (h1:∀ y ∈ ys,y.oneCell' = true) (n' : Nat) (hn' : n' = n + m) (hlen:n' ≤ 1000000) (xs' : List Value) (hxs:xs' = xs ++ ys)
 (hn:∀ A c w', Done w0 F0 (C (OwnO e k (.slice A n' c) n' xs')) w' → (n' ≤ c∧c≤maxLen)→K (a.put o.dst (.slice A n' c)) w'):o.wp Tryz.prog a w K Q:=by
 subst hn'; subst hxs
 obtain ⟨F,hF,hup⟩:=h.upd hC
 obtain ⟨i0,hi,hz0,hz1,hz2⟩:=info_parts hin
 obtain ⟨A,c,w', hrun,hc,hd⟩:=hF.app t o.type i0 z bytes hu hi hz0 hz1 hz2 hzs hk u m ys hr hm h1 hlen
 unfold Oper.wp execOp
 simp only [ho,resolve,invoke,builtin,Sem.run_bind,Sem.run_pure,Result.andThen_ok,List.map_toArray,List.map_cons,List.map_nil,hs,hx,hrun]
 exact hn A c w' (hup hd) hc
theorem wpList_appO (hC:Fr C) (h:Done w0 F0 (C (OwnO e k v n xs)) w) (hgd:o.guard=none) (s x:Operand) (t:TypeId) (bytes:Nat) (z:Value)
 (ho:o.op=.call { callee:=.builtin .append,args:=#[s,x],argTypes:=#[t,t] })
 (hu:Tryz.prog.underlying t=some (.slice e)) (hin:(Tryz.prog.info? e).map (fun i=>(i.zero,i.size,i.bytes))=some (some z,k,bytes)) (hzs:z.cells.size=k) (hk:0 < k∧bytes≤1000)
 (u:Value) (m:Nat) (ys:List Value) (hs:a.eval s=v) (hx:a.eval x=u) (hr:RdG k w u m ys) (hm:0 < m) (h1:∀ y ∈ ys,y.oneCell' = true) (n' : Nat) (hn' : n' = n + m) (hlen:n' ≤ 1000000) (xs' : List Value) (hxs:xs' = xs ++ ys)
 (hn:∀ A c w', Done w0 F0 (C (OwnO e k (.slice A n' c) n' xs')) w' → (n' ≤ c∧c≤maxLen)→wpList Tryz.prog ops Q rest (a.put o.dst (.slice A n' c)) w'):wpList Tryz.prog ops Q (o :: rest) a w :=
 wpList_plain hgd fun _ hK=>wp_appO hC h s x t bytes z ho hu hin hzs hk u m ys hs hx hr hm h1 n' hn' hlen xs' hxs fun A c w' h1 h2=>hK _ _ (hn A c w' h1 h2)
end
end Go.Proofs.YtjddbjmcjhjpiaaGreatDoor

namespace Go.Proofs.YtjddbjmcjhjpiaaGreatDoor
set_option maxRecDepth 100000
set_option maxHeartbeats 32000000
open Go.RowKit M

def XIn.cut (x:XIn):XIn:={ x with nick:=x.nick.extract 0 (min x.nick.size 25) }
theorem XIn.cut_len (x:XIn):x.cut.nick.size≤25:=by
 show (x.nick.extract 0 (min x.nick.size 25)).size≤25
 rw [ByteArray.size_extract]
 omega
theorem XIn.cut_ok {x:XIn} (h:x.ok):x.cut.ok:=⟨h.1,h.2.1,h.2.2.1,h.2.2.2.1,Nat.le_trans x.cut_len (by decide)⟩
theorem X1_any (x:XIn) (hx:x.ok) (w:World):Calls Tryz.prog 22 #[x.val] w fun e w' => e=.returned x.cut.val∧Below w.heap.size w w' := by
 have hb:=hx.2.2.2.2
 obtain ⟨f,t,s,n,a,nick⟩:=x
 simp only at hb
 have ht:=fun w=>Text_any nick 25 w hb (by omega)
 obtain ⟨tx,het⟩:∃ tx,tx=nick.extract 0 (min nick.size 25):=⟨_,rfl⟩
 show Calls Tryz.prog 22 #[.agg #[.int .u32 f,.int .u32 t,.int .i64 s,.int .i64 n,.bool a,.string nick]] w fun e w' => e=.returned (.agg #[.int .u32 f,.int .u32 t,.int .i64 s,.int .i64 n,.bool a,.string (nick.extract 0 (min nick.size 25))])∧Below w.heap.size w w'
 rw [← het] at ht ⊢
 have HT:=jzD ht
 clear ht het hx
 go_enter Tryz.func22,Tryz.ntmps22
 go_wp2_with (go_at_call 19;refine (HT.out _).mono ?_;rintro e w' ⟨rfl,rfl⟩)
 exact bodyPost_ret (v:=.agg #[.int .u32 f,.int .u32 t,.int .i64 s,.int .i64 n,.bool a,.string tx]) (by simp [results,Tryz.results22,go_sem]) rfl ⟨rfl,bal (bal (bel0 _) _) _⟩
theorem b2i16_any (b:Bool) (w:World):Calls Tryz.prog 54 #[.bool b] w fun e w' => e=.returned (.int .i64 (if b then 1 else 0))∧w' = w:=by
 cases b
 · go_enter Tryz.func54,Tryz.ntmps54
   go_wp2
   go_ret
   exact ⟨rfl,rfl⟩
 · go_enter Tryz.func54,Tryz.ntmps54
   go_wp2
   go_ret
   exact ⟨rfl,rfl⟩
theorem log0_add (me:Int) (x:XIn):(LogM.new me).addB x=(mayX x.xd && x.from_ != me)∧((LogM.new me).add x).l.length=(if mayX x.xd && x.from_ != me then 1 else 0):=by
 have hw:(LogM.new me).who x.from_=none:=rfl
 refine ⟨?_,?_⟩
 · unfold LogM.addB
   rw [hw]
   show (mayX x.xd && (x.from_ != me && decide ((0:Nat) < 16)))=_
   rw [decide_eq_true (by decide),Bool.and_true]
 · unfold LogM.add
   rw [hw]
   show (if mayX x.xd then (if x.from_=me then (⟨me,[],insC x.from_ []⟩:LogM) else if (0:Nat) < 16 then ⟨me,[⟨x.from_,x.nick,x.slot⟩],[]⟩ else LogM.new me) else LogM.new me).l.length=_
   cases mayX x.xd
   · rfl
   · by_cases h:x.from_=me
     · simp [h]
     · simp [h]
end Go.Proofs.YtjddbjmcjhjpiaaGreatDoor

namespace Go.Proofs.YtjddbjmcjhjpiaaGreatDoor
open Go.RowKit M

structure Lin (C:Obj→Obj):Prop where
 out:∀ {Z R K:Obj} {w:World},(∀ {F},Z w F→∃ F', Star R K w F' ∧ ∀ g ∈ F', g ∈ F)→∀ {F},C Z w F→∃ F', Star (C R) K w F' ∧ ∀ g ∈ F', g ∈ F
theorem Lin.id_:Lin (fun X=>X):=⟨fun h=>h⟩
theorem Lin.l {C:Obj→Obj} {K0:Obj} (hC:Lin C):Lin (fun X=>Star (C X) K0):=⟨by
 rintro Z R K w hZ F ⟨F1,F2,rfl,h1,h2,h3⟩
 obtain ⟨F', ⟨Fa,Fb,rfl,k1,k2,k3⟩,hs⟩:=hC.out hZ h1
 refine ⟨(Fa ++ F2) ++ Fb,⟨Fa ++ F2,Fb,rfl,⟨Fa,F2,rfl,k1,h2,fun g hg=>h3 g (hs g (List.mem_append_left _ hg))⟩,k2,fun g hg hb=>?_⟩,fun g hg=>?_⟩
 · rcases List.mem_append.1 hg with h | h
   · exact k3 g h hb
   · exact h3 g (hs g (List.mem_append_right _ hb)) h
 · rcases List.mem_append.1 hg with h | h
   · rcases List.mem_append.1 h with h | h
     · exact List.mem_append_left _ (hs g (List.mem_append_left _ h))
     · exact List.mem_append_right _ h
   · exact List.mem_append_left _ (hs g (List.mem_append_right _ h))⟩
theorem Lin.r {C:Obj→Obj} {K0:Obj} (hC:Lin C):Lin (fun X=>Star K0 (C X)):=⟨by
 rintro Z R K w hZ F ⟨F1,F2,rfl,h1,h2,h3⟩
 obtain ⟨F', ⟨Fa,Fb,rfl,k1,k2,k3⟩,hs⟩:=hC.out hZ h2
 refine ⟨(F1 ++ Fa) ++ Fb,⟨F1 ++ Fa,Fb,rfl,⟨F1,Fa,rfl,h1,k1,fun g hg ha=>h3 g hg (hs g (List.mem_append_left _ ha))⟩,k2,fun g hg hb=>?_⟩,fun g hg=>?_⟩
 · rcases List.mem_append.1 hg with h | h
   · exact h3 g h (hs g (List.mem_append_right _ hb))
   · exact k3 g h hb
 · rcases List.mem_append.1 hg with h | h
   · rcases List.mem_append.1 h with h | h
     · exact List.mem_append_left _ h
     · exact List.mem_append_right _ (hs g (List.mem_append_left _ h))
   · exact List.mem_append_right _ (hs g (List.mem_append_right _ h))⟩
theorem Lin.cmp_ {C D:Obj→Obj} (hC:Lin C) (hD:Lin D):Lin (fun X=>C (D X)):=⟨fun hZ _ h=>hC.out (hD.out hZ) h⟩
theorem Done.float {w0 w:World} {F0:List Nat} {R K:Obj} {C:Obj→Obj} (hC:Lin C) (h:Done w0 F0 (C (Star R K)) w):Done w0 F0 (Star (C R) K) w:=by
 obtain ⟨F,hF,ht,hs⟩:=h
 obtain ⟨F', h1,h2⟩:=hC.out (fun h=>⟨_,h,fun _ h=>h⟩) hF
 exact ⟨F', h1,ht,fun g hg=>hs g (h2 g hg)⟩
end Go.Proofs.YtjddbjmcjhjpiaaGreatDoor
