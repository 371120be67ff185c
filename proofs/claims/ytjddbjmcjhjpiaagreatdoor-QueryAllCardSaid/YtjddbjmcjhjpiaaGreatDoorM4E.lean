/- Of layer 4: Dec, Rs, Nick2, Nick3, Bld, Bld2, Nick4, Nick5, Nick6. -/
import Derived.Test.YtjddbjmcjhjpiaaGreatDoorM4C
import Derived.Test.YtjddbjmcjhjpiaaGreatDoorShelf
import Derived.Laws.RangeAny
import Derived.Lib.RuneCount
import Derived.WalkKit
import Derived.Laws.Externs
import Derived.Lib.Builder
import Derived.WalkSpells
import Derived.OpenShut

set_option linter.all false

namespace Go.Proofs.YtjddbjmcjhjpiaaGreatDoor.M
set_option maxRecDepth 100000
set_option maxHeartbeats 2000000

def dec (l:List UInt8):Nat × Nat:=Utf8.decode ⟨l.toArray⟩ 0
def at_ (l:List UInt8) (k:Nat):Nat:=(l.getD k 0).toNat
def cont (l:List UInt8) (k:Nat):Bool:=decide (k < l.length∧128≤at_ l k∧at_ l k < 192)
theorem ite_to {α:Type} {p q:Prop} [Decidable p] [Decidable q] {a b c d:α} (h:p ↔ q) (h1:a=c) (h2:b=d):(if p then a else b)=if q then c else d:=by
 subst h1 h2
 by_cases hp:p
 · rw [if_pos hp,if_pos (h.1 hp)]
 · rw [if_neg hp,if_neg (fun hq=>hp (h.2 hq))]
theorem get_list (l:List UInt8) (k:Nat):((⟨l.toArray⟩:ByteArray).get! k)=l.getD k 0:=by
 show l.toArray[k]! = _
 simp
 rfl
theorem dec_eq (l:List UInt8):dec l=(if at_ l 0 < 128 then (at_ l 0,1)
 else if (at_ l 0 / 32 == 6 && cont l 1)=true then (if (at_ l 0 % 32) * 64 + at_ l 1 % 64 ≥ 128 then ((at_ l 0 % 32) * 64 + at_ l 1 % 64,2) else (65533,1))
 else if (at_ l 0 / 16 == 14 && cont l 1 && cont l 2)=true then (if (at_ l 0 % 16) * 4096 + (at_ l 1 % 64) * 64 + at_ l 2 % 64 ≥ 2048∧((at_ l 0 % 16) * 4096 + (at_ l 1 % 64) * 64 + at_ l 2 % 64 < 55296 ∨ 57344≤(at_ l 0 % 16) * 4096 + (at_ l 1 % 64) * 64 + at_ l 2 % 64) then ((at_ l 0 % 16) * 4096 + (at_ l 1 % 64) * 64 + at_ l 2 % 64,3) else (65533,1))
 else if (at_ l 0 / 8 == 30 && cont l 1 && cont l 2 && cont l 3)=true then (if (at_ l 0 % 8) * 262144 + (at_ l 1 % 64) * 4096 + (at_ l 2 % 64) * 64 + at_ l 3 % 64 ≥ 65536∧(at_ l 0 % 8) * 262144 + (at_ l 1 % 64) * 4096 + (at_ l 2 % 64) * 64 + at_ l 3 % 64≤1114111 then ((at_ l 0 % 8) * 262144 + (at_ l 1 % 64) * 4096 + (at_ l 2 % 64) * 64 + at_ l 3 % 64,4) else (65533,1))
 else (65533,1)):=by
 have hc:∀ k,(decide (0 + k < (⟨l.toArray⟩:ByteArray).size) && (((⟨l.toArray⟩:ByteArray).get! (0 + k)).toNat / 64 == 2))=cont l k:=by
  intro k
  have hs:(⟨l.toArray⟩:ByteArray).size=l.length:=by simp [ByteArray.size]
  rw [Nat.zero_add,hs,get_list]
  unfold cont
  rw [Bool.eq_iff_iff,Bool.and_eq_true,decide_eq_true_iff,decide_eq_true_iff,beq_iff_eq]
  have : (l.getD k 0).toNat < 256:=(l.getD k 0).toNat_lt
  unfold at_
  omega
 unfold dec Utf8.decode
 simp only [hc]
 simp only [Nat.zero_add,get_list]
 have hv3:∀ c:Nat,c≤65535→((decide (c ≥ 2048) && Utf8.valid (c:Int))=true ↔ c ≥ 2048∧(c < 55296 ∨ 57344≤c)):=by
  intro c hc
  unfold Utf8.valid
  simp only [Bool.and_eq_true,Bool.or_eq_true,decide_eq_true_iff]
  omega
 have hv4:∀ c:Nat,((decide (c ≥ 65536) && Utf8.valid (c:Int))=true ↔ c ≥ 65536∧c≤1114111):=by
  intro c
  unfold Utf8.valid
  simp only [Bool.and_eq_true,Bool.or_eq_true,decide_eq_true_iff]
  omega
 have h3:(l.getD 0 0).toNat % 16 * 4096 + (l.getD 1 0).toNat % 64 * 64 + (l.getD 2 0).toNat % 64≤65535:=by omega
 exact ite_to Iff.rfl rfl (ite_to Iff.rfl (ite_to Iff.rfl rfl rfl) (ite_to Iff.rfl (ite_to (hv3 _ h3) rfl rfl) (ite_to Iff.rfl (ite_to (hv4 _) rfl rfl) rfl)))
theorem dec1 {l:List UInt8} (h:at_ l 0 < 128):dec l=(at_ l 0,1):=by rw [dec_eq];exact if_pos h
theorem dec2 {l:List UInt8} (h:194≤at_ l 0∧at_ l 0 < 224) (h1:cont l 1=true):dec l=((at_ l 0 - 192) * 64 + at_ l 1 - 128,2):=by
 have hc:at_ l 1 < 192∧128≤at_ l 1:=by unfold cont at h1;simp at h1;omega
 rw [dec_eq]
 rw [if_neg (by omega),if_pos (by simp [h1];omega),if_pos (by omega)]
 congr 1
 omega
theorem dec2n {l:List UInt8} (h:192≤at_ l 0∧at_ l 0 < 224) (h1:cont l 1=false ∨ at_ l 0 < 194):dec l=(65533,1):=by
 rw [dec_eq]
 rw [if_neg (by omega)]
 rcases hc:cont l 1 with _ | _
 · rw [if_neg (by simp),if_neg (by simp),if_neg (by simp)]
 · have h194:at_ l 0 < 194:=by rcases h1 with h1 | h1;rw [hc] at h1;cases h1;exact h1
   rw [if_pos (by simp;omega),if_neg (by omega)]
theorem dec3 {l:List UInt8} (h:224≤at_ l 0∧at_ l 0 < 240) (h1:cont l 1=true) (h2:cont l 2=true) :
 dec l=if ((at_ l 0 - 224) * 64 + at_ l 1 - 128) * 64 + at_ l 2 - 128 < 2048 ∨ (55296≤((at_ l 0 - 224) * 64 + at_ l 1 - 128) * 64 + at_ l 2 - 128∧((at_ l 0 - 224) * 64 + at_ l 1 - 128) * 64 + at_ l 2 - 128 < 57344) then (65533,1) else (((at_ l 0 - 224) * 64 + at_ l 1 - 128) * 64 + at_ l 2 - 128,3):=by
 have hc:at_ l 1 < 192∧128≤at_ l 1:=by unfold cont at h1;simp at h1;omega
 have hc2:at_ l 2 < 192∧128≤at_ l 2:=by unfold cont at h2;simp at h2;omega
 rw [dec_eq]
 rw [if_neg (by omega),if_neg (by simp;omega),if_pos (by simp [h1,h2];omega)]
 have e:at_ l 0 % 16 * 4096 + at_ l 1 % 64 * 64 + at_ l 2 % 64=((at_ l 0 - 224) * 64 + at_ l 1 - 128) * 64 + at_ l 2 - 128:=by omega
 rw [e]
 generalize ((at_ l 0 - 224) * 64 + at_ l 1 - 128) * 64 + at_ l 2 - 128=c
 by_cases hb:c < 2048 ∨ (55296≤c∧c < 57344)
 · rw [if_neg (by omega),if_pos hb]
 · rw [if_pos (by omega),if_neg hb]
theorem dec3n {l:List UInt8} (h:224≤at_ l 0∧at_ l 0 < 240) (h1:cont l 1=false ∨ cont l 2=false):dec l=(65533,1):=by
 rw [dec_eq]
 rw [if_neg (by omega),if_neg (by simp;omega),if_neg (by simp;intro _ h2;rcases h1 with h1 | h1;rw [h1] at h2;cases h2;exact h1),if_neg (by simp;omega)]
theorem dec4 {l:List UInt8} (h:240≤at_ l 0∧at_ l 0 < 245) (h1:cont l 1=true) (h2:cont l 2=true) (h3:cont l 3=true) :
 dec l=if (((at_ l 0 - 240) * 64 + at_ l 1 - 128) * 64 + at_ l 2 - 128) * 64 + at_ l 3 - 128 < 65536 ∨ 1114111 < (((at_ l 0 - 240) * 64 + at_ l 1 - 128) * 64 + at_ l 2 - 128) * 64 + at_ l 3 - 128 then (65533,1) else ((((at_ l 0 - 240) * 64 + at_ l 1 - 128) * 64 + at_ l 2 - 128) * 64 + at_ l 3 - 128,4):=by
 have hc:at_ l 1 < 192∧128≤at_ l 1:=by unfold cont at h1;simp at h1;omega
 have hc2:at_ l 2 < 192∧128≤at_ l 2:=by unfold cont at h2;simp at h2;omega
 have hc3:at_ l 3 < 192∧128≤at_ l 3:=by unfold cont at h3;simp at h3;omega
 rw [dec_eq]
 rw [if_neg (by omega),if_neg (by simp;omega),if_neg (by simp;omega),if_pos (by simp [h1,h2,h3];omega)]
 have e:at_ l 0 % 8 * 262144 + at_ l 1 % 64 * 4096 + at_ l 2 % 64 * 64 + at_ l 3 % 64=(((at_ l 0 - 240) * 64 + at_ l 1 - 128) * 64 + at_ l 2 - 128) * 64 + at_ l 3 - 128:=by omega
 rw [e]
 generalize (((at_ l 0 - 240) * 64 + at_ l 1 - 128) * 64 + at_ l 2 - 128) * 64 + at_ l 3 - 128=c
 by_cases hb:c < 65536 ∨ 1114111 < c
 · rw [if_neg (by omega),if_pos hb]
 · rw [if_pos (by omega),if_neg hb]
theorem dec4n {l:List UInt8} (h:240≤at_ l 0∧at_ l 0 < 245) (h1:cont l 1=false ∨ cont l 2=false ∨ cont l 3=false):dec l=(65533,1):=by
 rw [dec_eq]
 rw [if_neg (by omega),if_neg (by simp;omega),if_neg (by simp;omega),if_neg (by
  simp only [Bool.and_eq_true,beq_iff_eq]
  rintro ⟨⟨⟨_,a⟩,b⟩,c⟩
  rcases h1 with h1 | h1 | h1
  · rw [h1] at a;cases a
  · rw [h1] at b;cases b
  · rw [h1] at c;cases c)]
theorem dec5 {l:List UInt8} (h:(128≤at_ l 0∧at_ l 0 < 194) ∨ 245≤at_ l 0):dec l=(65533,1):=by
 have hlt:at_ l 0 < 256:=(l.getD 0 0).toNat_lt
 by_cases h2:192≤at_ l 0∧at_ l 0 < 224
 · exact dec2n h2 (.inr (by omega))
 · rw [dec_eq]
   rw [if_neg (by omega),if_neg (by simp;omega),if_neg (by simp;omega)]
   by_cases hx:(at_ l 0 / 8 == 30 && cont l 1 && cont l 2 && cont l 3)=true
   · have hc:at_ l 1 < 192∧128≤at_ l 1:=by
      simp only [Bool.and_eq_true] at hx
      have := hx.1.1.2
      unfold cont at this;simp at this;omega
     have h8:at_ l 0 / 8=30:=by simp only [Bool.and_eq_true,beq_iff_eq] at hx;exact hx.1.1.1
     rw [if_pos hx,if_neg (by omega)]
   · rw [if_neg hx]
end Go.Proofs.YtjddbjmcjhjpiaaGreatDoor.M
namespace Go.Proofs.YtjddbjmcjhjpiaaGreatDoor.M
set_option maxRecDepth 100000
set_option maxHeartbeats 2000000
open Go.Proofs.YtjddbjmcjhjpiaaGreatDoor (kind)

theorem decode_drop (s:ByteArray) (pos:Nat):Utf8.decode s pos=dec (s.data.toList.drop pos):=by
 have hg:∀ k,((⟨(s.data.toList.drop pos).toArray⟩:ByteArray).get! (0 + k))=s.get! (pos + k):=by
  intro k
  rw [Nat.zero_add,get_list]
  show _=s.data[pos + k]!
  rw [List.getD_eq_getElem?_getD,List.getElem?_drop,getElem!_def]
  simp only [Array.getElem?_toList]
  cases s.data[pos + k]? <;> rfl
 have hl:∀ k,(0 + k < (⟨(s.data.toList.drop pos).toArray⟩:ByteArray).size)=(pos + k < s.size):=by
  intro k
  have h1:(⟨(s.data.toList.drop pos).toArray⟩:ByteArray).size=s.size - pos:=by
   show (s.data.toList.drop pos).toArray.size=s.data.size - pos
   rw [List.size_toArray,List.length_drop,Array.length_toList]
  rw [h1]
  apply propext
  omega
 unfold dec Utf8.decode
 simp only [hg,hl]
theorem dec_width {l:List UInt8} (h:l ≠ []):1≤(dec l).2∧(dec l).2≤l.length:=by
 have h0:0 < l.length:=by cases l with | nil=>exact absurd rfl h | cons=>simp
 have hc:∀ k,cont l k=true→k < l.length:=by intro k hk;unfold cont at hk;simp at hk;exact hk.1
 rw [dec_eq]
 split
 · exact ⟨Nat.le_refl _,h0⟩
 · split
   · rename_i h1
     simp only [Bool.and_eq_true] at h1
     have := hc 1 h1.2
     split <;> simp only <;> omega
   · split
     · rename_i h1
       simp only [Bool.and_eq_true] at h1
       have := hc 2 h1.2
       split <;> simp only <;> omega
     · split
       · rename_i h1
         simp only [Bool.and_eq_true] at h1
         have := hc 3 h1.2
         split <;> simp only <;> omega
       · exact ⟨Nat.le_refl _,h0⟩
def rsF:Nat→List UInt8→List (Nat × Nat)
 | 0,_=>[]
 | f + 1,l=>if l=[] then [] else dec l :: rsF f (l.drop (dec l).2)
def rs (l:List UInt8):List (Nat × Nat):=rsF l.length l
theorem rsF_more:∀ (f:Nat) (l:List UInt8),l.length≤f→rsF f l=rsF l.length l
 | 0,l,h=>by
  have : l=[]:=List.eq_nil_of_length_eq_zero (by omega)
  subst this;rfl
 | f + 1,l,h=>by
  rcases l with _ | ⟨x,l⟩
  · rfl
  · have hw:=dec_width (l:=x :: l) (by simp)
    simp only [List.length_cons] at h hw ⊢
    simp only [rsF,if_neg (show ¬ x :: l=[] by simp)]
    rw [rsF_more f _ (by simp;omega),rsF_more l.length _ (by simp;omega)]
theorem rs_nil:rs []=[]:=rfl
theorem rs_cons {l:List UInt8} (h:l ≠ []):rs l=dec l :: rs (l.drop (dec l).2):=by
 have hw:=dec_width h
 rcases l with _ | ⟨x,l⟩
 · exact absurd rfl h
 · unfold rs
   simp only [List.length_cons] at hw ⊢
   simp only [rsF,if_neg (show ¬ x :: l=[] by simp)]
   rw [rsF_more l.length _ (by simp;omega)]
theorem rs_len_le:∀ (n:Nat) (l:List UInt8),l.length≤n→(rs l).length≤l.length
 | 0,l,h=>by
  have : l=[]:=List.eq_nil_of_length_eq_zero (by omega)
  subst this;simp [rs_nil]
 | n + 1,l,h=>by
  by_cases h0:l=[]
  · subst h0;simp [rs_nil]
  · have hw:=dec_width h0
    have := rs_len_le n (l.drop (dec l).2) (by simp;omega)
    rw [rs_cons h0]
    simp only [List.length_cons,List.length_drop] at this ⊢
    omega
def okRunes (l:List UInt8):Bool:=(rs l).all fun d=>kind d.1 != 0
def mayL (l:List UInt8):Bool:=decide (l.length≤20) && okRunes l
def plainOf (d:Nat × Nat):List UInt8:=if 1≤kind d.1∧kind d.1≤3 then [UInt8.ofNat d.1] else [63]
def plainL (l:List UInt8):List UInt8:=(rs l).flatMap plainOf
def cutF:Nat→List UInt8→Int→Nat
 | 0,_,_=>0
 | f + 1,l,m=>if l=[] ∨ dec l=(65533,1) ∨ m < ((dec l).2:Int) then 0 else (dec l).2 + cutF f (l.drop (dec l).2) (m - (dec l).2)
def cutL (l:List UInt8) (m:Int):Nat:=cutF l.length l m
theorem cutF_more:∀ (f:Nat) (l:List UInt8) (m:Int),l.length≤f→cutF f l m=cutF l.length l m
 | 0,l,m,h=>by
  have : l=[]:=List.eq_nil_of_length_eq_zero (by omega)
  subst this;rfl
 | f + 1,l,m,h=>by
  rcases l with _ | ⟨x,l⟩
  · simp [cutF]
  · have hw:=dec_width (l:=x :: l) (by simp)
    simp only [List.length_cons] at h hw ⊢
    simp only [cutF]
    split
    · rfl
    · rw [cutF_more f _ _ (by simp;omega),cutF_more l.length _ _ (by simp;omega)]
theorem cutL_stop {l:List UInt8} {m:Int} (h:l=[] ∨ dec l=(65533,1) ∨ m < ((dec l).2:Int)):cutL l m=0:=by
 unfold cutL
 rcases l with _ | ⟨x,l⟩
 · rfl
 · simp only [List.length_cons,cutF,if_pos h]
theorem cutL_go {l:List UInt8} {m:Int} (h:¬ (l=[] ∨ dec l=(65533,1) ∨ m < ((dec l).2:Int))):cutL l m=(dec l).2 + cutL (l.drop (dec l).2) (m - (dec l).2):=by
 have h0:l ≠ []:=fun e=>h (.inl e)
 have hw:=dec_width h0
 unfold cutL
 rcases l with _ | ⟨x,l⟩
 · exact absurd rfl h0
 · simp only [List.length_cons] at hw ⊢
   simp only [cutF,if_neg h]
   rw [cutF_more l.length _ _ (by simp;omega)]
end Go.Proofs.YtjddbjmcjhjpiaaGreatDoor.M
namespace Go.Proofs.YtjddbjmcjhjpiaaGreatDoor
set_option maxRecDepth 100000
set_option maxHeartbeats 2000000
open Go.RowKit M

def bl (s:ByteArray):List UInt8:=s.data.toList
theorem bl_length (s:ByteArray):(bl s).length=s.size:=by show s.data.toList.length=s.data.size;simp
theorem bl_drop_ne {s:ByteArray} {pos:Nat} (h:pos < s.size):(bl s).drop pos ≠ []:=by
 intro e
 have := congrArg List.length e
 rw [List.length_drop,bl_length] at this
 simp at this
 omega
theorem bl_drop_end {s:ByteArray} {pos:Nat} (h:¬ pos < s.size):(bl s).drop pos=[]:=List.drop_eq_nil_of_le (by rw [bl_length];omega)
theorem step_width {s:ByteArray} {pos:Nat} (h:pos < s.size):1≤(dec ((bl s).drop pos)).2∧pos + (dec ((bl s).drop pos)).2≤s.size:=by
 have := dec_width (bl_drop_ne h)
 rw [List.length_drop,bl_length] at this
 omega
theorem rs_step {s:ByteArray} {pos:Nat} (h:pos < s.size):rs ((bl s).drop pos)=dec ((bl s).drop pos) :: rs ((bl s).drop (pos + (dec ((bl s).drop pos)).2)):=by
 rw [rs_cons (bl_drop_ne h),List.drop_drop]

theorem Len_any (s:ByteArray) (w:World) (hs:s.size≤1000000):Calls Tryz.prog 145 #[.string s] w fun e w' => e=.returned (.int .i64 ((rs (bl s)).length:Nat))∧Below w.heap.size w w' := by
 have hle:=rs_len_le _ (bl s) (Nat.le_refl _)
 rw [bl_length] at hle
 obtain ⟨total,ht⟩:∃ t,t=(rs (bl s)).length:=⟨_,rfl⟩
 rw [← ht] at hle ⊢
 have HT:=jzD ht
 clear ht
 go_enter Tryz.func145,Tryz.ntmps145
 go_wp2
 go_loopw [3] (fun n wr=>∃ (pos c:Nat),pos≤s.size∧n=.int .i64 c∧c + (rs ((bl s).drop pos)).length=total∧wr.heap[w.heap.size]?=some (.stringIter s pos)∧Below w.heap.size w wr) (fun _ wr=>s.size - wr.iterPos w.heap.size)
 case atStart=>exact ⟨0,0,by omega,rfl,by rw [HT.out];simp,World.iter_heap w s 0,(Below.refl _ w).alloc (Nat.le_refl _) _⟩
 case round =>
  obtain ⟨pos,c,hp0,rfl,hc,hit,hbw⟩:=hrel
  have HC:=jzD hc
  have hcl:c≤total:=by omega
  have HIT:=jzD hit
  have HBW:=jzD hbw
  clear hc hit hbw
  by_cases hp:pos < s.size
  · have hnx:∀ ty,(Instr.next (.pointer (some ⟨w.heap.size,0,none⟩)) true ty).run Tryz.prog wr=_:=fun ty=>Lib.run_next_any_at wr w.heap.size s pos ty HIT.out hp
    have hw:=step_width hp
    have hr:=rs_step hp
    have hd:=decode_drop s pos
    have HD:=jzD hd
    have hit2:=Lib.iterAt_heap wr w.heap.size s pos (pos + (Utf8.decode s pos).2) HIT.out
    have hbw2:=Lib.below_iterAt HBW.out (k:=w.heap.size) (Nat.le_refl _) s (pos + (Utf8.decode s pos).2)
    have HIT2:=jzD hit2
    have HBW2:=jzD hbw2
    have HR:=jzD hr
    clear hit2 hbw2 hr hd
    go_wp2
    go_roundw
    case rel=>exact ⟨pos + (Utf8.decode s pos).2,c + 1,by rw [HD.out];exact hw.2,by go_num,by have := HC.out;rw [HR.out] at this;rw [HD.out];simp only [List.length_cons] at this;show c + 1 + (rs ((bl s).drop (pos + (dec ((bl s).drop pos)).2))).length=total;omega,HIT2.out,HBW2.out⟩
    case measure =>
     simp only [World.iterPos,HIT2.out,HIT.out]
     have : Utf8.decode s pos=dec ((bl s).drop pos):=HD.out
     rw [this]
     omega
  · have hnx:∀ ty,(Instr.next (.pointer (some ⟨w.heap.size,0,none⟩)) true ty).run Tryz.prog wr=_:=fun ty=>Lib.run_next_end_at wr w.heap.size s pos ty HIT.out hp
    have he:=HC.out
    rw [bl_drop_end hp,rs_nil] at he
    simp only [List.length_nil,Nat.add_zero] at he
    subst he
    go_wp2
    go_ret
    exact ⟨rfl,HBW.out⟩
end Go.Proofs.YtjddbjmcjhjpiaaGreatDoor
namespace Go.Proofs.YtjddbjmcjhjpiaaGreatDoor
set_option maxRecDepth 100000
set_option maxHeartbeats 2000000
open Go.RowKit M

theorem ok_step {s:ByteArray} {pos:Nat} (h:pos < s.size):okRunes ((bl s).drop pos)=((kind (dec ((bl s).drop pos)).1 != 0) && okRunes ((bl s).drop (pos + (dec ((bl s).drop pos)).2))):=by
 unfold okRunes
 rw [rs_step h]
 rfl

theorem May_any (s:ByteArray) (w:World):Calls Tryz.prog 73 #[.string s] w fun e w' => e=.returned (.bool (mayL (bl s)))∧Below w.heap.size w w' := by
 by_cases h20:s.size≤20
 · have hm:mayL (bl s)=okRunes (bl s):=by unfold mayL;rw [bl_length,decide_eq_true h20];rfl
   rw [hm]
   obtain ⟨b,hb⟩:∃ b,b=okRunes (bl s):=⟨_,rfl⟩
   rw [← hb]
   have HB:=jzD hb
   clear hm hb
   go_enter Tryz.func73,Tryz.ntmps73
   go_wp2
   go_loopw [] (fun wr=>∃ pos:Nat,pos≤s.size∧okRunes ((bl s).drop pos)=b∧wr.heap[w.heap.size]?=some (.stringIter s pos)∧Below w.heap.size w wr) (fun wr=>s.size - wr.iterPos w.heap.size)
   case atStart=>exact ⟨0,by omega,by rw [HB.out];simp,World.iter_heap w s 0,(Below.refl _ w).alloc (Nat.le_refl _) _⟩
   case round =>
    obtain ⟨pos,hp0,hc,hit,hbw⟩:=hrel
    have HC:=jzD hc
    have HIT:=jzD hit
    have HBW:=jzD hbw
    clear hc hit hbw
    by_cases hp:pos < s.size
    · have hnx:∀ ty,(Instr.next (.pointer (some ⟨w.heap.size,0,none⟩)) true ty).run Tryz.prog wr=_:=fun ty=>Lib.run_next_any_at wr w.heap.size s pos ty HIT.out hp
      have hw:=step_width hp
      have HR:=jzD (ok_step hp)
      have hd:Utf8.decode s pos=dec ((bl s).drop pos):=decode_drop s pos
      have hit2:=Lib.iterAt_heap wr w.heap.size s pos (pos + (Utf8.decode s pos).2) HIT.out
      have hbw2:=Lib.below_iterAt HBW.out (k:=w.heap.size) (Nat.le_refl _) s (pos + (Utf8.decode s pos).2)
      rw [hd] at hnx hit2 hbw2
      have HIT2:=jzD hit2
      have HBW2:=jzD hbw2
      clear hit2 hbw2 hd
      generalize hdd:dec ((bl s).drop pos)=d at *
      clear hdd
      rcases hk:(kind (d.1:Int) != 0) with _ | _
      · have t1:(((kind (d.1:Int):Nat):Int) == 0)=true:=by
         rw [bne_eq_false_iff_eq] at hk
         rw [hk];rfl
        have hb:b=false:=by rw [← HC.out,HR.out,hk];rfl
        subst hb
        clear hk
        go_wp2_with (go_at_call 95;refine (Kind_any (d.1:Int) _).mono ?_;rintro e w' ⟨rfl,rfl⟩)
        go_ret
        exact ⟨rfl,HBW2.out⟩
      · have t1:(((kind (d.1:Int):Nat):Int) == 0)=false:=by
         rw [bne_iff_ne] at hk
         rw [beq_eq_false_iff_ne];omega
        have hc2:okRunes ((bl s).drop (pos + d.2))=b:=by rw [← HC.out,HR.out,hk];rfl
        have HC2:=jzD hc2
        clear hc2 hk
        go_wp2_with (go_at_call 95;refine (Kind_any (d.1:Int) _).mono ?_;rintro e w' ⟨rfl,rfl⟩)
        go_roundw
        case rel=>exact ⟨pos + d.2,hw.2,HC2.out,HIT2.out,HBW2.out⟩
        case measure =>
         simp only [World.iterPos,HIT2.out,HIT.out]
         omega
    · have hnx:∀ ty,(Instr.next (.pointer (some ⟨w.heap.size,0,none⟩)) true ty).run Tryz.prog wr=_:=fun ty=>Lib.run_next_end_at wr w.heap.size s pos ty HIT.out hp
      have he:=HC.out
      rw [bl_drop_end hp] at he
      have hb:b=true:=by rw [← he];rfl
      subst hb
      clear he
      go_wp2
      go_ret
      exact ⟨rfl,HBW.out⟩
 · have hm:mayL (bl s)=false:=by unfold mayL;rw [bl_length,decide_eq_false h20];rfl
   rw [hm]
   clear hm
   have hd:(20:Int) < (s.size:Int):=by omega
   go_enter Tryz.func73,Tryz.ntmps73
   go_wp2
   go_ret
   exact ⟨rfl,Below.refl _ _⟩
end Go.Proofs.YtjddbjmcjhjpiaaGreatDoor
namespace Go.Proofs.YtjddbjmcjhjpiaaGreatDoor
set_option maxRecDepth 100000
set_option maxHeartbeats 2000000
open Go.RowKit M

def Iters (w w' : World):Prop:=∀ (k:Nat) (s:ByteArray) (pos:Nat),w.heap[k]?=some (.stringIter s pos)→w'.heap[k]?=some (.stringIter s pos)
theorem Iters.refl (w:World):Iters w w:=fun _ _ _ h=>h
theorem Iters.trans {a b c:World} (h:Iters a b) (k:Iters b c):Iters a c:=fun i s p hi=>k i s p (h i s p hi)

def IsB (w:World) (B g:Nat) (l:List UInt8):Prop :=
 B≤g∧∃ p v,w.heap[g]?=some (.cells [p,v].toArray 181 (0,0))∧(p=.pointer none ∨ p=.pointer (some ⟨g,0,none⟩))∧Own w B v l∧v.ownBlock ≠ some g
theorem bld_cell {w:World} {g:Nat} {cs:List Value} {t:TypeId} (h:w.heap[g]?=some (.cells cs.toArray t (0,0))) (i:Nat):w.cell? ⟨g,i,none⟩=cs[i]?:=by
 have := cell_of_row w g i cs.toArray t (0,0) h
 simpa using this
theorem bld_set {w:World} {g:Nat} {cs:List Value} {t:TypeId} (h:w.heap[g]?=some (.cells cs.toArray t (0,0))) (i:Nat) (u:Value):(w.setCell ⟨g,i,none⟩ u).heap[g]?=some (.cells (cs.set i u).toArray t (0,0)):=by
 simp [World.setCell,Array.getElem?_modify,h]
theorem bld_free {w:World} {g:Nat} {cs:Array Value} {t:TypeId} (h:w.heap[g]?=some (.cells cs t (0,0))) (i:Nat):w.frozen? ⟨g,i,none⟩=false:=by
 simp [World.frozen?,h]
theorem bld_shape {w:World} {g:Nat} {cs:Array Value} {t:TypeId} (h:w.heap[g]?=some (.cells cs t (0,0))):w.shape? g=some (t,cs.size):=by
 simp [World.shape?,h]
theorem Own.setO {w:World} {base:Nat} {v:Value} {l:List UInt8} (h:Own w base v l) (p:Addr) (u:Value) (hp:v.ownBlock ≠ some p.block):Own (w.setCell p u) base v l:=by
 refine ⟨h.1,?_⟩
 rcases h.2 with h2 | ⟨g,cap,cur,rfl,hb,hh,r⟩
 · exact .inl h2
 · refine .inr ⟨g,cap,cur,rfl,hb,?_,r⟩
   rw [Below.heap_setCell _ _ _ _ (by simpa [Value.ownBlock] using hp)]
   exact hh
theorem iters_set {w:World} {g:Nat} {cs:Array Value} {t:TypeId} (h:w.heap[g]?=some (.cells cs t (0,0))) (i:Nat) (u:Value):Iters w (w.setCell ⟨g,i,none⟩ u):=by
 intro k s pos hk
 rw [Below.heap_setCell _ _ _ _ (by rintro rfl;rw [h] at hk;cases hk)]
 exact hk
theorem iters_grown {w w' : World} {base:Nat} {v:Value} {l:List UInt8} (h:Own w base v l) (hg:w.grownBy w' v.ownBlock):Iters w w' := by
 intro k s pos hk
 have hlt:=(Array.getElem?_eq_some_iff.1 hk).1
 rw [hg.block k hlt ?_]
 · exact hk
 · intro e
   rcases h.2 with ⟨rfl,_⟩ | ⟨g,cap,cur,rfl,hb,hh,r⟩
   · cases e
   · injection e with e
     subst e
     rw [hh] at hk
     cases hk
theorem iters_alloc (w:World) (o:Obj):Iters w (w.alloc o):=by
 intro k s pos hk
 have hlt:=(Array.getElem?_eq_some_iff.1 hk).1
 rw [Below.heap_alloc _ _ _ hlt]
 exact hk
theorem bld_info:(Tryz.prog.info? 181).map (·.size)=some 2:=by kernel_rfl
theorem bld_lies:liesAt Tryz.prog Tryz.prog.depth 181 (2 / Tryz.prog.cellsOf 181) 0 181 1=true:=by kernel_rfl

theorem copyCheck_any (B g:Nat) (l:List UInt8) (w:World) (h:IsB w B g l):Calls Tryz.prog 154 #[.pointer (some ⟨g,0,none⟩)] w fun e w' => e=.returned (.tuple #[])∧(∃ v,w'.heap[g]?=some (.cells [.pointer (some ⟨g,0,none⟩),v].toArray 181 (0,0))∧Own w' B v l∧v.ownBlock ≠ some g)∧Below B w w' ∧ Iters w w' := by
 obtain ⟨hB,p,v,hh,hp,ho,hne⟩:=h
 obtain ⟨j,hj,hjs⟩:=Option.map_eq_some_iff.1 bld_info
 have c0:w.cell? ⟨g,0,none⟩=some p:=by rw [bld_cell hh];rfl
 have f0:=bld_free hh 0
 have hsh:=bld_shape hh
 have HH:=jzD hh
 have HO:=jzD ho
 clear hh ho
 rcases hp with rfl | rfl
 · go_enter Tryz.func154,Tryz.ntmps154
   go_wp2
   rw [Lib.run_to_unsafe w ⟨g,0,none⟩ Tryz.underlying179 Tryz.underlying241 hj (by rw [hjs];decide) hsh (Nat.zero_lt_succ 1)]
   simp only [Result.andThen]
   rw [Oper.upon_value]
   go_wp2
   rw [run_callFunc_extern Tryz.func178 (by kernel_rfl) (by kernel_rfl) (by kernel_rfl) (e:=Extern.AbiNoEscape.same) (by kernel_rfl)]
   rw [Lib.run_noEscape]
   simp only [Result.andThen]
   rw [Oper.upon_value]
   go_wp2
   rw [Lib.run_from_unsafe w ⟨g,0,none⟩ Tryz.underlying241 Tryz.underlying179 hj hsh bld_lies]
   simp only [Result.andThen]
   rw [Oper.upon_value]
   go_wp2
   go_end0
   exact ⟨rfl,⟨v,bld_set HH.out 0 _,HO.out.setO ⟨g,0,none⟩ _ hne,hne⟩,(Below.refl B w).setCell (p:=⟨g,0,none⟩) hB _,iters_set HH.out 0 _⟩
 · go_enter Tryz.func154,Tryz.ntmps154
   go_wp2
   rw [Lib.run_neq_ptr_same w _ Tryz.underlying179 hj]
   go_wp2
   go_end0
   exact ⟨rfl,⟨v,HH.out,HO.out,hne⟩,Below.refl _ _,Iters.refl _⟩

theorem isB_put {w:World} {B g:Nat} {p v v' : Value} {l:List UInt8} (hB:B≤g) (h:w.heap[g]?=some (.cells [p,v].toArray 181 (0,0))) (hp:p=.pointer none ∨ p=.pointer (some ⟨g,0,none⟩)) (ho:Own w B v' l) (hne:v'.ownBlock ≠ some g):IsB (w.setCell ⟨g,1,none⟩ v') B g l :=
 ⟨hB,p,v', bld_set h 1 v', hp,ho.setO ⟨g,1,none⟩ _ hne,hne⟩

theorem bld_app {w1 w2:World} {B g:Nat} {p v v2:Value} {l m:List UInt8} (hB:B≤g) (hh:w1.heap[g]?=some (.cells [p,v].toArray 181 (0,0))) (hp:p=.pointer none ∨ p=.pointer (some ⟨g,0,none⟩)) (ho:Own w1 B v l) (hne:v.ownBlock ≠ some g) (hz:B≤w1.heap.size) {o:Obj}
 (h2:Own w2 B v2 m) (hg:(w1.alloc o).grownBy w2 v.ownBlock) (hat:v2.ownBlock=v.ownBlock ∨ v2.ownBlock=some (w1.alloc o).heap.size) :
 w2.heap[g]?=some (.cells [p,v].toArray 181 (0,0))∧IsB (w2.setCell ⟨g,1,none⟩ v2) B g m∧Below B w1 (w2.setCell ⟨g,1,none⟩ v2)∧Iters w1 (w2.setCell ⟨g,1,none⟩ v2):=by
 have hlt:g < w1.heap.size:=(Array.getElem?_eq_some_iff.1 hh).1
 have hh2:w2.heap[g]?=some (.cells [p,v].toArray 181 (0,0)):=by
  rw [hg.block g (by simp;omega) (fun e=>hne e.symm),Below.heap_alloc _ _ _ hlt]
  exact hh
 have hne2:v2.ownBlock ≠ some g:=by
  rcases hat with e | e
  · rw [e];exact hne
  · rw [e]
    intro e'
    injection e' with e'
    simp at e'
    omega
 refine ⟨hh2,isB_put hB hh2 hp h2 hne2,?_,?_⟩
 · exact (((Below.refl _ _).alloc hz o).grown hg (by simp;omega) (fun k hk=>(ho.lt k hk).1)).setCell (p:=⟨g,1,none⟩) hB _
 · exact ((iters_alloc w1 o).trans (iters_grown (ho.alloc o) hg)).trans (iters_set hh2 1 _)

theorem WriteByte_any (B g:Nat) (l:List UInt8) (c:UInt8) (w:World) (h:IsB w B g l) (hz:B≤w.heap.size) (hl:l.length≤1000000):Calls Tryz.prog 129 #[.pointer (some ⟨g,0,none⟩),.int .u8 (c.toNat:Int)] w fun e w' => e=.returned .nilIface∧IsB w' B g (l ++ [c])∧Below B w w' ∧ Iters w w' := by
 have hB:=h.1
 have H:=jzD h
 clear h
 go_enter Tryz.func129,Tryz.ntmps129
 go_wp2_with (go_at_call 154;refine (copyCheck_any B g l _ H.out).mono ?_)
 rintro e w1 ⟨rfl,⟨v,hh,ho,hne⟩,hb1,hi1⟩
 have c1:w1.cell? ⟨g,1,none⟩=some v:=by rw [bld_cell hh];rfl
 have hz1:=hb1.size
 have HH:=jzD hh
 have HO:=jzD ho
 have HB1:=jzD hb1
 clear hh ho hb1
 go_wp2_with (at_builtin;(refine wpList_app rfl (.tmp 11) (.tmp 13) rfl B v (.slice (some ⟨w1.heap.size,0,none⟩) 1 1) l [c] rfl rfl (HO.out.alloc _) (Own.built w1 [c] 0 (Nat.zero_le _) (by simp [maxLen])).rds (by simp;omega) (by simp;omega) ?_;intro v2 w2 hown2 hg2 hat2;have HF:=jzD (bld_app hB HH.out (.inr rfl) HO.out hne (by omega) hown2 hg2 hat2);have d1:w2.cell? ⟨g,1,none⟩=some v:=(by rw [bld_cell HF.out.1];rfl);have f1:=bld_free HF.out.1 1;obtain ⟨A2,n2,rfl,_,_,_⟩:=hown2.rds;clear hown2 hg2 hat2))
 go_ret
 refine ⟨rfl,?_,?_,?_⟩
 · simpa using HF.out.2.1
 · simpa using HB1.out.trans HF.out.2.2.1
 · simpa using hi1.trans HF.out.2.2.2

theorem AppendRune_ascii (B:Nat) (v:Value) (l:List UInt8) (r:Nat) (w:World) (ho:Own w B v l) (hz:B≤w.heap.size) (hl:l.length≤1000000) (hr:r < 128):Calls Tryz.prog 195 #[v,.int .i32 (r:Int)] w fun e w' => ∃ v' o,e=.returned v' ∧ Own w' B v' (l ++ [UInt8.ofNat r])∧(w.alloc o).grownBy w' v.ownBlock∧(v'.ownBlock=v.ownBlock ∨ v'.ownBlock=some (w.alloc o).heap.size):=by
 have hw1:IntKind.u32.wrap (r:Int)=(r:Int):=by rw [IntKind.wrap_u32];omega
 have hw2:IntKind.u8.wrap (r:Int)=((UInt8.ofNat r).toNat:Int):=by rw [IntKind.wrap_u8,UInt8.toNat_ofNat'];omega
 have hrl:(UInt8.ofNat r).toNat < 256:=UInt8.toNat_lt _
 have HO:=jzD ho
 clear ho
 generalize UInt8.ofNat r=c at *
 go_enter Tryz.func195,Tryz.ntmps195
 go_wp2_with (at_builtin;(refine wpList_app rfl (.tmp 8) (.tmp 11) rfl B v (.slice (some ⟨w.heap.size,0,none⟩) 1 1) l [c] rfl rfl (HO.out.alloc _) (Own.built w [c] 0 (Nat.zero_le _) (by simp [maxLen])).rds (by simp;omega) (by simp;omega) ?_;intro v2 w2 hown2 hg2 hat2))
 go_ret
 exact ⟨v2,_,rfl,hown2,hg2,hat2⟩
end Go.Proofs.YtjddbjmcjhjpiaaGreatDoor
namespace Go.Proofs.YtjddbjmcjhjpiaaGreatDoor
set_option maxRecDepth 100000
set_option maxHeartbeats 2000000
open Go.RowKit M

theorem WriteRune_ascii (B g:Nat) (l:List UInt8) (r:Nat) (w:World) (h:IsB w B g l) (hz:B≤w.heap.size) (hl:l.length≤1000000) (hr:r < 128):Calls Tryz.prog 164 #[.pointer (some ⟨g,0,none⟩),.int .i32 (r:Int)] w fun e w' => e=.returned (.tuple #[.int .i64 1,.nilIface])∧IsB w' B g (l ++ [UInt8.ofNat r])∧Below B w w' ∧ Iters w w' := by
 have hB:=h.1
 have H:=jzD h
 clear h
 go_enter Tryz.func164,Tryz.ntmps164
 go_wp2_with (go_at_call 154;refine (copyCheck_any B g l _ H.out).mono ?_)
 rintro e w1 ⟨rfl,⟨v,hh,ho,hne⟩,hb1,hi1⟩
 obtain ⟨A1,n1,rfl,_,_,_⟩:=ho.rds
 have c1:w1.cell? ⟨g,1,none⟩=some (.slice A1 l.length n1):=by rw [bld_cell hh];rfl
 have hz1:=hb1.size
 have HH:=jzD hh
 have HO:=jzD ho
 have HB1:=jzD hb1
 have HN:=jzD hne
 clear hh ho hb1 hne
 go_wp2_with (go_at_call 195;(refine (AppendRune_ascii B _ l r _ HO.out (by omega) hl hr).mono ?_;rintro e w2 ⟨v2,o2,rfl,hown2,hg2,hat2⟩;have HF:=jzD (bld_app hB HH.out (.inr rfl) HO.out HN.out (by omega) hown2 hg2 hat2);have d1:w2.cell? ⟨g,1,none⟩=some (.slice A1 l.length n1):=(by rw [bld_cell HF.out.1];rfl);have f1:=bld_free HF.out.1 1;obtain ⟨A2,n2,rfl,_,_,_⟩:=hown2.rds;clear hown2 hg2 hat2))
 go_ret2
 refine ⟨by simp;omega,?_,?_,?_⟩
 · simpa using HF.out.2.1
 · simpa using HB1.out.trans HF.out.2.2.1
 · simpa using hi1.trans HF.out.2.2.2

theorem isB_lib {w:World} {B g:Nat} {l:List UInt8} (h:IsB w B g l):Lib.IsBuilderF 181 5 B g (Lib.byteCells l) w:=by
 obtain ⟨hB,p,v,hh,hp,ho,hne⟩:=h
 have hf:w.ownsRowF B 5 1 v (Lib.byteCells l).length (Lib.byteCells l):=by
  have := World.ownsRowF_of ho
  rw [Lib.byteCells_length]
  exact this
 rcases hp with rfl | rfl
 · exact .inl ⟨hB,v,hh,hf,hne⟩
 · exact .inr ⟨hB,v,hh,hf,hne⟩
theorem String_any (B g:Nat) (l:List UInt8) (w:World) (h:IsB w B g l) (hz:B≤w.heap.size):Calls Tryz.prog 131 #[.pointer (some ⟨g,0,none⟩)] w fun e w' => e=.returned (.string ⟨l.toArray⟩)∧Below B w w' :=
 (Tryz.Builder_String_any_k B g l w (isB_lib h) hz).mono fun _ _ h=>⟨h.1,h.2.2.1⟩
end Go.Proofs.YtjddbjmcjhjpiaaGreatDoor
namespace Go.Proofs.YtjddbjmcjhjpiaaGreatDoor.M
set_option maxRecDepth 100000
set_option maxHeartbeats 2000000
theorem dec_len {l:List UInt8}:dec l=(65533,1) ∨ Lib.runeLen ((dec l).1:Int)=((dec l).2:Int):=by
 have h1:∀ r:Nat,r < 128→Lib.runeLen (r:Int)=1:=by intro r h;unfold Lib.runeLen;rw [if_neg (by omega),if_pos (by omega)]
 have h2:∀ r:Nat,128≤r→r≤2047→Lib.runeLen (r:Int)=2:=by intro r h h'; unfold Lib.runeLen;rw [if_neg (by omega),if_neg (by omega),if_pos (by omega)]
 have h3:∀ r:Nat,2048≤r→(r < 55296 ∨ 57344≤r)→r≤65535→Lib.runeLen (r:Int)=3:=by intro r h h' h''; unfold Lib.runeLen;rw [if_neg (by omega),if_neg (by omega),if_neg (by omega),if_neg (by omega),if_pos (by omega)]
 have h4:∀ r:Nat,65536≤r→r≤1114111→Lib.runeLen (r:Int)=4:=by intro r h h'; unfold Lib.runeLen;rw [if_neg (by omega),if_neg (by omega),if_neg (by omega),if_neg (by omega),if_neg (by omega),if_pos (by omega)]
 rw [dec_eq]
 split
 · rename_i h;exact .inr (h1 _ h)
 · split
   · split
     · rename_i h;exact .inr (h2 _ h (by omega))
     · exact .inl rfl
   · split
     · split
       · rename_i h;exact .inr (h3 _ h.1 h.2 (by omega))
       · exact .inl rfl
     · split
       · split
         · rename_i h;exact .inr (h4 _ h.1 h.2)
         · exact .inl rfl
       · exact .inl rfl
theorem dec_own {l:List UInt8} (h0:l ≠ []) (h:(dec l).1=65533):dec l=(65533,1)∧Lib.hasPrefix l [239,191,189]=false ∨ (dec l).2=3∧Lib.hasPrefix l [239,191,189]=true:=by
 have hp:Lib.hasPrefix l [239,191,189]=true ↔ at_ l 0=239∧at_ l 1=191∧at_ l 2=189∧2 < l.length:=by
  unfold Lib.hasPrefix at_
  have key:∀ (a:UInt8) (n:Nat),a.toNat=n ↔ a=UInt8.ofNat n∧n < 256:=by
   intro a n
   constructor
   · rintro rfl;exact ⟨by simp,a.toNat_lt⟩
   · rintro ⟨rfl,h⟩;simp;omega
  rcases l with _ | ⟨a,_ | ⟨b,_ | ⟨c,l⟩⟩⟩
  · simp
  · simp [List.isPrefixOf]
  · simp [List.isPrefixOf]
  · simp only [List.isPrefixOf,List.getD_cons_zero,List.getD_cons_succ,Bool.and_eq_true,beq_iff_eq,List.length_cons,key]
    simp
    constructor
    · rintro ⟨h1,h2,h3⟩;exact ⟨h1.symm,h2.symm,h3.symm⟩
    · rintro ⟨h1,h2,h3⟩;exact ⟨h1.symm,h2.symm,h3.symm⟩
 by_cases h1:dec l=(65533,1)
 · left
   refine ⟨h1,?_⟩
   rw [Bool.eq_false_iff]
   intro hpt
   obtain ⟨a0,a1,a2,hl⟩:=hp.1 hpt
   have c1:cont l 1=true:=by unfold cont;simp;omega
   have c2:cont l 2=true:=by unfold cont;simp;omega
   have := dec3 (l:=l) (by omega) c1 c2
   rw [a0,a1,a2,if_neg (by omega)] at this
   rw [this] at h1
   simp at h1
 · right
   have hw:(dec l).2=3:=by
    rcases dec_len (l:=l) with h2 | h2
    · exact absurd h2 h1
    · rw [h] at h2
      have : Lib.runeLen ((65533:Nat):Int)=3:=by decide
      omega
   refine ⟨hw,hp.2 ?_⟩
   rw [dec_eq] at h hw
   split at hw
   · simp at hw
   · split at hw
     · split at hw <;> simp at hw
     · split at hw
       · rename_i h3 h4 h5
         rw [if_neg h3,if_neg h4,if_pos h5] at h
         split at hw
         · rename_i h6
           rw [if_pos h6] at h
           simp only [Bool.and_eq_true,beq_iff_eq] at h5
           obtain ⟨⟨a0,c1⟩,c2⟩:=h5
           unfold cont at c1 c2
           simp at c1 c2
           simp only at h
           omega
         · simp at hw
       · split at hw
         · split at hw <;> simp at hw
         · simp at hw
end Go.Proofs.YtjddbjmcjhjpiaaGreatDoor.M
namespace Go.Proofs.YtjddbjmcjhjpiaaGreatDoor
set_option maxRecDepth 100000
set_option maxHeartbeats 2000000
open Go.RowKit M

theorem bl_from (s:ByteArray) (pos:Nat):bl (s.extract pos s.size)=(bl s).drop pos:=by
 unfold bl
 rw [ByteArray.data_extract,Array.toList_extract]
 show (s.data.toList.drop pos).take (s.data.size - pos)=_
 rw [List.take_of_length_le (by rw [List.length_drop,Array.length_toList];exact Nat.le_refl _)]
theorem SClone_any (s:ByteArray) (w:World) (hs:s.size≤1000000):Calls Tryz.prog 58 #[.string s] w fun e w' => e=.returned (.string s)∧Below w.heap.size w w' := by
 go_enter Tryz.func58,Tryz.ntmps58
 go_wp2_with (go_at_call 74;refine (Tryz.stringslite_Clone s _ (by omega)).mono ?_;rintro e w' ⟨rfl,hb⟩)
 go_ret
 exact ⟨rfl,hb⟩
theorem broken_any (t:ByteArray) (r:Int) (w:World):Calls Tryz.prog 166 #[.string t,.int .i32 r] w fun e w' => e=.returned (.bool ((r == 65533) && !Lib.hasPrefix (bl t) [239,191,189]))∧w=w' := by
 have hp:=Tryz.strings_HasPrefix t ⟨#[239,191,189]⟩ w
 have HP:=jzD hp
 clear hp
 rcases hr:(r == 65533) with _ | _
 · go_enter Tryz.func166,Tryz.ntmps166
   go_wp2
   go_ret
   exact ⟨rfl,rfl⟩
 · go_enter Tryz.func166,Tryz.ntmps166
   go_wp2_with (go_at_call 196;refine HP.out.mono ?_;rintro e w' ⟨rfl,rfl⟩)
   go_ret
   exact ⟨rfl,rfl⟩

theorem cut_step {s:ByteArray} {pos:Nat} {most:Int} (h:pos < s.size) (h1:dec ((bl s).drop pos) ≠ (65533,1)) (h2:(pos:Int) + ((dec ((bl s).drop pos)).2:Int)≤most) :
 cutL ((bl s).drop pos) (most - pos)=(dec ((bl s).drop pos)).2 + cutL ((bl s).drop (pos + (dec ((bl s).drop pos)).2)) (most - (pos + (dec ((bl s).drop pos)).2:Nat)):=by
 rw [cutL_go (by rintro (e | e | e);exact bl_drop_ne h e;exact h1 e;omega),List.drop_drop]
 congr 2
 omega

theorem Cut_any (s:ByteArray) (most:Int) (w:World) (hs:s.size≤1000000) (hm:(Lit.int .i64 most).wf=true):Calls Tryz.prog 147 #[.string s,.int .i64 most] w fun e w' => e=.returned (.string (s.extract 0 (cutL (bl s) most)))∧Below w.heap.size w w' := by
 have hb:=bounds_i64 hm
 obtain ⟨total,ht⟩:∃ t,t=cutL (bl s) most:=⟨_,rfl⟩
 rw [← ht]
 have HT:=jzD ht
 clear ht hm
 go_enter Tryz.func147,Tryz.ntmps147
 go_wp2
 go_loopw [5] (fun n wr=>∃ pos:Nat,pos≤s.size∧n=.int .i64 pos∧pos + cutL ((bl s).drop pos) (most - pos)=total∧wr.heap[w.heap.size]?=some (.stringIter s pos)∧Below w.heap.size w wr) (fun _ wr=>s.size - wr.iterPos w.heap.size)
 case atStart=>exact ⟨0,by omega,rfl,by rw [HT.out];simp,World.iter_heap w s 0,(Below.refl _ w).alloc (Nat.le_refl _) _⟩
 case round =>
  obtain ⟨pos,hp0,rfl,hc,hit,hbw⟩:=hrel
  have HC:=jzD hc
  have HIT:=jzD hit
  have HBW:=jzD hbw
  have hzw:=hbw.size
  clear hc hit hbw
  have hes:(s.extract 0 pos).size=pos:=by rw [ByteArray.size_extract];omega
  by_cases hp:pos < s.size
  · have hnx:∀ ty,(Instr.next (.pointer (some ⟨w.heap.size,0,none⟩)) true ty).run Tryz.prog wr=_:=fun ty=>Lib.run_next_any_at wr w.heap.size s pos ty HIT.out hp
    have hw:=step_width hp
    have hd:Utf8.decode s pos=dec ((bl s).drop pos):=decode_drop s pos
    have hit2:=Lib.iterAt_heap wr w.heap.size s pos (pos + (Utf8.decode s pos).2) HIT.out
    have hbw2:=Lib.below_iterAt HBW.out (k:=w.heap.size) (Nat.le_refl _) s (pos + (Utf8.decode s pos).2)
    rw [hd] at hnx hit2 hbw2
    have HIT2:=jzD hit2
    have HBW2:=jzD hbw2
    have hlen:=dec_len (l:=(bl s).drop pos)
    have hown:=dec_own (l:=(bl s).drop pos) (bl_drop_ne hp)
    have hstep:=cut_step (most:=most) hp
    have hstop:=fun h=>cutL_stop (l:=(bl s).drop pos) (m:=most - pos) h
    clear hit2 hbw2 hd
    generalize hdd:dec ((bl s).drop pos)=d at *
    have hrl:-1≤Lib.runeLen (d.1:Int)∧Lib.runeLen (d.1:Int)≤4:=by unfold Lib.runeLen;repeat' split;all_goals omega
    obtain ⟨q,hq⟩:∃ q,q=Lib.runeLen (d.1:Int):=⟨_,rfl⟩
    rw [← hq] at hrl hlen
    have HQ:=jzD hq
    have HSTEP:=jzD hstep
    have HSTOP:=jzD hstop
    have HOWN:=jzD hown
    have HLEN:=jzD hlen
    clear hq hstep hstop hown hlen hdd
    have hcall:=fun w=>Tryz.utf8_RuneLen (d.1:Int) w
    rw [← HQ.out] at hcall
    have HCALL:=jzD hcall
    clear hcall
    by_cases hbeh:most < (pos:Int) + q
    · have hst:pos=total:=by
       have h0:cutL ((bl s).drop pos) (most - pos)=0:=HSTOP.out (by rcases HLEN.out with e | e;exact .inr (.inl e);right;right;omega)
       have := HC.out
       rw [h0] at this
       omega
      subst hst
      go_wp2_with (first
       | (go_at_call 165;refine (HCALL.out _).mono ?_;rintro e w' ⟨rfl,rfl⟩)
       | (go_at_call 58;refine (SClone_any (s.extract 0 pos) _ (by omega)).mono ?_;rintro e w2 ⟨rfl,hb2⟩;have HB2:=jzD hb2;clear hb2))
      go_ret
      exact ⟨rfl,HBW2.out.trans (HB2.out.mono (by rw [Lib.iterAt_size];exact hzw))⟩
    · have hbr:=fun w=>broken_any (s.extract pos s.size) (d.1:Int) w
      rw [bl_from] at hbr
      by_cases hbk:d=(65533,1)
      · have hv:(((d.1:Int) == 65533) && !Lib.hasPrefix ((bl s).drop pos) [239,191,189])=true:=by
         rcases HOWN.out (by rw [hbk]) with ⟨_,h2⟩ | ⟨h2,_⟩
         · rw [h2,hbk];rfl
         · rw [hbk] at h2;cases h2
        rw [hv] at hbr
        have HBR:=jzD hbr
        have hst:pos=total:=by
         have h0:cutL ((bl s).drop pos) (most - pos)=0:=HSTOP.out (.inr (.inl hbk))
         have := HC.out
         rw [h0] at this
         omega
        subst hst
        clear hbr hv hbk
        go_wp2_with (first
         | (go_at_call 165;refine (HCALL.out _).mono ?_;rintro e w' ⟨rfl,rfl⟩)
         | (go_at_call 166;refine (HBR.out _).mono ?_;rintro e w' ⟨rfl,rfl⟩)
         | (go_at_call 58;refine (SClone_any (s.extract 0 pos) _ (by omega)).mono ?_;rintro e w2 ⟨rfl,hb2⟩;have HB2:=jzD hb2;clear hb2))
        go_ret
        exact ⟨rfl,HBW2.out.trans (HB2.out.mono (by rw [Lib.iterAt_size];exact hzw))⟩
      · have hql:q=(d.2:Int):=by
         rcases HLEN.out with e | e
         · exact absurd e hbk
         · exact e
        have hv:(((d.1:Int) == 65533) && !Lib.hasPrefix ((bl s).drop pos) [239,191,189])=false:=by
         by_cases h3:d.1=65533
         · rcases HOWN.out h3 with ⟨h2,_⟩ | ⟨_,h2⟩
           · exact absurd h2 hbk
           · rw [h2];simp
         · have : ((d.1:Int) == 65533)=false:=by rw [beq_eq_false_iff_ne];omega
           rw [this];rfl
        rw [hv] at hbr
        have HBR:=jzD hbr
        have hst2:(pos + d.2) + cutL ((bl s).drop (pos + d.2)) (most - (pos + d.2:Nat))=total:=by
         have h0:=HSTEP.out hbk (by omega)
         have := HC.out
         rw [h0] at this
         omega
        have HST2:=jzD hst2
        subst hql
        clear hbr hv hbk hst2
        go_wp2_with (first
         | (go_at_call 165;refine (HCALL.out _).mono ?_;rintro e w' ⟨rfl,rfl⟩)
         | (go_at_call 166;refine (HBR.out _).mono ?_;rintro e w' ⟨rfl,rfl⟩))
        go_roundw
        case rel=>exact ⟨pos + d.2,hw.2,by go_num,HST2.out,HIT2.out,HBW2.out⟩
        case measure =>
         simp only [World.iterPos,HIT2.out,HIT.out]
         omega
  · have hnx:∀ ty,(Instr.next (.pointer (some ⟨w.heap.size,0,none⟩)) true ty).run Tryz.prog wr=_:=fun ty=>Lib.run_next_end_at wr w.heap.size s pos ty HIT.out hp
    have he:=HC.out
    rw [bl_drop_end hp,cutL_stop (.inl rfl)] at he
    simp only [Nat.add_zero] at he
    subst he
    go_wp2_with (go_at_call 58;refine (SClone_any (s.extract 0 pos) _ (by omega)).mono ?_;rintro e w2 ⟨rfl,hb2⟩;have HB2:=jzD hb2;clear hb2)
    go_ret
    exact ⟨rfl,HBW.out.trans (HB2.out.mono hzw)⟩
end Go.Proofs.YtjddbjmcjhjpiaaGreatDoor
namespace Go.Proofs.YtjddbjmcjhjpiaaGreatDoor
set_option maxRecDepth 100000
set_option maxHeartbeats 2000000
open Go.RowKit M

theorem plain_step {s:ByteArray} {pos:Nat} (h:pos < s.size):plainL ((bl s).drop pos)=plainOf (dec ((bl s).drop pos)) ++ plainL ((bl s).drop (pos + (dec ((bl s).drop pos)).2)):=by
 unfold plainL
 rw [rs_step h]
 rfl
theorem kind_ascii {r:Nat} (h:1≤kind r∧kind r≤3):r < 128:=by
 unfold kind at h
 split at h
 · omega
 · split at h
   · omega
   · split at h
     · omega
     · split at h <;> omega
theorem plainOf_len (d:Nat × Nat):(plainOf d).length=1:=by unfold plainOf;split <;> rfl
theorem plain_len (l:List UInt8):(plainL l).length=(rs l).length:=by
 unfold plainL
 induction rs l with
 | nil=>rfl
 | cons d r ih=>simp only [List.flatMap_cons,List.length_append,plainOf_len,ih,List.length_cons];omega

theorem Plain_any (s:ByteArray) (w:World) (hs:s.size≤100000):Calls Tryz.prog 146 #[.string s] w fun e w' => e=.returned (.string ⟨(plainL (bl s)).toArray⟩)∧Below w.heap.size w w' := by
 have hle:=rs_len_le _ (bl s) (Nat.le_refl _)
 rw [bl_length,← plain_len] at hle
 obtain ⟨total,ht⟩:∃ t,t=plainL (bl s):=⟨_,rfl⟩
 rw [← ht] at hle ⊢
 have HT:=jzD ht
 have h0:IsB (w.alloc (.cells #[.pointer none,.slice none 0 0] 181)) w.heap.size w.heap.size []:=⟨Nat.le_refl _,_,_,heap_alloc_new w _,.inl rfl,Own.nil_ _ _,by simp [Value.ownBlock]⟩
 have H0:=jzD h0
 clear ht h0
 go_enter Tryz.func146,Tryz.ntmps146
 go_wp2
 go_loopw [] (fun wr=>∃ (pos:Nat) (acc:List UInt8),pos≤s.size∧acc ++ plainL ((bl s).drop pos)=total∧IsB wr w.heap.size w.heap.size acc∧wr.heap[w.heap.size + 1]?=some (.stringIter s pos)∧Below w.heap.size w wr) (fun wr=>s.size - wr.iterPos (w.heap.size + 1))
 case atStart =>
  refine ⟨0,[],by omega,by rw [HT.out];simp,?_,?_,((Below.refl _ w).alloc (Nat.le_refl _) _).alloc (by simp) _⟩
  · obtain ⟨hB,p,v,hh,hp,ho,hne⟩:=H0.out
    exact ⟨hB,p,v,(Below.heap_alloc _ _ _ (by simp)).trans hh,hp,ho.alloc _,hne⟩
  · have := World.iter_heap (w.alloc (.cells #[.pointer none,.slice none 0 0] 181)) s 0
    simpa using this
 case round =>
  obtain ⟨pos,acc,hp0,hc,hI,hit,hbw⟩:=hrel
  have hsz:w.heap.size + 1 < wr.heap.size:=(Array.getElem?_eq_some_iff.1 hit).1
  have hal:acc.length≤total.length:=by rw [← hc,List.length_append];omega
  have HC:=jzD hc
  have HIT:=jzD hit
  have HBW:=jzD hbw
  have HI:=jzD hI
  clear hc hit hbw hI
  by_cases hp:pos < s.size
  · have hnx:∀ ty,(Instr.next (.pointer (some ⟨w.heap.size + 1,0,none⟩)) true ty).run Tryz.prog wr=_:=fun ty=>Lib.run_next_any_at wr (w.heap.size + 1) s pos ty HIT.out hp
    have hw:=step_width hp
    have HR:=jzD (plain_step hp)
    have hd:Utf8.decode s pos=dec ((bl s).drop pos):=decode_drop s pos
    have hit2:=Lib.iterAt_heap wr (w.heap.size + 1) s pos (pos + (Utf8.decode s pos).2) HIT.out
    have hbw2:=Lib.below_iterAt HBW.out (k:=w.heap.size + 1) (by omega) s (pos + (Utf8.decode s pos).2)
    have hI2:IsB (wr.iterAt (w.heap.size + 1) s (pos + (Utf8.decode s pos).2)) w.heap.size w.heap.size acc:=by
     obtain ⟨hB,p,v,hh,hp,ho,hne⟩:=HI.out
     refine ⟨hB,p,v,(Lib.iterAt_other wr (w.heap.size + 1) _ s _ (by omega)).trans hh,hp,⟨ho.1,?_⟩,hne⟩
     rcases ho.2 with h2 | ⟨g,cap,cur,hv,hb,hh2,r⟩
     · exact .inl h2
     · refine .inr ⟨g,cap,cur,hv,hb,(Lib.iterAt_other wr (w.heap.size + 1) g s _ ?_).trans hh2,r⟩
       rintro rfl
       rw [HIT.out] at hh2
       cases hh2
    have hsz2:w.heap.size≤(wr.iterAt (w.heap.size + 1) s (pos + (Utf8.decode s pos).2)).heap.size:=by rw [Lib.iterAt_size];omega
    rw [hd] at hnx hit2 hbw2 hI2 hsz2
    have HIT2:=jzD hit2
    have HBW2:=jzD hbw2
    have HI2:=jzD hI2
    clear hit2 hbw2 hd hI2
    generalize hdd:dec ((bl s).drop pos)=d at *
    clear hdd
    have key:∀ W1,(acc ++ plainOf d) ++ plainL ((bl s).drop (pos + d.2))=total→IsB W1 w.heap.size w.heap.size (acc ++ plainOf d)→Below w.heap.size (wr.iterAt (w.heap.size + 1) s (pos + d.2)) W1→Iters (wr.iterAt (w.heap.size + 1) s (pos + d.2)) W1→(W1.heap[w.heap.size + 1]?=some (.stringIter s (pos + d.2))∧Below w.heap.size w W1):=by
     intro W1 _ _ h1 h2
     exact ⟨h2 _ _ _ HIT2.out,HBW2.out.trans h1⟩
    have KEY:=jzD key
    have hac:(acc ++ plainOf d) ++ plainL ((bl s).drop (pos + d.2))=total:=by rw [← HC.out,HR.out,List.append_assoc]
    have HAC:=jzD hac
    clear key hac
    by_cases hk:1≤kind d.1∧kind d.1≤3
    · have hr:=kind_ascii hk
      have hpo:plainOf d=[UInt8.ofNat d.1]:=by unfold plainOf;rw [if_pos hk]
      rw [hpo] at HAC KEY
      clear hpo
      rcases (show kind d.1=1 ∨ kind d.1=2 ∨ kind d.1=3 by omega) with hk1 | hk1 | hk1
      all_goals
       have hkk:∀ w,Calls Tryz.prog 95 #[.int .i32 (d.1:Int)] w fun e w' => e=.returned (.int .i64 (kind d.1:Nat))∧w=w' := fun w=>Kind_any (d.1:Int) w
       rw [hk1] at hkk
       have HKK:=jzD hkk
       clear hkk hk hk1
       go_wp2_with (first
        | (go_at_call 95;refine (HKK.out _).mono ?_;rintro e w' ⟨rfl,rfl⟩)
        | (go_at_call 164;refine (WriteRune_ascii w.heap.size w.heap.size acc d.1 _ HI2.out hsz2 (by omega) hr).mono ?_;rintro e W1 ⟨rfl,h1,b1,k1⟩))
       go_roundw
       case rel=>exact ⟨pos + d.2,acc ++ [UInt8.ofNat d.1],hw.2,HAC.out,h1,(KEY.out W1 HAC.out h1 b1 k1).1,(KEY.out W1 HAC.out h1 b1 k1).2⟩
       case measure =>
        simp only [World.iterPos,(KEY.out W1 HAC.out h1 b1 k1).1,HIT.out]
        omega
    · have hpo:plainOf d=[63]:=by unfold plainOf;rw [if_neg hk]
      rw [hpo] at HAC KEY
      clear hpo
      have t1:(((kind (d.1:Int):Nat):Int) == 1)=false:=by rw [beq_eq_false_iff_ne];omega
      have t2:(((kind (d.1:Int):Nat):Int) == 2)=false:=by rw [beq_eq_false_iff_ne];omega
      have t3:(((kind (d.1:Int):Nat):Int) == 3)=false:=by rw [beq_eq_false_iff_ne];omega
      clear hk
      go_wp2_with (first
       | (go_at_call 95;refine (Kind_any (d.1:Int) _).mono ?_;rintro e w' ⟨rfl,rfl⟩)
       | (go_at_call 129;refine (WriteByte_any w.heap.size w.heap.size acc 63 _ HI2.out hsz2 (by omega)).mono ?_;rintro e W1 ⟨rfl,h1,b1,k1⟩))
      go_roundw
      case rel=>exact ⟨pos + d.2,acc ++ [63],hw.2,HAC.out,h1,(KEY.out W1 HAC.out h1 b1 k1).1,(KEY.out W1 HAC.out h1 b1 k1).2⟩
      case measure =>
       simp only [World.iterPos,(KEY.out W1 HAC.out h1 b1 k1).1,HIT.out]
       omega
  · have hnx:∀ ty,(Instr.next (.pointer (some ⟨w.heap.size + 1,0,none⟩)) true ty).run Tryz.prog wr=_:=fun ty=>Lib.run_next_end_at wr (w.heap.size + 1) s pos ty HIT.out hp
    have he:=HC.out
    rw [bl_drop_end hp] at he
    have he:acc=total:=by rw [← he];simp [plainL,rs_nil]
    subst he
    go_wp2_with (go_at_call 131;refine (String_any w.heap.size w.heap.size acc _ HI.out (by omega)).mono ?_;rintro e w2 ⟨rfl,hb2⟩)
    go_ret
    exact ⟨rfl,HBW.out.trans hb2⟩
end Go.Proofs.YtjddbjmcjhjpiaaGreatDoor
