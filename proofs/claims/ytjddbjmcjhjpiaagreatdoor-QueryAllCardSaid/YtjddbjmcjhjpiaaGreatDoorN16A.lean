/- Of layer 12: OfM, XidM, DealM, OpenOffer, M16, RowU, M12, Foot, Sep, S12h, Dn. -/
import Derived.Test.YtjddbjmcjhjpiaaGreatDoorM4I
import Derived.Test.YtjddbjmcjhjpiaaGreatDoorM4E
import Derived.Test.YtjddbjmcjhjpiaaGreatDoorM4D
import Derived.Test.YtjddbjmcjhjpiaaGreatDoorM4A
import Derived.Test.YtjddbjmcjhjpiaaGreatDoorM4G

set_option linter.all false

namespace Go.Proofs.YtjddbjmcjhjpiaaGreatDoor

def atB (n:Int) (i:Nat):Bool:=n / 2 ^ i % 2 == 1
def highB (n:Int):Nat→Int
 | 0=>-1
 | k + 1=>if atB n k then (k:Int) else highB n k
def lowB (n:Int):Nat→Int
 | 0=>-1
 | k + 1=>if atB n (15 - k) then ((15 - k:Nat):Int) else lowB n k
def high (n:Int):Int:=highB n 16
def low (n:Int):Int:=lowB n 16

theorem highB_lt (n:Int):∀ k,-1≤highB n k∧highB n k < k
 | 0=>by simp [highB]
 | k + 1=>by
  have := highB_lt n k
  unfold highB
  split <;> omega
theorem highB_at (n:Int):∀ k,highB n k ≠ -1→atB n (highB n k).toNat=true
 | 0,h=>by simp [highB] at h
 | k + 1,h=>by
  unfold highB at h ⊢
  split
  · rename_i hk;simpa using hk
  · rename_i hk;rw [if_neg hk] at h;exact highB_at n k h
def baud (i:Int):Int:=if i=0 then 32 else if i=1 then 64 else if i=2 then 128 else if i=3 then 256 else 0
def silent (i:Int):Int:=if i=0 then 200 else if i=1 then 300 else if i=2 then 500 else 0
def sizeQ (i:Int):Int:=if i=0 then 8 else if i=1 then 16 else if i=2 then 32 else if i=3 then 64 else 0
def ticks (b d:Int):Int:=if b < 1 ∨ d < 1 then 0 else (b + d - 1) / d

structure Of5 where
 baud:Int
 silent:Int
 win:Int
 size:Int
 wait:Int
deriving DecidableEq
def mayO (o:Of5):Bool:=decide ((1≤o.baud∧o.baud≤15∧o.baud % 2=1)∧(1≤o.silent∧o.silent≤7∧o.silent % 2=1)∧(1≤o.win∧o.win≤127)∧(1≤o.size∧o.size≤15)∧(1≤o.wait∧o.wait≤7))
def fiveT (o:Of5):List Tp:=[(1,[UInt8.ofNat o.baud.toNat]),(2,[UInt8.ofNat o.silent.toNat]),(3,[UInt8.ofNat o.win.toNat]),(4,[UInt8.ofNat o.size.toNat]),(5,[UInt8.ofNat o.wait.toNat])]
def bytesO (o:Of5):List UInt8:=[1,1,UInt8.ofNat o.baud.toNat,2,1,UInt8.ofNat o.silent.toNat,3,1,UInt8.ofNat o.win.toNat,4,1,UInt8.ofNat o.size.toNat,5,1,UInt8.ofNat o.wait.toNat]
def putO (o:Of5):Option (List UInt8):=if mayO o then some (bytesO o) else none
theorem flat_five (o:Of5):flat (fiveT o)=bytesO o:=rfl
theorem five_ok (o:Of5):∀ t ∈ fiveT o,okT t:=by
 intro t ht
 simp only [fiveT,List.mem_cons,List.not_mem_nil,or_false] at ht
 rcases ht with rfl | rfl | rfl | rfl | rfl <;> (unfold okT;simp)
theorem putT_five (o:Of5):putT (fiveT o)=some (bytesO o):=by
 unfold putT
 rw [if_pos ⟨five_ok o,by rw [flat_five];simp [bytesO]⟩,flat_five]

def fnd1 (l:List Tp) (id:Int):Option (List UInt8):=(l.find? fun t=>t.1 == id).map (·.2)
def valT (l:List Tp) (id:Int):Int:=match fnd1 l id with
 | some [x]=>(x.toNat:Int)
 | _=>0
def offerT (l:List Tp):Of5:=⟨valT l 1,valT l 2,valT l 3,valT l 4,valT l 5⟩
def getO (s:List UInt8):Option Of5:=(getT s).bind fun l=>if mayO (offerT l) then some (offerT l) else none

theorem valT_bound (l:List Tp) (id:Int):0≤valT l id∧valT l id < 256:=by
 unfold valT
 split
 · rename_i x _;have := x.toNat_lt;omega
 · omega
theorem by_back {n:Int} (h:0≤n∧n < 256):(((UInt8.ofNat n.toNat).toNat:Nat):Int)=n:=by rw [UInt8.toNat_ofNat'];omega
theorem offer_five {o:Of5} (h:mayO o=true):offerT (fiveT o)=o:=by
 unfold mayO at h
 have h:=of_decide_eq_true h
 obtain ⟨a,b,c,d,e⟩:=o
 simp only at h
 have h1:=by_back (n:=a) (by omega)
 have h2:=by_back (n:=b) (by omega)
 have h3:=by_back (n:=c) (by omega)
 have h4:=by_back (n:=d) (by omega)
 have h5:=by_back (n:=e) (by omega)
 have e:offerT (fiveT ⟨a,b,c,d,e⟩)=⟨(((UInt8.ofNat a.toNat).toNat:Nat):Int),(((UInt8.ofNat b.toNat).toNat:Nat):Int),(((UInt8.ofNat c.toNat).toNat:Nat):Int),(((UInt8.ofNat d.toNat).toNat:Nat):Int),(((UInt8.ofNat e.toNat).toNat:Nat):Int)⟩:=rfl
 rw [e,h1,h2,h3,h4,h5]
theorem getO_putO {o:Of5} {s:List UInt8} (h:putO o=some s):getO s=some o:=by
 unfold putO at h
 split at h
 · rename_i hm
   injection h with h
   subst h
   unfold getO
   rw [getT_putT (putT_five o)]
   simp only [Option.bind_some,offer_five hm,if_pos hm]
 · cases h

end Go.Proofs.YtjddbjmcjhjpiaaGreatDoor

namespace Go.Proofs.YtjddbjmcjhjpiaaGreatDoor

def ownN (n:Int):Bool:=n != 0 && n != 4294967295
def le4 (n:Int):List UInt8:=[UInt8.ofNat (n % 256).toNat,UInt8.ofNat (n / 256 % 256).toNat,UInt8.ofNat (n / 65536 % 256).toNat,UInt8.ofNat (n / 16777216 % 256).toNat]
def num4 (a b c d:UInt8):Int:=(a.toNat:Int) + (b.toNat:Int) * 256 + (c.toNat:Int) * 65536 + (d.toNat:Int) * 16777216
def u32 (n:Int):Prop:=0≤n∧n < 4294967296
theorem of_toNat_int {n:Int} (h:0≤n∧n < 256):(((UInt8.ofNat n.toNat).toNat:Nat):Int)=n:=by rw [UInt8.toNat_ofNat'];omega
theorem num4_le4 {n:Int} (h:u32 n):num4 (UInt8.ofNat (n % 256).toNat) (UInt8.ofNat (n / 256 % 256).toNat) (UInt8.ofNat (n / 65536 % 256).toNat) (UInt8.ofNat (n / 16777216 % 256).toNat)=n:=by
 unfold u32 at h
 unfold num4
 rw [of_toNat_int (by omega),of_toNat_int (by omega),of_toNat_int (by omega),of_toNat_int (by omega)]
 omega
structure Xd where
 from_:Int
 to_:Int
 slot:Int
 slots:Int
 anew:Bool
 nick:List UInt8
deriving DecidableEq
def mayX (x:Xd):Bool:=ownN x.from_ && decide (x.slots=1 ∨ x.slots=6 ∨ x.slots=8) && decide (-1≤x.slot∧x.slot < x.slots) && M.mayL x.nick
def bytesX (x:Xd):List UInt8:=le4 x.from_ ++ le4 x.to_ ++ [if x.anew then 1 else 0,UInt8.ofNat x.slots.toNat,UInt8.ofNat (x.slot % 256).toNat] ++ x.nick
def putX (x:Xd):Option (List UInt8):=if mayX x then some (bytesX x) else none
def slotOf (k:UInt8):Int:=if k.toNat=255 then -1 else (k.toNat:Int)
def getX:List UInt8→Option Xd
 | a :: b :: c :: d :: e :: f :: g :: h :: i :: j :: k :: r =>
  if i.toNat≤1 then
   (
    let x:Xd:=⟨num4 a b c d,num4 e f g h,slotOf k,(j.toNat:Int),i.toNat == 1,r⟩
    if mayX x then some x else none)
  else none
 | _=>none
theorem getX_putX {x:Xd} {s:List UInt8} (hf:u32 x.from_) (ht:u32 x.to_) (h:putX x=some s):getX s=some x:=by
 unfold putX at h
 split at h
 · rename_i hm
   injection h with h
   subst h
   have hm' := hm
   unfold mayX at hm'
   simp only [Bool.and_eq_true,decide_eq_true_eq] at hm'
   obtain ⟨⟨⟨h1,h2⟩,h3⟩,h4⟩:=hm'
   obtain ⟨f,t,sl,sn,an,nk⟩:=x
   simp only at *
   have key:∀ (a b c d e f g h i j k:UInt8) (r:List UInt8),getX (a :: b :: c :: d :: e :: f :: g :: h :: i :: j :: k :: r)=if i.toNat≤1 then (if mayX ⟨num4 a b c d,num4 e f g h,slotOf k,(j.toNat:Int),i.toNat == 1,r⟩ then some ⟨num4 a b c d,num4 e f g h,slotOf k,(j.toNat:Int),i.toNat == 1,r⟩ else none) else none:=fun _ _ _ _ _ _ _ _ _ _ _ _=>rfl
   show getX (_ :: _ :: _ :: _ :: _ :: _ :: _ :: _ :: _ :: _ :: _ :: nk)=_
   rw [key]
   have ej:((UInt8.ofNat sn.toNat).toNat:Int)=sn:=of_toNat_int (by omega)
   have ek:((UInt8.ofNat (sl % 256).toNat).toNat:Int)=sl % 256:=of_toNat_int (by omega)
   have ek2:slotOf (UInt8.ofNat (sl % 256).toNat)=sl:=by
    unfold slotOf
    split <;> omega
   have ei:((if an then 1 else 0:UInt8).toNat≤1):=by cases an <;> decide
   have ei2:((if an then 1 else 0:UInt8).toNat == 1)=an:=by cases an <;> decide
   rw [if_pos ei]
   simp only [num4_le4 hf,num4_le4 ht,ek2,ej,ei2]
   rw [if_pos hm]
 · cases h
theorem getX_short {s:List UInt8} (h:s.length < 11):getX s=none:=by
 unfold getX
 split
 · simp at h;omega
 · rfl

structure St where
 from_:Int
 to_:Int
 seat:Int
 count:Int
 o:Of5
deriving DecidableEq
def maySt (s:St):Bool:=ownN s.from_ && ownN s.to_ && decide (0≤s.seat∧s.seat < 8) && decide (0≤s.count∧s.count≤249) && mayO s.o
def headS (s:St):List UInt8:=le4 s.from_ ++ le4 s.to_ ++ [UInt8.ofNat s.seat.toNat,UInt8.ofNat s.count.toNat]
def putS (s:St):Option (List UInt8):=if maySt s then some (headS s ++ bytesO s.o) else none
def getS:List UInt8→Option St
 | a :: b :: c :: d :: e :: f :: g :: h :: i :: j :: r =>
  (getO r).bind fun o=>(let s:St:=⟨num4 a b c d,num4 e f g h,(i.toNat:Int),(j.toNat:Int),o⟩
   if maySt s then some s else none)
 | _=>none
theorem getS_head {s:St} (hf:u32 s.from_) (ht:u32 s.to_) (hm:maySt s=true) {r:List UInt8} (hr:getO r=some s.o):getS (headS s ++ r)=some s:=by
 have hm' := hm
 unfold maySt at hm'
 simp only [Bool.and_eq_true,decide_eq_true_eq] at hm'
 obtain ⟨⟨⟨⟨h1,h2⟩,h3⟩,h4⟩,h5⟩:=hm'
 obtain ⟨f,t,se,co,o⟩:=s
 simp only at *
 have key:∀ (a b c d e f g h i j:UInt8) (r:List UInt8),getS (a :: b :: c :: d :: e :: f :: g :: h :: i :: j :: r)=(getO r).bind fun o=>if maySt ⟨num4 a b c d,num4 e f g h,(i.toNat:Int),(j.toNat:Int),o⟩ then some ⟨num4 a b c d,num4 e f g h,(i.toNat:Int),(j.toNat:Int),o⟩ else none:=fun _ _ _ _ _ _ _ _ _ _ _=>rfl
 show getS (_ :: _ :: _ :: _ :: _ :: _ :: _ :: _ :: _ :: _ :: r)=_
 rw [key]
 have ei:((UInt8.ofNat se.toNat).toNat:Int)=se:=of_toNat_int (by omega)
 have ej:((UInt8.ofNat co.toNat).toNat:Int)=co:=of_toNat_int (by omega)
 rw [hr]
 simp only [Option.bind_some,num4_le4 hf,num4_le4 ht,ei,ej]
 rw [if_pos hm]
theorem maySt_o {s:St} (h:maySt s=true):mayO s.o=true:=by
 unfold maySt at h
 simp only [Bool.and_eq_true] at h
 exact h.2
theorem getO_bytes {o:Of5} (h:mayO o=true):getO (bytesO o)=some o:=getO_putO (by unfold putO;rw [if_pos h])
theorem getS_putS {s:St} {t:List UInt8} (hf:u32 s.from_) (ht:u32 s.to_) (h:putS s=some t):getS t=some s:=by
 unfold putS at h
 split at h
 · rename_i hm
   injection h with h
   subst h
   exact getS_head hf ht hm (getO_bytes (maySt_o hm))
 · cases h
theorem getS_short {s:List UInt8} (h:s.length < 10):getS s=none:=by
 unfold getS
 split
 · simp at h;omega
 · rfl
def drawn (nots:List Int):List Int→Nat→Option (Int × Nat)
 | [],_=>none
 | d :: r,k=>if ownN d && !nots.contains d then some (d,k + 1) else drawn nots r (k + 1)
def leastN (l:List Int):Nat→Int→Int
 | 0,n=>n
 | k + 1,n=>if l.contains n then leastN l k (n + 1) else n
def freshM (draws nots:List Int):Int × Nat:=(drawn nots draws 0).getD (leastN nots nots.length 1,draws.length)

theorem sub_len:∀ (m l:List Int),m.Nodup→(∀ x ∈ m,x ∈ l)→m.length≤l.length
 | [],_,_,_=>by simp
 | x :: m,l,hn,hs=>by
  have hx:=hs x (List.mem_cons_self ..)
  have hn' := List.nodup_cons.1 hn
  have := sub_len m (l.erase x) hn'.2 (fun y hy=>(List.mem_erase_of_ne (by rintro rfl;exact hn'.1 hy)).2 (hs y (List.mem_cons_of_mem _ hy)))
  rw [List.length_erase_of_mem hx] at this
  have hl:0 < l.length:=List.length_pos_of_mem hx
  simp only [List.length_cons]
  omega
theorem leastN_spec (l:List Int):∀ (k:Nat) (n:Int),n≤leastN l k n∧leastN l k n≤n + k∧(∀ j,n≤j→j < leastN l k n→j ∈ l)∧(leastN l k n < n + k→leastN l k n ∉ l)
 | 0,n=>by unfold leastN;refine ⟨by omega,by omega,fun j h1 h2=>absurd h2 (by omega),fun h=>absurd h (by omega)⟩
 | k + 1,n=>by
  unfold leastN
  by_cases h:l.contains n=true
  · rw [if_pos h]
    obtain ⟨h1,h2,h3,h4⟩:=leastN_spec l k (n + 1)
    refine ⟨by omega,by omega,fun j hj1 hj2=>?_,fun hlt=>h4 (by omega)⟩
    by_cases e:j=n
    · subst e;simpa using h
    · exact h3 j (by omega) hj2
  · rw [if_neg h]
    exact ⟨by omega,by omega,fun j h1 h2=>absurd h2 (by omega),fun _=>by simpa using h⟩
def upto (n:Int):Nat→List Int
 | 0=>[]
 | k + 1=>(n + k) :: upto n k
theorem upto_mem (n:Int):∀ (k:Nat) (x:Int),x ∈ upto n k→n≤x∧x < n + k
 | 0,_,h=>by simp [upto] at h
 | k + 1,x,h=>by
  unfold upto at h
  rcases List.mem_cons.1 h with rfl | h
  · omega
  · have := upto_mem n k x h;omega
theorem upto_nodup (n:Int):∀ k,(upto n k).Nodup
 | 0=>List.nodup_nil
 | k + 1=>by
  unfold upto
  exact List.nodup_cons.2 ⟨fun h=>by have := upto_mem n k _ h;omega,upto_nodup n k⟩
theorem upto_len (n:Int):∀ k,(upto n k).length=k
 | 0=>rfl
 | k + 1=>by unfold upto;rw [List.length_cons,upto_len n k]
theorem leastN_not (l:List Int) (n:Int):leastN l l.length n ∉ l:=by
 obtain ⟨h1,h2,h3,h4⟩:=leastN_spec l l.length n
 by_cases h:leastN l l.length n < n + l.length
 · exact h4 h
 · intro hin
   have := sub_len (upto n (l.length + 1)) l (upto_nodup _ _) (fun x hx=>by
    obtain ⟨a,b⟩:=upto_mem n _ x hx
    by_cases e:x=leastN l l.length n
    · rw [e];exact hin
    · exact h3 x a (by omega))
   rw [upto_len] at this
   omega
theorem leastN_least (l:List Int) (n:Int) {x:Int} (hn:n≤x) (hx:x ∉ l) (hb:∀ j,n≤j→j < x→j ∈ l):leastN l l.length n=x:=by
 obtain ⟨h1,h2,h3,h4⟩:=leastN_spec l l.length n
 have hno:=leastN_not l n
 rcases Int.lt_trichotomy (leastN l l.length n) x with h | h | h
 · exact absurd (hb _ h1 h) hno
 · exact h
 · exact absurd (h3 x hn h) hx
end Go.Proofs.YtjddbjmcjhjpiaaGreatDoor

namespace Go.Proofs.YtjddbjmcjhjpiaaGreatDoor

structure De5 where
 baud:Int
 silent:Int
 win:Int
 size:Int
 wait:Int
deriving DecidableEq
def both (x y:Int) (i:Nat):Bool:=atB x i && atB y i
def hi2 (x y:Int):Nat→Int
 | 0=>-1
 | k + 1=>if both x y k then (k:Int) else hi2 x y k
def lo2 (m:Nat) (x y:Int):Nat→Int
 | 0=>-1
 | k + 1=>if both x y (m - (k + 1)) then ((m - (k + 1):Nat):Int) else lo2 m x y k
def frameM (size d:Int):Int:=ticks (2 * (size + 5) + 2) d
def winM (f:Int):Nat→Int
 | 0=>1
 | k + 1=>if ((k:Int) + 1) * f≤30 then (k:Int) + 1 else winM f k
def dealD (a b:Of5):De5:=⟨baud (hi2 a.baud b.baud 4),silent (lo2 3 a.silent b.silent 3),winM (frameM (sizeQ (high b.size)) (baud (hi2 a.baud b.baud 4))) (high b.win + 1).toNat,sizeQ (high b.size),low b.wait⟩
def dealM (a b:Of5):Option De5:=if mayO a && mayO b then some (dealD a b) else none

theorem hi2_lt (x y:Int):∀ k,-1≤hi2 x y k∧hi2 x y k < k
 | 0=>by simp [hi2]
 | k + 1=>by
  have := hi2_lt x y k
  unfold hi2
  split <;> omega
theorem hi2_above (x y:Int):∀ (k j:Nat),hi2 x y k < (j:Int)→j < k→both x y j=false
 | 0,_,_,h=>absurd h (by omega)
 | k + 1,j,h,hj=>by
  unfold hi2 at h
  split at h
  · omega
  · rename_i hk
    by_cases e:j=k
    · subst e;simpa using hk
    · exact hi2_above x y k j h (by omega)
theorem hi2_some (x y:Int):∀ (k j:Nat),j < k→both x y j=true→(j:Int)≤hi2 x y k:=by
 intro k j hj hb
 rcases Int.lt_or_le (hi2 x y k) (j:Int) with h | h
 · rw [hi2_above x y k j h hj] at hb;cases hb
 · exact h
theorem lo2_ge (m:Nat) (x y:Int):∀ k,k≤m→lo2 m x y k=-1 ∨ ((m:Int) - k≤lo2 m x y k∧lo2 m x y k < m)
 | 0,_=>.inl rfl
 | k + 1,h=>by
  unfold lo2
  split
  · right;omega
  · have := lo2_ge m x y k (by omega);omega
theorem winM_ge (f:Int):∀ k,1≤winM f k∧winM f k≤max 1 (k:Int)
 | 0=>by unfold winM;omega
 | k + 1=>by
  have := winM_ge f k
  unfold winM
  split <;> omega
theorem winM_fits {f:Int} (h:f≤30):∀ k,winM f k * f≤30
 | 0=>by simp [winM];exact h
 | k + 1=>by
  unfold winM
  split
  · rename_i hk;exact hk
  · exact winM_fits h k
theorem mayO_bits {o:Of5} (h:mayO o=true):atB o.baud 0=true∧atB o.silent 0=true:=by
 unfold mayO at h
 have h:=of_decide_eq_true h
 unfold atB
 simp only [Int.pow_zero,Int.ediv_one,beq_iff_eq]
 exact ⟨h.1.2.2,h.2.1.2.2⟩
theorem baud_pos {x y:Int} (hx:atB x 0=true) (hy:atB y 0=true):0≤hi2 x y 4∧hi2 x y 4≤3∧32≤baud (hi2 x y 4)∧baud (hi2 x y 4)≤256:=by
 have h1:=hi2_some x y 4 0 (by omega) (by unfold both;rw [hx,hy];rfl)
 have h2:=hi2_lt x y 4
 refine ⟨by omega,by omega,?_⟩
 generalize hi2 x y 4=q at *
 unfold baud
 rcases (show q=0 ∨ q=1 ∨ q=2 ∨ q=3 by omega) with rfl | rfl | rfl | rfl <;> simp
theorem sizeQ_bound (i:Int):0≤sizeQ i∧sizeQ i≤64:=by
 unfold sizeQ
 repeat' split
 all_goals omega
theorem ticks_pos {b d:Int} (hb:1≤b) (hd:1≤d):1≤ticks b d:=by
 unfold ticks
 rw [if_neg (by omega)]
 have : d≤b + d - 1:=by omega
 exact Int.le_ediv_of_mul_le (by omega) (by omega)
theorem frameM_bound {s d:Int} (hs:0≤s∧s≤64) (hd:32≤d):1≤frameM s d∧frameM s d≤5:=by
 unfold frameM
 refine ⟨ticks_pos (by omega) (by omega),?_⟩
 unfold ticks
 rw [if_neg (by omega)]
 exact Int.lt_add_one_iff.1 (Int.ediv_lt_of_lt_mul (by omega) (by omega))
end Go.Proofs.YtjddbjmcjhjpiaaGreatDoor

namespace Go.Proofs.YtjddbjmcjhjpiaaGreatDoor
set_option maxRecDepth 100000
open Go.ChangeShapes Go.WideShapes Go.ChangeAt Go.RowKit

theorem six_of {α:Type} {cs:List α} (h:cs.length=6):∃ a0 a1 a2 a3 a4 a5,cs=[a0,a1,a2,a3,a4,a5]:=by
 match cs,h with
 | [a0,a1,a2,a3,a4,a5],_=>exact ⟨a0,a1,a2,a3,a4,a5,rfl⟩
abbrev Of5.cs (o:Of5):Array Value:=#[.int .i64 o.baud,.int .i64 o.silent,.int .i64 o.win,.int .i64 o.size,.int .i64 o.wait]
abbrev Of5.val (o:Of5):Value:=.agg #[.int .i64 o.baud,.int .i64 o.silent,.int .i64 o.win,.int .i64 o.size,.int .i64 o.wait]
def Of5.ok (o:Of5):Prop:=(Lit.int .i64 o.baud).wf=true∧(Lit.int .i64 o.silent).wf=true∧(Lit.int .i64 o.win).wf=true∧(Lit.int .i64 o.size).wf=true∧(Lit.int .i64 o.wait).wf=true
abbrev De5.val (o:De5):Value:=.agg #[.int .i64 o.baud,.int .i64 o.silent,.int .i64 o.win,.int .i64 o.size,.int .i64 o.wait]
structure XIn where
 from_:Int
 to_:Int
 slot:Int
 slots:Int
 anew:Bool
 nick:ByteArray
abbrev XIn.val (x:XIn):Value:=.agg #[.int .u32 x.from_,.int .u32 x.to_,.int .i64 x.slot,.int .i64 x.slots,.bool x.anew,.string x.nick]
def XIn.ok (x:XIn):Prop:=(Lit.int .u32 x.from_).wf=true∧(Lit.int .u32 x.to_).wf=true∧(Lit.int .i64 x.slot).wf=true∧(Lit.int .i64 x.slots).wf=true∧x.nick.size≤maxLen
def XIn.xd (x:XIn):Xd:=⟨x.from_,x.to_,x.slot,x.slots,x.anew,x.nick.data.toList⟩
abbrev Xd.xin (x:Xd):XIn:=⟨x.from_,x.to_,x.slot,x.slots,x.anew,⟨x.nick.toArray⟩⟩
abbrev St.val (s:St):Value:=.agg #[.int .u32 s.from_,.int .u32 s.to_,.int .i64 s.seat,.int .i64 s.count,.int .i64 s.o.baud,.int .i64 s.o.silent,.int .i64 s.o.win,.int .i64 s.o.size,.int .i64 s.o.wait]
def St.ok (s:St):Prop:=(Lit.int .u32 s.from_).wf=true∧(Lit.int .u32 s.to_).wf=true∧(Lit.int .i64 s.seat).wf=true∧(Lit.int .i64 s.count).wf=true∧s.o.ok

section
variable {H:Type} {enc:TypeId × Value→H} {W:World}

theorem open_xid {v:Value} {d:DataW H} {p:List MemPlace} (hval:Value.okWide Tryz.prog W .any 0 32 v) (h:DataW.Trod enc Tryz.prog W 0 (fun _=>true) true 32 v d p):∃ x:XIn,v=x.val∧x.ok:=by
 obtain ⟨cs,rfl,hsz⟩:=okWide_struct Tryz.underlying32 hval
 obtain ⟨l⟩:=cs
 obtain ⟨fuel,hf⟩:=h
 simp only [Value.cells] at hf
 clear hval hsz
 obtain ⟨xs,n,_,_,hl,hn,hx⟩:=DataW.trod_struct Tryz.underlying32 hf
 obtain ⟨a0,a1,a2,a3,a4,a5,rfl⟩:=six_of (hl.trans (by kernel_rfl))
 obtain ⟨y0,y1,y2,y3,y4,y5,rfl⟩:=six_of hn
 clear hf hl hn
 have f0:=fld hx 0 0 1 22 rfl rfl rfl (by kernel_rfl)
 have f1:=fld hx 1 1 1 22 rfl rfl rfl (by kernel_rfl)
 have f2:=fld hx 2 2 1 3 rfl rfl rfl (by kernel_rfl)
 have f3:=fld hx 3 3 1 3 rfl rfl rfl (by kernel_rfl)
 have f4:=fld hx 4 4 1 4 rfl rfl rfl (by kernel_rfl)
 have f5:=fld hx 5 5 1 9 rfl rfl rfl (by kernel_rfl)
 clear hx
 change DataW.trod enc Tryz.prog W 0 (fun _=>true) true n 22 [a0]=some y0 at f0
 change DataW.trod enc Tryz.prog W 0 (fun _=>true) true n 22 [a1]=some y1 at f1
 change DataW.trod enc Tryz.prog W 0 (fun _=>true) true n 3 [a2]=some y2 at f2
 change DataW.trod enc Tryz.prog W 0 (fun _=>true) true n 3 [a3]=some y3 at f3
 change DataW.trod enc Tryz.prog W 0 (fun _=>true) true n 4 [a4]=some y4 at f4
 change DataW.trod enc Tryz.prog W 0 (fun _=>true) true n 9 [a5]=some y5 at f5
 obtain ⟨fr,h0,_,w0⟩:=DataW.trod_int Tryz.underlying22 f0
 injection h0 with h0
 subst h0
 obtain ⟨tt,h1,_,w1⟩:=DataW.trod_int Tryz.underlying22 f1
 injection h1 with h1
 subst h1
 obtain ⟨sl,h2,_,w2⟩:=DataW.trod_int Tryz.underlying3 f2
 injection h2 with h2
 subst h2
 obtain ⟨sn,h3,_,w3⟩:=DataW.trod_int Tryz.underlying3 f3
 injection h3 with h3
 subst h3
 obtain ⟨an,h4,_⟩:=DataW.trod_bool Tryz.underlying4 f4
 injection h4 with h4
 subst h4
 obtain ⟨nk,h5,_,w5⟩:=DataW.trod_string Tryz.underlying9 f5
 injection h5 with h5
 subst h5
 exact ⟨⟨fr,tt,sl,sn,an,nk⟩,rfl,w0,w1,w2,w3,w5⟩

end
end Go.Proofs.YtjddbjmcjhjpiaaGreatDoor

namespace Go.Proofs.YtjddbjmcjhjpiaaGreatDoor

structure SeenM where
 id:Int
 nick:ByteArray
 slot:Int
def insC (n:Int):List Int→List Int
 | []=>[n]
 | x :: r=>if n < x then n :: x :: r else if n=x then x :: r else x :: insC n r
theorem insC_ne (n:Int):∀ l:List Int,insC n l ≠ []
 | []=>by simp [insC]
 | x :: r=>by
  unfold insC;split;· simp
  · split <;> simp
theorem insC_mem (n:Int):∀ (l:List Int) (y:Int),y ∈ insC n l ↔ y=n ∨ y ∈ l
 | [],y=>by simp [insC]
 | x :: r,y=>by
  unfold insC
  split
  · simp
  · split
    · rename_i h
      subst h
      simp
    · rw [List.mem_cons,insC_mem n r y,List.mem_cons]
      constructor
      · rintro (h | h | h)
        · exact .inr (.inl h)
        · exact .inl h
        · exact .inr (.inr h)
      · rintro (h | h | h)
        · exact .inr (.inl h)
        · exact .inl h
        · exact .inr (.inr h)
theorem insC_rise (n:Int):∀ l:List Int,l.Pairwise (· < ·)→(insC n l).Pairwise (· < ·)
 | [],_=>by simp [insC]
 | x :: r,h=>by
  obtain ⟨h1,h2⟩:=List.pairwise_cons.1 h
  unfold insC
  split
  · rename_i hn
    refine List.pairwise_cons.2 ⟨fun y hy=>?_,h⟩
    rcases List.mem_cons.1 hy with rfl | hy
    · exact hn
    · exact Int.lt_trans hn (h1 y hy)
  · split
    · exact h
    · refine List.pairwise_cons.2 ⟨fun y hy=>?_,insC_rise n r h2⟩
      rcases (insC_mem n r y).1 hy with rfl | hy
      · omega
      · exact h1 y hy
theorem insC_len (n:Int):∀ l:List Int,(insC n l).length≤l.length + 1
 | []=>by simp [insC]
 | x :: r=>by
  have := insC_len n r
  unfold insC
  split
  · simp
  · split <;> simp <;> omega

structure LogM where
 me:Int
 l:List SeenM
 clash:List Int
namespace LogM
def new (me:Int):LogM:=⟨me,[],[]⟩
def who (m:LogM) (n:Int):Option SeenM:=m.l.find? fun s=>s.id == n
def same (s:SeenM) (x:XIn):Bool:=s.nick == x.nick && s.slot == x.slot
def addB (m:LogM) (x:XIn):Bool :=
 mayX x.xd && (x.from_ != m.me && (match m.who x.from_ with | some s=>same s x | none=>decide (m.l.length < 16)))
def add (m:LogM) (x:XIn):LogM :=
 if mayX x.xd then
  if x.from_=m.me then { m with clash:=insC x.from_ m.clash }
  else match m.who x.from_ with
   | some s=>if same s x then m else { m with clash:=insC x.from_ m.clash }
   | none=>if m.l.length < 16 then { m with l:=m.l ++ [⟨x.from_,x.nick,x.slot⟩] } else m
 else m
structure ok (m:LogM):Prop where
 len:m.l.length≤16
 rise:m.clash.Pairwise (· < ·)
 ids:∀ s ∈ m.l,u32 s.id
 nicks:∀ s ∈ m.l,s.nick.size≤maxLen
 clashes:∀ n ∈ m.clash,u32 n
theorem ok_new (me:Int):(new me).ok:=⟨by simp [new],by simp [new],by simp [new],by simp [new],by simp [new]⟩
end LogM

structure QueryM where
 me:Int
 nick:ByteArray
 slots:Int
 calls:Int
 log:LogM
namespace QueryM
def mayNew (me:Int) (nick:ByteArray) (slots:Int):Bool:=mayX (XIn.xd ⟨me,0,0,slots,false,nick⟩)
def new (me:Int) (nick:ByteArray) (slots:Int):QueryM:=⟨me,nick,slots,0,LogM.new me⟩
def over (q:QueryM):Bool:=decide (q.slots * 8 + 1 < q.calls)
def asks (q:QueryM):Bool:=decide (q.calls % 8=0∧q.calls≤q.slots * 8)
def xid (q:QueryM):XIn:=if q.asks then ⟨q.me,0,if q.calls / 8=q.slots then -1 else q.calls / 8,q.slots,false,q.nick⟩ else ⟨0,0,0,0,false,⟨#[]⟩⟩
def tick (q:QueryM):QueryM:={ q with calls:=min (q.calls + 1) (q.slots * 8 + 2) }
def open_ (q:QueryM) (x:XIn):Bool:=!q.over && (decide (0 < q.calls) && x.to_ == q.me)
def hearB (q:QueryM) (x:XIn):Bool:=q.open_ x && q.log.addB x
def hear (q:QueryM) (x:XIn):QueryM:=if q.open_ x then { q with log:=q.log.add x } else q
structure ok (q:QueryM):Prop where
 slots:q.slots=1 ∨ q.slots=6 ∨ q.slots=8
 calls:0≤q.calls∧q.calls≤q.slots * 8 + 2
 me:ownN q.me=true
end QueryM

structure ReplyM where
 id:Int
 nick:ByteArray
 round:Option (Int × Int × Int)
namespace ReplyM
def mayNew (me:Int) (nick:ByteArray):Bool:=ownN me && M.mayL nick.data.toList
def new (me:Int) (nick:ByteArray):ReplyM:=⟨me,nick,none⟩
def xz:XIn:=⟨0,0,0,0,false,⟨#[]⟩⟩
def begins (r:ReplyM) (x:XIn):Bool :=
 x.slot == 0 || (match r.round with | some (a,n,_)=>a != x.from_ || n != x.slots | none=>true)
def slotOf (x:XIn) (draws:List Int):Int:=match draws with | d :: _=>max (d % x.slots) x.slot | []=>x.slot
def roundOf (r:ReplyM) (x:XIn) (draws:List Int):Option (Int × Int × Int) :=
 if r.begins x then some (x.from_,x.slots,slotOf x draws) else r.round
def usedOf (r:ReplyM) (x:XIn) (draws:List Int):Int:=if r.begins x && decide (0 < draws.length) then 1 else 0
def asked (x:XIn):Bool:=mayX x.xd && (!x.anew && (x.to_ == 0 && x.slot != -1))
def renews (r:ReplyM) (x:XIn):Bool:=mayX x.xd && (x.anew && x.to_ == r.id)
def hear (r:ReplyM) (x:XIn) (draws:List Int):ReplyM :=
 if mayX x.xd then
  if x.anew then (if x.to_=r.id then { r with id:=(freshM draws [r.id]).1 } else r)
  else if x.to_=0 then (if x.slot=-1 then { r with round:=none } else { r with round:=r.roundOf x draws })
  else r
 else r
def used (r:ReplyM) (x:XIn) (draws:List Int):Int :=
 if r.renews x then ((freshM draws [r.id]).2:Int) else if asked x then r.usedOf x draws else 0
def says (r:ReplyM) (x:XIn) (draws:List Int):Bool :=
 asked x && (match r.roundOf x draws with | some (_,_,k)=>k == x.slot | none=>false)
def xid (r:ReplyM) (x:XIn) (draws:List Int):XIn :=
 if r.says x draws then ⟨r.id,x.from_,x.slot,x.slots,false,r.nick⟩ else xz
structure ok (r:ReplyM):Prop where
 id:ownN r.id=true∧u32 r.id
 nick:M.mayL r.nick.data.toList=true
end ReplyM

structure AIn where
 kind:Int
 n:Int
 id:Int
 body:ByteArray
abbrev AIn.val (a:AIn):Value:=.agg #[.int .i64 a.kind,.int .i64 a.n,.int .u32 a.id,.string a.body]
def AIn.ok (a:AIn):Prop:=(Lit.int .i64 a.kind).wf=true∧(Lit.int .i64 a.n).wf=true∧(Lit.int .u32 a.id).wf=true∧a.body.size≤maxLen
def AIn.z:AIn:=⟨0,0,0,⟨#[]⟩⟩
def mayA (a:AIn):Bool :=
 if a.kind=1 then decide (a.n=1 ∨ a.n=6 ∨ a.n=8) && (a.id == 0 && a.body.size == 0)
 else if a.kind=2 ∨ a.kind=7 then ownN a.id && (a.n == 0 && a.body.size == 0)
 else if a.kind=3 then decide (a.body.size≤64) && (a.n == 0 && a.id == 0)
 else if a.kind=4 ∨ a.kind=5 ∨ a.kind=6 then a.n == 0 && (a.id == 0 && a.body.size == 0)
 else false
structure BoxM where
 l:List AIn
namespace BoxM
def new:BoxM:=⟨[]⟩
def putE (b:BoxM) (a:AIn):Int:=if mayA a then (if 8≤b.l.length then 3 else 0) else 1
def put (b:BoxM) (a:AIn):BoxM:=if mayA a then (if 8≤b.l.length then b else ⟨b.l ++ [a]⟩) else b
def first (b:BoxM):AIn:=b.l.headD AIn.z
def some_ (b:BoxM):Bool:=decide (0 < b.l.length)
def take (b:BoxM):BoxM:=⟨b.l.tail⟩
def ok (b:BoxM):Prop:=b.l.length≤8∧∀ a ∈ b.l,a.ok
theorem ok_new:new.ok:=⟨by simp [new],by simp [new]⟩
theorem ok.put {b:BoxM} (h:b.ok) {a:AIn} (ha:a.ok):(b.put a).ok:=by
 unfold BoxM.put
 split
 · split
   · exact h
   · refine ⟨by simp;omega,fun x hx=>?_⟩
     rcases List.mem_append.1 hx with h1 | h1
     · exact h.2 x h1
     · rcases List.mem_singleton.1 h1 with rfl
       exact ha
 · exact h
theorem ok.take {b:BoxM} (h:b.ok):b.take.ok:=by
 refine ⟨?_,fun x hx=>h.2 x (List.mem_of_mem_tail hx)⟩
 have := h.1
 unfold BoxM.take
 simp only [List.length_tail]
 omega
end BoxM
end Go.Proofs.YtjddbjmcjhjpiaaGreatDoor

namespace Go.Proofs.YtjddbjmcjhjpiaaGreatDoor
open Go.RowKit

def IsRow (k:IntKind) (w:World) (a:Option Addr) (len cap:Nat) (zs:List Int):Prop :=
 (a=none∧len=0∧cap=0∧zs=[]) ∨
 ∃ x,a=some x∧len≤cap∧cap≤maxLen∧zs.length=cap∧(∀ i,i < zs.length→w.cell? (x.add i)=some (.int k (zs.getD i 0)))∧∀ n ∈ zs,(Lit.int k n).wf=true

def RdU (w:World) (v:Value) (l:List Int):Prop :=
 ∃ A cap,v=.slice A l.length cap∧l.length≤cap∧cap≤maxLen∧(∀ n ∈ l,u32 n)∧(0 < l.length→∃ b off,A=some ⟨b,off,none⟩∧b < w.heap.size∧∀ j (h:j < l.length),w.cell? ⟨b,off + j,none⟩=some (.int .u32 l[j]))
theorem RdU.nil_ (w:World):RdU w (.slice none 0 0) []:=⟨none,0,rfl,by simp,by simp [maxLen],by simp,fun h=>by simp at h⟩
theorem RdU.below {w w' : World} {v:Value} {l:List Int} (h:RdU w v l) (hb:Below w.heap.size w w'):RdU w' v l:=by
 obtain ⟨A,cap,rfl,h1,h2,h3,h4⟩:=h
 refine ⟨A,cap,rfl,h1,h2,h3,fun h0=>?_⟩
 obtain ⟨b,off,rfl,hlt,hc⟩:=h4 h0
 exact ⟨b,off,rfl,Nat.lt_of_lt_of_le hlt hb.size,fun j hj=>(hb.cell (p:=⟨b,off + j,none⟩) hlt).trans (hc j hj)⟩
theorem RdU.at_ {w:World} {A:Option Addr} {n cap:Nat} {l:List Int} (h:RdU w (.slice A n cap) l) {i:Nat} (hi:i < l.length) :
 ∃ b off,A=some ⟨b,off,none⟩∧b < w.heap.size∧w.cell? ⟨b,off + i,none⟩=some (.int .u32 l[i]):=by
 obtain ⟨A', cap', he,_,_,_,h3⟩:=h
 injection he with he
 subst he
 obtain ⟨b,off,rfl,hlt,hc⟩:=h3 (by omega)
 exact ⟨b,off,rfl,hlt,hc i hi⟩
theorem RdU.u {w:World} {v:Value} {l:List Int} (h:RdU w v l):∀ n ∈ l,u32 n:=by
 obtain ⟨_,_,_,_,_,h3,_⟩:=h
 exact h3
theorem RdU.cut {w:World} {A:Option Addr} {n cap:Nat} {l:List Int} (h:RdU w (.slice A n cap) l) {k:Nat} (hk:k≤l.length):RdU w (.slice A k cap) (l.take k):=by
 obtain ⟨A', cap', he,h1,h2,h3,h4⟩:=h
 injection he with he _ hc
 subst he;subst hc
 have hlen:(l.take k).length=k:=by rw [List.length_take];omega
 refine ⟨A,cap,by rw [hlen],by omega,h2,fun x hx=>h3 x (List.mem_of_mem_take hx),fun h0=>?_⟩
 obtain ⟨b,off,rfl,hlt,hc⟩:=h4 (by omega)
 refine ⟨b,off,rfl,hlt,fun j hj=>?_⟩
 rw [hc j (by omega),List.getElem_take]
theorem IsRow.rdu {w:World} {a:Option Addr} {len cap:Nat} {zs:List Int} (h:IsRow .u32 w a len cap zs):∃ l,RdU w (.slice a len cap) l:=by
 rcases h with ⟨rfl,rfl,rfl,rfl⟩ | ⟨x,rfl,hl,hm,hz,hc,hw⟩
 · exact ⟨[],RdU.nil_ w⟩
 · have hlen:(zs.take len).length=len:=by rw [List.length_take];omega
   refine ⟨zs.take len,some x,cap,by rw [hlen],by omega,hm,fun n hn=>?_,fun h0=>?_⟩
   · have := bounds_u32 (hw n (List.mem_of_mem_take hn))
     unfold u32
     omega
   · rw [hlen] at h0
     obtain ⟨b,off,spot⟩:=x
     have hc0:=hc 0 (by omega)
     have hspot:spot=none:=by simpa [Addr.add] using World.cell?_spot hc0
     subst hspot
     refine ⟨b,off,rfl,?_,fun j hj=>?_⟩
     · have := World.block_lt_of_cell? w _ hc0
       simpa [addr_add] using this
     · have hcj:=hc j (by omega)
       rw [addr_add] at hcj
       rw [hcj,List.getElem_take]
       have hg:zs.getD j 0=zs[j]'(by omega):=by simp [show j < zs.length by omega]
       rw [hg]
theorem rdU_new {w:World} {g:Nat} {l:List Int} {t:TypeId} (hg:w.heap[g]?=some (.cells (l.map (Value.int .u32)).toArray t (0,0))) (hl:l.length≤maxLen) (hu:∀ n ∈ l,u32 n):RdU w (.slice (some ⟨g,0,none⟩) l.length l.length) l:=by
 refine ⟨_,l.length,rfl,Nat.le_refl _,hl,hu,fun _=>⟨g,0,rfl,lt_at hg,fun j hj=>?_⟩⟩
 rw [cell_of_row w g _ _ t (0,0) hg,Nat.zero_add]
 simp [hj]
end Go.Proofs.YtjddbjmcjhjpiaaGreatDoor

namespace Go.Proofs.YtjddbjmcjhjpiaaGreatDoor

theorem w64 {n:Int} (h:-9223372036854775808≤n∧n≤9223372036854775807):(Lit.int .i64 n).wf=true:=by
 have h1:IntKind.i64.min=-9223372036854775808:=by decide
 have h2:IntKind.i64.max=9223372036854775807:=by decide
 show (decide (IntKind.i64.min≤n) && decide (n≤IntKind.i64.max))=true
 rw [h1,h2,decide_eq_true h.1,decide_eq_true h.2]
 rfl
structure OutM where
 win:Nat
 first:Nat
 l:List ByteArray
 sent:Nat
namespace OutM
def new (win:Int):OutM:=⟨(max 1 (min win 7)).toNat,0,[],0⟩
structure ok (o:OutM):Prop where
 win1:1≤o.win
 win7:o.win≤7
 first:o.first < 8
 len:o.l.length≤8
 sent:o.sent≤o.l.length
 sentw:o.sent≤o.win
def full (o:OutM):Bool:=decide (8≤o.l.length)
def put (o:OutM) (b:ByteArray):OutM:=if o.full then o else { o with l:=o.l ++ [b] }
def k (o:OutM):Nat:=min o.win o.l.length
def burst (o:OutM):OutM:={ o with sent:=max o.sent o.k }
def ns (o:OutM):List Int:=(List.range o.k).map fun i=>(((o.first + i) % 8:Nat):Int)
def dif (o:OutM) (nr:Int):Nat:=((nr - (o.first:Int)) % 8).toNat
def acks (o:OutM) (nr:Int):Bool:=decide (0≤nr∧nr≤7∧o.dif nr≤o.sent)
def ack (o:OutM) (nr:Int):OutM:=if o.acks nr then ⟨o.win,nr.toNat,o.l.drop (o.dif nr),o.sent - o.dif nr⟩ else o
theorem ok_new (win:Int):(new win).ok:=by
 unfold new
 refine ⟨?_,?_,?_,?_,?_,?_⟩ <;> simp only [List.length_nil] <;> omega
theorem ok.put {o:OutM} (h:o.ok) (b:ByteArray):(o.put b).ok:=by
 unfold OutM.put full
 split
 · exact h
 · rename_i hn
   have hn:¬ 8≤o.l.length:=by simpa using hn
   have h1:=h.sent
   exact ⟨h.win1,h.win7,h.first,by show (o.l ++ [b]).length≤8;simp;omega,by show o.sent≤(o.l ++ [b]).length;simp;omega,h.sentw⟩
theorem ok.burst {o:OutM} (h:o.ok):o.burst.ok:=by
 have h1:=h.sent
 have h2:=h.sentw
 refine ⟨h.win1,h.win7,h.first,h.len,?_,?_⟩ <;> simp only [OutM.burst,OutM.k] <;> omega
theorem ok.ack {o:OutM} (h:o.ok) (nr:Int):(o.ack nr).ok:=by
 unfold OutM.ack acks
 split
 · rename_i hn
   have hn:=of_decide_eq_true hn
   have h1:=h.sent
   have h2:=h.sentw
   have h3:=h.len
   refine ⟨h.win1,h.win7,?_,?_,?_,?_⟩ <;> simp only [List.length_drop] <;> omega
 · exact h
end OutM

structure InM where
 next:Nat
 odd:Bool
namespace InM
def new:InM:=⟨0,false⟩
def ok (i:InM):Prop:=i.next < 8
def hit (i:InM) (ns:Int):Bool:=decide (ns=(i.next:Int))
def take (i:InM) (ns:Int):InM:=if i.hit ns then ⟨(i.next + 1) % 8,false⟩ else ⟨i.next,true⟩
def told (i:InM) (ns:Int) (b:ByteArray):ByteArray:=if i.hit ns then b else ⟨#[]⟩
theorem ok_new:new.ok:=show (0:Nat) < 8 by decide
theorem ok.take {i:InM} (h:i.ok) (ns:Int):(i.take ns).ok:=by
 unfold InM.take
 split
 · show (i.next + 1) % 8 < 8;omega
 · exact h
end InM

structure TurnM where
 role:Int
 size:Int
 mine:Bool
 out:OutM
 inn:InM
namespace TurnM
def new (role win size:Int):TurnM:=⟨role,min size 64,decide (role=1),OutM.new win,InM.new⟩
structure ok (t:TurnM):Prop where
 role:t.role=1 ∨ t.role=2
 size:t.size≤64
 out:t.out.ok
 inn:t.inn.ok
def cmd (t:TurnM):Bool:=decide (t.role=1)
def putE (t:TurnM) (b:ByteArray):Int:=if t.size < (b.size:Int) then 1 else if t.out.full then 3 else 0
def put (t:TurnM) (b:ByteArray):TurnM:=if t.size < (b.size:Int) then t else { t with out:=t.out.put b }
def sayI (t:TurnM) (i:Nat):PIn:=⟨0,0,t.cmd,1,0,t.inn.next,((t.out.first + i) % 8:Nat),decide (i + 1=t.out.k),t.out.l.getD i ⟨#[]⟩⟩
def sayS (t:TurnM):PIn:=⟨0,0,t.cmd,2,if t.inn.odd then 2 else 0,t.inn.next,0,true,⟨#[]⟩⟩
def says (t:TurnM):List PIn:=if t.mine then (if t.out.k=0 then [t.sayS] else (List.range t.out.k).map t.sayI) else []
def go (t:TurnM):TurnM:=if t.mine then { t with mine:=false,out:=t.out.burst } else t
def hears (t:TurnM) (p:PIn):Bool:=decide (1≤p.kind∧p.kind≤2∧p.cmd=decide (t.role=2)∧0≤p.nr∧p.nr≤7∧0≤p.ns∧p.ns≤7)
def take (t:TurnM) (p:PIn):TurnM:=if t.hears p then ⟨t.role,t.size,t.mine || p.pf,t.out.ack p.nr,if p.kind=1 then t.inn.take p.ns else t.inn⟩ else t
def tells (t:TurnM) (p:PIn):Bool:=t.hears p && (decide (p.kind=1) && t.inn.hit p.ns)
def told (t:TurnM) (p:PIn):ByteArray:=if t.tells p then p.body else ⟨#[]⟩
def swap (t:TurnM):TurnM:={ t with role:=3 - t.role,mine:=decide (t.role=2) }
def left (t:TurnM):Nat:=t.out.l.length
theorem ok_new {role win size:Int} (h:role=1 ∨ role=2):(new role win size).ok:=⟨h,by show min size 64≤64;omega,OutM.ok_new win,InM.ok_new⟩
theorem ok.put {t:TurnM} (h:t.ok) (b:ByteArray):(t.put b).ok:=by
 unfold TurnM.put
 split
 · exact h
 · exact ⟨h.role,h.size,h.out.put b,h.inn⟩
theorem ok.go {t:TurnM} (h:t.ok):t.go.ok:=by
 unfold TurnM.go
 split
 · exact ⟨h.role,h.size,h.out.burst,h.inn⟩
 · exact h
theorem ok.take {t:TurnM} (h:t.ok) (p:PIn):(t.take p).ok:=by
 unfold TurnM.take
 split
 · refine ⟨h.role,h.size,h.out.ack _,?_⟩
   show (if p.kind=1 then t.inn.take p.ns else t.inn).ok
   split
   · exact h.inn.take _
   · exact h.inn
 · exact h
theorem ok.swap {t:TurnM} (h:t.ok):t.swap.ok:=⟨by have := h.role;show 3 - t.role=1 ∨ 3 - t.role=2;omega,h.size,h.out,h.inn⟩
end TurnM
end Go.Proofs.YtjddbjmcjhjpiaaGreatDoor

namespace Go.Proofs.YtjddbjmcjhjpiaaGreatDoor
open Go.RowKit

structure Tch (F:List Nat) (w w' : World):Prop where
 os:w'.os=w.os
 tape:w'.tape=w.tape
 output:w'.output=w.output
 size:w.heap.size≤w'.heap.size
 keep:∀ g,g < w.heap.size→g ∉ F→w'.heap[g]?=w.heap[g]?
def Sub (w:World) (F F' : List Nat):Prop:=∀ g ∈ F', g ∈ F ∨ w.heap.size≤g
theorem Sub.refl (w:World) (F:List Nat):Sub w F F:=fun _ h=>.inl h
theorem Sub.trans {w w1:World} {F F1 F2:List Nat} (h:Sub w F F1) (k:Sub w1 F1 F2) (hs:w.heap.size≤w1.heap.size):Sub w F F2:=fun g hg=>by
 rcases k g hg with h1 | h1
 · exact h g h1
 · exact .inr (Nat.le_trans hs h1)
def Up (base:Nat) (F:List Nat):Prop:=∀ g ∈ F,base≤g
theorem Up.sub {base:Nat} {w:World} {F F' : List Nat} (h:Up base F) (k:Sub w F F') (hs:base≤w.heap.size):Up base F' := fun g hg=>by
 rcases k g hg with h1 | h1
 · exact h g h1
 · exact Nat.le_trans hs h1
theorem Up.nil_ (base:Nat):Up base []:=fun _ h=>by cases h
theorem Up.app {base:Nat} {F G:List Nat} (h:Up base F) (k:Up base G):Up base (F ++ G):=fun g hg=>by
 rcases List.mem_append.1 hg with h1 | h1
 · exact h g h1
 · exact k g h1
theorem Up.mono {base b:Nat} {F:List Nat} (h:Up base F) (hb:b≤base):Up b F:=fun g hg=>Nat.le_trans hb (h g hg)
def In (w:World) (F:List Nat):Prop:=∀ g ∈ F,g < w.heap.size
theorem In.more {w w' : World} {F:List Nat} (h:In w F) (hs:w.heap.size≤w'.heap.size):In w' F:=fun g hg=>Nat.lt_of_lt_of_le (h g hg) hs
def Dis (F G:List Nat):Prop:=∀ g ∈ F,g ∉ G
theorem Dis.symm {F G:List Nat} (h:Dis F G):Dis G F:=fun g hg hf=>h g hf hg
theorem Dis.new {w:World} {F G:List Nat} (h:In w F) (k:Up w.heap.size G):Dis F G:=fun g hg hg' => by
 have := h g hg
 have := k g hg'
 omega
theorem Dis.sub {w:World} {F F' G:List Nat} (h:Dis F G) (k:Sub w F F') (hg:In w G):Dis F' G:=fun g hf hG=>by
 rcases k g hf with h1 | h1
 · exact h g h1 hG
 · have := hg g hG
   omega
theorem Tch.refl (F:List Nat) (w:World):Tch F w w:=⟨rfl,rfl,rfl,Nat.le_refl _,fun _ _ _=>rfl⟩
theorem Tch.of_below {w w' : World} (F:List Nat) (h:Below w.heap.size w w'):Tch F w w' := ⟨h.os,h.tape,h.output,h.size,fun g hg _=>h.block g hg⟩
theorem Tch.of_grown {w w' : World} {F:List Nat} {g:Nat} (h:w.grownBy w' (some g)) (hg:g ∈ F ∨ w.heap.size≤g):Tch F w w' := ⟨h.os,h.tape,h.output,h.size,fun k hk hn=>h.block k hk (fun e=>by
 injection e with e
 subst e
 rcases hg with h1 | h1
 · exact hn h1
 · omega)⟩
theorem Tch.mono {F G:List Nat} {w w' : World} (h:Tch F w w') (hs:∀ g ∈ F,g ∈ G):Tch G w w' := ⟨h.os,h.tape,h.output,h.size,fun g hg hn=>h.keep g hg (fun h1=>hn (hs g h1))⟩
theorem Tch.trans {F F1:List Nat} {w w1 w2:World} (h:Tch F w w1) (k:Tch F1 w1 w2) (hs:Sub w F F1):Tch F w w2 :=
 ⟨k.os.trans h.os,k.tape.trans h.tape,k.output.trans h.output,Nat.le_trans h.size k.size,fun g hg hn =>
  (k.keep g (Nat.lt_of_lt_of_le hg h.size) (fun h1=>by
   rcases hs g h1 with h2 | h2
   · exact hn h2
   · omega)).trans (h.keep g hg hn)⟩
theorem Tch.below {F:List Nat} {base:Nat} {w w' : World} (h:Tch F w w') (hu:Up base F) (hb:base≤w.heap.size):Below base w w' :=
 ⟨h.os,h.tape,h.output,h.size,fun g hg=>h.keep g (Nat.lt_of_lt_of_le hg hb) (fun h1=>by have := hu g h1;omega)⟩
theorem Tch.bel {F:List Nat} {a w w' : World} (h:Tch F w w') (hb:Below a.heap.size a w) (hu:Up a.heap.size F):Below a.heap.size a w' := hb.trans (h.below hu hb.size)
theorem Tch.at_ {F:List Nat} {w w' : World} {g:Nat} {o:Obj} (h:Tch F w w') (hg:w.heap[g]?=some o) (hn:g ∉ F):w'.heap[g]?=some o:=(h.keep g (lt_at hg) hn).trans hg
theorem Tch.cell {F:List Nat} {w w' : World} {p:Addr} {v:Value} (h:Tch F w w') (hc:w.cell? p=some v) (hn:p.block ∉ F):w'.cell? p=some v :=
 (World.cell?_of_block (h.keep p.block (World.block_lt_of_cell? w p hc) hn)).trans hc
theorem Tch.drew {F:List Nat} {w w' : World} (h:Tch F w w'):Tch F w w'.drew:=⟨h.os,h.tape,h.output,h.size,h.keep⟩

def blk:Value→List Nat
 | .slice (some a) _ _=>[a.block]
 | _=>[]
def RdG (k:Nat) (w:World) (v:Value) (n:Nat) (xs:List Value):Prop :=
 xs.length=n * k∧∃ A cap,v=.slice A n cap∧n≤cap∧cap≤maxLen∧(0 < n→∃ b off,A=some ⟨b,off,none⟩∧b < w.heap.size∧∀ j u,xs[j]?=some u→w.cell? ⟨b,off + j,none⟩=some u)
section
variable {k n:Nat} {w w' : World} {v:Value} {xs:List Value}
theorem RdG.nil_ (k:Nat) (w:World):RdG k w (.slice none 0 0) 0 []:=⟨by simp,none,0,rfl,Nat.le_refl _,by simp [maxLen],fun h=>absurd h (by omega)⟩
theorem RdG.tch {F:List Nat} (h:RdG k w v n xs) (ht:Tch F w w') (hn:Dis (blk v) F):RdG k w' v n xs:=by
 obtain ⟨hl,A,cap,rfl,h1,h2,h3⟩:=h
 refine ⟨hl,A,cap,rfl,h1,h2,fun h0=>?_⟩
 obtain ⟨b,off,rfl,hlt,hc⟩:=h3 h0
 exact ⟨b,off,rfl,Nat.lt_of_lt_of_le hlt ht.size,fun j u hu=>ht.cell (p:=⟨b,off + j,none⟩) (hc j u hu) (hn b (by simp [blk]))⟩
theorem RdG.below (h:RdG k w v n xs) (hb:Below w.heap.size w w'):RdG k w' v n xs:=h.tch (Tch.of_below [] hb) (fun _ _ h=>by cases h)
theorem RdG.drew (h:RdG k w v n xs):RdG k w.drew v n xs:=h
theorem RdG.shape (h:RdG k w v n xs):∃ A cap,v=.slice A n cap∧n≤cap∧cap≤maxLen:=by
 obtain ⟨_,A,cap,e,h1,h2,_⟩:=h
 exact ⟨A,cap,e,h1,h2⟩
theorem RdG.at_ {A:Option Addr} {m cap:Nat} (h:RdG k w (.slice A m cap) n xs) {i:Nat} (hi:i < n) :
 ∃ b off,A=some ⟨b,off,none⟩∧b < w.heap.size∧∀ j u,j < k→xs[i * k + j]?=some u→w.cell? ⟨b,off + i * k + j,none⟩=some u:=by
 obtain ⟨hl,A', cap', e,_,_,h3⟩:=h
 injection e with e
 subst e
 obtain ⟨b,off,rfl,hlt,hc⟩:=h3 (by omega)
 exact ⟨b,off,rfl,hlt,fun j u _ hu=>by rw [Nat.add_assoc];exact hc _ u hu⟩
theorem RdG.one {A:Option Addr} {m cap:Nat} (h:RdG 1 w (.slice A m cap) n xs) {i:Nat} {u:Value} (hu:xs[i]?=some u) (hi:i < n) :
 ∃ b off,A=some ⟨b,off,none⟩∧w.cell? ⟨b,off + i,none⟩=some u:=by
 obtain ⟨b,off,e,_,hc⟩:=h.at_ hi
 have := hc 0 u (by omega) (by rw [Nat.mul_one,Nat.add_zero];exact hu)
 rw [Nat.mul_one,Nat.add_zero] at this
 exact ⟨b,off,e,this⟩
theorem RdG.take {A:Option Addr} {N cap:Nat} (h:RdG k w (.slice A N cap) n xs) {m:Nat} (hm:m≤n):RdG k w (.slice A m cap) m (xs.take (m * k)):=by
 obtain ⟨hl,A', cap', e,h1,h2,h3⟩:=h
 injection e with e1 e2 e3
 subst e1;subst e2;subst e3
 have hmk:m * k≤xs.length:=by rw [hl];exact Nat.mul_le_mul_right k hm
 refine ⟨by rw [List.length_take];omega,A,cap,rfl,by omega,h2,fun h0=>?_⟩
 obtain ⟨b,off,rfl,hlt,hc⟩:=h3 (by omega)
 refine ⟨b,off,rfl,hlt,fun j u hu=>hc j u ?_⟩
 have hj:=(List.getElem?_eq_some_iff.1 hu).1
 rw [List.length_take] at hj
 rw [List.getElem?_take_of_lt (by omega)] at hu
 exact hu
end
theorem ownG_rd {k n base:Nat} {t:TypeId} {w:World} {v:Value} {xs:List Value} (h:w.ownsRow base t k v n xs):RdG k w v n xs:=by
 have hcells:=@World.ownsRow.cells w base t k v n xs h
 have hlen:=h.1
 rcases h.2 with ⟨rfl,hn⟩ | ⟨g,cap,cur,rfl,hb,hh,hc,hm,hs,ht⟩
 · exact ⟨hlen,none,0,by rw [hn],by omega,by simp [maxLen],fun h0=>by omega⟩
 · refine ⟨hlen,_,cap,rfl,hc,hm,fun _=>⟨g,0,rfl,lt_at hh,fun j u hu=>?_⟩⟩
   have := hcells (g:=g) rfl j u hu
   rw [addr_add] at this
   exact this
theorem ownG_blk {k n base:Nat} {t:TypeId} {w:World} {v:Value} {xs:List Value} (h:w.ownsRow base t k v n xs):∀ g ∈ blk v,base≤g∧g < w.heap.size∧v.ownBlock=some g:=by
 rcases h.2 with ⟨rfl,hn⟩ | ⟨g,cap,cur,rfl,hb,hh,hc,hm,hs,ht⟩
 · intro g hg;simp [blk] at hg
 · intro g' hg
   simp only [blk,List.mem_singleton] at hg
   subst hg
   exact ⟨hb,lt_at hh,rfl⟩
theorem RdG.reads {k n:Nat} {w:World} {v:Value} {xs:List Value} (h:RdG k w v n xs):∃ A cap,v=.slice A n cap∧Reads w w.heap.size k A n xs:=by
 obtain ⟨hl,A,cap,rfl,h1,h2,h3⟩:=h
 refine ⟨A,cap,rfl,hl,fun h0=>?_⟩
 obtain ⟨b,off,rfl,hlt,hc⟩:=h3 h0
 exact ⟨_,rfl,hlt,fun j u hu=>by rw [addr_add];exact hc j u hu⟩
end Go.Proofs.YtjddbjmcjhjpiaaGreatDoor

namespace Go.Proofs.YtjddbjmcjhjpiaaGreatDoor
open Go.RowKit

abbrev Obj:=World→List Nat→Prop
structure Stab (R:Obj):Prop where
 in_:∀ {w:World} {F:List Nat},R w F→In w F
 tch:∀ {w w' : World} {F G:List Nat},R w F→Tch G w w' → Dis F G→R w' F
def Done (w:World) (F:List Nat) (R:Obj) (w' : World):Prop:=∃ F', R w' F' ∧ Tch F w w' ∧ Sub w F F'
def Star (R K:Obj):Obj:=fun w F=>∃ F1 F2,F=F1 ++ F2∧R w F1∧K w F2∧Dis F1 F2
theorem In.app {w:World} {F G:List Nat} (h:In w F) (k:In w G):In w (F ++ G):=fun g hg=>by
 rcases List.mem_append.1 hg with h1 | h1
 · exact h g h1
 · exact k g h1
theorem Dis.app {F G E:List Nat} (h:Dis F E) (k:Dis G E):Dis (F ++ G) E:=fun g hg=>by
 rcases List.mem_append.1 hg with h1 | h1
 · exact h g h1
 · exact k g h1
theorem Dis.l {F G E:List Nat} (h:Dis (F ++ G) E):Dis F E:=fun g hg=>h g (List.mem_append_left _ hg)
theorem Dis.r {F G E:List Nat} (h:Dis (F ++ G) E):Dis G E:=fun g hg=>h g (List.mem_append_right _ hg)
theorem Stab.star {R K:Obj} (h:Stab R) (k:Stab K):Stab (Star R K) where
 in_:=by
  rintro w F ⟨F1,F2,rfl,h1,h2,_⟩
  exact (h.in_ h1).app (k.in_ h2)
 tch:=by
  rintro w w' F G ⟨F1,F2,rfl,h1,h2,h3⟩ ht hd
  exact ⟨F1,F2,rfl,h.tch h1 ht hd.l,k.tch h2 ht hd.r,h3⟩
theorem Stab.keep {R:Obj} (h:Stab R) {w w' : World} {F:List Nat} (hr:R w F) (hb:Below w.heap.size w w'):R w' F:=h.tch hr (Tch.of_below [] hb) (fun _ _ h=>by cases h)
theorem Done.of_below {w w' : World} {F:List Nat} {R:Obj} (hb:Below w.heap.size w w') (h:R w' F):Done w F R w' := ⟨F,h,Tch.of_below F hb,Sub.refl w F⟩
theorem Done.mono {w w' : World} {F:List Nat} {R R' : Obj} (h:Done w F R w') (k:∀ F,R w' F→R' w' F):Done w F R' w' := by
 obtain ⟨F', h1,h2,h3⟩:=h
 exact ⟨F', k _ h1,h2,h3⟩
theorem Done.drew {w w' : World} {F:List Nat} {R:Obj} (hR:Stab R) (h:Done w F R w'):Done w F R w'.drew:=by
 obtain ⟨F', h1,h2,h3⟩:=h
 exact ⟨F', hR.keep h1 (Below.refl _ _).drew,h2.drew,h3⟩
structure Fr (C:Obj→Obj):Prop where
 out:∀ {R:Obj} {w:World} {F:List Nat},C R w F→∃ F1,R w F1∧∀ {w' : World} {R' : Obj},Done w F1 R' w' → Done w F (C R') w'
theorem Fr.id_:Fr (fun X=>X):=⟨fun h=>⟨_,h,fun k=>k⟩⟩
theorem Fr.l {C:Obj→Obj} {K:Obj} (hC:Fr C) (hK:Stab K):Fr (fun X=>Star (C X) K):=⟨by
 rintro R w F ⟨F1,F2,rfl,h1,h2,h3⟩
 obtain ⟨F0,h4,h5⟩:=hC.out h1
 refine ⟨F0,h4,fun {w' R'} k=>?_⟩
 obtain ⟨F1', k1,k2,k3⟩:=h5 k
 refine ⟨F1' ++ F2,⟨F1', F2,rfl,k1,hK.tch h2 k2 h3.symm,h3.sub k3 (hK.in_ h2)⟩,k2.mono (fun g hg=>List.mem_append_left _ hg),fun g hg=>?_⟩
 rcases List.mem_append.1 hg with h6 | h6
 · rcases k3 g h6 with h7 | h7
   · exact .inl (List.mem_append_left _ h7)
   · exact .inr h7
 · exact .inl (List.mem_append_right _ h6)⟩
theorem Fr.r {C:Obj→Obj} {K:Obj} (hK:Stab K) (hC:Fr C):Fr (fun X=>Star K (C X)):=⟨by
 rintro R w F ⟨F1,F2,rfl,h1,h2,h3⟩
 obtain ⟨F0,h4,h5⟩:=hC.out h2
 refine ⟨F0,h4,fun {w' R'} k=>?_⟩
 obtain ⟨F2', k1,k2,k3⟩:=h5 k
 refine ⟨F1 ++ F2', ⟨F1,F2', rfl,hK.tch h1 k2 h3,k1,(h3.symm.sub k3 (hK.in_ h1)).symm⟩,k2.mono (fun g hg=>List.mem_append_right _ hg),fun g hg=>?_⟩
 rcases List.mem_append.1 hg with h6 | h6
 · exact .inl (List.mem_append_left _ h6)
 · rcases k3 g h6 with h7 | h7
   · exact .inl (List.mem_append_right _ h7)
   · exact .inr h7⟩

def Sd (w0:World) (H:Obj) (w:World):Prop:=Below w0.heap.size w0 w∧∃ F,H w F∧Up w0.heap.size F
section
variable {w0 w w' : World} {H R K:Obj}
theorem Sd.bel0 (h:Sd w0 H w):Below w0.heap.size w0 w:=h.1
theorem Sd.size (h:Sd w0 H w):w0.heap.size≤w.heap.size:=h.1.size
theorem Sd.upd {C:Obj→Obj} (hC:Fr C) (h:Sd w0 (C R) w):∃ F1,R w F1∧∀ {w' : World} {R' : Obj},Done w F1 R' w' → Sd w0 (C R') w' := by
 obtain ⟨hb,F,hF,hu⟩:=h
 obtain ⟨F1,h1,h2⟩:=hC.out hF
 refine ⟨F1,h1,fun {w' R'} k=>?_⟩
 obtain ⟨F', k1,k2,k3⟩:=h2 k
 exact ⟨k2.bel hb hu,F', k1,hu.sub k3 hb.size⟩
theorem Sd.get {C:Obj→Obj} (hC:Fr C) (h:Sd w0 (C R) w):∃ F1,R w F1:=by
 obtain ⟨F1,h1,_⟩:=h.upd hC
 exact ⟨F1,h1⟩
theorem Sd.keep (h:Sd w0 H w) (hH:Stab H) (hb:Below w.heap.size w w'):Sd w0 H w' := by
 obtain ⟨h1,F,hF,hu⟩:=h
 exact ⟨h1.trans (hb.mono h1.size),F,hH.keep hF hb,hu⟩
theorem Sd.drew (h:Sd w0 H w) (hH:Stab H):Sd w0 H w.drew:=h.keep hH (Below.refl _ _).drew
theorem Sd.add (h:Sd w0 H w) (hH:Stab H) (hn:Done w [] R w'):Sd w0 (Star H R) w' := by
 obtain ⟨hb,F,hF,hu⟩:=h
 obtain ⟨F', k1,k2,k3⟩:=hn
 have hup:Up w.heap.size F' := fun g hg=>by
  rcases k3 g hg with h1 | h1
  · cases h1
  · exact h1
 refine ⟨k2.bel hb (Up.nil_ _),F ++ F', ⟨F,F', rfl,hH.tch hF k2 (fun _ _ h=>by cases h),k1,Dis.new (hH.in_ hF) hup⟩,hu.app (hup.mono hb.size)⟩
theorem Sd.first (h:Below w0.heap.size w0 w) (hn:Done w [] R w'):Sd w0 R w' := by
 obtain ⟨F', k1,k2,k3⟩:=hn
 refine ⟨k2.bel h (Up.nil_ _),F', k1,fun g hg=>?_⟩
 rcases k3 g hg with h1 | h1
 · cases h1
 · exact Nat.le_trans h.size h1
theorem Sd.drop (h:Sd w0 (Star H K) w):Sd w0 H w:=by
 obtain ⟨hb,F,⟨F1,F2,rfl,h1,h2,_⟩,hu⟩:=h
 exact ⟨hb,F1,h1,fun g hg=>hu g (List.mem_append_left _ hg)⟩
theorem Sd.mono (h:Sd w0 H w) (k:∀ F,H w F→R w F):Sd w0 R w:=by
 obtain ⟨hb,F,hF,hu⟩:=h
 exact ⟨hb,F,k F hF,hu⟩
end

def CellW (g:Nat) (cs:Array Value) (t:TypeId):Obj:=fun w F=>F=[g]∧w.heap[g]?=some (.cells cs t (0,0))
def SlW (k:Nat) (a:Value) (n:Nat) (xs:List Value):Obj:=fun w F=>F=blk a∧In w F∧RdG k w a n xs
theorem CellW.stab (g:Nat) (cs:Array Value) (t:TypeId):Stab (CellW g cs t) where
 in_:=by
  rintro w F ⟨rfl,h⟩ k hk
  simp only [List.mem_singleton] at hk
  subst hk
  exact lt_at h
 tch:=by
  rintro w w' F G ⟨rfl,h⟩ ht hd
  exact ⟨rfl,ht.at_ h (hd g (by simp))⟩
theorem cS {g cs t}:Stab (CellW g cs t):=CellW.stab g cs t
theorem SlW.stab (k:Nat) (a:Value) (n:Nat) (xs:List Value):Stab (SlW k a n xs) where
 in_:=fun ⟨_,h,_⟩=>h
 tch:=by
  rintro w w' F G ⟨rfl,h1,h2⟩ ht hd
  exact ⟨rfl,h1.more ht.size,h2.tch ht hd⟩
theorem CellW.new (w:World) (cs:Array Value) (t:TypeId):Done w [] (CellW w.heap.size cs t) (w.alloc (.cells cs t)) :=
 ⟨[w.heap.size],⟨rfl,heap_alloc_new w _⟩,Tch.of_below [] ((Below.refl _ _).alloc (Nat.le_refl _) _),fun g hg=>by
  simp only [List.mem_singleton] at hg
  exact .inr (Nat.le_of_eq hg.symm)⟩
theorem CellW.put {g:Nat} {cs cs' : Array Value} {t:TypeId} {w w' : World} {F:List Nat} (h:CellW g cs t w F) (hg:w.grownBy w' (some g)) (hh:w'.heap[g]?=some (.cells cs' t (0,0))):Done w F (CellW g cs' t) w' := by
 obtain ⟨rfl,h⟩:=h
 exact ⟨[g],⟨rfl,hh⟩,Tch.of_grown hg (.inl (by simp)),Sub.refl _ _⟩
theorem SlW.shape {k n:Nat} {a:Value} {xs:List Value} {w:World} {F:List Nat} (h:SlW k a n xs w F):∃ A cap,a=.slice A n cap∧n≤cap∧cap≤maxLen:=h.2.2.shape
theorem SlW.addr {k n:Nat} {a:Value} {xs:List Value} {w:World} {F:List Nat} (h:SlW k a n xs w F) (hn:0 < n):∃ b off cap,a=.slice (some ⟨b,off,none⟩) n cap∧n≤cap∧cap≤maxLen:=by
 obtain ⟨_,_,hl,A,cap,rfl,h1,h2,h3⟩:=h
 obtain ⟨b,off,rfl,_,_⟩:=h3 hn
 exact ⟨b,off,cap,rfl,h1,h2⟩
theorem SlW.cell {k n m b off cap:Nat} {xs:List Value} {w:World} {F:List Nat} (h:SlW k (.slice (some ⟨b,off,none⟩) m cap) n xs w F) {j:Nat} {u:Value} (hu:xs[j]?=some u):w.cell? ⟨b,off + j,none⟩=some u:=by
 obtain ⟨_,_,hl,A,cap,e,h1,h2,h3⟩:=h
 injection e with e
 subst e
 have hj:=(List.getElem?_eq_some_iff.1 hu).1
 obtain ⟨b', off', e', _,hc⟩:=h3 (by
  rcases Nat.eq_zero_or_pos n with h0 | h0
  · subst h0;rw [hl] at hj;omega
  · exact h0)
 injection e' with e'
 injection e' with e1 e2
 subst e1;subst e2
 exact hc j u hu
end Go.Proofs.YtjddbjmcjhjpiaaGreatDoor

namespace Go.Proofs.YtjddbjmcjhjpiaaGreatDoor
open Go.RowKit

def ints (l:List Int):List Value:=l.map (Value.int .i64)
def strg (l:List ByteArray):List Value:=l.map Value.string
def pcs (p:PIn):List Value:=[.int .i64 p.seat,.int .i64 p.count,.bool p.cmd,.int .i64 p.kind,.int .i64 p.sort,.int .i64 p.nr,.int .i64 p.ns,.bool p.pf,.string p.body]
def plcs (l:List PIn):List Value:=l.flatMap pcs
end Go.Proofs.YtjddbjmcjhjpiaaGreatDoor

namespace Go.Proofs.YtjddbjmcjhjpiaaGreatDoor
open Go.RowKit M

section
variable {w0 w w' : World} {F0:List Nat} {H R K:Obj}
theorem Done.start {F:List Nat} (h:H w F):Done w F H w:=⟨F,h,Tch.refl _ _,Sub.refl _ _⟩
theorem Done.bel {w0 w:World} {H:Obj} (h:Done w0 [] H w):Below w0.heap.size w0 w:=by
 obtain ⟨F,_,ht,_⟩:=h
 exact ht.below (Up.nil_ _) (Nat.le_refl _)
theorem Done.size (h:Done w0 F0 H w):w0.heap.size≤w.heap.size:=by
 obtain ⟨F,_,ht,_⟩:=h
 exact ht.size
theorem Done.tch (h:Done w0 F0 H w):Tch F0 w0 w:=by
 obtain ⟨F,_,ht,_⟩:=h
 exact ht
theorem Done.upd {C:Obj→Obj} (hC:Fr C) (h:Done w0 F0 (C R) w):∃ F1,R w F1∧∀ {w' : World} {R' : Obj},Done w F1 R' w' → Done w0 F0 (C R') w' := by
 obtain ⟨F,hF,ht,hs⟩:=h
 obtain ⟨F1,h1,h2⟩:=hC.out hF
 refine ⟨F1,h1,fun {w' R'} k=>?_⟩
 obtain ⟨F', k1,k2,k3⟩:=h2 k
 exact ⟨F', k1,ht.trans k2 hs,hs.trans k3 ht.size⟩
theorem Done.get {C:Obj→Obj} (hC:Fr C) (h:Done w0 F0 (C R) w):∃ F1,R w F1:=by
 obtain ⟨F1,h1,_⟩:=h.upd hC
 exact ⟨F1,h1⟩
theorem Done.keep (h:Done w0 F0 H w) (hH:Stab H) (hb:Below w.heap.size w w'):Done w0 F0 H w' := by
 obtain ⟨F,hF,ht,hs⟩:=h
 exact ⟨F,hH.keep hF hb,ht.trans (Tch.of_below F hb) hs,hs⟩
theorem Done.drewD (h:Done w0 F0 H w) (hH:Stab H):Done w0 F0 H w.drew:=h.keep hH (Below.refl _ _).drew
theorem Done.add (h:Done w0 F0 H w) (hH:Stab H) (hn:Done w [] R w'):Done w0 F0 (Star H R) w' := by
 obtain ⟨F,hF,ht,hs⟩:=h
 obtain ⟨F', k1,k2,k3⟩:=hn
 have hup:Up w.heap.size F' := fun g hg=>by
  rcases k3 g hg with h1 | h1
  · cases h1
  · exact h1
 refine ⟨F ++ F', ⟨F,F', rfl,hH.tch hF k2 (fun _ _ h=>by cases h),k1,Dis.new (hH.in_ hF) hup⟩,ht.trans (k2.mono (fun _ h=>by cases h)) hs,fun g hg=>?_⟩
 rcases List.mem_append.1 hg with h1 | h1
 · exact hs g h1
 · exact .inr (Nat.le_trans ht.size (hup g h1))
theorem Done.drop (h:Done w0 F0 (Star H K) w):Done w0 F0 H w:=by
 obtain ⟨F,⟨F1,F2,rfl,h1,h2,_⟩,ht,hs⟩:=h
 exact ⟨F1,h1,ht,fun g hg=>hs g (List.mem_append_left _ hg)⟩
theorem Done.drop_at {C:Obj→Obj} (hC:Fr C) (h:Done w0 F0 (C (Star H K)) w):Done w0 F0 (C H) w:=by
 obtain ⟨F,⟨F1,F2,rfl,h1,_,_⟩,hu⟩:=h.upd hC
 exact hu ⟨F1,h1,Tch.refl _ _,fun g hg=>.inl (List.mem_append_left _ hg)⟩
theorem Done.drop_mid {A B:Obj} (h:Done w0 F0 (Star (Star A B) K) w):Done w0 F0 (Star A K) w:=by
 obtain ⟨F,⟨F1,F2,rfl,⟨F3,F4,rfl,h1,h2,h4⟩,h3,h5⟩,ht,hs⟩:=h
 refine ⟨F3 ++ F2,⟨F3,F2,rfl,h1,h3,h5.l⟩,ht,fun g hg=>hs g ?_⟩
 rcases List.mem_append.1 hg with h6 | h6
 · exact List.mem_append_left _ (List.mem_append_left _ h6)
 · exact List.mem_append_right _ h6
theorem Done.comm_at {C:Obj→Obj} {A B:Obj} (hC:Fr C) (h:Done w0 F0 (C (Star A B)) w):Done w0 F0 (C (Star B A)) w:=by
 obtain ⟨F,⟨F1,F2,rfl,h1,h2,h3⟩,hu⟩:=h.upd hC
 refine hu ⟨F2 ++ F1,⟨F2,F1,rfl,h2,h1,h3.symm⟩,Tch.refl _ _,fun g hg=>.inl ?_⟩
 rcases List.mem_append.1 hg with h4 | h4
 · exact List.mem_append_right _ h4
 · exact List.mem_append_left _ h4
theorem Done.unassoc_at {A B D:Obj} {C:Obj→Obj} (hC:Fr C) (h:Done w0 F0 (C (Star A (Star B D))) w):Done w0 F0 (C (Star (Star A B) D)) w:=by
 obtain ⟨F,⟨F1,F2,rfl,h1,⟨F3,F4,rfl,h2,h3,h4⟩,h5⟩,hu⟩:=h.upd hC
 refine hu ⟨(F1 ++ F3) ++ F4,⟨F1 ++ F3,F4,rfl,⟨F1,F3,rfl,h1,h2,fun g hg hg' => h5 g hg (List.mem_append_left _ hg')⟩,h3,?_⟩,Tch.refl _ _,fun g hg=>.inl (by simpa [List.append_assoc] using hg)⟩
 intro g hg hg'
 rcases List.mem_append.1 hg with h6 | h6
 · exact h5 g h6 (List.mem_append_right _ hg')
 · exact h4 g h6 hg'
theorem Done.mono_at {C:Obj→Obj} (hC:Fr C) (h:Done w0 F0 (C H) w) (k:∀ F,H w F→K w F):Done w0 F0 (C K) w:=by
 obtain ⟨F,h1,hu⟩:=h.upd hC
 exact hu ⟨F,k F h1,Tch.refl _ _,Sub.refl _ _⟩
theorem Done.at_ {C:Obj→Obj} {g:Nat} {cs:Array Value} {t:TypeId} (hC:Fr C) (h:Done w0 F0 (C (CellW g cs t)) w):w.heap[g]?=some (.cells cs t (0,0)):=by
 obtain ⟨_,-,h1⟩:=h.get hC
 exact h1
theorem Done.put_ {C:Obj→Obj} {g:Nat} {cs cs' : Array Value} {t:TypeId} (hC:Fr C) (h:Done w0 F0 (C (CellW g cs t)) w) (hg:w.grownBy w' (some g)) (hh:w'.heap[g]?=some (.cells cs' t (0,0))):Done w0 F0 (C (CellW g cs' t)) w' := by
 obtain ⟨F,hF,hu⟩:=h.upd hC
 exact hu (hF.put hg hh)
end
theorem dcalls_at {P:Program} {f:FuncId} {args:Array Value} {ret:Value} {w0 w:World} {F0:List Nat} {C:Obj→Obj} {R R' : Obj} (hC:Fr C) (h:Done w0 F0 (C R) w)
 (hc:∀ F,R w F→Calls P f args w fun e w' => e=.returned ret∧Done w F R' w'):Calls P f args w fun e w' => e=.returned ret∧Done w0 F0 (C R') w' := by
 obtain ⟨F1,h1,h2⟩:=h.upd hC
 exact (hc F1 h1).mono fun e w' ⟨he,hd⟩=>⟨he,h2 hd⟩
theorem dcalls_keep {P:Program} {f:FuncId} {args:Array Value} {ret:Value} {w0 w:World} {F0:List Nat} {H:Obj} (hH:Stab H) (h:Done w0 F0 H w)
 (hc:Calls P f args w fun e w' => e=.returned ret∧Below w.heap.size w w'):Calls P f args w fun e w' => e=.returned ret∧Done w0 F0 H w' :=
 hc.mono fun _ _ ⟨he,hb⟩=>⟨he,h.keep hH hb⟩
section
variable {P:Program} {ops:Array Oper} {rest:List Oper} {o:Oper} {a:Act} {w0 w:World} {F0:List Nat} {Q:Exit→Act→World→Prop} {C:Obj→Obj} {g:Nat} {cs:Array Value} {t:TypeId}
theorem wpList_storeD (hC:Fr C) (h:Done w0 F0 (C (CellW g cs t)) w) (hgd:o.guard=none) (ty:TypeId) (x y:Operand) (ho:o.op=.store ty x y) (k:Nat) (v:Value) (hx:a.eval x=.pointer (some ⟨g,k,none⟩)) (hy:a.eval y=v) (hk:k < cs.size)
 (hrun:∀ w,(∃ u,w.cell? ⟨g,k,none⟩=some u)→w.frozen? ⟨g,k,none⟩=false→(Instr.storeAt ty (.pointer (some ⟨g,k,none⟩)) v).run P w=.ok () (w.setCell ⟨g,k,none⟩ v))
 (hn:∀ w', Done w0 F0 (C (CellW g (cs.setIfInBounds k v) t)) w' → wpList P ops Q rest (a.put o.dst undef) w'):wpList P ops Q (o :: rest) a w :=
 wpList_store1 hgd ty x y ho g k v hx hy t cs (h.at_ hC) hk hrun (fun w' hg hh=>hn w' (h.put_ hC hg hh))
theorem wpList_storeBD (hC:Fr C) (h:Done w0 F0 (C (CellW g cs t)) w) (hgd:o.guard=none) (ty:TypeId) (x y:Operand) (ho:o.op=.store ty x y) (cells:Array Value) (hx:a.eval x=.pointer (some ⟨g,0,none⟩)) (hy:a.eval y=.agg cells)
 (hsz:(P.info? ty).map (·.size)=some cells.size) (hold:cs.size=cells.size) (h1:cells.all (·.oneCell')=true)
 (hn:∀ w', Done w0 F0 (C (CellW g cells t)) w' → wpList P ops Q rest (a.put o.dst undef) w'):wpList P ops Q (o :: rest) a w :=
 wpList_storeB hgd ty x y ho g cells hx hy t cs (h.at_ hC) hsz hold h1 (fun w' hg _ hh=>hn w' (h.put_ hC hg hh))
theorem wpList_loadD (hC:Fr C) (h:Done w0 F0 (C (CellW g cs t)) w) (hgd:o.guard=none) (ty:TypeId) (x:Operand) (ho:o.op=.load ty x) (hx:a.eval x=.pointer (some ⟨g,0,none⟩)) (d:TypeDesc)
 (hu:P.underlying ty=some d) (hd:(match d with | .struct _ | .array _ _=>true | _=>false)=true) (hi:(P.info? ty).map (·.size)=some cs.size)
 (hn:wpList P ops Q rest (a.put o.dst (.agg cs)) w):wpList P ops Q (o :: rest) a w :=
 wpList_loadB hgd ty x ho g hx t cs (h.at_ hC) d hu hd hi hn
end
theorem run_storeI (n:Int) (g k:Nat):∀ w:World,(∃ u,w.cell? ⟨g,k,none⟩=some u)→w.frozen? ⟨g,k,none⟩=false→(Instr.storeAt 3 (.pointer (some ⟨g,k,none⟩)) (.int .i64 n)).run Tryz.prog w=.ok () (w.setCell ⟨g,k,none⟩ (.int .i64 n)):=by
 rintro w ⟨u,hu⟩ hf
 go_simp
theorem run_storeBo (b:Bool) (g k:Nat):∀ w:World,(∃ u,w.cell? ⟨g,k,none⟩=some u)→w.frozen? ⟨g,k,none⟩=false→(Instr.storeAt 4 (.pointer (some ⟨g,k,none⟩)) (.bool b)).run Tryz.prog w=.ok () (w.setCell ⟨g,k,none⟩ (.bool b)):=by
 rintro w ⟨u,hu⟩ hf
 go_simp
end Go.Proofs.YtjddbjmcjhjpiaaGreatDoor
