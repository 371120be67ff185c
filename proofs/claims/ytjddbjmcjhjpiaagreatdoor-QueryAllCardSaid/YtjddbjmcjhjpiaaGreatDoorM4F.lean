/- Of layer 4: Ref4, Ref4b, Ref4c, Ref4d, Nick7, Nick8, Begun4n. -/
import Derived.Test.YtjddbjmcjhjpiaaGreatDoorM4E
import Derived.Test.YtjddbjmcjhjpiaaGreatDoorM4D

set_option linter.all false

namespace Go.Proofs.YtjddbjmcjhjpiaaGreatDoor
set_option maxRecDepth 100000
set_option maxHeartbeats 4000000
open Go.RowKit M

theorem RefKind_any (r:Int) (w:World):Calls Tryz.prog 76 #[.int .i64 r] w fun e w' => e=.returned (.int .i64 (kind r:Nat))∧w=w' := by
 go_enter Tryz.func76,Tryz.ntmps76
 go_wp2
 all_goals
  go_ret
  refine ⟨retk ?_,rfl⟩
  first
   | (rw [kind1 (by omega)];rfl)
   | (rw [kind2 (by omega)];rfl)
   | (rw [kind3 (by omega)];rfl)
   | (rw [kind4 (by omega)];rfl)
   | (rw [kind0 (by omega)];rfl)
   | (rename_i hx;simp only [bne_eq_false_iff_eq] at hx;rw [kind0 (by omega)];rfl)

def Rune1 (l:List UInt8) (w:World) (e:Ending) (w' : World):Prop :=
 (dec l=(65533,1)∧e=.returned (.tuple #[.int .i64 0,.int .i64 1,.bool false]) ∨ dec l ≠ (65533,1)∧e=.returned (.tuple #[.int .i64 (dec l).1,.int .i64 (dec l).2,.bool true]))∧w=w'

theorem get_bl (s:ByteArray) (k:Nat) (h:k < s.size):((s[k]'h).toNat)=at_ (bl s) k:=by
 unfold at_ bl
 have : s.data.toList.getD k 0=s[k]'h:=by
  rw [List.getD_eq_getElem?_getD,Array.getElem?_toList,Array.getElem?_eq_getElem (by exact h)]
  rfl
 rw [this]

theorem rune1_c1 (s:ByteArray) (w:World) (hs:0 < s.size) (hm:s.size≤1000000) (h:at_ (bl s) 0 < 128):Calls Tryz.prog 75 #[.string s] w (Rune1 (bl s) w):=by
 have h0:=get_bl s 0 hs
 have hlt:at_ (bl s) 0 < 256:=((bl s).getD 0 0).toNat_lt
 have hd:=dec1 h
 have HD:=jzD hd
 clear hd
 generalize at_ (bl s) 0=b0 at *
 go_enter Tryz.func75,Tryz.ntmps75
 go_wp2
 go_ret3
 exact ⟨.inr ⟨by rw [HD.out];intro e;injection e with e;omega,by rw [HD.out];rfl⟩,rfl⟩

theorem rune1_c5 (s:ByteArray) (w:World) (hs:0 < s.size) (hm:s.size≤1000000) (h:(128≤at_ (bl s) 0∧at_ (bl s) 0 < 194) ∨ 245≤at_ (bl s) 0):Calls Tryz.prog 75 #[.string s] w (Rune1 (bl s) w):=by
 have h0:=get_bl s 0 hs
 have hlt:at_ (bl s) 0 < 256:=((bl s).getD 0 0).toNat_lt
 have hd:=dec5 h
 have HD:=jzD hd
 clear hd
 generalize at_ (bl s) 0=b0 at *
 rcases (show (128≤b0∧b0 < 194) ∨ 245≤b0 from h) with ⟨h1,h2⟩ | h1
 all_goals
  clear h
  go_enter Tryz.func75,Tryz.ntmps75
  go_wp2
  go_ret3
  exact ⟨.inl ⟨HD.out,rfl⟩,rfl⟩
end Go.Proofs.YtjddbjmcjhjpiaaGreatDoor
namespace Go.Proofs.YtjddbjmcjhjpiaaGreatDoor
set_option maxRecDepth 100000
set_option maxHeartbeats 4000000
open Go.RowKit M

theorem rune1_c2 (s:ByteArray) (w:World) (hs:0 < s.size) (hm:s.size≤1000000) (h:194≤at_ (bl s) 0∧at_ (bl s) 0 < 224):Calls Tryz.prog 75 #[.string s] w (Rune1 (bl s) w):=by
 have h0:=get_bl s 0 hs
 have hlt:at_ (bl s) 0 < 256:=((bl s).getD 0 0).toNat_lt
 have hn:(cont (bl s) 1=false)→dec (bl s)=(65533,1):=fun hc=>dec2n ⟨by omega,h.2⟩ (.inl hc)
 have hy:cont (bl s) 1=true→_:=dec2 h
 have HN:=jzD hn
 have HY:=jzD hy
 clear hn hy
 have hc1:cont (bl s) 1=decide (1 < s.size∧128≤at_ (bl s) 1∧at_ (bl s) 1 < 192):=by unfold cont;rw [bl_length]
 have hg1:∀ hl:1 < s.size,(s[1]'hl).toNat=at_ (bl s) 1:=fun hl=>get_bl s 1 hl
 have hb1:at_ (bl s) 1 < 256:=((bl s).getD 1 0).toNat_lt
 generalize at_ (bl s) 0=a0 at *
 generalize at_ (bl s) 1=a1 at *
 have HC1:=jzD hc1
 have HG1:=jzD hg1
 clear hc1 hg1
 go_enter Tryz.func75,Tryz.ntmps75
 go_wp2
 go_loop [8,9] (fun r i=>(i=.int .i64 1∧r=.int .i64 ((a0 - 192):Nat)) ∨ (i=.int .i64 2∧r=.int .i64 (((a0 - 192) * 64 + a1 - 128):Nat)∧cont (bl s) 1=true)) (fun _ i=>2 - (intOf i).toNat)
 case atStart=>exact .inl ⟨rfl,by simp;omega⟩
 case round =>
  rcases hrel with ⟨rfl,rfl⟩ | ⟨rfl,rfl,k1⟩
  · skip
    have hwb:(a0 - 192)≤3000000:=by omega
    have hac:((((a0 - 192)) * 64 + a1 - 128:Nat):Int)=(((a0 - 192):Nat):Int) * 64 + (a1:Int) - 128 ∨ a1 < 128:=by omega
    generalize (a0 - 192)=q at *
    by_cases hl:1 < s.size
    · have g1:=HG1.out hl
      by_cases h128:a1 < 128
      · have HX:=HN.out ((by rw [HC1.out];simp;omega))
        have HX:=jzD HX
        have u1:((a1:Int) < 128):=by omega
        go_wp2
        go_ret3
        exact ⟨.inl ⟨HX.out,rfl⟩,rfl⟩
      · by_cases h192:192≤a1
        · have HX:=HN.out ((by rw [HC1.out];simp;omega))
          have HX:=jzD HX
          have u1:(128:Int)≤(a1:Int):=by omega
          have u2:(192:Int)≤(a1:Int):=by omega
          go_wp2
          go_ret3
          exact ⟨.inl ⟨HX.out,rfl⟩,rfl⟩
        · have kk:cont (bl s) 1=true:=by rw [HC1.out];simp;omega
          have KK:=jzD kk
          clear kk
          have u1:(128:Int)≤(a1:Int):=by omega
          have u2:(a1:Int) < 192:=by omega
          go_wp2
          go_round
          case rel=>exact ⟨_,_,_,_,_,.inr (⟨rfl,rfl,KK.out⟩),rfl,rfl,rfl,by have hx:=hac.resolve_right h128;rw [hx],rfl⟩
          case measure=>simp [intOf]
    · have HX:=HN.out ((by rw [HC1.out];simp;omega))
      have HX:=jzD HX
      have u1:(s.size:Int)≤1:=by omega
      go_wp2
      go_ret3
      exact ⟨.inl ⟨HX.out,rfl⟩,rfl⟩
  · have e1:=of_decide_eq_true (HC1.out.symm.trans k1);have HX:=HY.out k1
    clear k1
    have hq:128≤((a0 - 192) * 64 + a1 - 128)∧((a0 - 192) * 64 + a1 - 128) < 2048:=by omega
    generalize ((a0 - 192) * 64 + a1 - 128)=q at *
    have HX:=jzD HX
    go_wp2
    go_ret3
    exact ⟨.inr ⟨by rw [HX.out];intro e;injection e with e1 e2;omega,by rw [HX.out];rfl⟩,rfl⟩

theorem rune1_c3 (s:ByteArray) (w:World) (hs:0 < s.size) (hm:s.size≤1000000) (h:224≤at_ (bl s) 0∧at_ (bl s) 0 < 240):Calls Tryz.prog 75 #[.string s] w (Rune1 (bl s) w):=by
 have h0:=get_bl s 0 hs
 have hlt:at_ (bl s) 0 < 256:=((bl s).getD 0 0).toNat_lt
 have hn:(cont (bl s) 1=false ∨ cont (bl s) 2=false)→dec (bl s)=(65533,1):=fun hc=>dec3n h hc
 have hy:cont (bl s) 1=true→cont (bl s) 2=true→_:=dec3 h
 have HN:=jzD hn
 have HY:=jzD hy
 clear hn hy
 have hc1:cont (bl s) 1=decide (1 < s.size∧128≤at_ (bl s) 1∧at_ (bl s) 1 < 192):=by unfold cont;rw [bl_length]
 have hg1:∀ hl:1 < s.size,(s[1]'hl).toNat=at_ (bl s) 1:=fun hl=>get_bl s 1 hl
 have hb1:at_ (bl s) 1 < 256:=((bl s).getD 1 0).toNat_lt
 have hc2:cont (bl s) 2=decide (2 < s.size∧128≤at_ (bl s) 2∧at_ (bl s) 2 < 192):=by unfold cont;rw [bl_length]
 have hg2:∀ hl:2 < s.size,(s[2]'hl).toNat=at_ (bl s) 2:=fun hl=>get_bl s 2 hl
 have hb2:at_ (bl s) 2 < 256:=((bl s).getD 2 0).toNat_lt
 generalize at_ (bl s) 0=a0 at *
 generalize at_ (bl s) 1=a1 at *
 generalize at_ (bl s) 2=a2 at *
 have HC1:=jzD hc1
 have HG1:=jzD hg1
 clear hc1 hg1
 have HC2:=jzD hc2
 have HG2:=jzD hg2
 clear hc2 hg2
 go_enter Tryz.func75,Tryz.ntmps75
 go_wp2
 go_loop [8,9] (fun r i=>(i=.int .i64 1∧r=.int .i64 ((a0 - 224):Nat)) ∨ (i=.int .i64 2∧r=.int .i64 (((a0 - 224) * 64 + a1 - 128):Nat)∧cont (bl s) 1=true) ∨ (i=.int .i64 3∧r=.int .i64 ((((a0 - 224) * 64 + a1 - 128) * 64 + a2 - 128):Nat)∧cont (bl s) 1=true∧cont (bl s) 2=true)) (fun _ i=>3 - (intOf i).toNat)
 case atStart=>exact .inl ⟨rfl,by simp;omega⟩
 case round =>
  rcases hrel with ⟨rfl,rfl⟩ | ⟨rfl,rfl,k1⟩ | ⟨rfl,rfl,k1,k2⟩
  · skip
    have hwb:(a0 - 224)≤3000000:=by omega
    have hac:((((a0 - 224)) * 64 + a1 - 128:Nat):Int)=(((a0 - 224):Nat):Int) * 64 + (a1:Int) - 128 ∨ a1 < 128:=by omega
    generalize (a0 - 224)=q at *
    by_cases hl:1 < s.size
    · have g1:=HG1.out hl
      by_cases h128:a1 < 128
      · have HX:=HN.out (.inl (by rw [HC1.out];simp;omega))
        have HX:=jzD HX
        have u1:((a1:Int) < 128):=by omega
        go_wp2
        go_ret3
        exact ⟨.inl ⟨HX.out,rfl⟩,rfl⟩
      · by_cases h192:192≤a1
        · have HX:=HN.out (.inl (by rw [HC1.out];simp;omega))
          have HX:=jzD HX
          have u1:(128:Int)≤(a1:Int):=by omega
          have u2:(192:Int)≤(a1:Int):=by omega
          go_wp2
          go_ret3
          exact ⟨.inl ⟨HX.out,rfl⟩,rfl⟩
        · have kk:cont (bl s) 1=true:=by rw [HC1.out];simp;omega
          have KK:=jzD kk
          clear kk
          have u1:(128:Int)≤(a1:Int):=by omega
          have u2:(a1:Int) < 192:=by omega
          go_wp2
          go_round
          case rel=>exact ⟨_,_,_,_,_,.inr (.inl ⟨rfl,rfl,KK.out⟩),rfl,rfl,rfl,by have hx:=hac.resolve_right h128;rw [hx],rfl⟩
          case measure=>simp [intOf]
    · have HX:=HN.out (.inl (by rw [HC1.out];simp;omega))
      have HX:=jzD HX
      have u1:(s.size:Int)≤1:=by omega
      go_wp2
      go_ret3
      exact ⟨.inl ⟨HX.out,rfl⟩,rfl⟩
  · have K1:=jzD k1;have e1:=of_decide_eq_true (HC1.out.symm.trans k1);clear k1
    have hwb:((a0 - 224) * 64 + a1 - 128)≤3000000:=by omega
    have hac:(((((a0 - 224) * 64 + a1 - 128)) * 64 + a2 - 128:Nat):Int)=((((a0 - 224) * 64 + a1 - 128):Nat):Int) * 64 + (a2:Int) - 128 ∨ a2 < 128:=by omega
    generalize ((a0 - 224) * 64 + a1 - 128)=q at *
    by_cases hl:2 < s.size
    · have g2:=HG2.out hl
      by_cases h128:a2 < 128
      · have HX:=HN.out (.inr ((by rw [HC2.out];simp;omega)))
        have HX:=jzD HX
        have u1:((a2:Int) < 128):=by omega
        go_wp2
        go_ret3
        exact ⟨.inl ⟨HX.out,rfl⟩,rfl⟩
      · by_cases h192:192≤a2
        · have HX:=HN.out (.inr ((by rw [HC2.out];simp;omega)))
          have HX:=jzD HX
          have u1:(128:Int)≤(a2:Int):=by omega
          have u2:(192:Int)≤(a2:Int):=by omega
          go_wp2
          go_ret3
          exact ⟨.inl ⟨HX.out,rfl⟩,rfl⟩
        · have kk:cont (bl s) 2=true:=by rw [HC2.out];simp;omega
          have KK:=jzD kk
          clear kk
          have u1:(128:Int)≤(a2:Int):=by omega
          have u2:(a2:Int) < 192:=by omega
          go_wp2
          go_round
          case rel=>exact ⟨_,_,_,_,_,.inr (.inr (⟨rfl,rfl,K1.out,KK.out⟩)),rfl,rfl,rfl,by have hx:=hac.resolve_right h128;rw [hx],rfl⟩
          case measure=>simp [intOf]
    · have HX:=HN.out (.inr ((by rw [HC2.out];simp;omega)))
      have HX:=jzD HX
      have u1:(s.size:Int)≤2:=by omega
      go_wp2
      go_ret3
      exact ⟨.inl ⟨HX.out,rfl⟩,rfl⟩
  · have e1:=of_decide_eq_true (HC1.out.symm.trans k1);have e2:=of_decide_eq_true (HC2.out.symm.trans k2);have HX:=HY.out k1 k2
    clear k1 k2
    have hqb:(((a0 - 224) * 64 + a1 - 128) * 64 + a2 - 128) < 65536:=by omega
    generalize (((a0 - 224) * 64 + a1 - 128) * 64 + a2 - 128)=q at *
    by_cases hbad:q < 2048 ∨ (55296≤q∧q < 57344)
    · rw [if_pos hbad] at HX
      have HX:=jzD HX
      rcases hbad with hbad | ⟨hb1,hb2⟩
      · go_wp2
        go_ret3
        exact ⟨.inl ⟨HX.out,rfl⟩,rfl⟩
      · go_wp2
        go_ret3
        exact ⟨.inl ⟨HX.out,rfl⟩,rfl⟩
    · rw [if_neg hbad] at HX
      have HX:=jzD HX
      rcases (show (2048≤q∧q < 55296) ∨ (57344≤q∧q < 65536) by omega) with ⟨hb1,hb2⟩ | ⟨hb1,hb2⟩
      all_goals
       clear hbad
       go_wp2
       go_ret3
       exact ⟨.inr ⟨by rw [HX.out];intro e;injection e with e1 e2;omega,by rw [HX.out];rfl⟩,rfl⟩
end Go.Proofs.YtjddbjmcjhjpiaaGreatDoor
namespace Go.Proofs.YtjddbjmcjhjpiaaGreatDoor
set_option maxRecDepth 100000
set_option maxHeartbeats 4000000
open Go.RowKit M

theorem rune1_c4 (s:ByteArray) (w:World) (hs:0 < s.size) (hm:s.size≤1000000) (h:240≤at_ (bl s) 0∧at_ (bl s) 0 < 245):Calls Tryz.prog 75 #[.string s] w (Rune1 (bl s) w):=by
 have h0:=get_bl s 0 hs
 have hlt:at_ (bl s) 0 < 256:=((bl s).getD 0 0).toNat_lt
 have hn:(cont (bl s) 1=false ∨ cont (bl s) 2=false ∨ cont (bl s) 3=false)→dec (bl s)=(65533,1):=fun hc=>dec4n h hc
 have hy:cont (bl s) 1=true→cont (bl s) 2=true→cont (bl s) 3=true→_:=dec4 h
 have HN:=jzD hn
 have HY:=jzD hy
 clear hn hy
 have hc1:cont (bl s) 1=decide (1 < s.size∧128≤at_ (bl s) 1∧at_ (bl s) 1 < 192):=by unfold cont;rw [bl_length]
 have hg1:∀ hl:1 < s.size,(s[1]'hl).toNat=at_ (bl s) 1:=fun hl=>get_bl s 1 hl
 have hb1:at_ (bl s) 1 < 256:=((bl s).getD 1 0).toNat_lt
 have hc2:cont (bl s) 2=decide (2 < s.size∧128≤at_ (bl s) 2∧at_ (bl s) 2 < 192):=by unfold cont;rw [bl_length]
 have hg2:∀ hl:2 < s.size,(s[2]'hl).toNat=at_ (bl s) 2:=fun hl=>get_bl s 2 hl
 have hb2:at_ (bl s) 2 < 256:=((bl s).getD 2 0).toNat_lt
 have hc3:cont (bl s) 3=decide (3 < s.size∧128≤at_ (bl s) 3∧at_ (bl s) 3 < 192):=by unfold cont;rw [bl_length]
 have hg3:∀ hl:3 < s.size,(s[3]'hl).toNat=at_ (bl s) 3:=fun hl=>get_bl s 3 hl
 have hb3:at_ (bl s) 3 < 256:=((bl s).getD 3 0).toNat_lt
 generalize at_ (bl s) 0=a0 at *
 generalize at_ (bl s) 1=a1 at *
 generalize at_ (bl s) 2=a2 at *
 generalize at_ (bl s) 3=a3 at *
 have HC1:=jzD hc1
 have HG1:=jzD hg1
 clear hc1 hg1
 have HC2:=jzD hc2
 have HG2:=jzD hg2
 clear hc2 hg2
 have HC3:=jzD hc3
 have HG3:=jzD hg3
 clear hc3 hg3
 go_enter Tryz.func75,Tryz.ntmps75
 go_wp2
 go_loop [8,9] (fun r i=>(i=.int .i64 1∧r=.int .i64 ((a0 - 240):Nat)) ∨ (i=.int .i64 2∧r=.int .i64 (((a0 - 240) * 64 + a1 - 128):Nat)∧cont (bl s) 1=true) ∨ (i=.int .i64 3∧r=.int .i64 ((((a0 - 240) * 64 + a1 - 128) * 64 + a2 - 128):Nat)∧cont (bl s) 1=true∧cont (bl s) 2=true) ∨ (i=.int .i64 4∧r=.int .i64 (((((a0 - 240) * 64 + a1 - 128) * 64 + a2 - 128) * 64 + a3 - 128):Nat)∧cont (bl s) 1=true∧cont (bl s) 2=true∧cont (bl s) 3=true)) (fun _ i=>4 - (intOf i).toNat)
 case atStart=>exact .inl ⟨rfl,by simp;omega⟩
 case round =>
  rcases hrel with ⟨rfl,rfl⟩ | ⟨rfl,rfl,k1⟩ | ⟨rfl,rfl,k1,k2⟩ | ⟨rfl,rfl,k1,k2,k3⟩
  · skip
    have hwb:(a0 - 240)≤3000000:=by omega
    have hac:((((a0 - 240)) * 64 + a1 - 128:Nat):Int)=(((a0 - 240):Nat):Int) * 64 + (a1:Int) - 128 ∨ a1 < 128:=by omega
    generalize (a0 - 240)=q at *
    by_cases hl:1 < s.size
    · have g1:=HG1.out hl
      by_cases h128:a1 < 128
      · have HX:=HN.out (.inl (by rw [HC1.out];simp;omega))
        have HX:=jzD HX
        have u1:((a1:Int) < 128):=by omega
        go_wp2
        go_ret3
        exact ⟨.inl ⟨HX.out,rfl⟩,rfl⟩
      · by_cases h192:192≤a1
        · have HX:=HN.out (.inl (by rw [HC1.out];simp;omega))
          have HX:=jzD HX
          have u1:(128:Int)≤(a1:Int):=by omega
          have u2:(192:Int)≤(a1:Int):=by omega
          go_wp2
          go_ret3
          exact ⟨.inl ⟨HX.out,rfl⟩,rfl⟩
        · have kk:cont (bl s) 1=true:=by rw [HC1.out];simp;omega
          have KK:=jzD kk
          clear kk
          have u1:(128:Int)≤(a1:Int):=by omega
          have u2:(a1:Int) < 192:=by omega
          go_wp2
          go_round
          case rel=>exact ⟨_,_,_,_,_,.inr (.inl ⟨rfl,rfl,KK.out⟩),rfl,rfl,rfl,by have hx:=hac.resolve_right h128;rw [hx],rfl⟩
          case measure=>simp [intOf]
    · have HX:=HN.out (.inl (by rw [HC1.out];simp;omega))
      have HX:=jzD HX
      have u1:(s.size:Int)≤1:=by omega
      go_wp2
      go_ret3
      exact ⟨.inl ⟨HX.out,rfl⟩,rfl⟩
  · have K1:=jzD k1;have e1:=of_decide_eq_true (HC1.out.symm.trans k1);clear k1
    have hwb:((a0 - 240) * 64 + a1 - 128)≤3000000:=by omega
    have hac:(((((a0 - 240) * 64 + a1 - 128)) * 64 + a2 - 128:Nat):Int)=((((a0 - 240) * 64 + a1 - 128):Nat):Int) * 64 + (a2:Int) - 128 ∨ a2 < 128:=by omega
    generalize ((a0 - 240) * 64 + a1 - 128)=q at *
    by_cases hl:2 < s.size
    · have g2:=HG2.out hl
      by_cases h128:a2 < 128
      · have HX:=HN.out (.inr (.inl (by rw [HC2.out];simp;omega)))
        have HX:=jzD HX
        have u1:((a2:Int) < 128):=by omega
        go_wp2
        go_ret3
        exact ⟨.inl ⟨HX.out,rfl⟩,rfl⟩
      · by_cases h192:192≤a2
        · have HX:=HN.out (.inr (.inl (by rw [HC2.out];simp;omega)))
          have HX:=jzD HX
          have u1:(128:Int)≤(a2:Int):=by omega
          have u2:(192:Int)≤(a2:Int):=by omega
          go_wp2
          go_ret3
          exact ⟨.inl ⟨HX.out,rfl⟩,rfl⟩
        · have kk:cont (bl s) 2=true:=by rw [HC2.out];simp;omega
          have KK:=jzD kk
          clear kk
          have u1:(128:Int)≤(a2:Int):=by omega
          have u2:(a2:Int) < 192:=by omega
          go_wp2
          go_round
          case rel=>exact ⟨_,_,_,_,_,.inr (.inr (.inl ⟨rfl,rfl,K1.out,KK.out⟩)),rfl,rfl,rfl,by have hx:=hac.resolve_right h128;rw [hx],rfl⟩
          case measure=>simp [intOf]
    · have HX:=HN.out (.inr (.inl (by rw [HC2.out];simp;omega)))
      have HX:=jzD HX
      have u1:(s.size:Int)≤2:=by omega
      go_wp2
      go_ret3
      exact ⟨.inl ⟨HX.out,rfl⟩,rfl⟩
  · have K1:=jzD k1;have K2:=jzD k2;have e1:=of_decide_eq_true (HC1.out.symm.trans k1);have e2:=of_decide_eq_true (HC2.out.symm.trans k2);clear k1 k2
    have hwb:(((a0 - 240) * 64 + a1 - 128) * 64 + a2 - 128)≤3000000:=by omega
    have hac:((((((a0 - 240) * 64 + a1 - 128) * 64 + a2 - 128)) * 64 + a3 - 128:Nat):Int)=(((((a0 - 240) * 64 + a1 - 128) * 64 + a2 - 128):Nat):Int) * 64 + (a3:Int) - 128 ∨ a3 < 128:=by omega
    generalize (((a0 - 240) * 64 + a1 - 128) * 64 + a2 - 128)=q at *
    by_cases hl:3 < s.size
    · have g3:=HG3.out hl
      by_cases h128:a3 < 128
      · have HX:=HN.out (.inr (.inr ((by rw [HC3.out];simp;omega))))
        have HX:=jzD HX
        have u1:((a3:Int) < 128):=by omega
        go_wp2
        go_ret3
        exact ⟨.inl ⟨HX.out,rfl⟩,rfl⟩
      · by_cases h192:192≤a3
        · have HX:=HN.out (.inr (.inr ((by rw [HC3.out];simp;omega))))
          have HX:=jzD HX
          have u1:(128:Int)≤(a3:Int):=by omega
          have u2:(192:Int)≤(a3:Int):=by omega
          go_wp2
          go_ret3
          exact ⟨.inl ⟨HX.out,rfl⟩,rfl⟩
        · have kk:cont (bl s) 3=true:=by rw [HC3.out];simp;omega
          have KK:=jzD kk
          clear kk
          have u1:(128:Int)≤(a3:Int):=by omega
          have u2:(a3:Int) < 192:=by omega
          go_wp2
          go_round
          case rel=>exact ⟨_,_,_,_,_,.inr (.inr (.inr (⟨rfl,rfl,K1.out,K2.out,KK.out⟩))),rfl,rfl,rfl,by have hx:=hac.resolve_right h128;rw [hx],rfl⟩
          case measure=>simp [intOf]
    · have HX:=HN.out (.inr (.inr ((by rw [HC3.out];simp;omega))))
      have HX:=jzD HX
      have u1:(s.size:Int)≤3:=by omega
      go_wp2
      go_ret3
      exact ⟨.inl ⟨HX.out,rfl⟩,rfl⟩
  · have e1:=of_decide_eq_true (HC1.out.symm.trans k1);have e2:=of_decide_eq_true (HC2.out.symm.trans k2);have e3:=of_decide_eq_true (HC3.out.symm.trans k3);have HX:=HY.out k1 k2 k3
    clear k1 k2 k3
    have hqb:((((a0 - 240) * 64 + a1 - 128) * 64 + a2 - 128) * 64 + a3 - 128) < 2097152:=by omega
    generalize ((((a0 - 240) * 64 + a1 - 128) * 64 + a2 - 128) * 64 + a3 - 128)=q at *
    by_cases hbad:q < 65536 ∨ 1114111 < q
    · rw [if_pos hbad] at HX
      have HX:=jzD HX
      rcases hbad with hbad | hb1
      · go_wp2
        go_ret3
        exact ⟨.inl ⟨HX.out,rfl⟩,rfl⟩
      · go_wp2
        go_ret3
        exact ⟨.inl ⟨HX.out,rfl⟩,rfl⟩
    · rw [if_neg hbad] at HX
      have HX:=jzD HX
      have hb1:65536≤q:=by omega
      have hb2:q≤1114111:=by omega
      clear hbad
      go_wp2
      go_ret3
      exact ⟨.inr ⟨by rw [HX.out];intro e;injection e with e1 e2;omega,by rw [HX.out];rfl⟩,rfl⟩
end Go.Proofs.YtjddbjmcjhjpiaaGreatDoor
namespace Go.Proofs.YtjddbjmcjhjpiaaGreatDoor
set_option maxRecDepth 100000
set_option maxHeartbeats 4000000
open Go.RowKit M

theorem rune1_any (s:ByteArray) (w:World) (hs:0 < s.size) (hm:s.size≤1000000):Calls Tryz.prog 75 #[.string s] w (Rune1 (bl s) w):=by
 have hlt:at_ (bl s) 0 < 256:=((bl s).getD 0 0).toNat_lt
 rcases (show at_ (bl s) 0 < 128 ∨ (194≤at_ (bl s) 0∧at_ (bl s) 0 < 224) ∨ (224≤at_ (bl s) 0∧at_ (bl s) 0 < 240) ∨ (240≤at_ (bl s) 0∧at_ (bl s) 0 < 245) ∨ ((128≤at_ (bl s) 0∧at_ (bl s) 0 < 194) ∨ 245≤at_ (bl s) 0) by omega) with h | h | h | h | h
 · exact rune1_c1 s w hs hm h
 · exact rune1_c2 s w hs hm h
 · exact rune1_c3 s w hs hm h
 · exact rune1_c4 s w hs hm h
 · exact rune1_c5 s w hs hm h
end Go.Proofs.YtjddbjmcjhjpiaaGreatDoor
namespace Go.Proofs.YtjddbjmcjhjpiaaGreatDoor
set_option maxRecDepth 100000
set_option maxHeartbeats 4000000
open Go.RowKit M

def strSize:Value→Nat
 | .string t=>t.size
 | _=>0
theorem str_ne {t:ByteArray} (h:0 < t.size):t.toList.isEmpty=false:=by
 rw [ByteArray.toList_eq,List.isEmpty_eq_false_iff]
 intro e
 have := congrArg List.length e
 rw [show t.data.toList.length=t.size from bl_length t,List.length_nil] at this
 omega
theorem str_eq {t:ByteArray} (h:t.size=0):t.toList.isEmpty=true∧bl t=[]:=by
 have : bl t=[]:=List.eq_nil_of_length_eq_zero (by rw [bl_length];exact h)
 exact ⟨by rw [ByteArray.toList_eq,List.isEmpty_iff];exact this,this⟩
theorem bl_ne {t:ByteArray} (h:0 < t.size):bl t ≠ []:=by
 intro e
 have := congrArg List.length e
 rw [bl_length,List.length_nil] at this
 omega
theorem rs_take {t:ByteArray} (h:0 < t.size):rs (bl t)=dec (bl t) :: rs (bl (t.extract (dec (bl t)).2 t.size)):=by rw [bl_from,rs_cons (bl_ne h)]
theorem wid {t:ByteArray} (h:0 < t.size):1≤(dec (bl t)).2∧(dec (bl t)).2≤t.size:=by
 have := dec_width (bl_ne h)
 rwa [bl_length] at this

theorem ok_take {t:ByteArray} (h:0 < t.size):okRunes (bl t)=((kind (dec (bl t)).1 != 0) && okRunes (bl (t.extract (dec (bl t)).2 t.size))):=by
 unfold okRunes
 rw [rs_take h]
 rfl

theorem RefMay_any (s:ByteArray) (w:World) (hs:s.size≤1000000):Calls Tryz.prog 61 #[.string s] w fun e w' => e=.returned (.bool (mayL (bl s)))∧w=w' := by
 have hm:mayL (bl s)=(okRunes (bl s) && decide (s.size≤20)):=by unfold mayL;rw [bl_length,Bool.and_comm]
 rw [hm]
 obtain ⟨b,hb⟩:∃ b,b=okRunes (bl s):=⟨_,rfl⟩
 rw [← hb]
 have HB:=jzD hb
 clear hm hb
 go_enter Tryz.func61,Tryz.ntmps61
 go_wp2
 go_loop [3] (fun v=>∃ t:ByteArray,v=.string t∧t.size≤s.size∧okRunes (bl t)=b) (fun v=>strSize v)
 case atStart=>exact ⟨s,rfl,Nat.le_refl _,HB.out.symm⟩
 case round =>
  obtain ⟨t,rfl,hts,hc⟩:=hrel
  have HC:=jzD hc
  clear hc
  by_cases hp:0 < t.size
  · have t1:=str_ne hp
    have hw:=wid hp
    have HR:=jzD (ok_take hp)
    have hr1:=rune1_any t w hp (by omega)
    have HR1:=jzD hr1
    clear hr1
    go_wp2_with (go_at_call 75;refine HR1.out.mono ?_)
    rintro e w' ⟨hh,rfl⟩
    rcases hh with ⟨hbk,rfl⟩ | ⟨hbk,rfl⟩
    · have hb:b=false:=by
       rw [← HC.out,HR.out,hbk]
       have : kind ((65533:Nat):Int)=0:=by decide
       show ((kind ((65533:Nat):Int) != 0) && _)=false
       rw [this]
       rfl
      subst hb
      clear hbk
      go_wp2
      go_ret
      exact ⟨rfl,rfl⟩
    · clear hbk
      generalize dec (bl t)=d at *
      rcases hk:(kind (d.1:Int) != 0) with _ | _
      · have t2:(((kind (d.1:Int):Nat):Int) == 0)=true:=by
         rw [bne_eq_false_iff_eq] at hk
         rw [hk];rfl
        have hb:b=false:=by rw [← HC.out,HR.out,hk];rfl
        subst hb
        clear hk
        go_wp2_with (go_at_call 76;refine (RefKind_any (d.1:Int) _).mono ?_;rintro e w' ⟨rfl,rfl⟩)
        go_ret
        exact ⟨rfl,rfl⟩
      · have t2:(((kind (d.1:Int):Nat):Int) == 0)=false:=by
         rw [bne_iff_ne] at hk
         rw [beq_eq_false_iff_ne];omega
        have hc2:okRunes (bl (t.extract d.2 t.size))=b:=by rw [← HC.out,HR.out,hk];rfl
        have HC2:=jzD hc2
        clear hc2 hk
        go_wp2_with (go_at_call 76;refine (RefKind_any (d.1:Int) _).mono ?_;rintro e w' ⟨rfl,rfl⟩)
        go_round
        case rel=>exact ⟨t.extract d.2 t.size,rfl,by rw [ByteArray.size_extract];omega,HC2.out⟩
        case measure=>simp only [strSize,ByteArray.size_extract];omega
  · obtain ⟨t1,hbl⟩:=str_eq (t:=t) (by omega)
    have hb:b=true:=by rw [← HC.out,hbl];rfl
    clear hbl
    subst hb
    by_cases h20:(s.size:Int)≤20
    · have h20' : decide (s.size≤20)=true:=by simp;omega
      go_wp2
      go_ret
      exact ⟨by simp [h20'],rfl⟩
    · have h20' : decide (s.size≤20)=false:=by simp;omega
      go_wp2
      go_ret
      exact ⟨by simp [h20'],rfl⟩
end Go.Proofs.YtjddbjmcjhjpiaaGreatDoor
namespace Go.Proofs.YtjddbjmcjhjpiaaGreatDoor
set_option maxRecDepth 100000
set_option maxHeartbeats 4000000
open Go.RowKit M

end Go.Proofs.YtjddbjmcjhjpiaaGreatDoor
namespace Go.Proofs.YtjddbjmcjhjpiaaGreatDoor
set_option maxRecDepth 100000
set_option maxHeartbeats 4000000
open Go.RowKit M

theorem ret_bool {a b:Bool} {P:Prop} {e:Ending} (h:e=.returned (.bool a)∧P) (hab:a=b):e=.returned (.bool b)∧P:=by rw [← hab];exact h
theorem nb1 (w:World):Calls Tryz.prog 73 #[.string ⟨#[104,195,169]⟩] w fun e w' => e=.returned (.bool true)∧Below w.heap.size w w' :=
 (May_any ⟨#[104,195,169]⟩ w).mono fun _ _ h=>ret_bool h (by decide +kernel)
theorem nb2 (w:World):Calls Tryz.prog 145 #[.string ⟨#[104,195,169]⟩] w fun e w' => e=.returned (.int .i64 2)∧Below w.heap.size w w' := by
 have h:=Len_any ⟨#[104,195,169]⟩ w (by decide)
 rw [show (rs (bl ⟨#[104,195,169]⟩)).length=2 by decide +kernel] at h
 exact h
theorem nb3 (w:World):Calls Tryz.prog 146 #[.string ⟨#[104,195,169]⟩] w fun e w' => e=.returned (.string ⟨#[104,63]⟩)∧Below w.heap.size w w' := by
 have h:=Plain_any ⟨#[104,195,169]⟩ w (by decide)
 rw [show plainL (bl ⟨#[104,195,169]⟩)=[104,63] by decide +kernel] at h
 exact h
theorem nb4 (w:World):Calls Tryz.prog 147 #[.string ⟨#[104,195,169]⟩,.int .i64 2] w fun e w' => e=.returned (.string ⟨#[104]⟩)∧Below w.heap.size w w' := by
 have h:=Cut_any ⟨#[104,195,169]⟩ 2 w (by decide) (by decide)
 rw [show (ByteArray.extract ⟨#[104,195,169]⟩ 0 (cutL (bl ⟨#[104,195,169]⟩) 2))=⟨#[104]⟩ by decide +kernel] at h
 exact h
theorem nb5 (w:World):Calls Tryz.prog 95 #[.int .i32 55] w fun e w' => e=.returned (.int .i64 2)∧w=w' := by
 have h:=Kind_any 55 w
 rw [show kind 55=2 by decide +kernel] at h
 exact h
end Go.Proofs.YtjddbjmcjhjpiaaGreatDoor
