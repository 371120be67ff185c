/- The laws' ids and devices: two lists held. -/
import Derived.Test.YtjddbjmcjhjpiaaGreatDoorN16J
import Derived.Test.YtjddbjmcjhjpiaaGreatDoorN16D
import Derived.Test.YtjddbjmcjhjpiaaGreatDoorN16H

set_option linter.all false

namespace Go.Proofs.YtjddbjmcjhjpiaaGreatDoor
set_option maxRecDepth 100000
set_option maxHeartbeats 16000000
open Go.RowKit M

theorem RdG.addrS {k n m c:Nat} {A:Option Addr} {w:World} {xs:List Value} (h:RdG k w (.slice A n c) m xs) (hm:0 < m):∃ b off,A=some ⟨b,off,none⟩:=by
 obtain ⟨_,A', cap,e,_,_,h3⟩:=h
 injection e with e
 subst e
 obtain ⟨b,off,e', _,_⟩:=h3 hm
 exact ⟨b,off,e'⟩
def dvOf (s:SeenM):List Value:=[.int .u32 s.id,.string s.nick]
theorem RdG.dev {n c b off i m:Nat} {l:List SeenM} {w:World} {p:SeenM} (h:RdG 2 w (.slice (some ⟨b,off,none⟩) n c) m (dvcs l)) (hp:l[i]?=some p):w.rangeAt b (off + i * 2) [.int .u32 p.id,.string p.nick]:=by
 intro j u hu
 rw [Nat.add_assoc]
 have hi:=(List.getElem?_eq_some_iff.1 hp)
 have hj:j < 2:=(List.getElem?_eq_some_iff.1 hu).1
 have hml:m=l.length:=by
  have h1:=h.1
  rw [show dvcs l=l.flatMap dvOf from rfl,flat_length (f:=dvOf) (k:=2) (fun _=>rfl)] at h1
  omega
 obtain ⟨_,A,cap,e,_,_,h3⟩:=h
 injection e with e
 subst e
 obtain ⟨b', off', e', _,hc⟩:=h3 (by have := hi.1;omega)
 injection e' with e'
 injection e' with e1 e2
 subst e1;subst e2
 refine hc _ u ?_
 rw [show dvcs l=l.flatMap dvOf from rfl,flat_at (f:=dvOf) (k:=2) (fun _=>rfl) l i j hi.1 hj,hi.2]
 exact hu
theorem RdG.uni {n c b off i m:Nat} {l:List Int} {w:World} {p:Int} (h:RdG 1 w (.slice (some ⟨b,off,none⟩) n c) m (u32s l)) (hp:l[i]?=some p):w.cell? ⟨b,off + i,none⟩=some (.int .u32 p):=by
 have hi:=(List.getElem?_eq_some_iff.1 hp)
 have hml:m=l.length:=by
  have h1:=h.1
  unfold u32s at h1
  rw [List.length_map] at h1
  omega
 obtain ⟨_,A,cap,e,_,_,h3⟩:=h
 injection e with e
 subst e
 obtain ⟨b', off', e', _,hc⟩:=h3 (by have := hi.1;omega)
 injection e' with e'
 injection e' with e1 e2
 subst e1;subst e2
 exact hc i _ (u32s_get hp)
theorem LDevs_any (a b:Value) (l:List SeenM) (n:Nat) (w:World) (hn:n=l.length) (ha:RdG 2 w a n (dvcs l)) (hb:RdG 2 w b n (dvcs l)) (hl:n≤1000):Calls Tryz.prog 27 #[a,b] w fun e w' => e=.returned (.bool true)∧Below w.heap.size w w' := by
 obtain ⟨A,c,rfl,hc1,hc2⟩:=ha.shape
 obtain ⟨B,d,rfl,hd1,hd2⟩:=hb.shape
 have HN:=jzD hn
 have HA:=jzD ha
 have HB:=jzD hb
 have HL:=jzD hl
 have HC1:=jzD hc1
 have HD1:=jzD hd1
 have hnn:((n:Int) != (n:Int))=false:=by simp
 clear hn ha hb hl hc1 hc2 hd1 hd2
 go_enter Tryz.func27,Tryz.ntmps27
 go_wp2
 go_loopw [13] (fun jv wr=>∃ j:Nat,j≤n∧jv=.int .i64 (j:Int)∧Below w.heap.size w wr) (fun jv _=>(1001 - intOf jv).toNat)
 case atStart=>exact ⟨0,by omega,rfl,Below.refl _ _⟩
 case round =>
  obtain ⟨j,hjn,rfl,hbel⟩:=hrel
  have HE:=jzD hbel
  clear hbel
  by_cases hlt:j < n
  · have t1:decide ((j:Int) < (n:Int))=true:=decide_eq_true (by omega)
    have t2:(j:Int) < (n:Int):=by omega
    have tc1:(n:Int)≤(c:Int):=by have := HC1.out;omega
    have tc2:(n:Int)≤(d:Int):=by have := HD1.out;omega
    have e1:IntKind.i64.wrap ((j:Int) + 1)=(j:Int) + 1:=IntWalk.i64_in _ (by have := HL.out;omega)
    have hjl:j < l.length:=by have := HN.out;omega
    obtain ⟨p,hp⟩:∃ p,l[j]?=some p:=⟨l[j],List.getElem?_eq_getElem hjl⟩
    obtain ⟨ba,oa,rfl⟩:=HA.out.addrS (by omega)
    obtain ⟨bb,ob,rfl⟩:=HB.out.addrS (by omega)
    have HRA:=jzD (range_below (HA.out.dev hp) HE.out)
    have HRB:=jzD (range_below (HB.out.dev hp) HE.out)
    have HNE:Hid (∀ W,(binOp .neq 89 (.agg #[.int .u32 p.id,.string p.nick]) (.agg #[.int .u32 p.id,.string p.nick])).run Tryz.prog W=.ok (.bool false) W):=by show ∀ _,_;exact neq_dev p.id p.nick
    clear hjl hp
    go_wp2
    refine regq (fun W=>Below wr.heap.size wr W) (by kernel_rfl) (by kernel_rfl) ((Below.refl _ _).drew) ?_
    iterate 3 refine qtk ?_
    refine q_take (v:=.agg #[.int .u32 p.id,.string p.nick]) (by rfl) (fun W HW=>exec_load_mid 89 (.tmp 18) rfl ba (oa + j * 2) rfl [.int .u32 p.id,.string p.nick] _ (range_below HRA.out HW) Tryz.underlying89 rfl (by kernel_rfl)) ?_
    simp only [Act.put,jzU,jzV,jzW]
    iterate 3 refine qtk ?_
    refine q_take (v:=.agg #[.int .u32 p.id,.string p.nick]) (by rfl) (fun W HW=>exec_load_mid 89 (.tmp 22) rfl bb (ob + j * 2) rfl [.int .u32 p.id,.string p.nick] _ (range_below HRB.out HW) Tryz.underlying89 rfl (by kernel_rfl)) ?_
    simp only [Act.put,jzU,jzV,jzW]
    refine q_take (v:=.bool false) (by rfl) (fun W HW=>exec_cmp rfl rfl rfl (guard_D _ _ _ _ _ _) (HNE.out W)) ?_
    simp only [Act.put,jzU,jzV,jzW]
    refine q_done ?_
    intro w7 hs7
    have HE7:=jzD (HE.out.trans (hs7.mono HE.out.size))
    clear hs7
    go_wp2
    go_roundw
    case rel=>exact ⟨j + 1,by omega,by go_num,HE7.out⟩
    case measure=>have := HL.out;simp [intOf] <;> omega
  · have t1:decide ((j:Int) < (n:Int))=false:=decide_eq_false (by omega)
    go_wp2
    go_ret
    exact ⟨by simp,HE.out⟩
theorem LIds_any (a b:Value) (l:List Int) (n:Nat) (w:World) (hn:n=l.length) (ha:RdG 1 w a n (u32s l)) (hb:RdG 1 w b n (u32s l)) (hl:n≤1000):Calls Tryz.prog 31 #[a,b] w fun e w' => e=.returned (.bool true)∧Below w.heap.size w w' := by
 obtain ⟨A,c,rfl,hc1,hc2⟩:=ha.shape
 obtain ⟨B,d,rfl,hd1,hd2⟩:=hb.shape
 have HN:=jzD hn
 have HA:=jzD ha
 have HB:=jzD hb
 have HL:=jzD hl
 have HC1:=jzD hc1
 have HD1:=jzD hd1
 have hnn:((n:Int) != (n:Int))=false:=by simp
 clear hn ha hb hl hc1 hc2 hd1 hd2
 go_enter Tryz.func31,Tryz.ntmps31
 go_wp2
 go_loopw [13] (fun jv wr=>∃ j:Nat,j≤n∧jv=.int .i64 (j:Int)∧Below w.heap.size w wr) (fun jv _=>(1001 - intOf jv).toNat)
 case atStart=>exact ⟨0,by omega,rfl,Below.refl _ _⟩
 case round =>
  obtain ⟨j,hjn,rfl,hbel⟩:=hrel
  have HE:=jzD hbel
  clear hbel
  by_cases hlt:j < n
  · have t1:decide ((j:Int) < (n:Int))=true:=decide_eq_true (by omega)
    have t2:(j:Int) < (n:Int):=by omega
    have tc1:(n:Int)≤(c:Int):=by have := HC1.out;omega
    have tc2:(n:Int)≤(d:Int):=by have := HD1.out;omega
    have e1:IntKind.i64.wrap ((j:Int) + 1)=(j:Int) + 1:=IntWalk.i64_in _ (by have := HL.out;omega)
    have hjl:j < l.length:=by have := HN.out;omega
    obtain ⟨p,hp⟩:∃ p,l[j]?=some p:=⟨l[j],List.getElem?_eq_getElem hjl⟩
    obtain ⟨ba,oa,rfl⟩:=HA.out.addrS (by omega)
    obtain ⟨bb,ob,rfl⟩:=HB.out.addrS (by omega)
    have HRA:=jzD ((HE.out.cell (p:=⟨ba,oa + j,none⟩) (World.block_lt_of_cell? _ _ (HA.out.uni hp))).trans (HA.out.uni hp))
    have HRB:=jzD ((HE.out.cell (p:=⟨bb,ob + j,none⟩) (World.block_lt_of_cell? _ _ (HB.out.uni hp))).trans (HB.out.uni hp))
    clear hjl hp
    go_wp2
    refine regq (fun W=>Below wr.heap.size wr W) (by kernel_rfl) (by kernel_rfl) ((Below.refl _ _).drew) ?_
    iterate 3 refine qtk ?_
    refine qtk ?_ (hy:=by intro W HW;have hc:W.cell? ⟨ba,oa + j,none⟩=some (.int .u32 p):=(HW.cell (p:=⟨ba,oa + j,none⟩) (World.block_lt_of_cell? _ _ HRA.out)).trans HRA.out;go_simp;try with_reducible rfl)
    iterate 3 refine qtk ?_
    refine qtk ?_ (hy:=by intro W HW;have hc:W.cell? ⟨bb,ob + j,none⟩=some (.int .u32 p):=(HW.cell (p:=⟨bb,ob + j,none⟩) (World.block_lt_of_cell? _ _ HRB.out)).trans HRB.out;go_simp;try with_reducible rfl)
    refine qtk ?_
    refine q_done ?_
    intro w7 hs7
    have HE7:=jzD (HE.out.trans (hs7.mono HE.out.size))
    clear hs7
    go_wp2
    go_roundw
    case rel=>exact ⟨j + 1,by omega,by go_num,HE7.out⟩
    case measure=>have := HL.out;simp [intOf] <;> omega
  · have t1:decide ((j:Int) < (n:Int))=false:=decide_eq_false (by omega)
    go_wp2
    go_ret
    exact ⟨by simp,HE.out⟩
end Go.Proofs.YtjddbjmcjhjpiaaGreatDoor
