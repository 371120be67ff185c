/- A map from numbers to yes or no, of the call's own: one laid in, one looked up. -/
import Derived.Test.YtjddbjmcjhjpiaaGreatDoorN16J
import Derived.Test.YtjddbjmcjhjpiaaGreatDoorBegun16
import Derived.Test.YtjddbjmcjhjpiaaGreatDoorN16I
import Derived.Test.YtjddbjmcjhjpiaaGreatDoorM4D
import Derived.Maps.Own
import Derived.Maps.Keyed

set_option linter.all false

namespace Go.Proofs.YtjddbjmcjhjpiaaGreatDoor
open Go.RowKit M

abbrev MapB (w:World) (b n:Nat) (D:DataW Unit):Prop:=w.ownsMap Tryz.prog 3 (plainElem Tryz.prog 4) b n D
theorem int_key:Go.Maps.Keyed Tryz.prog 3:=Go.Maps.int_keyed Tryz.underlying3
theorem plainElem_bool_inv {P:Program} {e:TypeId} (he:P.underlying e=some .bool) {v:Value} {y:Bool} {ps:List MemPlace} (h:plainElem (H:=Unit) P e v=some (.lit (.bool y),ps)):v=.bool y:=by
 unfold plainElem at h
 rw [he] at h
 cases v <;> simp at h
 rw [h.1]
theorem insB {w:World} {b n:Nat} {D:DataW Unit} (hown:MapB w b n D) (hn:n < maxLen) (k:Int) (y:Bool) (hk:(Lit.int .i64 k).wf=true) :
 ∃ w', (Instr.mapUpdate 86 (.map (some b)) (.int .i64 k) (.bool y)).run Tryz.prog w=.ok () w' ∧ MapB w' b (n + 1) (D.put (.int .i64 k) (.lit (.bool y)))∧w.grownBy w' (some b) :=
 World.ownsMap.update hown int_key Tryz.underlying86 hn (Go.Maps.keyOf_int_mk Tryz.underlying3 hk) (plainElem_bool Tryz.underlying4 y)
theorem lookB {w:World} {b n:Nat} {D:DataW Unit} (hown:MapB w b n D) (k:Int) (y:Bool) (hk:(Lit.int .i64 k).wf=true) (hy:D.atKey (.int .i64 k) (.lit (.bool false))=.lit (.bool y)):(Instr.lookup 86 (.map (some b)) (.int .i64 k) false).run Tryz.prog w=.ok (.bool y) w:=by
 obtain ⟨v,ps,hrun,hv⟩:=World.ownsMap.lookup hown int_key Tryz.underlying86 (z:=.bool false) (by kernel_rfl) (plainElem_bool Tryz.underlying4 false) (Go.Maps.keyOf_int_mk Tryz.underlying3 hk)
 rw [hy] at hv
 have e:v=.bool y:=plainElem_bool_inv Tryz.underlying4 hv
 rw [hrun,e]
def litB (v1 v2 v3 v4:Bool):DataW Unit:=(((((((DataW.map []).put (.int .i64 1) (.lit (.bool v1))).put (.int .i64 2) (.lit (.bool v2))).put (.int .i64 7) (.lit (.bool v2))).put (.int .i64 3) (.lit (.bool v3))).put (.int .i64 4) (.lit (.bool v4))).put (.int .i64 5) (.lit (.bool v4))).put (.int .i64 6) (.lit (.bool v4))
def wantB (v1 v2 v3 v4:Bool) (k:Int):Bool:=if k=1 then v1 else if k=2 ∨ k=7 then v2 else if k=3 then v3 else if k=4 ∨ k=5 ∨ k=6 then v4 else false
theorem litB_at (v1 v2 v3 v4:Bool) (k:Int):(litB v1 v2 v3 v4).atKey (.int .i64 k) (.lit (.bool false))=.lit (.bool (wantB v1 v2 v3 v4 k)):=by
 have e:litB v1 v2 v3 v4=.map [(.int .i64 1,.lit (.bool v1)),(.int .i64 2,.lit (.bool v2)),(.int .i64 3,.lit (.bool v3)),(.int .i64 4,.lit (.bool v4)),(.int .i64 5,.lit (.bool v4)),(.int .i64 6,.lit (.bool v4)),(.int .i64 7,.lit (.bool v2))]:=rfl
 rw [e]
 unfold wantB
 by_cases h1:k=1
 · subst h1;rfl
 by_cases h2:k=2
 · subst h2;rfl
 by_cases h3:k=3
 · subst h3;rfl
 by_cases h4:k=4
 · subst h4;rfl
 by_cases h5:k=5
 · subst h5;rfl
 by_cases h6:k=6
 · subst h6;rfl
 by_cases h7:k=7
 · subst h7;rfl
 rw [if_neg h1,if_neg (by omega),if_neg h3,if_neg (by omega)]
 simp [DataW.atKey,List.find?,Lit.sameKey,Ne.symm h1,Ne.symm h2,Ne.symm h3,Ne.symm h4,Ne.symm h5,Ne.symm h6,Ne.symm h7]
theorem mayA_want (k n id:Int) (s:ByteArray) {v1 v2 v3 v4:Bool} (h1:v1=(decide (n=1 ∨ n=6 ∨ n=8) && (id == 0 && s.size == 0))) (h2:v2=(ownN id && (n == 0 && s.size == 0))) (h3:v3=(decide (s.size≤64) && (n == 0 && id == 0))) (h4:v4=(n == 0 && (id == 0 && s.size == 0))):mayA ⟨k,n,id,s⟩=wantB v1 v2 v3 v4 k:=by
 subst h1;subst h2;subst h3;subst h4
 unfold mayA wantB
 rfl
end Go.Proofs.YtjddbjmcjhjpiaaGreatDoor
