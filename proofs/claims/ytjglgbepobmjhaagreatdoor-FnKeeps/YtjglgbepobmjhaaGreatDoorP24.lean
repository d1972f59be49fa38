import Derived.Test.YtjglgbepobmjhaaGreatDoorP21
import Derived.Test.YtjglgbepobmjhaaGreatDoorP22
import Derived.Test.YtjglgbepobmjhaaGreatDoorP23
set_option linter.unusedVariables false
set_option linter.unusedSimpArgs false
set_option maxRecDepth 20000
set_option maxHeartbeats 8000000
namespace Go.Proofs.YtjglgbepobmjhaaGreatDoor
open Go.RowKit
theorem LdA.ret {B gW gS nI p:Nat} {cv iv hv:Value} {w:World} {r:Except Nat WkS} {e:Ending} {w':World} (h:LdA B gW gS nI p cv iv hv w r e w'):∃v,e=.returned v:=by
 unfold LdA at h
 split at h
 ·exact⟨_,h⟩
 ·exact⟨_,h.1⟩
theorem lead_any (W0:World) (aC:Option Addr) (cap:Nat) (xs:List FC) (p nR nI nP gW gS a:Nat) (f:FC) (E:Nat→List Nat) (cv iv hv:Value) (zs:List SR) (due:List Bool) (w:World) (rb:Bool) (tv gv:Value) (x y:SD) (n:ID) (C:WCx W0 aC cap xs p nR nI nP f E cv iv) (h:WlV W0.heap.size gW gS nI p cv iv w zs hv due) (hB:Below W0.heap.size W0 w) (hn:f.d.ins[a]?=some n) (hx:(zs.map SR.o)[a]?=some (some x)) (hT:OI w W0.heap.size tv y.ts) (hG:GA w gv y.gs) (hap:Apart tv hv) (hok:WOk nR nI ⟨zs.map SR.o,due⟩) (hy:SOk nR y) :
  Calls Tryz.prog 71 #[.pointer (some ⟨gW,0,none⟩),.int .i64 a,.agg #[.bool rb,tv,gv]] w fun e w'=>∃v,e=.returned v∧LdA W0.heap.size gW gS nI p cv iv hv w (leadW (followV n a x y) ⟨zs.map SR.o,due⟩) (.returned v) w'∧ButL (gW :: gS :: hv.ownBlock.toList) w w':=by
 have key:Calls Tryz.prog 71 #[.pointer (some ⟨gW,0,none⟩),.int .i64 a,.agg #[.bool rb,tv,gv]] w fun e w'=>LdA W0.heap.size gW gS nI p cv iv hv w (leadW (followV n a x y) ⟨zs.map SR.o,due⟩) e w'∧ButL (gW :: gS :: hv.ownBlock.toList) w w':=by
  have hi:=C.ok.ok n (List.mem_of_getElem? hn)
  have f1:∀k:Int,n.op≠k→(n.op == k)=false:=fun k h=>by simpa using h
  by_cases hg:goesV n.op=true
  ·cases hr:reachW ⟨zs.map SR.o,due⟩ (a+1) y with
   | none =>
    unfold followV
    rw[if_pos hg]
    exact lead_n W0 aC cap xs p nR nI nP gW gS a f E cv iv hv zs due w rb tv gv x y n C h hB hn hx hT hG hap hok hy hg hr _
   | some s' =>
    by_cases h31:n.op=31
    ·have ht:=hi.ta (.inr h31)
     have e:followV n a x y=[(a+1,y),(n.a.toNat,caughtV n x)]:=by
      unfold followV targetV
      rw[if_pos hg,if_pos (.inr h31)]
      simp[h31]
     rw[e]
     exact lead_31 W0 aC cap xs p nR nI nP gW gS a f E cv iv hv zs due w rb tv gv x y n C h hB hn hx hT hG hap hok hy hg s' hr n.a.toNat (by unfold tgtI;rw[if_pos (.inr h31)];omega) (by omega) h31
    ·by_cases h41:n.op=41
     ·have ht:=hi.tb (by omega)
      have e:followV n a x y=[(a+1,y),(n.b.toNat,x)]:=by
       unfold followV targetV
       rw[if_pos hg,if_neg (by omega),if_pos (by omega)]
       simp[h41]
      rw[e]
      exact lead_41 W0 aC cap xs p nR nI nP gW gS a f E cv iv hv zs due w rb tv gv x y n C h hB hn hx hT hG hap hok hy hg s' hr n.b.toNat (by unfold tgtI;rw[if_neg (by omega),if_pos (by omega)];omega) (by omega) h41
     ·have h19:n.op≠19:=fun e=>by rw[e]at hg;cases hg
      by_cases ht:n.op=20∨n.op=21∨n.op=38∨n.op=39∨n.op=41
      ·have hb:=hi.tb ht
       have e:followV n a x y=[(a+1,y),(n.b.toNat,y)]:=by
        unfold followV targetV
        rw[if_pos hg,if_neg (by omega),if_pos ht]
        simp[h31,h41]
       rw[e]
       exact lead_d W0 aC cap xs p nR nI nP gW gS a f E cv iv hv zs due w rb tv gv x y n C h hB hn hx hT hG hap hok hy hg s' hr n.b.toNat (by unfold tgtI;rw[if_neg (by omega),if_pos ht];omega) (by omega) (f1 _ h41) (f1 _ h31)
      ·have e:followV n a x y=[(a+1,y)]:=by
        unfold followV targetV
        rw[if_pos hg,if_neg (by omega),if_neg ht]
        rfl
       rw[e]
       exact lead_c W0 aC cap xs p nR nI nP gW gS a f E cv iv hv zs due w rb tv gv x y n C h hB hn hx hT hG hap hok hy hg s' hr (by unfold tgtI;rw[if_neg (by omega),if_neg ht])
  ·have he:endsB n.op=true:=by unfold goesV at hg;simpa using hg
   have hop:n.op=19∨n.op=29∨n.op=30:=by
    unfold endsB at he
    simpa [or_assoc] using he
   by_cases h19:n.op=19
   ·have ht:=hi.ta (.inl h19)
    have e:followV n a x y=[(n.a.toNat,y)]:=by
     unfold followV targetV
     rw[if_neg hg,if_pos (.inl h19)]
     simp[h19]
    rw[e]
    exact lead_j W0 aC cap xs p nR nI nP gW gS a f E cv iv hv zs due w rb tv gv x y n C h hB hn hx hT hG hap hok hy he n.a.toNat (by unfold tgtI;rw[if_pos (.inl h19)];omega) (by omega) (f1 _ (by omega)) (f1 _ (by omega))
   ·have e:followV n a x y=[]:=by
     unfold followV targetV
     rw[if_neg hg,if_neg (by omega),if_neg (by omega)]
     rfl
    rw[e]
    exact lead_x W0 aC cap xs p nR nI nP gW gS a f E cv iv hv zs due w rb tv gv x y n C h hB hn hx hT hG hap hok hy he (by unfold tgtI;rw[if_neg (by omega),if_neg (by omega)])
 refine key.mono ?_
 rintro e w' ⟨h1,h2⟩
 obtain⟨v,rfl⟩:=h1.ret
 exact⟨v,rfl,h1,h2⟩
end Go.Proofs.YtjglgbepobmjhaaGreatDoor
