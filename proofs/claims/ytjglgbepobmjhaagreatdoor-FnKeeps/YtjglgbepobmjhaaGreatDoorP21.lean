import Derived.Test.YtjglgbepobmjhaaGreatDoorP20
import Derived.Test.YtjglgbepobmjhaaGreatDoorP17
set_option linter.unusedVariables false
set_option linter.unusedSimpArgs false
set_option maxRecDepth 20000
set_option maxHeartbeats 8000000
namespace Go.Proofs.YtjglgbepobmjhaaGreatDoor
open Go.RowKit
theorem lead_n (W0:World) (aC:Option Addr) (cap:Nat) (xs:List FC) (p nR nI nP gW gS a:Nat) (f:FC) (E:Nat→List Nat) (cv iv hv:Value) (zs:List SR) (due:List Bool) (w:World) (rb:Bool) (tv gv:Value) (x y:SD) (n:ID) (C:WCx W0 aC cap xs p nR nI nP f E cv iv) (h:WlV W0.heap.size gW gS nI p cv iv w zs hv due) (hB:Below W0.heap.size W0 w) (hn:f.d.ins[a]?=some n) (hx:(zs.map SR.o)[a]?=some (some x)) (hT:OI w W0.heap.size tv y.ts) (hG:GA w gv y.gs) (hap:Apart tv hv) (hok:WOk nR nI ⟨zs.map SR.o,due⟩) (hy:SOk nR y) (hgo:goesV n.op=true) (hrw:reachW ⟨zs.map SR.o,due⟩ (a+1) y=none) (r:List (Nat × SD)) :
  Calls Tryz.prog 71 #[.pointer (some ⟨gW,0,none⟩),.int .i64 a,.agg #[.bool rb,tv,gv]] w fun e w'=>LdA W0.heap.size gW gS nI p cv iv hv w (leadW ((a+1,y) :: r) ⟨zs.map SR.o,due⟩) e w'∧ButL (gW :: gS :: hv.ownBlock.toList) w w':=by
 have hiok:=C.ok.ok n (List.mem_of_getElem? hn)
 have ho1:=hiok.op1
 have ho2:=hiok.op2
 have hreg:=C.ok.reg1
 have hI1:=C.ok.ins1
 have haI:a<nI:=by have:=(List.getElem?_eq_some_iff.1 hn).1;rw[←C.ok.ins];exact this
 have hgo1:a+1<nI:=C.ok.goes a n hn hgo
 have hwr:IntKind.i64.wrap ((a:Int)+1)=(a:Int)+1:=by rw[IntKind.wrap_i64];omega
 have hge:endsB n.op=false:=by unfold goesV at hgo;simpa using hgo
 have HLY:Hid (LayAt W0):=C.lay
 have HB:Hid (Below W0.heap.size W0 w):=hB
 have HW:Hid (WlV W0.heap.size gW gS nI p cv iv w zs hv due):=h
 have HT:Hid (OI w W0.heap.size tv y.ts):=hT
 have HG:Hid (GA w gv y.gs):=hG
 have HAP:Hid (Apart tv hv):=hap
 have HOK:Hid (WOk nR nI ⟨zs.map SR.o,due⟩):=hok
 have HY:Hid (SOk nR y):=hy
 have HNI:Hid (∀k,w.heap.size≤k→k∉gW :: gS :: hv.ownBlock.toList):=fun k hk hm=>by have:=(h.own k hm).2;omega
 have hyb:=bw1 w (StB rb tv gv)
 obtain⟨b,off,ei,hbl,i0,i1,i2,i3,i4⟩:=C.ins hn (hB.trans (hyb.mono h.base))
 obtain⟨_,_,c2,_,_⟩:=(h.later hyb).cells
 have eiv:iv=.slice (some ⟨b,off,none⟩) nI f.ci:=by rw[C.eiv,ei]
 rw[eiv]at c2
 have HL:Hid (leadW ((a+1,y) :: r) ⟨zs.map SR.o,due⟩=.error (a+1)):=by show leadW _ _=_;unfold leadW;dsimp only;rw[hrw]
 rw[HL.out]
 skip
 clear hyb h hB hx hT hG hap hok hy hiok hn ei
 go_enter Tryz.func71,Tryz.ntmps71
 go_wp2_with (first
  | (go_at_call 58;refine (goes_any _ _).mono ?_;rw[hge];rintro e w9 ⟨rfl,rfl⟩)
  | (go_at_call 34;refine (reach_n (a+1) (by simp) rb hrw (HW.out.later (bw2 _ _ _)) hgo1 hI1 hreg (HT.out.later (bw2 _ _ _)) (HG.out.later (bw2 _ _ _)) HOK.out HY.out).mono ?_;rintro e w1 ⟨rfl,hx1⟩))
 go_ret
 exact⟨rfl,(ButL.of_below (bw2 w _ _)).then hx1 (fun g hg=>.inl hg)⟩
theorem lead_c (W0:World) (aC:Option Addr) (cap:Nat) (xs:List FC) (p nR nI nP gW gS a:Nat) (f:FC) (E:Nat→List Nat) (cv iv hv:Value) (zs:List SR) (due:List Bool) (w:World) (rb:Bool) (tv gv:Value) (x y:SD) (n:ID) (C:WCx W0 aC cap xs p nR nI nP f E cv iv) (h:WlV W0.heap.size gW gS nI p cv iv w zs hv due) (hB:Below W0.heap.size W0 w) (hn:f.d.ins[a]?=some n) (hx:(zs.map SR.o)[a]?=some (some x)) (hT:OI w W0.heap.size tv y.ts) (hG:GA w gv y.gs) (hap:Apart tv hv) (hok:WOk nR nI ⟨zs.map SR.o,due⟩) (hy:SOk nR y) (hgo:goesV n.op=true) (s':WkS) (hrw:reachW ⟨zs.map SR.o,due⟩ (a+1) y=some s') (htg:tgtI n=-1) :
  Calls Tryz.prog 71 #[.pointer (some ⟨gW,0,none⟩),.int .i64 a,.agg #[.bool rb,tv,gv]] w fun e w'=>LdA W0.heap.size gW gS nI p cv iv hv w (leadW [(a+1,y)] ⟨zs.map SR.o,due⟩) e w'∧ButL (gW :: gS :: hv.ownBlock.toList) w w':=by
 have hiok:=C.ok.ok n (List.mem_of_getElem? hn)
 have ho1:=hiok.op1
 have ho2:=hiok.op2
 have hreg:=C.ok.reg1
 have hI1:=C.ok.ins1
 have haI:a<nI:=by have:=(List.getElem?_eq_some_iff.1 hn).1;rw[←C.ok.ins];exact this
 have hgo1:a+1<nI:=C.ok.goes a n hn hgo
 have hwr:IntKind.i64.wrap ((a:Int)+1)=(a:Int)+1:=by rw[IntKind.wrap_i64];omega
 have hge:endsB n.op=false:=by unfold goesV at hgo;simpa using hgo
 have HLY:Hid (LayAt W0):=C.lay
 have HB:Hid (Below W0.heap.size W0 w):=hB
 have HW:Hid (WlV W0.heap.size gW gS nI p cv iv w zs hv due):=h
 have HT:Hid (OI w W0.heap.size tv y.ts):=hT
 have HG:Hid (GA w gv y.gs):=hG
 have HAP:Hid (Apart tv hv):=hap
 have HOK:Hid (WOk nR nI ⟨zs.map SR.o,due⟩):=hok
 have HY:Hid (SOk nR y):=hy
 have HNI:Hid (∀k,w.heap.size≤k→k∉gW :: gS :: hv.ownBlock.toList):=fun k hk hm=>by have:=(h.own k hm).2;omega
 have hyb:=bw1 w (StB rb tv gv)
 obtain⟨b,off,ei,hbl,i0,i1,i2,i3,i4⟩:=C.ins hn (hB.trans (hyb.mono h.base))
 obtain⟨_,_,c2,_,_⟩:=(h.later hyb).cells
 have eiv:iv=.slice (some ⟨b,off,none⟩) nI f.ci:=by rw[C.eiv,ei]
 rw[eiv]at c2
 have HL:Hid (leadW [(a+1,y)] ⟨zs.map SR.o,due⟩=leadW [] s'):=by show leadW _ _=_;simp only[leadW,hrw]
 rw[HL.out]
 have HOK1:Hid (WOk nR nI s'):=reachW_ok hok hy hrw
 have HTG:Hid (tgtI n=-1):=htg
 clear hyb h hB hx hT hG hap hok hy hiok hn ei htg
 go_enter Tryz.func71,Tryz.ntmps71
 go_wp2_with (first
  | (go_at_call 58;refine (goes_any _ _).mono ?_;rw[hge];rintro e w9 ⟨rfl,rfl⟩)
  | (go_at_call 34;refine (reach_s (a+1) (by simp) rb hrw (HW.out.later (bw2 _ _ _)) hgo1 hI1 hreg (HT.out.later (bw2 _ _ _)) (HG.out.later (bw2 _ _ _)) HOK.out HY.out).mono ?_;rintro e w1 ⟨⟨rfl,zs1,hv1,hw1,hm1,hov⟩,hx1⟩;have HX1:Hid _:=hx1;have HW1:Hid (WlV W0.heap.size gW gS nI p cv iv w1 zs1 hv1 s'.due):=hw1;have HM1:Hid (zs1.map SR.o=s'.st):=hm1;have HO1:Hid (∀g,hv1.ownBlock=some g→hv.ownBlock=some g∨w.heap.size≤g):=(fun g e=>(hov g e).imp id (fun q=>by simp at q;omega));have hI:=hx1.blk (blk_newn (by simp) (.cells #[.int .i64 n.op,.int .i64 n.a,.int .i64 n.b,.int .i64 n.c,.int .i64 n.d] 47)) (HNI.out (w.heap.size+1) (by omega));have hS0:=hx1.blk (blk_old (blk_new w (StB rb tv gv)) (.cells #[.int .i64 n.op,.int .i64 n.a,.int .i64 n.b,.int .i64 n.c,.int .i64 n.d] 47)) (HNI.out _ (Nat.le_refl _));have HBX:Hid (ButL (gW :: gS :: hv.ownBlock.toList) w w1):=(ButL.of_below (bw2 w _ _)).then hx1 (fun g hg=>.inl hg);have HT1:Hid (OI w1 W0.heap.size tv y.ts):=(HW.out.later (bw2 _ _ _)).outT (HT.out.later (bw2 _ _ _)) HAP.out hx1;have HG1:Hid (GA w1 gv y.gs):=(HW.out.later (bw2 _ _ _)).outG (HG.out.later (bw2 _ _ _)) hx1;have l0:w1.cell? ⟨w.heap.size+1,0,none⟩=some (.int .i64 n.op):=(by rw[blk_cell hI];rfl);have l1:w1.cell? ⟨w.heap.size+1,1,none⟩=some (.int .i64 n.a):=(by rw[blk_cell hI];rfl);have l2:w1.cell? ⟨w.heap.size+1,2,none⟩=some (.int .i64 n.b):=(by rw[blk_cell hI];rfl);have l3:w1.cell? ⟨w.heap.size+1,3,none⟩=some (.int .i64 n.c):=(by rw[blk_cell hI];rfl);have l4:w1.cell? ⟨w.heap.size+1,4,none⟩=some (.int .i64 n.d):=(by rw[blk_cell hI];rfl);have HI1:Hid _:=hI;have HS1:Hid _:=hS0;clear hx1 hw1 hm1 hov hI hS0 i0 i1 i2 i3 i4 c2)
  | (go_at_call 153;refine (target_any n _ ho1 ho2 (HLY.out.later (HW.out.below HB.out HBX.out))).mono ?_;rw[HTG.out];rintro e w3 ⟨rfl,hx3⟩;have HB3:Hid (Below w1.heap.size w1 w3):=hx3;have hI3:w3.heap[w.heap.size+1]?=some (.cells #[.int .i64 n.op,.int .i64 n.a,.int .i64 n.b,.int .i64 n.c,.int .i64 n.d] 47):=blk_later hx3 HI1.out;have hS3:w3.heap[w.heap.size]?=some (StB rb tv gv):=blk_later hx3 HS1.out;have m0:w3.cell? ⟨w.heap.size+1,0,none⟩=some (.int .i64 n.op):=(by rw[blk_cell hI3];rfl);have m2:w3.cell? ⟨w.heap.size+1,2,none⟩=some (.int .i64 n.b):=(by rw[blk_cell hI3];rfl);have t0:w3.cell? ⟨w.heap.size,0,none⟩=some (.bool rb):=(by rw[blk_cell hS3];rfl);have t1:w3.cell? ⟨w.heap.size,1,none⟩=some tv:=(by rw[blk_cell hS3];rfl);have t2:w3.cell? ⟨w.heap.size,2,none⟩=some gv:=(by rw[blk_cell hS3];rfl);have HS3:Hid _:=hS3;clear hx3 hI3 hS3 l0 l1 l2 l3 l4))
 go_ret
 refine⟨⟨rfl,zs1,hv1,HW1.out.later HB3.out,HM1.out,HO1.out⟩,HBX.out.thenB HB3.out⟩
theorem lead_x (W0:World) (aC:Option Addr) (cap:Nat) (xs:List FC) (p nR nI nP gW gS a:Nat) (f:FC) (E:Nat→List Nat) (cv iv hv:Value) (zs:List SR) (due:List Bool) (w:World) (rb:Bool) (tv gv:Value) (x y:SD) (n:ID) (C:WCx W0 aC cap xs p nR nI nP f E cv iv) (h:WlV W0.heap.size gW gS nI p cv iv w zs hv due) (hB:Below W0.heap.size W0 w) (hn:f.d.ins[a]?=some n) (hx:(zs.map SR.o)[a]?=some (some x)) (hT:OI w W0.heap.size tv y.ts) (hG:GA w gv y.gs) (hap:Apart tv hv) (hok:WOk nR nI ⟨zs.map SR.o,due⟩) (hy:SOk nR y) (hge:endsB n.op=true) (htg:tgtI n=-1) :
  Calls Tryz.prog 71 #[.pointer (some ⟨gW,0,none⟩),.int .i64 a,.agg #[.bool rb,tv,gv]] w fun e w'=>LdA W0.heap.size gW gS nI p cv iv hv w (leadW [] ⟨zs.map SR.o,due⟩) e w'∧ButL (gW :: gS :: hv.ownBlock.toList) w w':=by
 have hiok:=C.ok.ok n (List.mem_of_getElem? hn)
 have ho1:=hiok.op1
 have ho2:=hiok.op2
 have hreg:=C.ok.reg1
 have hI1:=C.ok.ins1
 have haI:a<nI:=by have:=(List.getElem?_eq_some_iff.1 hn).1;rw[←C.ok.ins];exact this
 have HLY:Hid (LayAt W0):=C.lay
 have HB:Hid (Below W0.heap.size W0 w):=hB
 have HW:Hid (WlV W0.heap.size gW gS nI p cv iv w zs hv due):=h
 have HT:Hid (OI w W0.heap.size tv y.ts):=hT
 have HG:Hid (GA w gv y.gs):=hG
 have HAP:Hid (Apart tv hv):=hap
 have HOK:Hid (WOk nR nI ⟨zs.map SR.o,due⟩):=hok
 have HY:Hid (SOk nR y):=hy
 have HNI:Hid (∀k,w.heap.size≤k→k∉gW :: gS :: hv.ownBlock.toList):=fun k hk hm=>by have:=(h.own k hm).2;omega
 have hyb:=bw1 w (StB rb tv gv)
 obtain⟨b,off,ei,hbl,i0,i1,i2,i3,i4⟩:=C.ins hn (hB.trans (hyb.mono h.base))
 obtain⟨_,_,c2,_,_⟩:=(h.later hyb).cells
 have eiv:iv=.slice (some ⟨b,off,none⟩) nI f.ci:=by rw[C.eiv,ei]
 rw[eiv]at c2
 have HTG:Hid (tgtI n=-1):=htg
 clear hyb h hB hx hT hG hap hok hy hiok hn ei htg
 go_enter Tryz.func71,Tryz.ntmps71
 go_wp2_with (first
  | (go_at_call 58;refine (goes_any _ _).mono ?_;rw[hge];rintro e w9 ⟨rfl,rfl⟩)
  | (go_at_call 153;refine (target_any n _ ho1 ho2 (HLY.out.later (HB.out.trans ((bw2 w _ _).mono HW.out.base)))).mono ?_;rw[HTG.out];rintro e w3 ⟨rfl,hx3⟩;have HB3:Hid (Below ((w.alloc (StB rb tv gv)).alloc (.cells #[.int .i64 n.op,.int .i64 n.a,.int .i64 n.b,.int .i64 n.c,.int .i64 n.d] 47)).heap.size ((w.alloc (StB rb tv gv)).alloc (.cells #[.int .i64 n.op,.int .i64 n.a,.int .i64 n.b,.int .i64 n.c,.int .i64 n.d] 47)) w3):=hx3;have hI3:w3.heap[w.heap.size+1]?=some (.cells #[.int .i64 n.op,.int .i64 n.a,.int .i64 n.b,.int .i64 n.c,.int .i64 n.d] 47):=blk_later hx3 (blk_newn (by simp) (.cells #[.int .i64 n.op,.int .i64 n.a,.int .i64 n.b,.int .i64 n.c,.int .i64 n.d] 47));have hS3:w3.heap[w.heap.size]?=some (StB rb tv gv):=blk_later hx3 (blk_old (blk_new w (StB rb tv gv)) (.cells #[.int .i64 n.op,.int .i64 n.a,.int .i64 n.b,.int .i64 n.c,.int .i64 n.d] 47));have m0:w3.cell? ⟨w.heap.size+1,0,none⟩=some (.int .i64 n.op):=(by rw[blk_cell hI3];rfl);have m2:w3.cell? ⟨w.heap.size+1,2,none⟩=some (.int .i64 n.b):=(by rw[blk_cell hI3];rfl);have t0:w3.cell? ⟨w.heap.size,0,none⟩=some (.bool rb):=(by rw[blk_cell hS3];rfl);have t1:w3.cell? ⟨w.heap.size,1,none⟩=some tv:=(by rw[blk_cell hS3];rfl);have t2:w3.cell? ⟨w.heap.size,2,none⟩=some gv:=(by rw[blk_cell hS3];rfl);have HS3:Hid _:=hS3;clear hx3 hI3 hS3))
 go_ret
 exact⟨⟨rfl,zs,hv,HW.out.later ((bw2 w _ _).trans (HB3.out.mono (by simp;omega))),rfl,fun g e=>.inl e⟩,ButL.of_below ((bw2 w _ _).trans (HB3.out.mono (by simp;omega)))⟩
theorem lead_d (W0:World) (aC:Option Addr) (cap:Nat) (xs:List FC) (p nR nI nP gW gS a:Nat) (f:FC) (E:Nat→List Nat) (cv iv hv:Value) (zs:List SR) (due:List Bool) (w:World) (rb:Bool) (tv gv:Value) (x y:SD) (n:ID) (C:WCx W0 aC cap xs p nR nI nP f E cv iv) (h:WlV W0.heap.size gW gS nI p cv iv w zs hv due) (hB:Below W0.heap.size W0 w) (hn:f.d.ins[a]?=some n) (hx:(zs.map SR.o)[a]?=some (some x)) (hT:OI w W0.heap.size tv y.ts) (hG:GA w gv y.gs) (hap:Apart tv hv) (hok:WOk nR nI ⟨zs.map SR.o,due⟩) (hy:SOk nR y) (hgo:goesV n.op=true) (s':WkS) (hrw:reachW ⟨zs.map SR.o,due⟩ (a+1) y=some s') (m:Nat) (htg:tgtI n=(m:Int)) (hmI:m<nI) (t41:(n.op == 41)=false) (t31:(n.op == 31)=false) :
  Calls Tryz.prog 71 #[.pointer (some ⟨gW,0,none⟩),.int .i64 a,.agg #[.bool rb,tv,gv]] w fun e w'=>LdA W0.heap.size gW gS nI p cv iv hv w (leadW [(a+1,y),(m,y)] ⟨zs.map SR.o,due⟩) e w'∧ButL (gW :: gS :: hv.ownBlock.toList) w w':=by
 have hiok:=C.ok.ok n (List.mem_of_getElem? hn)
 have ho1:=hiok.op1
 have ho2:=hiok.op2
 have hreg:=C.ok.reg1
 have hI1:=C.ok.ins1
 have haI:a<nI:=by have:=(List.getElem?_eq_some_iff.1 hn).1;rw[←C.ok.ins];exact this
 have hgo1:a+1<nI:=C.ok.goes a n hn hgo
 have hwr:IntKind.i64.wrap ((a:Int)+1)=(a:Int)+1:=by rw[IntKind.wrap_i64];omega
 have hge:endsB n.op=false:=by unfold goesV at hgo;simpa using hgo
 have HLY:Hid (LayAt W0):=C.lay
 have HB:Hid (Below W0.heap.size W0 w):=hB
 have HW:Hid (WlV W0.heap.size gW gS nI p cv iv w zs hv due):=h
 have HT:Hid (OI w W0.heap.size tv y.ts):=hT
 have HG:Hid (GA w gv y.gs):=hG
 have HAP:Hid (Apart tv hv):=hap
 have HOK:Hid (WOk nR nI ⟨zs.map SR.o,due⟩):=hok
 have HY:Hid (SOk nR y):=hy
 have HNI:Hid (∀k,w.heap.size≤k→k∉gW :: gS :: hv.ownBlock.toList):=fun k hk hm=>by have:=(h.own k hm).2;omega
 have hyb:=bw1 w (StB rb tv gv)
 obtain⟨b,off,ei,hbl,i0,i1,i2,i3,i4⟩:=C.ins hn (hB.trans (hyb.mono h.base))
 obtain⟨_,_,c2,_,_⟩:=(h.later hyb).cells
 have eiv:iv=.slice (some ⟨b,off,none⟩) nI f.ci:=by rw[C.eiv,ei]
 rw[eiv]at c2
 have HL:Hid (leadW [(a+1,y),(m,y)] ⟨zs.map SR.o,due⟩=leadW [(m,y)] s'):=by show leadW _ _=_;simp only[leadW,hrw]
 rw[HL.out]
 have HOK1:Hid (WOk nR nI s'):=reachW_ok hok hy hrw
 have tl:decide ((m:Int)<0)=false:=by simp
 have HTG:Hid (tgtI n=(m:Int)):=htg
 clear hyb h hB hx hT hG hap hok hy hiok hn ei htg
 go_enter Tryz.func71,Tryz.ntmps71
 go_wp2_with (first
  | (go_at_call 58;refine (goes_any _ _).mono ?_;rw[hge];rintro e w9 ⟨rfl,rfl⟩)
  | (go_at_call 34;refine (reach_s (a+1) (by simp) rb hrw (HW.out.later (bw2 _ _ _)) hgo1 hI1 hreg (HT.out.later (bw2 _ _ _)) (HG.out.later (bw2 _ _ _)) HOK.out HY.out).mono ?_;rintro e w1 ⟨⟨rfl,zs1,hv1,hw1,hm1,hov⟩,hx1⟩;have HX1:Hid _:=hx1;have HW1:Hid (WlV W0.heap.size gW gS nI p cv iv w1 zs1 hv1 s'.due):=hw1;have HM1:Hid (zs1.map SR.o=s'.st):=hm1;have HO1:Hid (∀g,hv1.ownBlock=some g→hv.ownBlock=some g∨w.heap.size≤g):=(fun g e=>(hov g e).imp id (fun q=>by simp at q;omega));have hI:=hx1.blk (blk_newn (by simp) (.cells #[.int .i64 n.op,.int .i64 n.a,.int .i64 n.b,.int .i64 n.c,.int .i64 n.d] 47)) (HNI.out (w.heap.size+1) (by omega));have hS0:=hx1.blk (blk_old (blk_new w (StB rb tv gv)) (.cells #[.int .i64 n.op,.int .i64 n.a,.int .i64 n.b,.int .i64 n.c,.int .i64 n.d] 47)) (HNI.out _ (Nat.le_refl _));have HBX:Hid (ButL (gW :: gS :: hv.ownBlock.toList) w w1):=(ButL.of_below (bw2 w _ _)).then hx1 (fun g hg=>.inl hg);have HT1:Hid (OI w1 W0.heap.size tv y.ts):=(HW.out.later (bw2 _ _ _)).outT (HT.out.later (bw2 _ _ _)) HAP.out hx1;have HG1:Hid (GA w1 gv y.gs):=(HW.out.later (bw2 _ _ _)).outG (HG.out.later (bw2 _ _ _)) hx1;have l0:w1.cell? ⟨w.heap.size+1,0,none⟩=some (.int .i64 n.op):=(by rw[blk_cell hI];rfl);have l1:w1.cell? ⟨w.heap.size+1,1,none⟩=some (.int .i64 n.a):=(by rw[blk_cell hI];rfl);have l2:w1.cell? ⟨w.heap.size+1,2,none⟩=some (.int .i64 n.b):=(by rw[blk_cell hI];rfl);have l3:w1.cell? ⟨w.heap.size+1,3,none⟩=some (.int .i64 n.c):=(by rw[blk_cell hI];rfl);have l4:w1.cell? ⟨w.heap.size+1,4,none⟩=some (.int .i64 n.d):=(by rw[blk_cell hI];rfl);have HI1:Hid _:=hI;have HS1:Hid _:=hS0;clear hx1 hw1 hm1 hov hI hS0 i0 i1 i2 i3 i4 c2)
  | (go_at_call 153;refine (target_any n _ ho1 ho2 (HLY.out.later (HW.out.below HB.out HBX.out))).mono ?_;rw[HTG.out];rintro e w3 ⟨rfl,hx3⟩;have HB3:Hid (Below w1.heap.size w1 w3):=hx3;have hI3:w3.heap[w.heap.size+1]?=some (.cells #[.int .i64 n.op,.int .i64 n.a,.int .i64 n.b,.int .i64 n.c,.int .i64 n.d] 47):=blk_later hx3 HI1.out;have hS3:w3.heap[w.heap.size]?=some (StB rb tv gv):=blk_later hx3 HS1.out;have m0:w3.cell? ⟨w.heap.size+1,0,none⟩=some (.int .i64 n.op):=(by rw[blk_cell hI3];rfl);have m2:w3.cell? ⟨w.heap.size+1,2,none⟩=some (.int .i64 n.b):=(by rw[blk_cell hI3];rfl);have t0:w3.cell? ⟨w.heap.size,0,none⟩=some (.bool rb):=(by rw[blk_cell hS3];rfl);have t1:w3.cell? ⟨w.heap.size,1,none⟩=some tv:=(by rw[blk_cell hS3];rfl);have t2:w3.cell? ⟨w.heap.size,2,none⟩=some gv:=(by rw[blk_cell hS3];rfl);have HS3:Hid _:=hS3;clear hx3 hI3 hS3 l0 l1 l2 l3 l4)
  | (go_at_call 34;refine (reach_v m rb (HW1.out.later HB3.out) hmI hI1 hreg (HT1.out.later HB3.out) (HG1.out.later HB3.out) (by rw[HM1.out];exact HOK1.out) HY.out).mono ?_;rintro e w4 ⟨v,rfl,hl4,hx4⟩))
 go_ret
 rw[HM1.out]at hl4
 exact⟨hl4.then HO1.out (Nat.le_trans HBX.out.size HB3.out.size),but_then (HBX.out.thenB HB3.out) hx4 HO1.out⟩
theorem lead_j (W0:World) (aC:Option Addr) (cap:Nat) (xs:List FC) (p nR nI nP gW gS a:Nat) (f:FC) (E:Nat→List Nat) (cv iv hv:Value) (zs:List SR) (due:List Bool) (w:World) (rb:Bool) (tv gv:Value) (x y:SD) (n:ID) (C:WCx W0 aC cap xs p nR nI nP f E cv iv) (h:WlV W0.heap.size gW gS nI p cv iv w zs hv due) (hB:Below W0.heap.size W0 w) (hn:f.d.ins[a]?=some n) (hx:(zs.map SR.o)[a]?=some (some x)) (hT:OI w W0.heap.size tv y.ts) (hG:GA w gv y.gs) (hap:Apart tv hv) (hok:WOk nR nI ⟨zs.map SR.o,due⟩) (hy:SOk nR y) (hge:endsB n.op=true) (m:Nat) (htg:tgtI n=(m:Int)) (hmI:m<nI) (t41:(n.op == 41)=false) (t31:(n.op == 31)=false) :
  Calls Tryz.prog 71 #[.pointer (some ⟨gW,0,none⟩),.int .i64 a,.agg #[.bool rb,tv,gv]] w fun e w'=>LdA W0.heap.size gW gS nI p cv iv hv w (leadW [(m,y)] ⟨zs.map SR.o,due⟩) e w'∧ButL (gW :: gS :: hv.ownBlock.toList) w w':=by
 have hiok:=C.ok.ok n (List.mem_of_getElem? hn)
 have ho1:=hiok.op1
 have ho2:=hiok.op2
 have hreg:=C.ok.reg1
 have hI1:=C.ok.ins1
 have haI:a<nI:=by have:=(List.getElem?_eq_some_iff.1 hn).1;rw[←C.ok.ins];exact this
 have HLY:Hid (LayAt W0):=C.lay
 have HB:Hid (Below W0.heap.size W0 w):=hB
 have HW:Hid (WlV W0.heap.size gW gS nI p cv iv w zs hv due):=h
 have HT:Hid (OI w W0.heap.size tv y.ts):=hT
 have HG:Hid (GA w gv y.gs):=hG
 have HAP:Hid (Apart tv hv):=hap
 have HOK:Hid (WOk nR nI ⟨zs.map SR.o,due⟩):=hok
 have HY:Hid (SOk nR y):=hy
 have HNI:Hid (∀k,w.heap.size≤k→k∉gW :: gS :: hv.ownBlock.toList):=fun k hk hm=>by have:=(h.own k hm).2;omega
 have hyb:=bw1 w (StB rb tv gv)
 obtain⟨b,off,ei,hbl,i0,i1,i2,i3,i4⟩:=C.ins hn (hB.trans (hyb.mono h.base))
 obtain⟨_,_,c2,_,_⟩:=(h.later hyb).cells
 have eiv:iv=.slice (some ⟨b,off,none⟩) nI f.ci:=by rw[C.eiv,ei]
 rw[eiv]at c2
 have tl:decide ((m:Int)<0)=false:=by simp
 have HTG:Hid (tgtI n=(m:Int)):=htg
 clear hyb h hB hx hT hG hap hok hy hiok hn ei htg
 go_enter Tryz.func71,Tryz.ntmps71
 go_wp2_with (first
  | (go_at_call 58;refine (goes_any _ _).mono ?_;rw[hge];rintro e w9 ⟨rfl,rfl⟩)
  | (go_at_call 153;refine (target_any n _ ho1 ho2 (HLY.out.later (HB.out.trans ((bw2 w _ _).mono HW.out.base)))).mono ?_;rw[HTG.out];rintro e w3 ⟨rfl,hx3⟩;have HB3:Hid (Below ((w.alloc (StB rb tv gv)).alloc (.cells #[.int .i64 n.op,.int .i64 n.a,.int .i64 n.b,.int .i64 n.c,.int .i64 n.d] 47)).heap.size ((w.alloc (StB rb tv gv)).alloc (.cells #[.int .i64 n.op,.int .i64 n.a,.int .i64 n.b,.int .i64 n.c,.int .i64 n.d] 47)) w3):=hx3;have hI3:w3.heap[w.heap.size+1]?=some (.cells #[.int .i64 n.op,.int .i64 n.a,.int .i64 n.b,.int .i64 n.c,.int .i64 n.d] 47):=blk_later hx3 (blk_newn (by simp) (.cells #[.int .i64 n.op,.int .i64 n.a,.int .i64 n.b,.int .i64 n.c,.int .i64 n.d] 47));have hS3:w3.heap[w.heap.size]?=some (StB rb tv gv):=blk_later hx3 (blk_old (blk_new w (StB rb tv gv)) (.cells #[.int .i64 n.op,.int .i64 n.a,.int .i64 n.b,.int .i64 n.c,.int .i64 n.d] 47));have m0:w3.cell? ⟨w.heap.size+1,0,none⟩=some (.int .i64 n.op):=(by rw[blk_cell hI3];rfl);have m2:w3.cell? ⟨w.heap.size+1,2,none⟩=some (.int .i64 n.b):=(by rw[blk_cell hI3];rfl);have t0:w3.cell? ⟨w.heap.size,0,none⟩=some (.bool rb):=(by rw[blk_cell hS3];rfl);have t1:w3.cell? ⟨w.heap.size,1,none⟩=some tv:=(by rw[blk_cell hS3];rfl);have t2:w3.cell? ⟨w.heap.size,2,none⟩=some gv:=(by rw[blk_cell hS3];rfl);have HS3:Hid _:=hS3;clear hx3 hI3 hS3)
  | (go_at_call 34;refine (reach_v m rb (HW.out.later ((bw2 w _ _).trans (HB3.out.mono (by simp;omega)))) hmI hI1 hreg (HT.out.later ((bw2 w _ _).trans (HB3.out.mono (by simp;omega)))) (HG.out.later ((bw2 w _ _).trans (HB3.out.mono (by simp;omega)))) HOK.out HY.out).mono ?_;rintro e w4 ⟨v,rfl,hl4,hx4⟩))
 go_ret
 have hb9:Below w.heap.size w w3:=(bw2 w _ _).trans (HB3.out.mono (by simp;omega))
 exact⟨hl4.then (fun g e=>.inl e) hb9.size,(ButL.of_below hb9).then hx4 (fun g hg=>.inl hg)⟩
end Go.Proofs.YtjglgbepobmjhaaGreatDoor
