import Derived.Test.YtjglgbepobmjhaaGreatDoorP20
import Derived.Test.YtjglgbepobmjhaaGreatDoorP18
import Derived.Test.YtjglgbepobmjhaaGreatDoorP17
set_option linter.unusedVariables false
set_option linter.unusedSimpArgs false
set_option maxRecDepth 20000
set_option maxHeartbeats 8000000
namespace Go.Proofs.YtjglgbepobmjhaaGreatDoor
open Go.RowKit
theorem lead_31 (W0:World) (aC:Option Addr) (cap:Nat) (xs:List FC) (p nR nI nP gW gS a:Nat) (f:FC) (E:Nat→List Nat) (cv iv hv:Value) (zs:List SR) (due:List Bool) (w:World) (rb:Bool) (tv gv:Value) (x y:SD) (n:ID) (C:WCx W0 aC cap xs p nR nI nP f E cv iv) (h:WlV W0.heap.size gW gS nI p cv iv w zs hv due) (hB:Below W0.heap.size W0 w) (hn:f.d.ins[a]?=some n) (hx:(zs.map SR.o)[a]?=some (some x)) (hT:OI w W0.heap.size tv y.ts) (hG:GA w gv y.gs) (hap:Apart tv hv) (hok:WOk nR nI ⟨zs.map SR.o,due⟩) (hy:SOk nR y) (hgo:goesV n.op=true) (s':WkS) (hrw:reachW ⟨zs.map SR.o,due⟩ (a+1) y=some s') (m:Nat) (htg:tgtI n=(m:Int)) (hmI:m<nI) (hop:n.op=31) :
  Calls Tryz.prog 71 #[.pointer (some ⟨gW,0,none⟩),.int .i64 a,.agg #[.bool rb,tv,gv]] w fun e w'=>LdA W0.heap.size gW gS nI p cv iv hv w (leadW [(a+1,y),(m,caughtV n x)] ⟨zs.map SR.o,due⟩) e w'∧ButL (gW :: gS :: hv.ownBlock.toList) w w':=by
 have hiok:=C.ok.ok n (List.mem_of_getElem? hn)
 have ho1:=hiok.op1
 have ho2:=hiok.op2
 have hreg:=C.ok.reg1
 have hI1:=C.ok.ins1
 have haI:a<nI:=by have:=(List.getElem?_eq_some_iff.1 hn).1;rw[←C.ok.ins];exact this
 have hgo1:a+1<nI:=C.ok.goes a n hn hgo
 have hwr:IntKind.i64.wrap ((a:Int)+1)=(a:Int)+1:=by rw[IntKind.wrap_i64];omega
 have hge:endsB n.op=false:=by unfold goesV at hgo;simpa using hgo
 have HLY:Hid (LayAt W0):=C.lay
 have HB:Hid (Below W0.heap.size W0 w):=hB
 have HW:Hid (WlV W0.heap.size gW gS nI p cv iv w zs hv due):=h
 have HT:Hid (OI w W0.heap.size tv y.ts):=hT
 have HG:Hid (GA w gv y.gs):=hG
 have HAP:Hid (Apart tv hv):=hap
 have HOK:Hid (WOk nR nI ⟨zs.map SR.o,due⟩):=hok
 have HY:Hid (SOk nR y):=hy
 have HIN:Hid (InsOk nR nI n):=hiok
 have HX:Hid (s'.st[a]?=some (some x)):=reachW_keep hrw hx
 have HSX:Hid (SOk nR x):=hok.ok a x hx
 obtain⟨kk,hkk⟩:∃kk:Nat,n.b=kk:=⟨n.b.toNat,by have:=(hiok.k31 hop).1;omega⟩
 have HKK:Hid (kk+2≤x.ts.length):=by show _≤_;have h7:=(hiok.k31 hop).2;rw[HSX.out.1];omega
 have HCV:Hid (caughtV n x=⟨(x.ts.take kk++[1,1])++List.replicate (x.ts.length-kk-2) 0,x.gs⟩):=by show _=_;unfold caughtV;rw[hkk];rfl
 have HSC:Hid (SOk nR (caughtV n x)):=caught_ok hiok HSX.out hop
 have HNI:Hid (∀k,w.heap.size≤k→k∉gW :: gS :: hv.ownBlock.toList):=fun k hk hm=>by have:=(h.own k hm).2;omega
 have hyb:=bw1 w (StB rb tv gv)
 obtain⟨b,off,ei,hbl,i0,i1,i2,i3,i4⟩:=C.ins hn (hB.trans (hyb.mono h.base))
 obtain⟨_,_,c2,_,_⟩:=(h.later hyb).cells
 have eiv:iv=.slice (some ⟨b,off,none⟩) nI f.ci:=by rw[C.eiv,ei]
 rw[eiv]at c2
 have HL:Hid (leadW [(a+1,y),(m,caughtV n x)] ⟨zs.map SR.o,due⟩=leadW [(m,caughtV n x)] s'):=by show leadW _ _=_;simp only[leadW,hrw]
 rw[HL.out]
 have HOK1:Hid (WOk nR nI s'):=reachW_ok hok hy hrw
 have tl:decide ((m:Int)<0)=false:=by simp
 have HTG:Hid (tgtI n=(m:Int)):=htg
 have HOP:Hid (n.op=31):=hop
 have HKB:Hid (n.b=(kk:Int)):=hkk
 clear hop hkk
 clear hyb h hB hx hT hG hap hok hy hiok hn ei htg
 go_enter Tryz.func71,Tryz.ntmps71
 go_wp2_with (first
  | (go_at_call 58;refine (goes_any _ _).mono ?_;rw[hge];rintro e w9 ⟨rfl,rfl⟩)
  | (go_at_call 34;refine (reach_s (a+1) (by simp) rb hrw (HW.out.later (bw2 _ _ _)) hgo1 hI1 hreg (HT.out.later (bw2 _ _ _)) (HG.out.later (bw2 _ _ _)) HOK.out HY.out).mono ?_;rintro e w1 ⟨⟨rfl,zs1,hv1,hw1,hm1,hov⟩,hx1⟩;have HX1:Hid _:=hx1;have HW1:Hid (WlV W0.heap.size gW gS nI p cv iv w1 zs1 hv1 s'.due):=hw1;have HM1:Hid (zs1.map SR.o=s'.st):=hm1;have HO1:Hid (∀g,hv1.ownBlock=some g→hv.ownBlock=some g∨w.heap.size≤g):=(fun g e=>(hov g e).imp id (fun q=>by simp at q;omega));have hI:=hx1.blk (blk_newn (by simp) (.cells #[.int .i64 n.op,.int .i64 n.a,.int .i64 n.b,.int .i64 n.c,.int .i64 n.d] 47)) (HNI.out (w.heap.size+1) (by omega));have hS0:=hx1.blk (blk_old (blk_new w (StB rb tv gv)) (.cells #[.int .i64 n.op,.int .i64 n.a,.int .i64 n.b,.int .i64 n.c,.int .i64 n.d] 47)) (HNI.out _ (Nat.le_refl _));have HBX:Hid (ButL (gW :: gS :: hv.ownBlock.toList) w w1):=(ButL.of_below (bw2 w _ _)).then hx1 (fun g hg=>.inl hg);have HT1:Hid (OI w1 W0.heap.size tv y.ts):=(HW.out.later (bw2 _ _ _)).outT (HT.out.later (bw2 _ _ _)) HAP.out hx1;have HG1:Hid (GA w1 gv y.gs):=(HW.out.later (bw2 _ _ _)).outG (HG.out.later (bw2 _ _ _)) hx1;have l0:w1.cell? ⟨w.heap.size+1,0,none⟩=some (.int .i64 n.op):=(by rw[blk_cell hI];rfl);have l1:w1.cell? ⟨w.heap.size+1,1,none⟩=some (.int .i64 n.a):=(by rw[blk_cell hI];rfl);have l2:w1.cell? ⟨w.heap.size+1,2,none⟩=some (.int .i64 n.b):=(by rw[blk_cell hI];rfl);have l3:w1.cell? ⟨w.heap.size+1,3,none⟩=some (.int .i64 n.c):=(by rw[blk_cell hI];rfl);have l4:w1.cell? ⟨w.heap.size+1,4,none⟩=some (.int .i64 n.d):=(by rw[blk_cell hI];rfl);have HI1:Hid _:=hI;have HS1:Hid _:=hS0;clear hx1 hw1 hm1 hov hI hS0 i0 i1 i2 i3 i4 c2))
 refine (target_any n _ ho1 ho2 (HLY.out.later (HW.out.below HB.out HBX.out))).mono ?_
 rw[HTG.out]
 rintro e w3 ⟨rfl,hx3⟩
 have HB3:Hid (Below w1.heap.size w1 w3):=hx3
 have hI3:w3.heap[w.heap.size+1]?=some (.cells #[.int .i64 n.op,.int .i64 n.a,.int .i64 n.b,.int .i64 n.c,.int .i64 n.d] 47):=blk_later hx3 HI1.out
 have hS3:w3.heap[w.heap.size]?=some (StB rb tv gv):=blk_later hx3 HS1.out
 have m0:w3.cell? ⟨w.heap.size+1,0,none⟩=some (.int .i64 31):=(by rw[blk_cell hI3];rw[←HOP.out];rfl)
 have m2:w3.cell? ⟨w.heap.size+1,2,none⟩=some (.int .i64 (kk:Int)):=(by rw[blk_cell hI3];rw[←HKB.out];rfl)
 have t0:w3.cell? ⟨w.heap.size,0,none⟩=some (.bool rb):=(by rw[blk_cell hS3];rfl)
 have t1:w3.cell? ⟨w.heap.size,1,none⟩=some tv:=(by rw[blk_cell hS3];rfl)
 have t2:w3.cell? ⟨w.heap.size,2,none⟩=some gv:=(by rw[blk_cell hS3];rfl)
 have HS3:Hid _:=hS3
 have hw3:=HW1.out.later hx3
 obtain⟨z,hz,hzo,hzT,hzG,hzA⟩:=hw3.state (a:=a) (x:=x) (by rw[HM1.out];exact HX.out)
 obtain⟨_,_,_,c3,_⟩:=hw3.cells
 obtain⟨r0,r1,r2⟩:=hw3.row hz
 rw[hzo]at r0
 have r0:w3.cell? ⟨gS,a*3,none⟩=some (.bool true):=r0
 have HZT:Hid _:=hzT
 have HZA:Hid _:=hzA
 have HZG:Hid _:=hzG
 obtain⟨aT,cT,eT,sT⟩:=ORow.lies hzT (fun y=>intC_len y)
 obtain⟨aG,cG,eG,_⟩:=hzG
 rw[eT]at r1 HZT HZA
 rw[eG]at r2 HZG
 have fz:=blk_frozen hS3
 clear hw3 hz hzo hzT hzA eT eG sT
 clear hx3 hI3 hS3 l0 l1 l2 l3 l4
 go_wp2_with fail
 refine wp_region_inv (by kernel_rfl) (fun base listed a' w'=>∃b0 b1 b2 b3 b4 b5 b6 b7 b8 b9 b10 x0' x1' x2' x3' x4' x5' x6' x7' x8' x9',listed=#[b0,b1,b2,b3,b4,b5,b6,b7,b8,b9,b10]∧a'=((((((((((base.put (some 45) x0').put (some 46) x1').put (some 47) x2').put (some 48) x3').put (some 49) x4').put (some 50) x5').put (some 51) x6').put (some 52) x7').put (some 53) x8').put (some 54) x9')∧(b10=false→(Below w3.heap.size w3 w'∧(b9=true→∃aK lK cK,x9'=.agg #[.bool false,.slice aK lK cK,.slice aG x.gs.length cG]∧OI w' w3.heap.size (.slice aK lK cK) ((x.ts.take kk++[1,1])++List.replicate (x.ts.length-kk-2) 0))))∧(b10=true→(b0=true∧b1=true∧b2=true∧b3=true∧b4=true∧b5=true∧b6=true∧b7=true∧b8=true∧b9=true)∧∃aK lK cK w4,Hid (Below w3.heap.size w3 w4)∧Hid (OI w4 w3.heap.size (.slice aK lK cK) ((x.ts.take kk++[1,1])++List.replicate (x.ts.length-kk-2) 0))∧w'=((w4.setCell ⟨w.heap.size,0,none⟩ (.bool false)).setCell ⟨w.heap.size,1,none⟩ (.slice aK lK cK)).setCell ⟨w.heap.size,2,none⟩ (.slice aG x.gs.length cG))∧(b0=true→x0'=.pointer (some ⟨gW,0,none⟩))∧(b1=true→x1'=.pointer (some ⟨gW,0,none⟩))∧(b2=true→x2'=.pointer (some ⟨gW,3,none⟩))∧(b3=true→x3'=.slice (some ⟨gS,0,none⟩) nI nI)∧(b4=true→x4'=.int .i64 (a:Int))∧(b5=true→x5'=.pointer (some ⟨gS,a*3,none⟩))∧(b6=true→x6'=.agg #[.bool true,.slice aT x.ts.length cT,.slice aG x.gs.length cG])∧(b7=true→x7'=.pointer (some ⟨w.heap.size+1,2,none⟩))∧(b8=true→x8'=.int .i64 (kk:Int))) ?_ ?_ ?_
 ·exact⟨false,false,false,false,false,false,false,false,false,false,false,undef,undef,undef,undef,undef,undef,undef,undef,undef,undef,rfl,by kernel_rfl,fun _=>⟨(Below.refl _ _).drew,nofun⟩,nofun,nofun,nofun,nofun,nofun,nofun,nofun,nofun,nofun,nofun⟩
 ·rintro i listed a' w' ⟨b0,b1,b2,b3,b4,b5,b6,b7,b8,b9,b10,x0',x1',x2',x3',x4',x5',x6',x7',x8',x9',rfl,rfl,hP0,hP1,f0,f1,f2,f3,f4,f5,f6,f7,f8⟩ hr
  have hi:=ready_lt hr
  have hun:=(mem_ready.1 hr).1
  simp only[List.size_toArray,List.length_cons,List.length_nil,Nat.zero_add,Nat.reduceAdd]at hi
  have hi':i=0∨i=1∨i=2∨i=3∨i=4∨i=5∨i=6∨i=7∨i=8∨i=9∨i=10:=by omega
  clear hi
  rcases hi' with rfl | rfl | rfl | rfl | rfl | rfl | rfl | rfl | rfl | rfl | rfl
  ·have hbi:b0=false:=by simpa using hun
   have hbL:b10=false:=by
    cases b10 with
    | false=>rfl
    | true=>obtain⟨⟨g0,g1,g2,g3,g4,g5,g6,g7,g8,g9⟩,_⟩:=hP1 rfl;rw[g0]at hbi;cases hbi
   subst hbi hbL 
   have hPW:=hP0 rfl
   clear hr hun hP0 hP1
   refine wpOp_step rfl (fun K hK=>?_)
   go_simp
   exact hK _ _ ⟨true,b1,b2,b3,b4,b5,b6,b7,b8,b9,false,(.pointer (some ⟨gW,0,none⟩)),x1',x2',x3',x4',x5',x6',x7',x8',x9',rfl,by kernel_rfl,fun _=>hPW,nofun,fun _=>rfl,f1,f2,f3,f4,f5,f6,f7,f8⟩
  ·have hbi:b1=false:=by simpa using hun
   have e0:b0=true:=by simpa using ready_dep hr rfl ⟨0,.data⟩ (by simp) rfl
   have hbL:b10=false:=by
    cases b10 with
    | false=>rfl
    | true=>obtain⟨⟨g0,g1,g2,g3,g4,g5,g6,g7,g8,g9⟩,_⟩:=hP1 rfl;rw[g1]at hbi;cases hbi
   subst hbi hbL e0
   have hPW:=hP0 rfl
   clear hr hun hP0 hP1
   obtain rfl:=f0 rfl
   refine wpOp_step rfl (fun K hK=>?_)
   go_simp
   exact hK _ _ ⟨true,true,b2,b3,b4,b5,b6,b7,b8,b9,false,(.pointer (some ⟨gW,0,none⟩)),(.pointer (some ⟨gW,0,none⟩)),x2',x3',x4',x5',x6',x7',x8',x9',rfl,by kernel_rfl,fun _=>hPW,nofun,fun _=>rfl,fun _=>rfl,f2,f3,f4,f5,f6,f7,f8⟩
  ·have hbi:b2=false:=by simpa using hun
   have e1:b1=true:=by simpa using ready_dep hr rfl ⟨1,.data⟩ (by simp) rfl
   have hbL:b10=false:=by
    cases b10 with
    | false=>rfl
    | true=>obtain⟨⟨g0,g1,g2,g3,g4,g5,g6,g7,g8,g9⟩,_⟩:=hP1 rfl;rw[g2]at hbi;cases hbi
   subst hbi hbL e1
   have hPW:=hP0 rfl
   clear hr hun hP0 hP1
   obtain rfl:=f1 rfl
   refine wpOp_step rfl (fun K hK=>?_)
   go_simp
   exact hK _ _ ⟨b0,true,true,b3,b4,b5,b6,b7,b8,b9,false,x0',(.pointer (some ⟨gW,0,none⟩)),(.pointer (some ⟨gW,3,none⟩)),x3',x4',x5',x6',x7',x8',x9',rfl,by kernel_rfl,fun _=>hPW,nofun,f0,fun _=>rfl,fun _=>rfl,f3,f4,f5,f6,f7,f8⟩
  ·have hbi:b3=false:=by simpa using hun
   have e2:b2=true:=by simpa using ready_dep hr rfl ⟨2,.data⟩ (by simp) rfl
   have hbL:b10=false:=by
    cases b10 with
    | false=>rfl
    | true=>obtain⟨⟨g0,g1,g2,g3,g4,g5,g6,g7,g8,g9⟩,_⟩:=hP1 rfl;rw[g3]at hbi;cases hbi
   subst hbi hbL e2
   have hPW:=hP0 rfl
   clear hr hun hP0 hP1
   obtain rfl:=f2 rfl
   have cx:=cell_later hPW.1 c3
   refine wpOp_step rfl (fun K hK=>?_)
   go_simp
   exact hK _ _ ⟨b0,b1,true,true,b4,b5,b6,b7,b8,b9,false,x0',x1',(.pointer (some ⟨gW,3,none⟩)),(.slice (some ⟨gS,0,none⟩) nI nI),x4',x5',x6',x7',x8',x9',rfl,by kernel_rfl,fun _=>hPW,nofun,f0,f1,fun _=>rfl,fun _=>rfl,f4,f5,f6,f7,f8⟩
  ·have hbi:b4=false:=by simpa using hun
   have hbL:b10=false:=by
    cases b10 with
    | false=>rfl
    | true=>obtain⟨⟨g0,g1,g2,g3,g4,g5,g6,g7,g8,g9⟩,_⟩:=hP1 rfl;rw[g4]at hbi;cases hbi
   subst hbi hbL 
   have hPW:=hP0 rfl
   clear hr hun hP0 hP1
   refine wpOp_step rfl (fun K hK=>?_)
   go_simp
   exact hK _ _ ⟨b0,b1,b2,b3,true,b5,b6,b7,b8,b9,false,x0',x1',x2',x3',(.int .i64 (a:Int)),x5',x6',x7',x8',x9',rfl,by kernel_rfl,fun _=>hPW,nofun,f0,f1,f2,f3,fun _=>rfl,f5,f6,f7,f8⟩
  ·have hbi:b5=false:=by simpa using hun
   have e3:b3=true:=by simpa using ready_dep hr rfl ⟨3,.data⟩ (by simp) rfl
   have e4:b4=true:=by simpa using ready_dep hr rfl ⟨4,.data⟩ (by simp) rfl
   have hbL:b10=false:=by
    cases b10 with
    | false=>rfl
    | true=>obtain⟨⟨g0,g1,g2,g3,g4,g5,g6,g7,g8,g9⟩,_⟩:=hP1 rfl;rw[g5]at hbi;cases hbi
   subst hbi hbL e3 e4
   have hPW:=hP0 rfl
   clear hr hun hP0 hP1
   obtain rfl:=f3 rfl
   obtain rfl:=f4 rfl
   refine wpOp_step rfl (fun K hK=>?_)
   go_simp
   exact hK _ _ ⟨b0,b1,b2,true,true,true,b6,b7,b8,b9,false,x0',x1',x2',(.slice (some ⟨gS,0,none⟩) nI nI),(.int .i64 (a:Int)),(.pointer (some ⟨gS,a*3,none⟩)),x6',x7',x8',x9',rfl,by kernel_rfl,fun _=>hPW,nofun,f0,f1,f2,fun _=>rfl,fun _=>rfl,fun _=>rfl,f6,f7,f8⟩
  ·have hbi:b6=false:=by simpa using hun
   have e5:b5=true:=by simpa using ready_dep hr rfl ⟨5,.data⟩ (by simp) rfl
   have hbL:b10=false:=by
    cases b10 with
    | false=>rfl
    | true=>obtain⟨⟨g0,g1,g2,g3,g4,g5,g6,g7,g8,g9⟩,_⟩:=hP1 rfl;rw[g6]at hbi;cases hbi
   subst hbi hbL e5
   have hPW:=hP0 rfl
   clear hr hun hP0 hP1
   obtain rfl:=f5 rfl
   have cx0:=cell_later hPW.1 r0
   have cx1:=cell_later hPW.1 r1
   have cx2:=cell_later hPW.1 r2
   refine wpOp_step rfl (fun K hK=>?_)
   go_simp
   exact hK _ _ ⟨b0,b1,b2,b3,b4,true,true,b7,b8,b9,false,x0',x1',x2',x3',x4',(.pointer (some ⟨gS,a*3,none⟩)),(.agg #[.bool true,.slice aT x.ts.length cT,.slice aG x.gs.length cG]),x7',x8',x9',rfl,by kernel_rfl,fun _=>hPW,nofun,f0,f1,f2,f3,f4,fun _=>rfl,fun _=>rfl,f7,f8⟩
  ·have hbi:b7=false:=by simpa using hun
   have hbL:b10=false:=by
    cases b10 with
    | false=>rfl
    | true=>obtain⟨⟨g0,g1,g2,g3,g4,g5,g6,g7,g8,g9⟩,_⟩:=hP1 rfl;rw[g7]at hbi;cases hbi
   subst hbi hbL 
   have hPW:=hP0 rfl
   clear hr hun hP0 hP1
   refine wpOp_step rfl (fun K hK=>?_)
   go_simp
   exact hK _ _ ⟨b0,b1,b2,b3,b4,b5,b6,true,b8,b9,false,x0',x1',x2',x3',x4',x5',x6',(.pointer (some ⟨w.heap.size+1,2,none⟩)),x8',x9',rfl,by kernel_rfl,fun _=>hPW,nofun,f0,f1,f2,f3,f4,f5,f6,fun _=>rfl,f8⟩
  ·have hbi:b8=false:=by simpa using hun
   have e7:b7=true:=by simpa using ready_dep hr rfl ⟨7,.data⟩ (by simp) rfl
   have hbL:b10=false:=by
    cases b10 with
    | false=>rfl
    | true=>obtain⟨⟨g0,g1,g2,g3,g4,g5,g6,g7,g8,g9⟩,_⟩:=hP1 rfl;rw[g8]at hbi;cases hbi
   subst hbi hbL e7
   have hPW:=hP0 rfl
   clear hr hun hP0 hP1
   obtain rfl:=f7 rfl
   have cx:=cell_later hPW.1 m2
   refine wpOp_step rfl (fun K hK=>?_)
   go_simp
   exact hK _ _ ⟨b0,b1,b2,b3,b4,b5,b6,true,true,b9,false,x0',x1',x2',x3',x4',x5',x6',(.pointer (some ⟨w.heap.size+1,2,none⟩)),(.int .i64 (kk:Int)),x9',rfl,by kernel_rfl,fun _=>hPW,nofun,f0,f1,f2,f3,f4,f5,f6,fun _=>rfl,fun _=>rfl⟩
  ·have hbi:b9=false:=by simpa using hun
   have e6:b6=true:=by simpa using ready_dep hr rfl ⟨6,.data⟩ (by simp) rfl
   have e8:b8=true:=by simpa using ready_dep hr rfl ⟨8,.data⟩ (by simp) rfl
   have hbL:b10=false:=by
    cases b10 with
    | false=>rfl
    | true=>obtain⟨⟨g0,g1,g2,g3,g4,g5,g6,g7,g8,g9⟩,_⟩:=hP1 rfl;rw[g9]at hbi;cases hbi
   subst hbi hbL e6 e8
   have hPW:=hP0 rfl
   clear hr hun hP0 hP1
   obtain rfl:=f6 rfl
   obtain rfl:=f8 rfl
   refine wpOp_step rfl (fun K hK=>?_)
   go_simp
   refine (caught_any true W0.heap.size (.slice aT x.ts.length cT) aG x.gs.length cG x.ts kk w' (ORow.later HZT.out hPW.1) HKK.out (by rw[HSX.out.1];exact hreg)).mono ?_
   rintro e w4 ⟨⟨tv',rfl,ho⟩,hx4⟩
   obtain⟨aK,cK,rfl⟩:=ORow.val (cells:=intC) ho
   exact hK _ _ ⟨b0,b1,b2,b3,b4,b5,true,b7,true,true,false,x0',x1',x2',x3',x4',x5',(.agg #[.bool true,.slice aT x.ts.length cT,.slice aG x.gs.length cG]),x7',(.int .i64 (kk:Int)),(.agg #[.bool false,.slice aK _ cK,.slice aG x.gs.length cG]),rfl,by kernel_rfl,fun _=>⟨hPW.1.trans (hx4.mono hPW.1.size),fun _=>⟨aK,_,cK,rfl,ORow.mono ho hPW.1.size⟩⟩,nofun,f0,f1,f2,f3,f4,f5,fun _=>rfl,f7,fun _=>rfl⟩
  ·have hbi:b10=false:=by simpa using hun
   have e9:b9=true:=by simpa using ready_dep hr rfl ⟨9,.data⟩ (by simp) rfl
   have e0:b0=true:=by simpa using ready_dep hr rfl ⟨0,.phase⟩ (by simp) rfl
   have e1:b1=true:=by simpa using ready_dep hr rfl ⟨1,.phase⟩ (by simp) rfl
   have e2:b2=true:=by simpa using ready_dep hr rfl ⟨2,.phase⟩ (by simp) rfl
   have e3:b3=true:=by simpa using ready_dep hr rfl ⟨3,.phase⟩ (by simp) rfl
   have e4:b4=true:=by simpa using ready_dep hr rfl ⟨4,.phase⟩ (by simp) rfl
   have e5:b5=true:=by simpa using ready_dep hr rfl ⟨5,.phase⟩ (by simp) rfl
   have e6:b6=true:=by simpa using ready_dep hr rfl ⟨6,.phase⟩ (by simp) rfl
   have e7:b7=true:=by simpa using ready_dep hr rfl ⟨7,.phase⟩ (by simp) rfl
   have e8:b8=true:=by simpa using ready_dep hr rfl ⟨8,.phase⟩ (by simp) rfl
   subst hbi e9 e0 e1 e2 e3 e4 e5 e6 e7 e8
   have hPW:=hP0 rfl
   clear hr hun hP0 hP1
   obtain rfl:=f0 rfl
   obtain rfl:=f1 rfl
   obtain rfl:=f2 rfl
   obtain rfl:=f3 rfl
   obtain rfl:=f4 rfl
   obtain rfl:=f5 rfl
   obtain rfl:=f6 rfl
   obtain rfl:=f7 rfl
   obtain rfl:=f8 rfl
   obtain⟨aK,lK,cK,rfl,hoK⟩:=hPW.2 rfl
   have d0:=cell_later hPW.1 t0
   have d1:=cell_later hPW.1 t1
   have d2:=cell_later hPW.1 t2
   have fz4:=blk_frozen (blk_later hPW.1 HS3.out)
   refine wpOp_step rfl (fun K hK=>?_)
   go_simp
   exact hK _ _ ⟨true,true,true,true,true,true,true,true,true,true,true,(.pointer (some ⟨gW,0,none⟩)),(.pointer (some ⟨gW,0,none⟩)),(.pointer (some ⟨gW,3,none⟩)),(.slice (some ⟨gS,0,none⟩) nI nI),(.int .i64 (a:Int)),(.pointer (some ⟨gS,a*3,none⟩)),(.agg #[.bool true,.slice aT x.ts.length cT,.slice aG x.gs.length cG]),(.pointer (some ⟨w.heap.size+1,2,none⟩)),(.int .i64 (kk:Int)),(.agg #[.bool false,.slice aK lK cK,.slice aG x.gs.length cG]),rfl,by kernel_rfl,nofun,fun _=>⟨⟨rfl,rfl,rfl,rfl,rfl,rfl,rfl,rfl,rfl,rfl⟩,⟨aK,lK,cK,w',hPW.1,hoK,rfl⟩⟩,fun _=>rfl,fun _=>rfl,fun _=>rfl,fun _=>rfl,fun _=>rfl,fun _=>rfl,fun _=>rfl,fun _=>rfl,fun _=>rfl⟩
 ·rintro listed a' w' ⟨b0,b1,b2,b3,b4,b5,b6,b7,b8,b9,b10,x0',x1',x2',x3',x4',x5',x6',x7',x8',x9',rfl,rfl,hP0,hP1,f0,f1,f2,f3,f4,f5,f6,f7,f8⟩ hrd
  have e0:b0=true:=by simpa using ready_nextb hrd 0 rfl (by simp[Region.binds])
  have e1:b1=true:=by simpa using ready_nextb hrd 1 rfl (by simp[Region.binds,e0])
  have e2:b2=true:=by simpa using ready_nextb hrd 2 rfl (by simp[Region.binds,e0,e1])
  have e3:b3=true:=by simpa using ready_nextb hrd 3 rfl (by simp[Region.binds,e0,e1,e2])
  have e4:b4=true:=by simpa using ready_nextb hrd 4 rfl (by simp[Region.binds,e0,e1,e2,e3])
  have e5:b5=true:=by simpa using ready_nextb hrd 5 rfl (by simp[Region.binds,e0,e1,e2,e3,e4])
  have e6:b6=true:=by simpa using ready_nextb hrd 6 rfl (by simp[Region.binds,e0,e1,e2,e3,e4,e5])
  have e7:b7=true:=by simpa using ready_nextb hrd 7 rfl (by simp[Region.binds,e0,e1,e2,e3,e4,e5,e6])
  have e8:b8=true:=by simpa using ready_nextb hrd 8 rfl (by simp[Region.binds,e0,e1,e2,e3,e4,e5,e6,e7])
  have e9:b9=true:=by simpa using ready_nextb hrd 9 rfl (by simp[Region.binds,e0,e1,e2,e3,e4,e5,e6,e7,e8])
  have e10:b10=true:=by simpa using ready_nextb hrd 10 rfl (by simp[Region.binds,e0,e1,e2,e3,e4,e5,e6,e7,e8,e9])
  have hd:=(hP1 e10).2
  clear hrd hP0 hP1 f0 f1 f2 f3 f4 f5 f6 f7 f8 e0 e1 e2 e3 e4 e5 e6 e7 e8 e9 e10
  obtain⟨wc,hwcc⟩:∃wc,wc=w':=⟨w',rfl⟩
  subst hwcc
  obtain⟨aK,lK,cK,w4,HB4,HO4,hwc⟩:=hd
  have hS4:=blk_later HB4.out HS3.out
  have hx5:ButL [w.heap.size] w4 wc:=by rw[hwc];exact (((ButL.refl _ _).set (by simp) _ _).set (by simp) _ _).set (by simp) _ _
  have hS5:wc.heap[w.heap.size]?=some (StB false (.slice aK lK cK) (.slice aG x.gs.length cG)):=by
   rw[hwc]
   have h9:=blk_set (blk_set (blk_set hS4 0 (.bool false)) 1 (.slice aK lK cK)) 2 (.slice aG x.gs.length cG)
   simpa using h9
  have n0:wc.cell? ⟨w.heap.size,0,none⟩=some (.bool false):=by rw[blk_cell hS5];rfl
  have n1:wc.cell? ⟨w.heap.size,1,none⟩=some (.slice aK lK cK):=by rw[blk_cell hS5];rfl
  have n2:wc.cell? ⟨w.heap.size,2,none⟩=some (.slice aG x.gs.length cG):=by rw[blk_cell hS5];rfl
  have HX5:Hid (ButL [w.heap.size] w4 wc):=hx5
  have HW5:Hid (WlV W0.heap.size gW gS nI p cv iv wc zs1 hv1 s'.due):=((HW1.out.later HB3.out).later HB4.out).elsew hS4 (fun e=>HNI.out _ (Nat.le_refl _) (by rw[←e];simp)) hx5
  have HT5:Hid (OI wc W0.heap.size (.slice aK lK cK) (caughtV n x).ts):=by show OI _ _ _ _;rw[HCV.out];exact OI.elsew (ORow.mono HO4.out (HW1.out.later HB3.out).base) hS4 hx5
  have HG5:Hid (GA wc (.slice aG x.gs.length cG) (caughtV n x).gs):=by show GA _ _ _;rw[HCV.out];exact GA.elsew (GA.later HZG.out HB4.out) hS4 hx5
  have HO5:Hid (WOk nR nI ⟨zs1.map SR.o,s'.due⟩):=by show WOk _ _ _;rw[HM1.out];exact HOK1.out
  clear hwc hS4 hx5 hS5 m0 m2 t0 t1 t2 c3 r0 r1 r2 fz
  go_wp2_with fail
  refine (reach_v m false HW5.out hmI hI1 hreg HT5.out HG5.out HO5.out HSC.out).mono ?_
  rintro e w6 ⟨v,rfl,hl6,hx6⟩
  go_wp2_with fail
  go_ret
  rw[HM1.out]at hl6
  have hb5:ButL (gW :: gS :: hv.ownBlock.toList) w wc:=((HBX.out.thenB HB3.out).thenB HB4.out).then HX5.out (fun g hg=>.inr (by simp at hg;omega))
  exact⟨hl6.then HO1.out hb5.size,but_then hb5 hx6 HO1.out⟩
end Go.Proofs.YtjglgbepobmjhaaGreatDoor
