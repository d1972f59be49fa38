import Derived.Test.YtjglgbepobmjhaaGreatDoorP18
import Derived.Test.YtjglgbepobmjhaaGreatDoorP20
import Derived.Test.YtjglgbepobmjhaaGreatDoorP13
import Derived.Test.YtjglgbepobmjhaaGreatDoorP12
import Derived.Test.YtjglgbepobmjhaaGreatDoorP24
set_option linter.unusedVariables false
set_option linter.unusedSimpArgs false
set_option maxRecDepth 20000
set_option maxHeartbeats 8000000
namespace Go.Proofs.YtjglgbepobmjhaaGreatDoor
open Go.RowKit
theorem OI.capp {w:World} {B:Nat} {a:Option Addr} {n c:Nat} {ts:List Int} (h:OI w B (.slice a n c) ts):n≤c:=by
 rcases h.2 with ⟨e1,_⟩ | ⟨g0,c0,cur,e1,_,_,h3,_⟩
 ·cases e1;exact Nat.le_refl _
 ·cases e1;exact h3
theorem putL_lq:∀(l:List Int) (x:Nat) (ts:List Int),(putL x l ts).length=ts.length
 | [],x,ts=>rfl
 | t :: l,x,ts=>by unfold putL;rw[putL_lq l];simp
theorem putAll_lq:∀(l:List (Nat × Int)) (ts:List Int),(putAll l ts).length=ts.length
 | [],ts=>rfl
 | f :: l,ts=>by unfold putAll;rw[putAll_lq l,putL_lq]
theorem pfl_ok {nR nI k:Nat} {n:ID} (hn:InsOk nR nI n) (hk:n.op=k) (h0:1≤k) (h1:k<43):∀g∈pfl k n,g.1<24∧PrOkF nR g.1 g.2:=by
 obtain⟨q0,e0,l0,t0⟩:=lay_nat h0 h1 (j:=0) (by omega)
 obtain⟨q1,e1,l1,t1⟩:=lay_nat h0 h1 (j:=1) (by omega)
 obtain⟨q2,e2,l2,t2⟩:=lay_nat h0 h1 (j:=2) (by omega)
 obtain⟨q3,e3,l3,t3⟩:=lay_nat h0 h1 (j:=3) (by omega)
 have hr:=hn.reg
 unfold fldV at hr
 rw[hk,←t0,←t1,←t2,←t3]at hr
 intro g hg
 unfold pfl at hg
 rw[e0,e1,e2,e3]at hg
 simp only[Int.toNat_natCast,List.mem_cons,List.not_mem_nil,or_false]at hg
 rcases hg with rfl | rfl | rfl | rfl
 ·exact⟨l0,prokf_of l0 (hr (conv q0,n.a) (by simp))⟩
 ·exact⟨l1,prokf_of l1 (hr (conv q1,n.b) (by simp))⟩
 ·exact⟨l2,prokf_of l2 (hr (conv q2,n.c) (by simp))⟩
 ·exact⟨l3,prokf_of l3 (hr (conv q3,n.d) (by simp))⟩
theorem pass_any (W0:World) (aC:Option Addr) (cap:Nat) (xs:List FC) (p nR nI nP gW gS a k:Nat) (f:FC) (E:Nat→List Nat) (cv iv hv:Value) (zs:List SR) (due:List Bool) (w:World) (x:SD) (n:ID) (C:WCx W0 aC cap xs p nR nI nP f E cv iv) (h:WlV W0.heap.size gW gS nI p cv iv w zs hv due) (hB:Below W0.heap.size W0 w) (hn:f.d.ins[a]?=some n) (hx:(zs.map SR.o)[a]?=some (some x)) (hok:WOk nR nI ⟨zs.map SR.o,due⟩) (hgz:GZ x.gs) (hk:n.op=k) :
  Calls Tryz.prog 36 #[.pointer (some ⟨gW,0,none⟩),.int .i64 a] w fun e w'=>PsA W0.heap.size gW gS nI p cv iv hv w (psV (xs.map FC.d) n a x ⟨zs.map SR.o,due⟩) e w'∧ButL (gW :: gS :: hv.ownBlock.toList) w w':=by
 have hiok:=C.ok.ok n (List.mem_of_getElem? hn)
 have hk0:1≤k:=by have:=hiok.op1;omega
 have hk1:k<43:=by have:=hiok.op2;omega
 have hreg:=C.ok.reg1
 have hI1:=C.ok.ins1
 have hsx:SOk nR x:=hok.ok a x hx
 have hxl:x.ts.length≤250:=by rw[hsx.1];exact hreg
 have hxg:x.gs.length≤50:=hsx.2.1
 have HK:Hid (n.op=k):=hk
 have HSX:Hid (SOk nR x):=hsx
 have HPF:Hid (∀g∈pfl k n,g.1<24∧PrOkF x.ts.length g.1 g.2):=fun g hg=>by rw[hsx.1];exact pfl_ok hiok hk hk0 hk1 g hg
 have HLY:Hid (LayAt W0):=C.lay
 have HB:Hid (Below W0.heap.size W0 w):=hB
 have HW:Hid (WlV W0.heap.size gW gS nI p cv iv w zs hv due):=h
 have HOK:Hid (WOk nR nI ⟨zs.map SR.o,due⟩):=hok
 have HX:Hid ((zs.map SR.o)[a]?=some (some x)):=hx
 have HIN:Hid (InsOk nR nI n):=hiok
 have HC:Hid (WCx W0 aC cap xs p nR nI nP f E cv iv):=C
 have HN:Hid (f.d.ins[a]?=some n):=hn
 have HGZ:Hid (GZ x.gs):=hgz
 have haI:a<nI:=by have:=(List.getElem?_eq_some_iff.1 hn).1;rw[←C.ok.ins];exact this
 obtain⟨b,off,ei,hbl,i0,i1,i2,i3,i4⟩:=C.ins hn hB
 obtain⟨c0,c1,c2,c3,c4⟩:=h.cells
 have eiv:iv=.slice (some ⟨b,off,none⟩) nI f.ci:=by rw[C.eiv,ei]
 rw[eiv]at c2
 rw[C.ecv]at c0
 obtain⟨z,hz,hzo,hzT,hzG,hzA⟩:=h.state hx
 obtain⟨r0,r1,r2⟩:=h.row hz
 rw[hzo]at r0
 have r0:w.cell? ⟨gS,a*3,none⟩=some (.bool true):=r0
 have HGA:Hid (GA w z.gv x.gs):=hzG
 obtain⟨aT,cT,eT,sT⟩:=ORow.lies hzT (fun y=>intC_len y)
 obtain⟨aG,cG,eG,hcg,sG,tG⟩:=hzG
 have hct:x.ts.length≤cT:=by rw[eT]at hzT;exact OI.capp hzT
 rw[eT]at r1
 rw[eG]at r2 HGA
 have HST:Hid (SlA w 1 intC aT x.ts):=sT
 have HSG:Hid (SlA w 3 GD.cells aG x.gs):=sG
 have HCC:Hid (w.cell? ⟨gW,0,none⟩=some (.slice aC xs.length cap)∧w.cell? ⟨gW,1,none⟩=some (.int .i64 p)):=⟨c0,c1⟩
 clear hk C h hB hx hok hgz hiok hn ei hzT sT sG tG hz hzo hzA c0 c1 c4 eT eG
 go_enter Tryz.func36,Tryz.ntmps36
 go_wp2_with fail
 go_cut [5,6] from 10 to 23 (fun s5 s6 wx=>∃p5 p6,s5=.pointer (some ⟨p5,0,none⟩)∧s6=.pointer (some ⟨p6,0,none⟩)∧w.heap.size≤p5∧w.heap.size≤p6∧Hid (Below w.heap.size w wx)∧Hid (wx.heap[p5]?=some (InB true n))∧Hid (wx.heap[p6]?=some (StX true (.slice aT x.ts.length cT) (.slice aG x.gs.length cG))))
 case first =>
  refine wp_region_inv (by kernel_rfl) (fun base listed a' w'=>∃b0 b1 b2 b3 b4 b5 b6 b7 b8 b9 b10 b11 b12 b13 b14 b15 b16 b17 x0' x1' x2' x3' x4' x5' x6' x7' x8' x9' x10' x11' x12' x13' y5 y6,listed=#[b0,b1,b2,b3,b4,b5,b6,b7,b8,b9,b10,b11,b12,b13,b14,b15,b16,b17]∧a'=((((((((((((((((base.put (some 10) x0').put (some 11) x1').put (some 12) x2').put (some 13) x3').put (some 14) x4').put (some 15) x5').put (some 16) x6').put (some 17) x7').put (some 18) x8').put (some 19) x9').put (some 20) x10').put (some 21) x11').put (some 22) x12').put (some 23) x13').put (some 5) y5).put (some 6) y6)∧R95 w gW gS b off nI f.ci a n (.slice aT x.ts.length cT) (.slice aG x.gs.length cG) w' b0 b1 b2 b3 b4 b5 b6 b7 b8 b9 b10 b11 b12 b13 b14 b15 b16 b17 x0' x1' x2' x3' x4' x5' x6' x7' x8' x9' x10' x11' x12' x13' y5 y6) ?_ ?_ ?_
  ·exact⟨false,false,false,false,false,false,false,false,false,false,false,false,false,false,false,false,false,false,undef,undef,undef,undef,undef,undef,undef,undef,undef,undef,undef,undef,undef,undef,undef,undef,rfl,by kernel_rfl,⟨(Below.refl _ _).drew,nofun,nofun,nofun,nofun,nofun,nofun,nofun,nofun,nofun,nofun,nofun,nofun,nofun,nofun,nofun,nofun,nofun,nofun⟩⟩
  ·rintro i listed a' w' ⟨b0,b1,b2,b3,b4,b5,b6,b7,b8,b9,b10,b11,b12,b13,b14,b15,b16,b17,x0',x1',x2',x3',x4',x5',x6',x7',x8',x9',x10',x11',x12',x13',y5,y6,rfl,rfl,hI⟩ hr
   have hi:=ready_lt hr
   have hun:=(mem_ready.1 hr).1
   simp only[List.size_toArray,List.length_cons,List.length_nil,Nat.zero_add,Nat.reduceAdd]at hi
   have hi':i=0∨i=1∨i=2∨i=3∨i=4∨i=5∨i=6∨i=7∨i=8∨i=9∨i=10∨i=11∨i=12∨i=13∨i=14∨i=15∨i=16∨i=17:=by omega
   clear hi
   rcases hi' with rfl | rfl | rfl | rfl | rfl | rfl | rfl | rfl | rfl | rfl | rfl | rfl | rfl | rfl | rfl | rfl | rfl | rfl
   ·have hbi:b0=false:=by simpa using hun
    subst hbi 
    clear hr hun
    refine wpOp_step rfl (fun K hK=>?_)
    go_simp
    exact hK _ _ ⟨true,b1,b2,b3,b4,b5,b6,b7,b8,b9,b10,b11,b12,b13,b14,b15,b16,b17,(.pointer (some ⟨gW,0,none⟩)),x1',x2',x3',x4',x5',x6',x7',x8',x9',x10',x11',x12',x13',y5,y6,rfl,by kernel_rfl,{ hI with h0:=fun _=>rfl }⟩
   ·have hbi:b1=false:=by simpa using hun
    have e0:b0=true:=by simpa using ready_dep hr rfl ⟨0,.data⟩ (by simp) rfl
    subst hbi e0
    clear hr hun
    obtain rfl:=hI.h0 rfl
    refine wpOp_step rfl (fun K hK=>?_)
    go_simp
    exact hK _ _ ⟨true,true,b2,b3,b4,b5,b6,b7,b8,b9,b10,b11,b12,b13,b14,b15,b16,b17,(.pointer (some ⟨gW,0,none⟩)),(.pointer (some ⟨gW,0,none⟩)),x2',x3',x4',x5',x6',x7',x8',x9',x10',x11',x12',x13',y5,y6,rfl,by kernel_rfl,{ hI with h1:=fun _=>rfl }⟩
   ·have hbi:b2=false:=by simpa using hun
    have e1:b1=true:=by simpa using ready_dep hr rfl ⟨1,.data⟩ (by simp) rfl
    subst hbi e1
    clear hr hun
    obtain rfl:=hI.h1 rfl
    refine wpOp_step rfl (fun K hK=>?_)
    go_simp
    exact hK _ _ ⟨b0,true,true,b3,b4,b5,b6,b7,b8,b9,b10,b11,b12,b13,b14,b15,b16,b17,x0',(.pointer (some ⟨gW,0,none⟩)),(.pointer (some ⟨gW,2,none⟩)),x3',x4',x5',x6',x7',x8',x9',x10',x11',x12',x13',y5,y6,rfl,by kernel_rfl,{ hI with h2:=fun _=>rfl }⟩
   ·have hbi:b3=false:=by simpa using hun
    have e2:b2=true:=by simpa using ready_dep hr rfl ⟨2,.data⟩ (by simp) rfl
    subst hbi e2
    clear hr hun
    obtain rfl:=hI.h2 rfl
    have cx0:w'.cell? ⟨gW,2,none⟩=some (.slice (some ⟨b,off,none⟩) nI f.ci):=cell_later hI.hb c2
    refine wpOp_step rfl (fun K hK=>?_)
    go_simp
    exact hK _ _ ⟨b0,b1,true,true,b4,b5,b6,b7,b8,b9,b10,b11,b12,b13,b14,b15,b16,b17,x0',x1',(.pointer (some ⟨gW,2,none⟩)),(.slice (some ⟨b,off,none⟩) nI f.ci),x4',x5',x6',x7',x8',x9',x10',x11',x12',x13',y5,y6,rfl,by kernel_rfl,{ hI with h3:=fun _=>rfl }⟩
   ·have hbi:b4=false:=by simpa using hun
    subst hbi 
    clear hr hun
    refine wpOp_step rfl (fun K hK=>?_)
    go_simp
    exact hK _ _ ⟨b0,b1,b2,b3,true,b5,b6,b7,b8,b9,b10,b11,b12,b13,b14,b15,b16,b17,x0',x1',x2',x3',(.int .i64 (a:Int)),x5',x6',x7',x8',x9',x10',x11',x12',x13',y5,y6,rfl,by kernel_rfl,{ hI with h4:=fun _=>rfl }⟩
   ·have hbi:b5=false:=by simpa using hun
    have e3:b3=true:=by simpa using ready_dep hr rfl ⟨3,.data⟩ (by simp) rfl
    have e4:b4=true:=by simpa using ready_dep hr rfl ⟨4,.data⟩ (by simp) rfl
    subst hbi e3 e4
    clear hr hun
    obtain rfl:=hI.h3 rfl
    obtain rfl:=hI.h4 rfl
    refine wpOp_step rfl (fun K hK=>?_)
    go_simp
    exact hK _ _ ⟨b0,b1,b2,true,true,true,b6,b7,b8,b9,b10,b11,b12,b13,b14,b15,b16,b17,x0',x1',x2',(.slice (some ⟨b,off,none⟩) nI f.ci),(.int .i64 (a:Int)),(.pointer (some ⟨b,off+a*5,none⟩)),x6',x7',x8',x9',x10',x11',x12',x13',y5,y6,rfl,by kernel_rfl,{ hI with h5:=fun _=>rfl }⟩
   ·have hbi:b6=false:=by simpa using hun
    have e5:b5=true:=by simpa using ready_dep hr rfl ⟨5,.data⟩ (by simp) rfl
    subst hbi e5
    clear hr hun
    obtain rfl:=hI.h5 rfl
    have cx0:w'.cell? ⟨b,off+a*5,none⟩=some (.int .i64 n.op):=cell_later hI.hb i0
    have cx1:w'.cell? ⟨b,off+a*5+1,none⟩=some (.int .i64 n.a):=cell_later hI.hb i1
    have cx2:w'.cell? ⟨b,off+a*5+2,none⟩=some (.int .i64 n.b):=cell_later hI.hb i2
    have cx3:w'.cell? ⟨b,off+a*5+3,none⟩=some (.int .i64 n.c):=cell_later hI.hb i3
    have cx4:w'.cell? ⟨b,off+a*5+4,none⟩=some (.int .i64 n.d):=cell_later hI.hb i4
    refine wpOp_step rfl (fun K hK=>?_)
    go_simp
    exact hK _ _ ⟨b0,b1,b2,b3,b4,true,true,b7,b8,b9,b10,b11,b12,b13,b14,b15,b16,b17,x0',x1',x2',x3',x4',(.pointer (some ⟨b,off+a*5,none⟩)),(IV n),x7',x8',x9',x10',x11',x12',x13',y5,y6,rfl,by kernel_rfl,{ hI with h6:=fun _=>rfl }⟩
   ·have hbi:b7=false:=by simpa using hun
    subst hbi 
    clear hr hun
    refine wpOp_step rfl (fun K hK=>?_)
    go_simp
    exact hK _ _ ⟨b0,b1,b2,b3,b4,b5,b6,true,b8,b9,b10,b11,b12,b13,b14,b15,b16,b17,x0',x1',x2',x3',x4',x5',x6',(.pointer (some ⟨gW,0,none⟩)),x8',x9',x10',x11',x12',x13',y5,y6,rfl,by kernel_rfl,{ hI with h7:=fun _=>rfl }⟩
   ·have hbi:b8=false:=by simpa using hun
    have e7:b7=true:=by simpa using ready_dep hr rfl ⟨7,.data⟩ (by simp) rfl
    subst hbi e7
    clear hr hun
    obtain rfl:=hI.h7 rfl
    refine wpOp_step rfl (fun K hK=>?_)
    go_simp
    exact hK _ _ ⟨b0,b1,b2,b3,b4,b5,b6,true,true,b9,b10,b11,b12,b13,b14,b15,b16,b17,x0',x1',x2',x3',x4',x5',x6',(.pointer (some ⟨gW,0,none⟩)),(.pointer (some ⟨gW,0,none⟩)),x9',x10',x11',x12',x13',y5,y6,rfl,by kernel_rfl,{ hI with h8:=fun _=>rfl }⟩
   ·have hbi:b9=false:=by simpa using hun
    have e8:b8=true:=by simpa using ready_dep hr rfl ⟨8,.data⟩ (by simp) rfl
    subst hbi e8
    clear hr hun
    obtain rfl:=hI.h8 rfl
    refine wpOp_step rfl (fun K hK=>?_)
    go_simp
    exact hK _ _ ⟨b0,b1,b2,b3,b4,b5,b6,b7,true,true,b10,b11,b12,b13,b14,b15,b16,b17,x0',x1',x2',x3',x4',x5',x6',x7',(.pointer (some ⟨gW,0,none⟩)),(.pointer (some ⟨gW,3,none⟩)),x10',x11',x12',x13',y5,y6,rfl,by kernel_rfl,{ hI with h9:=fun _=>rfl }⟩
   ·have hbi:b10=false:=by simpa using hun
    have e9:b9=true:=by simpa using ready_dep hr rfl ⟨9,.data⟩ (by simp) rfl
    subst hbi e9
    clear hr hun
    obtain rfl:=hI.h9 rfl
    have cx0:w'.cell? ⟨gW,3,none⟩=some (.slice (some ⟨gS,0,none⟩) nI nI):=cell_later hI.hb c3
    refine wpOp_step rfl (fun K hK=>?_)
    go_simp
    exact hK _ _ ⟨b0,b1,b2,b3,b4,b5,b6,b7,b8,true,true,b11,b12,b13,b14,b15,b16,b17,x0',x1',x2',x3',x4',x5',x6',x7',x8',(.pointer (some ⟨gW,3,none⟩)),(.slice (some ⟨gS,0,none⟩) nI nI),x11',x12',x13',y5,y6,rfl,by kernel_rfl,{ hI with h10:=fun _=>rfl }⟩
   ·have hbi:b11=false:=by simpa using hun
    subst hbi 
    clear hr hun
    refine wpOp_step rfl (fun K hK=>?_)
    go_simp
    exact hK _ _ ⟨b0,b1,b2,b3,b4,b5,b6,b7,b8,b9,b10,true,b12,b13,b14,b15,b16,b17,x0',x1',x2',x3',x4',x5',x6',x7',x8',x9',x10',(.int .i64 (a:Int)),x12',x13',y5,y6,rfl,by kernel_rfl,{ hI with h11:=fun _=>rfl }⟩
   ·have hbi:b12=false:=by simpa using hun
    have e10:b10=true:=by simpa using ready_dep hr rfl ⟨10,.data⟩ (by simp) rfl
    have e11:b11=true:=by simpa using ready_dep hr rfl ⟨11,.data⟩ (by simp) rfl
    subst hbi e10 e11
    clear hr hun
    obtain rfl:=hI.h10 rfl
    obtain rfl:=hI.h11 rfl
    refine wpOp_step rfl (fun K hK=>?_)
    go_simp
    exact hK _ _ ⟨b0,b1,b2,b3,b4,b5,b6,b7,b8,b9,true,true,true,b13,b14,b15,b16,b17,x0',x1',x2',x3',x4',x5',x6',x7',x8',x9',(.slice (some ⟨gS,0,none⟩) nI nI),(.int .i64 (a:Int)),(.pointer (some ⟨gS,a*3,none⟩)),x13',y5,y6,rfl,by kernel_rfl,{ hI with h12:=fun _=>rfl }⟩
   ·have hbi:b13=false:=by simpa using hun
    have e12:b12=true:=by simpa using ready_dep hr rfl ⟨12,.data⟩ (by simp) rfl
    subst hbi e12
    clear hr hun
    obtain rfl:=hI.h12 rfl
    have cx0:w'.cell? ⟨gS,a*3,none⟩=some (.bool true):=cell_later hI.hb r0
    have cx1:w'.cell? ⟨gS,a*3+1,none⟩=some ((.slice aT x.ts.length cT)):=cell_later hI.hb r1
    have cx2:w'.cell? ⟨gS,a*3+2,none⟩=some ((.slice aG x.gs.length cG)):=cell_later hI.hb r2
    refine wpOp_step rfl (fun K hK=>?_)
    go_simp
    exact hK _ _ ⟨b0,b1,b2,b3,b4,b5,b6,b7,b8,b9,b10,b11,true,true,b14,b15,b16,b17,x0',x1',x2',x3',x4',x5',x6',x7',x8',x9',x10',x11',(.pointer (some ⟨gS,a*3,none⟩)),(.agg #[.bool true,(.slice aT x.ts.length cT),(.slice aG x.gs.length cG)]),y5,y6,rfl,by kernel_rfl,{ hI with h13:=fun _=>rfl }⟩
   ·have hbi:b14=false:=by simpa using hun
    have e16:b16=false:=by
     cases b16 with
     | false=>rfl
     | true=>have h:=hI.h16 rfl;rw[hbi]at h;cases h
    subst hbi e16
    clear hr hun
    refine wpOp_step rfl (fun K hK=>?_)
    go_simp
    exact hK _ _ ⟨b0,b1,b2,b3,b4,b5,b6,b7,b8,b9,b10,b11,b12,b13,true,b15,false,b17,x0',x1',x2',x3',x4',x5',x6',x7',x8',x9',x10',x11',x12',x13',(.pointer (some ⟨w'.heap.size,0,none⟩)),y6,rfl,by kernel_rfl,{ hI with hb:=below_alloc hI.hb _,h14:=fun _=>⟨_,rfl,hI.hb.size,blk_new _ _⟩,h15:=fun e=>(by obtain⟨p6,q1,q2,q3⟩:=hI.h15 e;exact⟨p6,q1,q2,blk_old q3 _⟩),h16:=nofun }⟩
   ·have hbi:b15=false:=by simpa using hun
    have e17:b17=false:=by
     cases b17 with
     | false=>rfl
     | true=>have h:=hI.h17 rfl;rw[hbi]at h;cases h
    subst hbi e17
    clear hr hun
    refine wpOp_step rfl (fun K hK=>?_)
    go_simp
    exact hK _ _ ⟨b0,b1,b2,b3,b4,b5,b6,b7,b8,b9,b10,b11,b12,b13,b14,true,b16,false,x0',x1',x2',x3',x4',x5',x6',x7',x8',x9',x10',x11',x12',x13',y5,(.pointer (some ⟨w'.heap.size,0,none⟩)),rfl,by kernel_rfl,{ hI with hb:=below_alloc hI.hb _,h15:=fun _=>⟨_,rfl,hI.hb.size,blk_new _ _⟩,h14:=fun e=>(by obtain⟨p5,q1,q2,q3⟩:=hI.h14 e;exact⟨p5,q1,q2,blk_old q3 _⟩),h17:=nofun }⟩
   ·have hbi:b16=false:=by simpa using hun
    have e14:b14=true:=by simpa using ready_dep hr rfl ⟨14,.data⟩ (by simp) rfl
    have e6:b6=true:=by simpa using ready_dep hr rfl ⟨6,.data⟩ (by simp) rfl
    subst hbi e14 e6
    clear hr hun
    obtain rfl:=hI.h6 rfl
    obtain⟨p5,rfl,g5,k5⟩:=hI.h14 rfl
    have d0:w'.cell? ⟨p5,0,none⟩=some (.int .i64 0):=by rw[blk_cell k5];rfl
    have d1:w'.cell? ⟨p5,1,none⟩=some (.int .i64 0):=by rw[blk_cell k5];rfl
    have d2:w'.cell? ⟨p5,2,none⟩=some (.int .i64 0):=by rw[blk_cell k5];rfl
    have d3:w'.cell? ⟨p5,3,none⟩=some (.int .i64 0):=by rw[blk_cell k5];rfl
    have d4:w'.cell? ⟨p5,4,none⟩=some (.int .i64 0):=by rw[blk_cell k5];rfl
    have fz:=blk_frozen k5
    refine wpOp_step rfl (fun K hK=>?_)
    go_simp
    refine hK _ _ ⟨b0,b1,b2,b3,b4,b5,true,b7,b8,b9,b10,b11,b12,b13,true,b15,true,b17,x0',x1',x2',x3',x4',x5',(IV n),x7',x8',x9',x10',x11',x12',x13',(.pointer (some ⟨p5,0,none⟩)),y6,rfl,by kernel_rfl,{ hI with hb:=ButL.nil ((((((ButL.of_below hI.hb).setn g5 _ _).setn g5 _ _).setn g5 _ _).setn g5 _ _).setn g5 _ _),h14:=fun _=>⟨p5,rfl,g5,?_⟩,h15:=fun e=>?_,h16:=fun _=>rfl }⟩
    ·have h9:=blk_set (blk_set (blk_set (blk_set (blk_set k5 0 (.int .i64 n.op)) 1 (.int .i64 n.a)) 2 (.int .i64 n.b)) 3 (.int .i64 n.c)) 4 (.int .i64 n.d)
     simpa [InB] using h9
    ·obtain⟨p6,q1,q2,q3⟩:=hI.h15 e
     have hne:p5≠p6:=fun q=>in_st k5 (by rw[q];exact q3)
     exact⟨p6,q1,q2,blk_other (blk_other (blk_other (blk_other (blk_other q3 hne _ _) hne _ _) hne _ _) hne _ _) hne _ _⟩
   ·have hbi:b17=false:=by simpa using hun
    have e15:b15=true:=by simpa using ready_dep hr rfl ⟨15,.data⟩ (by simp) rfl
    have e13:b13=true:=by simpa using ready_dep hr rfl ⟨13,.data⟩ (by simp) rfl
    subst hbi e15 e13
    clear hr hun
    obtain rfl:=hI.h13 rfl
    obtain⟨p6,rfl,g6,k6⟩:=hI.h15 rfl
    have d0:w'.cell? ⟨p6,0,none⟩=some (.bool false):=by rw[blk_cell k6];rfl
    have d1:w'.cell? ⟨p6,1,none⟩=some (.slice none 0 0):=by rw[blk_cell k6];rfl
    have d2:w'.cell? ⟨p6,2,none⟩=some (.slice none 0 0):=by rw[blk_cell k6];rfl
    have fz:=blk_frozen k6
    refine wpOp_step rfl (fun K hK=>?_)
    go_simp
    refine hK _ _ ⟨b0,b1,b2,b3,b4,b5,b6,b7,b8,b9,b10,b11,b12,true,b14,true,b16,true,x0',x1',x2',x3',x4',x5',x6',x7',x8',x9',x10',x11',x12',(.agg #[.bool true,(.slice aT x.ts.length cT),(.slice aG x.gs.length cG)]),y5,(.pointer (some ⟨p6,0,none⟩)),rfl,by kernel_rfl,{ hI with hb:=ButL.nil ((((ButL.of_below hI.hb).setn g6 _ _).setn g6 _ _).setn g6 _ _),h15:=fun _=>⟨p6,rfl,g6,?_⟩,h14:=fun e=>?_,h17:=fun _=>rfl }⟩
    ·obtain⟨p5,q1,q2,q3⟩:=hI.h14 e
     have hne:p6≠p5:=fun q=>in_st q3 (by rw[←q];exact k6)
     exact⟨p5,q1,q2,blk_other (blk_other (blk_other q3 hne _ _) hne _ _) hne _ _⟩
    ·have h9:=blk_set (blk_set (blk_set k6 0 (.bool true)) 1 (.slice aT x.ts.length cT)) 2 (.slice aG x.gs.length cG)
     simpa [StX] using h9
  ·rintro listed a' w' ⟨b0,b1,b2,b3,b4,b5,b6,b7,b8,b9,b10,b11,b12,b13,b14,b15,b16,b17,x0',x1',x2',x3',x4',x5',x6',x7',x8',x9',x10',x11',x12',x13',y5,y6,rfl,rfl,hI⟩ hrd
   have e0:b0=true:=by simpa using ready_nextb hrd 0 rfl (by simp[Region.binds])
   have e1:b1=true:=by simpa using ready_nextb hrd 1 rfl (by simp[Region.binds,e0])
   have e2:b2=true:=by simpa using ready_nextb hrd 2 rfl (by simp[Region.binds,e0,e1])
   have e3:b3=true:=by simpa using ready_nextb hrd 3 rfl (by simp[Region.binds,e0,e1,e2])
   have e4:b4=true:=by simpa using ready_nextb hrd 4 rfl (by simp[Region.binds,e0,e1,e2,e3])
   have e5:b5=true:=by simpa using ready_nextb hrd 5 rfl (by simp[Region.binds,e0,e1,e2,e3,e4])
   have e6:b6=true:=by simpa using ready_nextb hrd 6 rfl (by simp[Region.binds,e0,e1,e2,e3,e4,e5])
   have e14:b14=true:=by simpa using ready_nextb hrd 14 rfl (by simp[Region.binds,e0,e1,e2,e3,e4,e5,e6])
   have e15:b15=true:=by simpa using ready_nextb hrd 15 rfl (by simp[Region.binds,e0,e1,e2,e3,e4,e5,e6,e14])
   have e16:b16=true:=by simpa using ready_nextb hrd 16 rfl (by simp[Region.binds,e0,e1,e2,e3,e4,e5,e6,e14,e15])
   have e7:b7=true:=by simpa using ready_nextb hrd 7 rfl (by simp[Region.binds,e0,e1,e2,e3,e4,e5,e6,e14,e15,e16])
   have e8:b8=true:=by simpa using ready_nextb hrd 8 rfl (by simp[Region.binds,e0,e1,e2,e3,e4,e5,e6,e14,e15,e16,e7])
   have e9:b9=true:=by simpa using ready_nextb hrd 9 rfl (by simp[Region.binds,e0,e1,e2,e3,e4,e5,e6,e14,e15,e16,e7,e8])
   have e10:b10=true:=by simpa using ready_nextb hrd 10 rfl (by simp[Region.binds,e0,e1,e2,e3,e4,e5,e6,e14,e15,e16,e7,e8,e9])
   have e11:b11=true:=by simpa using ready_nextb hrd 11 rfl (by simp[Region.binds,e0,e1,e2,e3,e4,e5,e6,e14,e15,e16,e7,e8,e9,e10])
   have e12:b12=true:=by simpa using ready_nextb hrd 12 rfl (by simp[Region.binds,e0,e1,e2,e3,e4,e5,e6,e14,e15,e16,e7,e8,e9,e10,e11])
   have e13:b13=true:=by simpa using ready_nextb hrd 13 rfl (by simp[Region.binds,e0,e1,e2,e3,e4,e5,e6,e14,e15,e16,e7,e8,e9,e10,e11,e12])
   have e17:b17=true:=by simpa using ready_nextb hrd 17 rfl (by simp[Region.binds,e0,e1,e2,e3,e4,e5,e6,e14,e15,e16,e7,e8,e9,e10,e11,e12,e13])
   subst e0 e1 e2 e3 e4 e5 e6 e7 e8 e9 e10 e11 e12 e13 e14 e15 e16 e17
   obtain⟨p5,rfl,g5,k5⟩:=hI.h14 rfl
   obtain⟨p6,rfl,g6,k6⟩:=hI.h15 rfl
   have hbb:=hI.hb
   clear hI hrd
   go_wp2_with fail
   go_simp
   go_meet
   exact⟨p5,p6,rfl,rfl,g5,g6,hbb,k5,k6⟩
 case rest =>
  obtain⟨p5,p6,rfl,rfl,g5,g6,HB2,HK5,HK6⟩:=hcut
  obtain⟨W2,hW2⟩:∃W2,W2=wc:=⟨wc,rfl⟩
  subst hW2
  clear i0 i1 i2 i3 i4 c2 c3 r0 r1 r2
  have HC2:Hid (∀wk,Below W2.heap.size W2 wk→wk.cell? ⟨p5,0,none⟩=some (.int .i64 n.op)∧wk.cell? ⟨p5,1,none⟩=some (.int .i64 n.a)∧wk.cell? ⟨p5,2,none⟩=some (.int .i64 n.b)∧wk.cell? ⟨p5,3,none⟩=some (.int .i64 n.c)∧wk.cell? ⟨p5,4,none⟩=some (.int .i64 n.d)∧wk.cell? ⟨p6,1,none⟩=some (.slice aT x.ts.length cT)∧wk.cell? ⟨p6,2,none⟩=some (.slice aG x.gs.length cG)∧wk.cell? ⟨gW,0,none⟩=some (.slice aC xs.length cap)∧wk.cell? ⟨gW,1,none⟩=some (.int .i64 p)):=fun wk hwk=>by
   have d1:=blk_later hwk HK5.out
   have d2:=blk_later hwk HK6.out
   have d3:=HB2.out.trans (hwk.mono HB2.out.size)
   refine⟨?_,?_,?_,?_,?_,?_,?_,cell_later d3 HCC.out.1,cell_later d3 HCC.out.2⟩
   all_goals first | (rw[blk_cell d1];rfl) | (rw[blk_cell d2];rfl)
  have y1:=(HC2.out W2 (Below.refl _ _)).2.2.2.2.2.1
  go_wp2_with (go_at_call 60;refine (clone_int aT x.ts.length cT x.ts _ rfl (HST.out.later HB2.out) (by omega)).mono ?_;rintro e w1 ⟨⟨sv,rfl,ho⟩,hx1⟩;obtain⟨aV,cV,rfl⟩:=ORow.val (cells:=intC) ho;have hf3:=FrV.made ho hx1 HB2.out.size;have HF3:Hid (FrV W2 [] w.heap.size w1.heap.size (.slice aV x.ts.length cV) (w1.alloc (.cells #[.slice aV x.ts.length cV,.slice none 0 0,.slice none 0 0] 176)) (.slice none 0 0) (.slice none 0 0) ⟨x.ts,[],[]⟩):=hf3;obtain⟨q0,q1,q2,q3,q4,q5,q6,q7,q8⟩:=HC2.out _ hf3.low;clear hf3 ho hx1 y1)
  obtain⟨W3,hW3⟩:∃W3,w1.alloc (.cells #[.slice aV x.ts.length cV,.slice none 0 0,.slice none 0 0] 176)=W3:=⟨_,rfl⟩
  rw[hW3]at HF3 q0 q1 q2 q3 q4 q5 q6 q7 q8 ⊢
  clear hW3
  have HL3:Hid (LayAt W3.drew):=HLY.out.later (HB.out.trans ((HB2.out.trans ((HF3.out.drew).low.mono HB2.out.size)).mono HW.out.base))
  go_cut [49] from 28 to 48 (fun s49 wx=>∃c:Bool,s49=.bool c∧Hid (Below W2.heap.size W2 wx)∧Hid (if c=true then behindV (xs.map FC.d) n x=.error 10 else ∃sv4 kv4 s1,prAll (pfl k n) ⟨x.ts,[],[]⟩=some s1∧(n.op=11→rdUps ((xs.map FC.d).getD n.b.toNat fd0).ups s1.ts=true)∧FrV W2 [] w.heap.size w1.heap.size (.slice aV x.ts.length cV) wx sv4 kv4 s1))
  case first =>
   cases hP:prAll (pfl k n) ⟨x.ts,[],[]⟩ with
   | none =>
    have HE:Hid (behindV (xs.map FC.d) n x=.error 10):=bh_read HK.out hk0 hk1 hP
    refine wp_region_inv (by kernel_rfl) (fun base listed a' w'=>∃b0 b1 b2 b3 b4 b5 b6 b7 b8 b9 b10 b11 b12 b13 b14 b15 b16 b17 b18 b19 b20 b21 x0' x1' x2' x3' x21',listed=#[b0,b1,b2,b3,b4,b5,b6,b7,b8,b9,b10,b11,b12,b13,b14,b15,b16,b17,b18,b19,b20,b21]∧a'=((((((((((((((((((((((base.put (some 28) x0').put (some 29) x1').put (some 30) x2').put (some 31) x3').put (some 32) undef).put (some 33) undef).put (some 34) undef).put (some 35) undef).put (some 36) undef).put (some 37) undef).put (some 38) undef).put (some 39) undef).put (some 40) undef).put (some 41) undef).put (some 42) undef).put (some 43) undef).put (some 44) undef).put (some 45) undef).put (some 46) undef).put (some 47) undef).put (some 48) undef).put (some 49) x21')∧Hid ((b1=false→w'=W3.drew)∧(b1=true→Below W2.heap.size W2 w')∧(b1=true→b0=true)∧(b3=true→b1=true))∧Hid (b0=true→x0'=IV n)∧Hid (b1=true→x1'=.bool false)∧Hid (b2=true→x2'=.bool true)∧Hid (b3=true→x3'=.bool true)∧Hid (b21=true→x21'=.bool true)) ?_ ?_ ?_
    ·exact⟨false,false,false,false,false,false,false,false,false,false,false,false,false,false,false,false,false,false,false,false,false,false,undef,undef,undef,undef,undef,rfl,by kernel_rfl,⟨fun _=>rfl,nofun,nofun,nofun⟩,nofun,nofun,nofun,nofun,nofun⟩
    ·rintro i listed a' w' ⟨b0,b1,b2,b3,b4,b5,b6,b7,b8,b9,b10,b11,b12,b13,b14,b15,b16,b17,b18,b19,b20,b21,x0',x1',x2',x3',x21',rfl,ha,hPW,f0,f1,f2,f3,f21⟩ hr
     have hi:=ready_lt hr
     have hun:=(mem_ready.1 hr).1
     simp only[List.size_toArray,List.length_cons,List.length_nil,Nat.zero_add,Nat.reduceAdd]at hi
     have hi':i=0∨i=1∨i=2∨i=3∨i=4∨i=5∨i=6∨i=7∨i=8∨i=9∨i=10∨i=11∨i=12∨i=13∨i=14∨i=15∨i=16∨i=17∨i=18∨i=19∨i=20∨i=21:=by omega
     clear hi
     rcases hi' with rfl | rfl | rfl | rfl | rfl | rfl | rfl | rfl | rfl | rfl | rfl | rfl | rfl | rfl | rfl | rfl | rfl | rfl | rfl | rfl | rfl | rfl
     ·have hbi:b0=false:=by simpa using hun
      subst hbi 
      clear hr hun
      have hb1:b1=false:=by
       cases b1 with
       | false=>rfl
       | true=>exact absurd (hPW.out.2.2.1 rfl) (by simp)
      obtain rfl:=hPW.out.1 hb1
      subst ha
      refine wpOp_step rfl (fun K hK=>?_)
      go_simp
      exact hK _ _ ⟨true,b1,b2,b3,b4,b5,b6,b7,b8,b9,b10,b11,b12,b13,b14,b15,b16,b17,b18,b19,b20,b21,(IV n),x1',x2',x3',x21',rfl,by kernel_rfl,⟨hPW.out.1,hPW.out.2.1,fun _=>rfl,hPW.out.2.2.2⟩,fun _=>rfl,f1,f2,f3,f21⟩
     ·have hbi:b1=false:=by simpa using hun
      have e0:b0=true:=by simpa using ready_dep hr rfl ⟨0,.data⟩ (by simp) rfl
      subst hbi e0
      clear hr hun
      obtain rfl:=f0.out rfl
      obtain rfl:=hPW.out.1 rfl
      subst ha
      refine wpOp_step rfl (fun K hK=>?_)
      go_simp
      refine (iread_any W2 [] w.heap.size w1.heap.size (.slice aV x.ts.length cV) W3.drew (.slice none 0 0) (.slice none 0 0) ⟨x.ts,[],[]⟩ n k HK.out hk0 hk1 HL3.out HF3.out.drew HPF.out hxl (by simp) (by simp)).mono ?_
      rw[hP]
      rintro e w4 ⟨rfl,hx4⟩
      exact hK _ _ ⟨true,true,b2,b3,b4,b5,b6,b7,b8,b9,b10,b11,b12,b13,b14,b15,b16,b17,b18,b19,b20,b21,(IV n),(.bool false),x2',x3',x21',rfl,by kernel_rfl,⟨nofun,fun _=>ButL.nil hx4,fun _=>rfl,fun _=>rfl⟩,fun _=>rfl,fun _=>rfl,f2,f3,f21⟩
     ·have hbi:b2=false:=by simpa using hun
      have e1:b1=true:=by simpa using ready_dep hr rfl ⟨1,.data⟩ (by simp) rfl
      subst hbi e1
      clear hr hun
      obtain rfl:=f1.out rfl
      subst ha
      refine wpOp_step rfl (fun K hK=>?_)
      go_simp
      exact hK _ _ ⟨b0,true,true,b3,b4,b5,b6,b7,b8,b9,b10,b11,b12,b13,b14,b15,b16,b17,b18,b19,b20,b21,x0',(.bool false),(.bool true),x3',x21',rfl,by kernel_rfl,hPW,f0,fun _=>rfl,fun _=>rfl,f3,f21⟩
     ·have hbi:b3=false:=by simpa using hun
      have e2:b2=true:=by simpa using ready_dep hr rfl ⟨2,.data⟩ (by simp) rfl
      have e1:b1=true:=by simpa using ready_dep hr rfl ⟨1,.chain⟩ (by simp) rfl
      subst hbi e2 e1
      clear hr hun
      obtain rfl:=f2.out rfl
      obtain rfl:=f1.out rfl
      subst ha
      refine wpOp_step rfl (fun K hK=>?_)
      go_simp
      exact hK _ _ ⟨b0,true,true,true,b4,b5,b6,b7,b8,b9,b10,b11,b12,b13,b14,b15,b16,b17,b18,b19,b20,b21,x0',(.bool false),(.bool true),(.bool true),x21',rfl,by kernel_rfl,⟨hPW.out.1,hPW.out.2.1,hPW.out.2.2.1,fun _=>rfl⟩,f0,fun _=>rfl,fun _=>rfl,fun _=>rfl,f21⟩
     ·have hbi:b4=false:=by simpa using hun
      have e3:b3=true:=by simpa using ready_dep hr rfl ⟨3,.guard⟩ (by simp) rfl
      subst hbi e3
      clear hr hun
      obtain rfl:=f3.out rfl
      have ht:a'.tmps[31]?=some (.bool true):=by rw[ha];kernel_rfl
      refine wpOp_off rfl rfl rfl rfl ht (by simp[undef]) ?_
      subst ha
      exact⟨b0,b1,b2,true,true,b5,b6,b7,b8,b9,b10,b11,b12,b13,b14,b15,b16,b17,b18,b19,b20,b21,x0',x1',x2',(.bool true),x21',rfl,by kernel_rfl,hPW,f0,f1,f2,fun _=>rfl,f21⟩
     ·have hbi:b5=false:=by simpa using hun
      have e3:b3=true:=by simpa using ready_dep hr rfl ⟨3,.guard⟩ (by simp) rfl
      subst hbi e3
      clear hr hun
      obtain rfl:=f3.out rfl
      have ht:a'.tmps[31]?=some (.bool true):=by rw[ha];kernel_rfl
      refine wpOp_off rfl rfl rfl rfl ht (by simp[undef]) ?_
      subst ha
      exact⟨b0,b1,b2,true,b4,true,b6,b7,b8,b9,b10,b11,b12,b13,b14,b15,b16,b17,b18,b19,b20,b21,x0',x1',x2',(.bool true),x21',rfl,by kernel_rfl,hPW,f0,f1,f2,fun _=>rfl,f21⟩
     ·have hbi:b6=false:=by simpa using hun
      have e3:b3=true:=by simpa using ready_dep hr rfl ⟨3,.guard⟩ (by simp) rfl
      subst hbi e3
      clear hr hun
      obtain rfl:=f3.out rfl
      have ht:a'.tmps[31]?=some (.bool true):=by rw[ha];kernel_rfl
      refine wpOp_off rfl rfl rfl rfl ht (by simp[undef]) ?_
      subst ha
      exact⟨b0,b1,b2,true,b4,b5,true,b7,b8,b9,b10,b11,b12,b13,b14,b15,b16,b17,b18,b19,b20,b21,x0',x1',x2',(.bool true),x21',rfl,by kernel_rfl,hPW,f0,f1,f2,fun _=>rfl,f21⟩
     ·have hbi:b7=false:=by simpa using hun
      have e3:b3=true:=by simpa using ready_dep hr rfl ⟨3,.guard⟩ (by simp) rfl
      subst hbi e3
      clear hr hun
      obtain rfl:=f3.out rfl
      have ht:a'.tmps[31]?=some (.bool true):=by rw[ha];kernel_rfl
      refine wpOp_off rfl rfl rfl rfl ht (by simp[undef]) ?_
      subst ha
      exact⟨b0,b1,b2,true,b4,b5,b6,true,b8,b9,b10,b11,b12,b13,b14,b15,b16,b17,b18,b19,b20,b21,x0',x1',x2',(.bool true),x21',rfl,by kernel_rfl,hPW,f0,f1,f2,fun _=>rfl,f21⟩
     ·have hbi:b8=false:=by simpa using hun
      have e7:b7=true:=by simpa using ready_dep hr rfl ⟨7,.guard⟩ (by simp) rfl
      subst hbi e7
      clear hr hun
      have ht:a'.tmps[35]?=some (undef):=by rw[ha];kernel_rfl
      refine wpOp_off rfl rfl rfl rfl ht (by simp[undef]) ?_
      subst ha
      exact⟨b0,b1,b2,b3,b4,b5,b6,true,true,b9,b10,b11,b12,b13,b14,b15,b16,b17,b18,b19,b20,b21,x0',x1',x2',x3',x21',rfl,by kernel_rfl,hPW,f0,f1,f2,f3,f21⟩
     ·have hbi:b9=false:=by simpa using hun
      have e7:b7=true:=by simpa using ready_dep hr rfl ⟨7,.guard⟩ (by simp) rfl
      subst hbi e7
      clear hr hun
      have ht:a'.tmps[35]?=some (undef):=by rw[ha];kernel_rfl
      refine wpOp_off rfl rfl rfl rfl ht (by simp[undef]) ?_
      subst ha
      exact⟨b0,b1,b2,b3,b4,b5,b6,true,b8,true,b10,b11,b12,b13,b14,b15,b16,b17,b18,b19,b20,b21,x0',x1',x2',x3',x21',rfl,by kernel_rfl,hPW,f0,f1,f2,f3,f21⟩
     ·have hbi:b10=false:=by simpa using hun
      have e7:b7=true:=by simpa using ready_dep hr rfl ⟨7,.guard⟩ (by simp) rfl
      subst hbi e7
      clear hr hun
      have ht:a'.tmps[35]?=some (undef):=by rw[ha];kernel_rfl
      refine wpOp_off rfl rfl rfl rfl ht (by simp[undef]) ?_
      subst ha
      exact⟨b0,b1,b2,b3,b4,b5,b6,true,b8,b9,true,b11,b12,b13,b14,b15,b16,b17,b18,b19,b20,b21,x0',x1',x2',x3',x21',rfl,by kernel_rfl,hPW,f0,f1,f2,f3,f21⟩
     ·have hbi:b11=false:=by simpa using hun
      have e7:b7=true:=by simpa using ready_dep hr rfl ⟨7,.guard⟩ (by simp) rfl
      subst hbi e7
      clear hr hun
      have ht:a'.tmps[35]?=some (undef):=by rw[ha];kernel_rfl
      refine wpOp_off rfl rfl rfl rfl ht (by simp[undef]) ?_
      subst ha
      exact⟨b0,b1,b2,b3,b4,b5,b6,true,b8,b9,b10,true,b12,b13,b14,b15,b16,b17,b18,b19,b20,b21,x0',x1',x2',x3',x21',rfl,by kernel_rfl,hPW,f0,f1,f2,f3,f21⟩
     ·have hbi:b12=false:=by simpa using hun
      have e7:b7=true:=by simpa using ready_dep hr rfl ⟨7,.guard⟩ (by simp) rfl
      subst hbi e7
      clear hr hun
      have ht:a'.tmps[35]?=some (undef):=by rw[ha];kernel_rfl
      refine wpOp_off rfl rfl rfl rfl ht (by simp[undef]) ?_
      subst ha
      exact⟨b0,b1,b2,b3,b4,b5,b6,true,b8,b9,b10,b11,true,b13,b14,b15,b16,b17,b18,b19,b20,b21,x0',x1',x2',x3',x21',rfl,by kernel_rfl,hPW,f0,f1,f2,f3,f21⟩
     ·have hbi:b13=false:=by simpa using hun
      have e7:b7=true:=by simpa using ready_dep hr rfl ⟨7,.guard⟩ (by simp) rfl
      subst hbi e7
      clear hr hun
      have ht:a'.tmps[35]?=some (undef):=by rw[ha];kernel_rfl
      refine wpOp_off rfl rfl rfl rfl ht (by simp[undef]) ?_
      subst ha
      exact⟨b0,b1,b2,b3,b4,b5,b6,true,b8,b9,b10,b11,b12,true,b14,b15,b16,b17,b18,b19,b20,b21,x0',x1',x2',x3',x21',rfl,by kernel_rfl,hPW,f0,f1,f2,f3,f21⟩
     ·have hbi:b14=false:=by simpa using hun
      have e7:b7=true:=by simpa using ready_dep hr rfl ⟨7,.guard⟩ (by simp) rfl
      subst hbi e7
      clear hr hun
      have ht:a'.tmps[35]?=some (undef):=by rw[ha];kernel_rfl
      refine wpOp_off rfl rfl rfl rfl ht (by simp[undef]) ?_
      subst ha
      exact⟨b0,b1,b2,b3,b4,b5,b6,true,b8,b9,b10,b11,b12,b13,true,b15,b16,b17,b18,b19,b20,b21,x0',x1',x2',x3',x21',rfl,by kernel_rfl,hPW,f0,f1,f2,f3,f21⟩
     ·have hbi:b15=false:=by simpa using hun
      have e7:b7=true:=by simpa using ready_dep hr rfl ⟨7,.guard⟩ (by simp) rfl
      subst hbi e7
      clear hr hun
      have ht:a'.tmps[35]?=some (undef):=by rw[ha];kernel_rfl
      refine wpOp_off rfl rfl rfl rfl ht (by simp[undef]) ?_
      subst ha
      exact⟨b0,b1,b2,b3,b4,b5,b6,true,b8,b9,b10,b11,b12,b13,b14,true,b16,b17,b18,b19,b20,b21,x0',x1',x2',x3',x21',rfl,by kernel_rfl,hPW,f0,f1,f2,f3,f21⟩
     ·have hbi:b16=false:=by simpa using hun
      have e7:b7=true:=by simpa using ready_dep hr rfl ⟨7,.guard⟩ (by simp) rfl
      subst hbi e7
      clear hr hun
      have ht:a'.tmps[35]?=some (undef):=by rw[ha];kernel_rfl
      refine wpOp_off rfl rfl rfl rfl ht (by simp[undef]) ?_
      subst ha
      exact⟨b0,b1,b2,b3,b4,b5,b6,true,b8,b9,b10,b11,b12,b13,b14,b15,true,b17,b18,b19,b20,b21,x0',x1',x2',x3',x21',rfl,by kernel_rfl,hPW,f0,f1,f2,f3,f21⟩
     ·have hbi:b17=false:=by simpa using hun
      have e7:b7=true:=by simpa using ready_dep hr rfl ⟨7,.guard⟩ (by simp) rfl
      subst hbi e7
      clear hr hun
      have ht:a'.tmps[35]?=some (undef):=by rw[ha];kernel_rfl
      refine wpOp_off rfl rfl rfl rfl ht (by simp[undef]) ?_
      subst ha
      exact⟨b0,b1,b2,b3,b4,b5,b6,true,b8,b9,b10,b11,b12,b13,b14,b15,b16,true,b18,b19,b20,b21,x0',x1',x2',x3',x21',rfl,by kernel_rfl,hPW,f0,f1,f2,f3,f21⟩
     ·have hbi:b18=false:=by simpa using hun
      have e7:b7=true:=by simpa using ready_dep hr rfl ⟨7,.guard⟩ (by simp) rfl
      subst hbi e7
      clear hr hun
      have ht:a'.tmps[35]?=some (undef):=by rw[ha];kernel_rfl
      refine wpOp_off rfl rfl rfl rfl ht (by simp[undef]) ?_
      subst ha
      exact⟨b0,b1,b2,b3,b4,b5,b6,true,b8,b9,b10,b11,b12,b13,b14,b15,b16,b17,true,b19,b20,b21,x0',x1',x2',x3',x21',rfl,by kernel_rfl,hPW,f0,f1,f2,f3,f21⟩
     ·have hbi:b19=false:=by simpa using hun
      have e7:b7=true:=by simpa using ready_dep hr rfl ⟨7,.guard⟩ (by simp) rfl
      subst hbi e7
      clear hr hun
      have ht:a'.tmps[35]?=some (undef):=by rw[ha];kernel_rfl
      refine wpOp_off rfl rfl rfl rfl ht (by simp[undef]) ?_
      subst ha
      exact⟨b0,b1,b2,b3,b4,b5,b6,true,b8,b9,b10,b11,b12,b13,b14,b15,b16,b17,b18,true,b20,b21,x0',x1',x2',x3',x21',rfl,by kernel_rfl,hPW,f0,f1,f2,f3,f21⟩
     ·have hbi:b20=false:=by simpa using hun
      have e3:b3=true:=by simpa using ready_dep hr rfl ⟨3,.guard⟩ (by simp) rfl
      subst hbi e3
      clear hr hun
      obtain rfl:=f3.out rfl
      have ht:a'.tmps[31]?=some (.bool true):=by rw[ha];kernel_rfl
      refine wpOp_off rfl rfl rfl rfl ht (by simp[undef]) ?_
      subst ha
      exact⟨b0,b1,b2,true,b4,b5,b6,b7,b8,b9,b10,b11,b12,b13,b14,b15,b16,b17,b18,b19,true,b21,x0',x1',x2',(.bool true),x21',rfl,by kernel_rfl,hPW,f0,f1,f2,fun _=>rfl,f21⟩
     ·have hbi:b21=false:=by simpa using hun
      have e3:b3=true:=by simpa using ready_dep hr rfl ⟨3,.data⟩ (by simp) rfl
      subst hbi e3
      clear hr hun
      obtain rfl:=f3.out rfl
      subst ha
      refine wpOp_step rfl (fun K hK=>?_)
      go_simp
      exact hK _ _ ⟨b0,b1,b2,true,b4,b5,b6,b7,b8,b9,b10,b11,b12,b13,b14,b15,b16,b17,b18,b19,b20,true,x0',x1',x2',(.bool true),(.bool true),rfl,by kernel_rfl,hPW,f0,f1,f2,fun _=>rfl,fun _=>rfl⟩
    ·rintro listed a' w' ⟨b0,b1,b2,b3,b4,b5,b6,b7,b8,b9,b10,b11,b12,b13,b14,b15,b16,b17,b18,b19,b20,b21,x0',x1',x2',x3',x21',rfl,ha,hPW,f0,f1,f2,f3,f21⟩ hrd
     have e0:b0=true:=by simpa using ready_nextb hrd 0 rfl (by simp[Region.binds])
     have e1:b1=true:=by simpa using ready_nextb hrd 1 rfl (by simp[Region.binds,e0])
     have e2:b2=true:=by simpa using ready_nextb hrd 2 rfl (by simp[Region.binds,e0,e1])
     have e3:b3=true:=by simpa using ready_nextb hrd 3 rfl (by simp[Region.binds,e0,e1,e2])
     have e4:b4=true:=by simpa using ready_nextb hrd 4 rfl (by simp[Region.binds,e0,e1,e2,e3])
     have e5:b5=true:=by simpa using ready_nextb hrd 5 rfl (by simp[Region.binds,e0,e1,e2,e3,e4])
     have e6:b6=true:=by simpa using ready_nextb hrd 6 rfl (by simp[Region.binds,e0,e1,e2,e3,e4,e5])
     have e7:b7=true:=by simpa using ready_nextb hrd 7 rfl (by simp[Region.binds,e0,e1,e2,e3,e4,e5,e6])
     have e8:b8=true:=by simpa using ready_nextb hrd 8 rfl (by simp[Region.binds,e0,e1,e2,e3,e4,e5,e6,e7])
     have e9:b9=true:=by simpa using ready_nextb hrd 9 rfl (by simp[Region.binds,e0,e1,e2,e3,e4,e5,e6,e7,e8])
     have e10:b10=true:=by simpa using ready_nextb hrd 10 rfl (by simp[Region.binds,e0,e1,e2,e3,e4,e5,e6,e7,e8,e9])
     have e11:b11=true:=by simpa using ready_nextb hrd 11 rfl (by simp[Region.binds,e0,e1,e2,e3,e4,e5,e6,e7,e8,e9,e10])
     have e12:b12=true:=by simpa using ready_nextb hrd 12 rfl (by simp[Region.binds,e0,e1,e2,e3,e4,e5,e6,e7,e8,e9,e10,e11])
     have e13:b13=true:=by simpa using ready_nextb hrd 13 rfl (by simp[Region.binds,e0,e1,e2,e3,e4,e5,e6,e7,e8,e9,e10,e11,e12])
     have e14:b14=true:=by simpa using ready_nextb hrd 14 rfl (by simp[Region.binds,e0,e1,e2,e3,e4,e5,e6,e7,e8,e9,e10,e11,e12,e13])
     have e15:b15=true:=by simpa using ready_nextb hrd 15 rfl (by simp[Region.binds,e0,e1,e2,e3,e4,e5,e6,e7,e8,e9,e10,e11,e12,e13,e14])
     have e16:b16=true:=by simpa using ready_nextb hrd 16 rfl (by simp[Region.binds,e0,e1,e2,e3,e4,e5,e6,e7,e8,e9,e10,e11,e12,e13,e14,e15])
     have e17:b17=true:=by simpa using ready_nextb hrd 17 rfl (by simp[Region.binds,e0,e1,e2,e3,e4,e5,e6,e7,e8,e9,e10,e11,e12,e13,e14,e15,e16])
     have e18:b18=true:=by simpa using ready_nextb hrd 18 rfl (by simp[Region.binds,e0,e1,e2,e3,e4,e5,e6,e7,e8,e9,e10,e11,e12,e13,e14,e15,e16,e17])
     have e19:b19=true:=by simpa using ready_nextb hrd 19 rfl (by simp[Region.binds,e0,e1,e2,e3,e4,e5,e6,e7,e8,e9,e10,e11,e12,e13,e14,e15,e16,e17,e18])
     have e20:b20=true:=by simpa using ready_nextb hrd 20 rfl (by simp[Region.binds,e0,e1,e2,e3,e4,e5,e6,e7,e8,e9,e10,e11,e12,e13,e14,e15,e16,e17,e18,e19])
     have e21:b21=true:=by simpa using ready_nextb hrd 21 rfl (by simp[Region.binds,e0,e1,e2,e3,e4,e5,e6,e7,e8,e9,e10,e11,e12,e13,e14,e15,e16,e17,e18,e19,e20])
     subst e0 e1 e2 e3 e4 e5 e6 e7 e8 e9 e10 e11 e12 e13 e14 e15 e16 e17 e18 e19 e20 e21
     obtain rfl:=f0.out rfl
     obtain rfl:=f1.out rfl
     obtain rfl:=f2.out rfl
     obtain rfl:=f3.out rfl
     obtain rfl:=f21.out rfl
     subst ha
     clear hrd
     have hbb:=hPW.out.2.1 rfl
     go_wp2_with fail
     go_simp
     go_meet
     exact⟨true,rfl,hbb,HE⟩
   | some s1 =>
    by_cases h11:n.op=11
    ·have HSL:Hid (s1.ts.length=x.ts.length):=(prAll_len hP).1
     obtain⟨q,fq,hbq,hq,hups⟩:=HC.out.ok.ups n (List.mem_of_getElem? HN.out) h11
     obtain⟨bP,oP,ePa,hPl,hPc⟩:=HC.out.code.row q fq hq
     have HPC:Hid (W0.cell? ⟨bP,oP+q*9+5,none⟩=some (.slice fq.au fq.d.ups.length fq.cu)):=hPc 5 _ rfl
     have HPE:Hid (aC=some ⟨bP,oP,none⟩):=ePa
     have HBQ:Hid (n.b=(q:Int)):=hbq
     have HUP:Hid (∀u∈fq.d.ups,u.l=true→0≤u.i∧u.i<s1.ts.length):=fun u hu hl=>by rw[HSL.out,HSX.out.1];exact hups u hu hl
     have HUS:Hid (SlA W0 2 UD.cells fq.au fq.d.ups):=(HC.out.code.lie fq (List.mem_of_getElem? hq)).u
     have hul:fq.d.ups.length≤1048576:=(HC.out.code.ok fq (List.mem_of_getElem? hq)).lu
     have hqx:q<xs.length:=(List.getElem?_eq_some_iff.1 hq).1
     have hxc:xs.length≤1048576:=HC.out.code.len
     have HGD:Hid ((xs.map FC.d).getD n.b.toNat fd0=fq.d):=by show _=_;rw[hbq,Int.toNat_natCast,List.getD_eq_getElem?_getD,List.getElem?_map,hq];rfl
     have HOP:Hid (n.op=11):=h11
     clear hups hPc ePa hbq hq h11
     cases hu:rdUps fq.d.ups s1.ts with
     | false =>
      have HE:Hid (behindV (xs.map FC.d) n x=.error 10):=bh_ups HK.out hk0 hk1 hP HOP.out (by rw[HGD.out];exact hu)
      go_region_with (first
       | (go_at_call 65;refine (iread_any W2 [] w.heap.size w1.heap.size (.slice aV x.ts.length cV) W3.drew (.slice none 0 0) (.slice none 0 0) ⟨x.ts,[],[]⟩ n k HK.out hk0 hk1 HL3.out HF3.out.drew HPF.out hxl (by simp) (by simp)).mono ?_;rw[hP];rintro e w4 ⟨rfl,sv4,kv4,hf4⟩;have HF4:Hid (FrV W2 [] w.heap.size w1.heap.size (.slice aV x.ts.length cV) w4 sv4 kv4 s1):=hf4;have HB4:Hid (Below W2.heap.size W2 w4):=hf4.low;have HW4:Hid (Below W0.heap.size W0 w4):=HB.out.trans ((HB2.out.trans (HB4.out.mono HB2.out.size)).mono HW.out.base);obtain⟨u0,u1,u2,u3,u4,u5,u6,u7,u8⟩:=HC2.out w4 HB4.out;rw[HOP.out]at u0;rw[HBQ.out]at u2;rw[HPE.out]at u7;have u9:=cell_later HW4.out HPC.out;clear hf4 q0 q1 q2 q3 q4 q5 q6 q7 q8)
       | (go_at_call 66;refine (rups_any W2 [] w.heap.size w1.heap.size (.slice aV x.ts.length cV) w4 sv4 kv4 s1 fq.d.ups fq.au fq.d.ups.length fq.cu HF4.out rfl (HUS.out.later HW4.out) hul (by rw[HSL.out];exact hxl) HUP.out).mono ?_;rw[hu];rintro e w5 ⟨rfl,hx5⟩;have HB5:Hid (Below W2.heap.size W2 w5):=HB4.out.trans (hx5.mono HB4.out.size);clear hx5))
      all_goals
       go_wp2_with fail
       go_meet
       exact⟨true,rfl,HB5,HE⟩
     | true =>
      have HUU:Hid (n.op=11→rdUps ((xs.map FC.d).getD n.b.toNat fd0).ups s1.ts=true):=fun _=>by rw[HGD.out];exact hu
      go_region_with (first
       | (go_at_call 65;refine (iread_any W2 [] w.heap.size w1.heap.size (.slice aV x.ts.length cV) W3.drew (.slice none 0 0) (.slice none 0 0) ⟨x.ts,[],[]⟩ n k HK.out hk0 hk1 HL3.out HF3.out.drew HPF.out hxl (by simp) (by simp)).mono ?_;rw[hP];rintro e w4 ⟨rfl,sv4,kv4,hf4⟩;have HF4:Hid (FrV W2 [] w.heap.size w1.heap.size (.slice aV x.ts.length cV) w4 sv4 kv4 s1):=hf4;have HB4:Hid (Below W2.heap.size W2 w4):=hf4.low;have HW4:Hid (Below W0.heap.size W0 w4):=HB.out.trans ((HB2.out.trans (HB4.out.mono HB2.out.size)).mono HW.out.base);obtain⟨u0,u1,u2,u3,u4,u5,u6,u7,u8⟩:=HC2.out w4 HB4.out;rw[HOP.out]at u0;rw[HBQ.out]at u2;rw[HPE.out]at u7;have u9:=cell_later HW4.out HPC.out;clear hf4 q0 q1 q2 q3 q4 q5 q6 q7 q8)
       | (go_at_call 66;refine (rups_any W2 [] w.heap.size w1.heap.size (.slice aV x.ts.length cV) w4 sv4 kv4 s1 fq.d.ups fq.au fq.d.ups.length fq.cu HF4.out rfl (HUS.out.later HW4.out) hul (by rw[HSL.out];exact hxl) HUP.out).mono ?_;rw[hu];rintro e w5 ⟨rfl,hx5⟩;have HF5:Hid (FrV W2 [] w.heap.size w1.heap.size (.slice aV x.ts.length cV) w5 sv4 kv4 s1):=HF4.out.later hx5;clear hx5))
      all_goals
       go_wp2_with fail
       go_meet
       exact⟨false,rfl,HF5.out.low,sv4,kv4,s1,hP,HUU.out,HF5.out⟩
    ·have t11:(n.op == 11)=false:=by simpa using h11
     have HUU:Hid (n.op=11→rdUps ((xs.map FC.d).getD n.b.toNat fd0).ups s1.ts=true):=fun e=>absurd e h11
     clear h11
     refine wp_region_inv (by kernel_rfl) (fun base listed a' w'=>∃b0 b1 b2 b3 b4 b5 b6 b7 b8 b9 b10 b11 b12 b13 b14 b15 b16 b17 b18 b19 b20 b21 x0' x1' x2' x3' x4' x5' x6' x7' x20' x21',listed=#[b0,b1,b2,b3,b4,b5,b6,b7,b8,b9,b10,b11,b12,b13,b14,b15,b16,b17,b18,b19,b20,b21]∧a'=((((((((((((((((((((((base.put (some 28) x0').put (some 29) x1').put (some 30) x2').put (some 31) x3').put (some 32) x4').put (some 33) x5').put (some 34) x6').put (some 35) x7').put (some 36) undef).put (some 37) undef).put (some 38) undef).put (some 39) undef).put (some 40) undef).put (some 41) undef).put (some 42) undef).put (some 43) undef).put (some 44) undef).put (some 45) undef).put (some 46) undef).put (some 47) undef).put (some 48) x20').put (some 49) x21')∧Hid ((b1=false→w'=W3.drew)∧(b1=true→∃sv4 kv4,FrV W2 [] w.heap.size w1.heap.size (.slice aV x.ts.length cV) w' sv4 kv4 s1)∧(b1=true→b0=true)∧(b3=true→b1=true))∧Hid (b0=true→x0'=IV n)∧Hid (b1=true→x1'=.bool true)∧Hid (b2=true→x2'=.bool false)∧Hid (b3=true→x3'=.bool false)∧Hid (b4=true→x4'=.pointer (some ⟨p5,0,none⟩))∧Hid (b5=true→x5'=.int .i64 n.op)∧Hid (b6=true→x6'=.bool false)∧Hid (b7=true→x7'=.bool false)∧Hid (b20=true→x20'=.bool false)∧Hid (b21=true→x21'=.bool false)) ?_ ?_ ?_
     ·exact⟨false,false,false,false,false,false,false,false,false,false,false,false,false,false,false,false,false,false,false,false,false,false,undef,undef,undef,undef,undef,undef,undef,undef,undef,undef,rfl,by kernel_rfl,⟨fun _=>rfl,nofun,nofun,nofun⟩,nofun,nofun,nofun,nofun,nofun,nofun,nofun,nofun,nofun,nofun⟩
     ·rintro i listed a' w' ⟨b0,b1,b2,b3,b4,b5,b6,b7,b8,b9,b10,b11,b12,b13,b14,b15,b16,b17,b18,b19,b20,b21,x0',x1',x2',x3',x4',x5',x6',x7',x20',x21',rfl,ha,hPW,f0,f1,f2,f3,f4,f5,f6,f7,f20,f21⟩ hr
      have hi:=ready_lt hr
      have hun:=(mem_ready.1 hr).1
      simp only[List.size_toArray,List.length_cons,List.length_nil,Nat.zero_add,Nat.reduceAdd]at hi
      have hi':i=0∨i=1∨i=2∨i=3∨i=4∨i=5∨i=6∨i=7∨i=8∨i=9∨i=10∨i=11∨i=12∨i=13∨i=14∨i=15∨i=16∨i=17∨i=18∨i=19∨i=20∨i=21:=by omega
      clear hi
      rcases hi' with rfl | rfl | rfl | rfl | rfl | rfl | rfl | rfl | rfl | rfl | rfl | rfl | rfl | rfl | rfl | rfl | rfl | rfl | rfl | rfl | rfl | rfl
      ·have hbi:b0=false:=by simpa using hun
       subst hbi 
       clear hr hun
       have hb1:b1=false:=by
        cases b1 with
        | false=>rfl
        | true=>exact absurd (hPW.out.2.2.1 rfl) (by simp)
       obtain rfl:=hPW.out.1 hb1
       subst ha
       refine wpOp_step rfl (fun K hK=>?_)
       go_simp
       exact hK _ _ ⟨true,b1,b2,b3,b4,b5,b6,b7,b8,b9,b10,b11,b12,b13,b14,b15,b16,b17,b18,b19,b20,b21,(IV n),x1',x2',x3',x4',x5',x6',x7',x20',x21',rfl,by kernel_rfl,⟨hPW.out.1,hPW.out.2.1,fun _=>rfl,hPW.out.2.2.2⟩,fun _=>rfl,f1,f2,f3,f4,f5,f6,f7,f20,f21⟩
      ·have hbi:b1=false:=by simpa using hun
       have e0:b0=true:=by simpa using ready_dep hr rfl ⟨0,.data⟩ (by simp) rfl
       subst hbi e0
       clear hr hun
       obtain rfl:=f0.out rfl
       obtain rfl:=hPW.out.1 rfl
       subst ha
       refine wpOp_step rfl (fun K hK=>?_)
       go_simp
       refine (iread_any W2 [] w.heap.size w1.heap.size (.slice aV x.ts.length cV) W3.drew (.slice none 0 0) (.slice none 0 0) ⟨x.ts,[],[]⟩ n k HK.out hk0 hk1 HL3.out HF3.out.drew HPF.out hxl (by simp) (by simp)).mono ?_
       rw[hP]
       rintro e w4 ⟨rfl,sv4,kv4,hf4⟩
       exact hK _ _ ⟨true,true,b2,b3,b4,b5,b6,b7,b8,b9,b10,b11,b12,b13,b14,b15,b16,b17,b18,b19,b20,b21,(IV n),(.bool true),x2',x3',x4',x5',x6',x7',x20',x21',rfl,by kernel_rfl,⟨nofun,fun _=>⟨sv4,kv4,hf4⟩,fun _=>rfl,fun _=>rfl⟩,fun _=>rfl,fun _=>rfl,f2,f3,f4,f5,f6,f7,f20,f21⟩
      ·have hbi:b2=false:=by simpa using hun
       have e1:b1=true:=by simpa using ready_dep hr rfl ⟨1,.data⟩ (by simp) rfl
       subst hbi e1
       clear hr hun
       obtain rfl:=f1.out rfl
       subst ha
       refine wpOp_step rfl (fun K hK=>?_)
       go_simp
       exact hK _ _ ⟨b0,true,true,b3,b4,b5,b6,b7,b8,b9,b10,b11,b12,b13,b14,b15,b16,b17,b18,b19,b20,b21,x0',(.bool true),(.bool false),x3',x4',x5',x6',x7',x20',x21',rfl,by kernel_rfl,hPW,f0,fun _=>rfl,fun _=>rfl,f3,f4,f5,f6,f7,f20,f21⟩
      ·have hbi:b3=false:=by simpa using hun
       have e2:b2=true:=by simpa using ready_dep hr rfl ⟨2,.data⟩ (by simp) rfl
       have e1:b1=true:=by simpa using ready_dep hr rfl ⟨1,.chain⟩ (by simp) rfl
       subst hbi e2 e1
       clear hr hun
       obtain rfl:=f2.out rfl
       obtain rfl:=f1.out rfl
       subst ha
       refine wpOp_step rfl (fun K hK=>?_)
       go_simp
       exact hK _ _ ⟨b0,true,true,true,b4,b5,b6,b7,b8,b9,b10,b11,b12,b13,b14,b15,b16,b17,b18,b19,b20,b21,x0',(.bool true),(.bool false),(.bool false),x4',x5',x6',x7',x20',x21',rfl,by kernel_rfl,⟨hPW.out.1,hPW.out.2.1,hPW.out.2.2.1,fun _=>rfl⟩,f0,fun _=>rfl,fun _=>rfl,fun _=>rfl,f4,f5,f6,f7,f20,f21⟩
      ·have hbi:b4=false:=by simpa using hun
       have e3:b3=true:=by simpa using ready_dep hr rfl ⟨3,.guard⟩ (by simp) rfl
       subst hbi e3
       clear hr hun
       obtain rfl:=f3.out rfl
       have ht:a'.tmps[31]?=some (.bool false):=by rw[ha];kernel_rfl
       refine wpOp_on rfl rfl rfl rfl ht (fun K hK=>?_)
       subst ha
       go_simp
       exact hK _ _ ⟨b0,b1,b2,true,true,b5,b6,b7,b8,b9,b10,b11,b12,b13,b14,b15,b16,b17,b18,b19,b20,b21,x0',x1',x2',(.bool false),(.pointer (some ⟨p5,0,none⟩)),x5',x6',x7',x20',x21',rfl,by kernel_rfl,hPW,f0,f1,f2,fun _=>rfl,fun _=>rfl,f5,f6,f7,f20,f21⟩
      ·have hbi:b5=false:=by simpa using hun
       have e3:b3=true:=by simpa using ready_dep hr rfl ⟨3,.guard⟩ (by simp) rfl
       have e4:b4=true:=by simpa using ready_dep hr rfl ⟨4,.data⟩ (by simp) rfl
       subst hbi e3 e4
       clear hr hun
       obtain rfl:=f3.out rfl
       obtain rfl:=f4.out rfl
       obtain⟨sv4,kv4,hf4⟩:=hPW.out.2.1 (hPW.out.2.2.2 rfl)
       have cx:=(HC2.out w' hf4.low).1
       have ht:a'.tmps[31]?=some (.bool false):=by rw[ha];kernel_rfl
       refine wpOp_on rfl rfl rfl rfl ht (fun K hK=>?_)
       subst ha
       go_simp
       exact hK _ _ ⟨b0,b1,b2,true,true,true,b6,b7,b8,b9,b10,b11,b12,b13,b14,b15,b16,b17,b18,b19,b20,b21,x0',x1',x2',(.bool false),(.pointer (some ⟨p5,0,none⟩)),(.int .i64 n.op),x6',x7',x20',x21',rfl,by kernel_rfl,hPW,f0,f1,f2,fun _=>rfl,fun _=>rfl,fun _=>rfl,f6,f7,f20,f21⟩
      ·have hbi:b6=false:=by simpa using hun
       have e3:b3=true:=by simpa using ready_dep hr rfl ⟨3,.guard⟩ (by simp) rfl
       have e5:b5=true:=by simpa using ready_dep hr rfl ⟨5,.data⟩ (by simp) rfl
       subst hbi e3 e5
       clear hr hun
       obtain rfl:=f3.out rfl
       obtain rfl:=f5.out rfl
       have ht:a'.tmps[31]?=some (.bool false):=by rw[ha];kernel_rfl
       refine wpOp_on rfl rfl rfl rfl ht (fun K hK=>?_)
       subst ha
       go_simp
       exact hK _ _ ⟨b0,b1,b2,true,b4,true,true,b7,b8,b9,b10,b11,b12,b13,b14,b15,b16,b17,b18,b19,b20,b21,x0',x1',x2',(.bool false),x4',(.int .i64 n.op),(.bool false),x7',x20',x21',rfl,by kernel_rfl,hPW,f0,f1,f2,fun _=>rfl,f4,fun _=>rfl,fun _=>rfl,f7,f20,f21⟩
      ·have hbi:b7=false:=by simpa using hun
       have e3:b3=true:=by simpa using ready_dep hr rfl ⟨3,.guard⟩ (by simp) rfl
       have e6:b6=true:=by simpa using ready_dep hr rfl ⟨6,.data⟩ (by simp) rfl
       subst hbi e3 e6
       clear hr hun
       obtain rfl:=f3.out rfl
       obtain rfl:=f6.out rfl
       have ht:a'.tmps[31]?=some (.bool false):=by rw[ha];kernel_rfl
       refine wpOp_on rfl rfl rfl rfl ht (fun K hK=>?_)
       subst ha
       go_simp
       exact hK _ _ ⟨b0,b1,b2,true,b4,b5,true,true,b8,b9,b10,b11,b12,b13,b14,b15,b16,b17,b18,b19,b20,b21,x0',x1',x2',(.bool false),x4',x5',(.bool false),(.bool false),x20',x21',rfl,by kernel_rfl,hPW,f0,f1,f2,fun _=>rfl,f4,f5,fun _=>rfl,fun _=>rfl,f20,f21⟩
      ·have hbi:b8=false:=by simpa using hun
       have e7:b7=true:=by simpa using ready_dep hr rfl ⟨7,.guard⟩ (by simp) rfl
       subst hbi e7
       clear hr hun
       obtain rfl:=f7.out rfl
       have ht:a'.tmps[35]?=some (.bool false):=by rw[ha];kernel_rfl
       refine wpOp_off rfl rfl rfl rfl ht (by simp[undef]) ?_
       subst ha
       exact⟨b0,b1,b2,b3,b4,b5,b6,true,true,b9,b10,b11,b12,b13,b14,b15,b16,b17,b18,b19,b20,b21,x0',x1',x2',x3',x4',x5',x6',(.bool false),x20',x21',rfl,by kernel_rfl,hPW,f0,f1,f2,f3,f4,f5,f6,fun _=>rfl,f20,f21⟩
      ·have hbi:b9=false:=by simpa using hun
       have e7:b7=true:=by simpa using ready_dep hr rfl ⟨7,.guard⟩ (by simp) rfl
       subst hbi e7
       clear hr hun
       obtain rfl:=f7.out rfl
       have ht:a'.tmps[35]?=some (.bool false):=by rw[ha];kernel_rfl
       refine wpOp_off rfl rfl rfl rfl ht (by simp[undef]) ?_
       subst ha
       exact⟨b0,b1,b2,b3,b4,b5,b6,true,b8,true,b10,b11,b12,b13,b14,b15,b16,b17,b18,b19,b20,b21,x0',x1',x2',x3',x4',x5',x6',(.bool false),x20',x21',rfl,by kernel_rfl,hPW,f0,f1,f2,f3,f4,f5,f6,fun _=>rfl,f20,f21⟩
      ·have hbi:b10=false:=by simpa using hun
       have e7:b7=true:=by simpa using ready_dep hr rfl ⟨7,.guard⟩ (by simp) rfl
       subst hbi e7
       clear hr hun
       obtain rfl:=f7.out rfl
       have ht:a'.tmps[35]?=some (.bool false):=by rw[ha];kernel_rfl
       refine wpOp_off rfl rfl rfl rfl ht (by simp[undef]) ?_
       subst ha
       exact⟨b0,b1,b2,b3,b4,b5,b6,true,b8,b9,true,b11,b12,b13,b14,b15,b16,b17,b18,b19,b20,b21,x0',x1',x2',x3',x4',x5',x6',(.bool false),x20',x21',rfl,by kernel_rfl,hPW,f0,f1,f2,f3,f4,f5,f6,fun _=>rfl,f20,f21⟩
      ·have hbi:b11=false:=by simpa using hun
       have e7:b7=true:=by simpa using ready_dep hr rfl ⟨7,.guard⟩ (by simp) rfl
       subst hbi e7
       clear hr hun
       obtain rfl:=f7.out rfl
       have ht:a'.tmps[35]?=some (.bool false):=by rw[ha];kernel_rfl
       refine wpOp_off rfl rfl rfl rfl ht (by simp[undef]) ?_
       subst ha
       exact⟨b0,b1,b2,b3,b4,b5,b6,true,b8,b9,b10,true,b12,b13,b14,b15,b16,b17,b18,b19,b20,b21,x0',x1',x2',x3',x4',x5',x6',(.bool false),x20',x21',rfl,by kernel_rfl,hPW,f0,f1,f2,f3,f4,f5,f6,fun _=>rfl,f20,f21⟩
      ·have hbi:b12=false:=by simpa using hun
       have e7:b7=true:=by simpa using ready_dep hr rfl ⟨7,.guard⟩ (by simp) rfl
       subst hbi e7
       clear hr hun
       obtain rfl:=f7.out rfl
       have ht:a'.tmps[35]?=some (.bool false):=by rw[ha];kernel_rfl
       refine wpOp_off rfl rfl rfl rfl ht (by simp[undef]) ?_
       subst ha
       exact⟨b0,b1,b2,b3,b4,b5,b6,true,b8,b9,b10,b11,true,b13,b14,b15,b16,b17,b18,b19,b20,b21,x0',x1',x2',x3',x4',x5',x6',(.bool false),x20',x21',rfl,by kernel_rfl,hPW,f0,f1,f2,f3,f4,f5,f6,fun _=>rfl,f20,f21⟩
      ·have hbi:b13=false:=by simpa using hun
       have e7:b7=true:=by simpa using ready_dep hr rfl ⟨7,.guard⟩ (by simp) rfl
       subst hbi e7
       clear hr hun
       obtain rfl:=f7.out rfl
       have ht:a'.tmps[35]?=some (.bool false):=by rw[ha];kernel_rfl
       refine wpOp_off rfl rfl rfl rfl ht (by simp[undef]) ?_
       subst ha
       exact⟨b0,b1,b2,b3,b4,b5,b6,true,b8,b9,b10,b11,b12,true,b14,b15,b16,b17,b18,b19,b20,b21,x0',x1',x2',x3',x4',x5',x6',(.bool false),x20',x21',rfl,by kernel_rfl,hPW,f0,f1,f2,f3,f4,f5,f6,fun _=>rfl,f20,f21⟩
      ·have hbi:b14=false:=by simpa using hun
       have e7:b7=true:=by simpa using ready_dep hr rfl ⟨7,.guard⟩ (by simp) rfl
       subst hbi e7
       clear hr hun
       obtain rfl:=f7.out rfl
       have ht:a'.tmps[35]?=some (.bool false):=by rw[ha];kernel_rfl
       refine wpOp_off rfl rfl rfl rfl ht (by simp[undef]) ?_
       subst ha
       exact⟨b0,b1,b2,b3,b4,b5,b6,true,b8,b9,b10,b11,b12,b13,true,b15,b16,b17,b18,b19,b20,b21,x0',x1',x2',x3',x4',x5',x6',(.bool false),x20',x21',rfl,by kernel_rfl,hPW,f0,f1,f2,f3,f4,f5,f6,fun _=>rfl,f20,f21⟩
      ·have hbi:b15=false:=by simpa using hun
       have e7:b7=true:=by simpa using ready_dep hr rfl ⟨7,.guard⟩ (by simp) rfl
       subst hbi e7
       clear hr hun
       obtain rfl:=f7.out rfl
       have ht:a'.tmps[35]?=some (.bool false):=by rw[ha];kernel_rfl
       refine wpOp_off rfl rfl rfl rfl ht (by simp[undef]) ?_
       subst ha
       exact⟨b0,b1,b2,b3,b4,b5,b6,true,b8,b9,b10,b11,b12,b13,b14,true,b16,b17,b18,b19,b20,b21,x0',x1',x2',x3',x4',x5',x6',(.bool false),x20',x21',rfl,by kernel_rfl,hPW,f0,f1,f2,f3,f4,f5,f6,fun _=>rfl,f20,f21⟩
      ·have hbi:b16=false:=by simpa using hun
       have e7:b7=true:=by simpa using ready_dep hr rfl ⟨7,.guard⟩ (by simp) rfl
       subst hbi e7
       clear hr hun
       obtain rfl:=f7.out rfl
       have ht:a'.tmps[35]?=some (.bool false):=by rw[ha];kernel_rfl
       refine wpOp_off rfl rfl rfl rfl ht (by simp[undef]) ?_
       subst ha
       exact⟨b0,b1,b2,b3,b4,b5,b6,true,b8,b9,b10,b11,b12,b13,b14,b15,true,b17,b18,b19,b20,b21,x0',x1',x2',x3',x4',x5',x6',(.bool false),x20',x21',rfl,by kernel_rfl,hPW,f0,f1,f2,f3,f4,f5,f6,fun _=>rfl,f20,f21⟩
      ·have hbi:b17=false:=by simpa using hun
       have e7:b7=true:=by simpa using ready_dep hr rfl ⟨7,.guard⟩ (by simp) rfl
       subst hbi e7
       clear hr hun
       obtain rfl:=f7.out rfl
       have ht:a'.tmps[35]?=some (.bool false):=by rw[ha];kernel_rfl
       refine wpOp_off rfl rfl rfl rfl ht (by simp[undef]) ?_
       subst ha
       exact⟨b0,b1,b2,b3,b4,b5,b6,true,b8,b9,b10,b11,b12,b13,b14,b15,b16,true,b18,b19,b20,b21,x0',x1',x2',x3',x4',x5',x6',(.bool false),x20',x21',rfl,by kernel_rfl,hPW,f0,f1,f2,f3,f4,f5,f6,fun _=>rfl,f20,f21⟩
      ·have hbi:b18=false:=by simpa using hun
       have e7:b7=true:=by simpa using ready_dep hr rfl ⟨7,.guard⟩ (by simp) rfl
       subst hbi e7
       clear hr hun
       obtain rfl:=f7.out rfl
       have ht:a'.tmps[35]?=some (.bool false):=by rw[ha];kernel_rfl
       refine wpOp_off rfl rfl rfl rfl ht (by simp[undef]) ?_
       subst ha
       exact⟨b0,b1,b2,b3,b4,b5,b6,true,b8,b9,b10,b11,b12,b13,b14,b15,b16,b17,true,b19,b20,b21,x0',x1',x2',x3',x4',x5',x6',(.bool false),x20',x21',rfl,by kernel_rfl,hPW,f0,f1,f2,f3,f4,f5,f6,fun _=>rfl,f20,f21⟩
      ·have hbi:b19=false:=by simpa using hun
       have e7:b7=true:=by simpa using ready_dep hr rfl ⟨7,.guard⟩ (by simp) rfl
       subst hbi e7
       clear hr hun
       obtain rfl:=f7.out rfl
       have ht:a'.tmps[35]?=some (.bool false):=by rw[ha];kernel_rfl
       refine wpOp_off rfl rfl rfl rfl ht (by simp[undef]) ?_
       subst ha
       exact⟨b0,b1,b2,b3,b4,b5,b6,true,b8,b9,b10,b11,b12,b13,b14,b15,b16,b17,b18,true,b20,b21,x0',x1',x2',x3',x4',x5',x6',(.bool false),x20',x21',rfl,by kernel_rfl,hPW,f0,f1,f2,f3,f4,f5,f6,fun _=>rfl,f20,f21⟩
      ·have hbi:b20=false:=by simpa using hun
       have e3:b3=true:=by simpa using ready_dep hr rfl ⟨3,.guard⟩ (by simp) rfl
       have e7:b7=true:=by simpa using ready_dep hr rfl ⟨7,.data⟩ (by simp) rfl
       subst hbi e3 e7
       clear hr hun
       obtain rfl:=f3.out rfl
       obtain rfl:=f7.out rfl
       have ht:a'.tmps[31]?=some (.bool false):=by rw[ha];kernel_rfl
       refine wpOp_on rfl rfl rfl rfl ht (fun K hK=>?_)
       subst ha
       go_simp
       exact hK _ _ ⟨b0,b1,b2,true,b4,b5,b6,true,b8,b9,b10,b11,b12,b13,b14,b15,b16,b17,b18,b19,true,b21,x0',x1',x2',(.bool false),x4',x5',x6',(.bool false),(.bool false),x21',rfl,by kernel_rfl,hPW,f0,f1,f2,fun _=>rfl,f4,f5,f6,fun _=>rfl,fun _=>rfl,f21⟩
      ·have hbi:b21=false:=by simpa using hun
       have e3:b3=true:=by simpa using ready_dep hr rfl ⟨3,.data⟩ (by simp) rfl
       have e20:b20=true:=by simpa using ready_dep hr rfl ⟨20,.data⟩ (by simp) rfl
       subst hbi e3 e20
       clear hr hun
       obtain rfl:=f3.out rfl
       obtain rfl:=f20.out rfl
       subst ha
       refine wpOp_step rfl (fun K hK=>?_)
       go_simp
       exact hK _ _ ⟨b0,b1,b2,true,b4,b5,b6,b7,b8,b9,b10,b11,b12,b13,b14,b15,b16,b17,b18,b19,true,true,x0',x1',x2',(.bool false),x4',x5',x6',x7',(.bool false),(.bool false),rfl,by kernel_rfl,hPW,f0,f1,f2,fun _=>rfl,f4,f5,f6,f7,fun _=>rfl,fun _=>rfl⟩
     ·rintro listed a' w' ⟨b0,b1,b2,b3,b4,b5,b6,b7,b8,b9,b10,b11,b12,b13,b14,b15,b16,b17,b18,b19,b20,b21,x0',x1',x2',x3',x4',x5',x6',x7',x20',x21',rfl,ha,hPW,f0,f1,f2,f3,f4,f5,f6,f7,f20,f21⟩ hrd
      have e0:b0=true:=by simpa using ready_nextb hrd 0 rfl (by simp[Region.binds])
      have e1:b1=true:=by simpa using ready_nextb hrd 1 rfl (by simp[Region.binds,e0])
      have e2:b2=true:=by simpa using ready_nextb hrd 2 rfl (by simp[Region.binds,e0,e1])
      have e3:b3=true:=by simpa using ready_nextb hrd 3 rfl (by simp[Region.binds,e0,e1,e2])
      have e4:b4=true:=by simpa using ready_nextb hrd 4 rfl (by simp[Region.binds,e0,e1,e2,e3])
      have e5:b5=true:=by simpa using ready_nextb hrd 5 rfl (by simp[Region.binds,e0,e1,e2,e3,e4])
      have e6:b6=true:=by simpa using ready_nextb hrd 6 rfl (by simp[Region.binds,e0,e1,e2,e3,e4,e5])
      have e7:b7=true:=by simpa using ready_nextb hrd 7 rfl (by simp[Region.binds,e0,e1,e2,e3,e4,e5,e6])
      have e8:b8=true:=by simpa using ready_nextb hrd 8 rfl (by simp[Region.binds,e0,e1,e2,e3,e4,e5,e6,e7])
      have e9:b9=true:=by simpa using ready_nextb hrd 9 rfl (by simp[Region.binds,e0,e1,e2,e3,e4,e5,e6,e7,e8])
      have e10:b10=true:=by simpa using ready_nextb hrd 10 rfl (by simp[Region.binds,e0,e1,e2,e3,e4,e5,e6,e7,e8,e9])
      have e11:b11=true:=by simpa using ready_nextb hrd 11 rfl (by simp[Region.binds,e0,e1,e2,e3,e4,e5,e6,e7,e8,e9,e10])
      have e12:b12=true:=by simpa using ready_nextb hrd 12 rfl (by simp[Region.binds,e0,e1,e2,e3,e4,e5,e6,e7,e8,e9,e10,e11])
      have e13:b13=true:=by simpa using ready_nextb hrd 13 rfl (by simp[Region.binds,e0,e1,e2,e3,e4,e5,e6,e7,e8,e9,e10,e11,e12])
      have e14:b14=true:=by simpa using ready_nextb hrd 14 rfl (by simp[Region.binds,e0,e1,e2,e3,e4,e5,e6,e7,e8,e9,e10,e11,e12,e13])
      have e15:b15=true:=by simpa using ready_nextb hrd 15 rfl (by simp[Region.binds,e0,e1,e2,e3,e4,e5,e6,e7,e8,e9,e10,e11,e12,e13,e14])
      have e16:b16=true:=by simpa using ready_nextb hrd 16 rfl (by simp[Region.binds,e0,e1,e2,e3,e4,e5,e6,e7,e8,e9,e10,e11,e12,e13,e14,e15])
      have e17:b17=true:=by simpa using ready_nextb hrd 17 rfl (by simp[Region.binds,e0,e1,e2,e3,e4,e5,e6,e7,e8,e9,e10,e11,e12,e13,e14,e15,e16])
      have e18:b18=true:=by simpa using ready_nextb hrd 18 rfl (by simp[Region.binds,e0,e1,e2,e3,e4,e5,e6,e7,e8,e9,e10,e11,e12,e13,e14,e15,e16,e17])
      have e19:b19=true:=by simpa using ready_nextb hrd 19 rfl (by simp[Region.binds,e0,e1,e2,e3,e4,e5,e6,e7,e8,e9,e10,e11,e12,e13,e14,e15,e16,e17,e18])
      have e20:b20=true:=by simpa using ready_nextb hrd 20 rfl (by simp[Region.binds,e0,e1,e2,e3,e4,e5,e6,e7,e8,e9,e10,e11,e12,e13,e14,e15,e16,e17,e18,e19])
      have e21:b21=true:=by simpa using ready_nextb hrd 21 rfl (by simp[Region.binds,e0,e1,e2,e3,e4,e5,e6,e7,e8,e9,e10,e11,e12,e13,e14,e15,e16,e17,e18,e19,e20])
      subst e0 e1 e2 e3 e4 e5 e6 e7 e8 e9 e10 e11 e12 e13 e14 e15 e16 e17 e18 e19 e20 e21
      obtain rfl:=f0.out rfl
      obtain rfl:=f1.out rfl
      obtain rfl:=f2.out rfl
      obtain rfl:=f3.out rfl
      obtain rfl:=f4.out rfl
      obtain rfl:=f5.out rfl
      obtain rfl:=f6.out rfl
      obtain rfl:=f7.out rfl
      obtain rfl:=f20.out rfl
      obtain rfl:=f21.out rfl
      subst ha
      clear hrd
      obtain⟨sv4,kv4,hf4⟩:=hPW.out.2.1 rfl
      have HF4:Hid (FrV W2 [] w.heap.size w1.heap.size (.slice aV x.ts.length cV) w' sv4 kv4 s1):=hf4
      clear hf4 hPW
      go_wp2_with fail
      go_simp
      go_meet
      exact⟨false,rfl,HF4.out.low,sv4,kv4,s1,hP,HUU.out,HF4.out⟩
  case rest =>
   obtain⟨c,rfl,HB5,HCE⟩:=hcut
   clear q0 q1 q2 q3 q4 q5 q6 q7 q8 HF3 HL3
   obtain⟨v0,v1,v2,v3,v4,v5,v6,v7,v8⟩:=HC2.out wc HB5.out
   have HBw:Hid (Below w.heap.size w wc):=HB2.out.trans (HB5.out.mono HB2.out.size)
   cases c
   ·obtain⟨sv4,kv4,s1,hP,hupp,hf5⟩:=HCE.out
    have HP:Hid (prAll (pfl k n) ⟨x.ts,[],[]⟩=some s1):=hP
    have HUU:Hid (n.op=11→rdUps ((xs.map FC.d).getD n.b.toNat fd0).ups s1.ts=true):=hupp
    have HF5:Hid (FrV W2 [] w.heap.size w1.heap.size (.slice aV x.ts.length cV) wc sv4 kv4 s1):=hf5
    have HSL:Hid (s1.ts.length=x.ts.length∧s1.taken.length≤4):=by have h9:=prAll_len hP;exact⟨h9.1,by have:=h9.2;simpa [pfl] using this⟩
    have HPU:Hid (∀g∈pfl k n,g.1<24∧PuOkF s1.ts.length g.1 g.2):=fun g hg=>by rw[HSL.out.1,HSX.out.1];exact⟨(pfl_ok HIN.out HK.out hk0 hk1 g hg).1,puok_of HIN.out HK.out hk0 hk1 g hg⟩
    clear hP hupp hf5 HCE
    go_wp2_with fail
    refine (gb_any nI nR n (.slice aG x.gs.length cG) x.gs wc HIN.out (HGA.out.later HBw.out) hxg HGZ.out).mono ?_
    rintro e w5 ⟨hch,hx5⟩
    have HB6:Hid (Below W2.heap.size W2 w5):=HB5.out.trans (hx5.mono HB5.out.size)
    have HF6:Hid (FrV W2 [] w.heap.size w1.heap.size (.slice aV x.ts.length cV) w5 sv4 kv4 s1):=HF5.out.later hx5
    clear v0 v1 v2 v3 v4 v5 v6 v7 v8 hx5 HF5
    obtain⟨v0,v1,v2,v3,v4,v5,v6,v7,v8⟩:=HC2.out w5 HB6.out
    have HBv:Hid (Below w.heap.size w w5):=HB2.out.trans (HB6.out.mono HB2.out.size)
    cases hG:changeV n x.gs with
    | none =>
     rw[hG]at hch
     obtain rfl:=hch
     have HE:Hid (behindV (xs.map FC.d) n x=.error 11):=bh_guard HK.out hk0 hk1 HP.out HUU.out hG
     go_wp2_with (go_at_call 28;refine (fat_any _ _ _ _).mono ?_;rintro e w9 ⟨rfl,rfl⟩)
     go_ret
     exact⟨by rw[psV_err HE.out];rfl,ButL.of_below HBv.out⟩
    | some gs' =>
     rw[hG]at hch
     obtain⟨gv',rfl,hga⟩:=hch
     have HGA5:Hid (GA w5 gv' gs'):=hga
     obtain⟨aN,cN,rfl,_⟩:=hga
     obtain⟨K,hK,hKR⟩:=keepV_nat HSX.out.2
     have HKE:Hid (behindV (xs.map FC.d) n x=if spV K s1 x.ts (putAll (pfl k n) s1.ts)=true then .ok ⟨putAll (pfl k n) s1.ts,gs'⟩ else .error 12):=bh_kept HIN.out HK.out hk0 hk1 HP.out HUU.out hG hK
     have HKK:Hid (keepV x.gs=(K:Int)):=hK
     have HLA:Hid (LayAt w5):=HLY.out.later (HB.out.trans (HBv.out.mono HW.out.base))
     have HPL:Hid ((putAll (pfl k n) s1.ts).length=x.ts.length):=by show _=_;rw[putAll_lq];exact HSL.out.1
     clear hK
     go_wp2_with (go_at_call 68;refine (iput_any w5 _ w.heap.size w1.heap.size (.slice aV x.ts.length cV) w5 sv4 kv4 s1 n k HK.out hk0 hk1 HLA.out HF6.out.anew HPU.out (by rw[HSL.out.1];exact hxl)).mono ?_;rintro e w6 ⟨rfl,hf7⟩;have HF7:Hid (FrV W2 [] w.heap.size w1.heap.size (.slice aV x.ts.length cV) w6 sv4 kv4 ⟨putAll (pfl k n) s1.ts,s1.taken,s1.stay⟩):=hf7.back HB2.out.size (ButL.of_below HB6.out) (fun g hg=>(HF6.out.own g hg).1);have HGA6:Hid (GA w6 (.slice aN gs'.length cN) gs'):=HGA5.out.butl hf7.but HF6.out.noG;have HB7:Hid (Below W2.heap.size W2 w6):=HF7.out.low;clear v0 v1 v2 v3 v4 v5 v6 v7 v8 hf7;obtain⟨v0,v1,v2,v3,v4,v5,v6,v7,v8⟩:=HC2.out w6 HB7.out)
     obtain⟨d,hd⟩:∃d,spV K s1 x.ts (putAll (pfl k n) s1.ts)=d:=⟨_,rfl⟩
     have HD:Hid (spV K s1 x.ts (putAll (pfl k n) s1.ts)=d):=hd
     clear hd
     have HST6:Hid (SlA w6 1 intC aT x.ts):=HST.out.later (HB2.out.trans (HB7.out.mono HB2.out.size))
     have HSG6:Hid (SlA w6 3 GD.cells aG x.gs):=HSG.out.later (HB2.out.trans (HB7.out.mono HB2.out.size))
     have HSP:Hid (∀W,Below w6.heap.size w6 W→Calls Tryz.prog 69 #[.pointer (some ⟨w1.heap.size,0,none⟩),.int .i64 K,.slice aT x.ts.length cT] W fun e w'=>e=.returned (.bool d)∧Below W.heap.size W w'):=fun W hW=>by
      have h9:=spares_any W2 [] w.heap.size w1.heap.size (.slice aV x.ts.length cV) W sv4 kv4 ⟨putAll (pfl k n) s1.ts,s1.taken,s1.stay⟩ K aT cT x.ts (HF7.out.later hW) (HST6.out.later hW) HPL.out (by rw[HSX.out.1];exact hKR) hxl (by have:=HSL.out.2;show s1.taken.length≤1000;omega) hct
      have e9:=HD.out
      unfold spV at e9
      rw[e9]at h9
      exact h9
     go_cut [79] from 73 to 78 (fun s79 wx=>s79=.bool (!d)∧Hid (Below w6.heap.size w6 wx))
     case first =>
      go_region_with (first
       | (go_at_call 70;refine (keptBy_v rfl (HSG6.out.later (below_d (Below.refl _ _))) (by omega) HKK.out).mono ?_;rintro e w7 ⟨rfl,hx7⟩;have HB8:Hid (Below w6.heap.size w6 w7):=below_d hx7;have v5':w7.cell? ⟨p6,1,none⟩=some (.slice aT x.ts.length cT):=cell_later HB8.out v5;clear hx7)
       | (go_at_call 69;refine (HSP.out _ HB8.out).mono ?_;rintro e w8 ⟨rfl,hx8⟩;have HB9:Hid (Below w6.heap.size w6 w8):=HB8.out.trans (hx8.mono HB8.out.size);clear hx8))
      all_goals
       go_wp2_with fail
       go_meet
       exact⟨rfl,HB9⟩
     case rest =>
      obtain⟨rfl,HB9⟩:=hcut
      have HBz:Hid (Below W2.heap.size W2 wc):=HB7.out.trans (HB9.out.mono HB7.out.size)
      have HBy:Hid (Below w.heap.size w wc):=HB2.out.trans (HBz.out.mono HB2.out.size)
      have HF9:Hid (FrV W2 [] w.heap.size w1.heap.size (.slice aV x.ts.length cV) wc sv4 kv4 ⟨putAll (pfl k n) s1.ts,s1.taken,s1.stay⟩):=HF7.out.later HB9.out
      clear v0 v1 v2 v3 v4 v5 v6 v7 v8
      obtain⟨v0,v1,v2,v3,v4,v5,v6,v7,v8⟩:=HC2.out wc HBz.out
      obtain⟨t0,_,_⟩:=HF9.out.cells
      cases d
      ·have HE:Hid (behindV (xs.map FC.d) n x=.error 12):=by show _=_;rw[HKE.out,HD.out];rfl
       go_wp2_with (go_at_call 28;refine (fat_any _ _ _ _).mono ?_;rintro e w9 ⟨rfl,rfl⟩)
       go_ret
       exact⟨by rw[psV_err HE.out];rfl,ButL.of_below HBy.out⟩
      ·have HE:Hid (behindV (xs.map FC.d) n x=.ok ⟨putAll (pfl k n) s1.ts,gs'⟩):=by show _=_;rw[HKE.out,HD.out];rfl
       have HTY:Hid (OI wc W0.heap.size (.slice aV x.ts.length cV) (putAll (pfl k n) s1.ts)):=ORow.mono HF9.out.ty HW.out.base
       have HAP:Hid (Apart (.slice aV x.ts.length cV) hv):=fun g e e'=>by
        obtain⟨l,q1,_⟩:=HW.out.hp
        have h7:g<w.heap.size:=(q1.row.own_lt e').2
        have h8:w.heap.size≤g:=(HF9.out.ty.own_lt e).1
        omega
       have HSY:Hid (SOk nR ⟨putAll (pfl k n) s1.ts,gs'⟩):=behindV_ok HIN.out HSX.out HE.out
       have HLD:Hid (Calls Tryz.prog 71 #[.pointer (some ⟨gW,0,none⟩),.int .i64 a,.agg #[.bool false,.slice aV x.ts.length cV,.slice aN gs'.length cN]] wc fun e w'=>∃v,e=.returned v∧LdA W0.heap.size gW gS nI p cv iv hv wc (leadW (followV n a x ⟨putAll (pfl k n) s1.ts,gs'⟩) ⟨zs.map SR.o,due⟩) (.returned v) w'∧ButL (gW :: gS :: hv.ownBlock.toList) wc w') :=
        lead_any W0 aC cap xs p nR nI nP gW gS a f E cv iv hv zs due wc false (.slice aV x.ts.length cV) (.slice aN gs'.length cN) x ⟨putAll (pfl k n) s1.ts,gs'⟩ n HC.out (HW.out.later HBy.out) (HB.out.trans (HBy.out.mono HW.out.base)) HN.out HX.out HTY.out (HGA6.out.later HB9.out) HAP.out HOK.out HSY.out
       go_wp2_with (go_at_call 71;refine (HLD.out).mono ?_;rintro e w9 ⟨v,rfl,hl9,hx9⟩)
       go_ret
       exact⟨LdA.pass HE.out (hl9.then (fun g e=>.inl e) HBy.out.size),(ButL.of_below HBy.out).then hx9 (fun g hg=>.inl hg)⟩
   ·have HE:Hid (behindV (xs.map FC.d) n x=.error 10):=HCE.out
    clear HCE
    go_wp2_with (go_at_call 28;refine (fat_any _ _ _ _).mono ?_;rintro e w9 ⟨rfl,rfl⟩)
    go_ret
    exact⟨by rw[psV_err HE.out];rfl,ButL.of_below HBw.out⟩
end Go.Proofs.YtjglgbepobmjhaaGreatDoor
