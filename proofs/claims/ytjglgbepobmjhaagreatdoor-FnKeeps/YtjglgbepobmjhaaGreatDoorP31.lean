import Derived.Test.YtjglgbepobmjhaaGreatDoorP17
import Derived.Test.YtjglgbepobmjhaaGreatDoorP18
import Derived.Test.YtjglgbepobmjhaaGreatDoorP30
import Derived.Test.YtjglgbepobmjhaaGreatDoorP12
import Derived.Deep.CutRange
set_option linter.unusedVariables false
set_option linter.unusedSimpArgs false
set_option maxRecDepth 20000
set_option maxHeartbeats 8000000
namespace Go.Proofs.YtjglgbepobmjhaaGreatDoor
open Go.RowKit
theorem rn_in {w:World} {p:Nat} {x y:Array Value} (h:w.heap[p]?=some (.cells x 186)) (h':w.heap[p]?=some (.cells y 3)):False:=by
 rw[h]at h'
 injection h' with e
 injection e with _ e2
 exact absurd e2 (by decide)
theorem rn_bo {w:World} {p:Nat} {x y:Array Value} (h:w.heap[p]?=some (.cells x 186)) (h':w.heap[p]?=some (.cells y 4)):False:=by
 rw[h]at h'
 injection h' with e
 injection e with _ e2
 exact absurd e2 (by decide)
theorem rn_store {w w':World} {g g5 g7 g9:Nat} {x5 x7 x9:Obj} (hb:Below w.heap.size w w') (hg:w.heap.size≤g) (h:w'.heap[g]?=some (.cells #[.slice none 0 0,.slice none 0 0,.slice none 0 0,.slice none 0 0,.slice none 0 0,.int .i64 0,.int .i64 0] 186)) (h5:w'.heap[g5]?=some x5) (h7:w'.heap[g7]?=some x7) (h9:w'.heap[g9]?=some x9) (n5:g≠g5) (n7:g≠g7) (n9:g≠g9) (v0 v1 v2 v4:Value) :
  let W:=((((((w'.setCell ⟨g,0,none⟩ v0).setCell ⟨g,1,none⟩ v1).setCell ⟨g,2,none⟩ v2).setCell ⟨g,3,none⟩ (.slice none 0 0)).setCell ⟨g,4,none⟩ v4).setCell ⟨g,5,none⟩ (.int .i64 0)).setCell ⟨g,6,none⟩ (.int .i64 (-1))
  Below w.heap.size w W∧W.heap[g]?=some (.cells #[v0,v1,v2,.slice none 0 0,v4,.int .i64 0,.int .i64 (-1)] 186)∧W.heap[g5]?=some x5∧W.heap[g7]?=some x7∧W.heap[g9]?=some x9:=by
 intro W
 refine⟨ButL.nil ((((((((ButL.of_below hb).setn hg _ _).setn hg _ _).setn hg _ _).setn hg _ _).setn hg _ _).setn hg _ _).setn hg _ _),?_,?_,?_,?_⟩
 ·have h9:=blk_set (blk_set (blk_set (blk_set (blk_set (blk_set (blk_set h 0 v0) 1 v1) 2 v2) 3 (.slice none 0 0)) 4 v4) 5 (.int .i64 0)) 6 (.int .i64 (-1))
  simpa using h9
 ·exact blk_other (blk_other (blk_other (blk_other (blk_other (blk_other (blk_other h5 n5 _ _) n5 _ _) n5 _ _) n5 _ _) n5 _ _) n5 _ _) n5 _ _
 ·exact blk_other (blk_other (blk_other (blk_other (blk_other (blk_other (blk_other h7 n7 _ _) n7 _ _) n7 _ _) n7 _ _) n7 _ _) n7 _ _) n7 _ _
 ·exact blk_other (blk_other (blk_other (blk_other (blk_other (blk_other (blk_other h9 n9 _ _) n9 _ _) n9 _ _) n9 _ _) n9 _ _) n9 _ _) n9 _ _
theorem fnA_rep (n:Nat) (v:Value):fnA n (fun _=>v)=Array.replicate n v:=by
 apply Array.ext_getElem?
 intro j
 by_cases hj:j<n
 ·rw[fnA_get _ hj,Array.getElem?_replicate,if_pos hj]
 ·rw[Array.getElem?_eq_none (by rw[fnA_size];omega),Array.getElem?_replicate,if_neg hj]
theorem mb_rep (n:Nat):mb (List.replicate n false)=fnA n (fun _=>.bool false):=by
 rw[fnA_rep]
 unfold mb
 rw[List.map_replicate,List.toArray_replicate]
def tj0:TJ.S:=⟨fun _=>0,fun _=>0,[],fun _=>false,0,none⟩
theorem tj0_w (E:Nat→List Nat):TJ.W E tj0 [] :=
 ⟨(fun x=>by simp[tj0]),(fun x hx=>by cases hx),List.Pairwise.nil,fun x=>Nat.le_refl _,(fun x y hx=>by cases hx),(fun x hx=>by cases hx),(fun x hx=>by cases hx),(fun x hx=>by cases hx),(fun x hx=>by cases hx),(fun x hx=>by cases hx),.inl ⟨rfl,fun x hx=>by cases hx⟩⟩
theorem tj0_k (n:Nat):RnK n tj0 :=
 ⟨(fun x hx=>by cases hx),by show 0+unm n (fun _=>0)=n;unfold unm;simp,Nat.le_refl _⟩
structure R82 (w:World) (gW b off nI ci:Nat) (w':World) (b0 b1 b2 b3 b4 b5 b6 b7 b8 b9 b10 b11 b12:Bool) (x0 x1 x2 x3 x4 x5 x6 x7 x8 x9 x10 x11:Value):Prop where
 P:b12=false→Below w.heap.size w w'∧(b5=true→∃g,x5=.slice (some ⟨g,0,none⟩) nI nI∧w.heap.size≤g∧w'.heap[g]?=some (.cells (Array.replicate nI (Value.int .i64 0)) 3))∧(b7=true→∃g,x7=.slice (some ⟨g,0,none⟩) nI nI∧w.heap.size≤g∧w'.heap[g]?=some (.cells (Array.replicate nI (Value.int .i64 0)) 3))∧(b9=true→∃g,x9=.slice (some ⟨g,0,none⟩) nI nI∧w.heap.size≤g∧w'.heap[g]?=some (.cells (mb (List.replicate nI false)) 4))∧(b11=true→∃g,x11=.pointer (some ⟨g,0,none⟩)∧w.heap.size≤g∧w'.heap[g]?=some (.cells #[.slice none 0 0,.slice none 0 0,.slice none 0 0,.slice none 0 0,.slice none 0 0,.int .i64 0,.int .i64 0] 186))∧(b5=true→b7=true→x5≠x7)
 m10:b10=true→b5=true∧b7=true∧b9=true∧x10=.agg #[.slice (some ⟨b,off,none⟩) nI ci,x5,x7,.slice none 0 0,x9,.int .i64 0,.int .i64 (-1)]
 r:b12=true→∃gR gm gl gf,x11=.pointer (some ⟨gR,0,none⟩)∧Hid (Below w.heap.size w w')∧Hid (w'.heap[gR]?=some (.cells #[.slice (some ⟨b,off,none⟩) nI ci,.slice (some ⟨gm,0,none⟩) nI nI,.slice (some ⟨gl,0,none⟩) nI nI,.slice none 0 0,.slice (some ⟨gf,0,none⟩) nI nI,.int .i64 0,.int .i64 (-1)] 186))∧Hid (w'.heap[gm]?=some (.cells (Array.replicate nI (Value.int .i64 0)) 3))∧Hid (w'.heap[gl]?=some (.cells (Array.replicate nI (Value.int .i64 0)) 3))∧Hid (w'.heap[gf]?=some (.cells (mb (List.replicate nI false)) 4))∧Hid (gm≠gl∧w.heap.size≤gR∧w.heap.size≤gm∧w.heap.size≤gl∧w.heap.size≤gf)
 c3:b12=true→b3=true
 c5:b12=true→b5=true
 c7:b12=true→b7=true
 c9:b12=true→b9=true
 c10:b12=true→b10=true
 c11:b12=true→b11=true
 f0:b0=true→x0=.pointer (some ⟨gW,0,none⟩)
 f1:b1=true→x1=.pointer (some ⟨gW,0,none⟩)
 f2:b2=true→x2=.pointer (some ⟨gW,2,none⟩)
 f3:b3=true→x3=.slice (some ⟨b,off,none⟩) nI ci
 f4:b4=true→x4=.int .i64 (nI:Int)
 f6:b6=true→x6=.int .i64 (nI:Int)
 f8:b8=true→x8=.int .i64 (nI:Int)
theorem lr_any (W0:World) (aC:Option Addr) (cap:Nat) (xs:List FC) (p nR nI nP gW gS:Nat) (f:FC) (E:Nat→List Nat) (cv iv hv:Value) (zs:List SR) (due:List Bool) (w:World) (C:WCx W0 aC cap xs p nR nI nP f E cv iv) (h:WlV W0.heap.size gW gS nI p cv iv w zs hv due) (hB:Below W0.heap.size W0 w) (hcl:∀(a:Nat) n,f.d.ins[a]?=some n→(∃x,(zs.map SR.o)[a]?=some (some x))→∀t∈silentV n a,∃y,(zs.map SR.o)[t]?=some (some y)) :
  Calls Tryz.prog 38 #[.pointer (some ⟨gW,0,none⟩)] w fun e w'=>∃z,e=.returned (.int .i64 (lsI z))∧LrP (zs.map SR.o) f.d z∧Below w.heap.size w w':=by
 obtain⟨c0,c1,c2,c3,c4⟩:=h.cells
 obtain⟨n0,hn0⟩:∃n,f.d.ins[0]?=some n:=⟨f.d.ins[0]'(by rw[C.ok.ins];exact C.ok.ins0),by simp⟩
 obtain⟨b,off,ei,hbl,_⟩:=C.ins hn0 hB
 have eiv:iv=.slice (some ⟨b,off,none⟩) nI f.ci:=by rw[C.eiv,ei]
 have HIV:Hid (iv=.slice (some ⟨b,off,none⟩) nI f.ci):=eiv
 have HW:Hid (WlV W0.heap.size gW gS nI p cv iv w zs hv due):=h
 have HB:Hid (Below W0.heap.size W0 w):=hB
 have HC:Hid (WCx W0 aC cap xs p nR nI nP f E cv iv):=C
 have HCL:Hid (∀(a:Nat) n,f.d.ins[a]?=some n→(∃x,(zs.map SR.o)[a]?=some (some x))→∀t∈silentV n a,∃y,(zs.map SR.o)[t]?=some (some y)):=hcl
 have hI1:=C.ok.ins1
 rw[eiv]at c2
 have hmB:=fun W=>make_bool nI (by omega) W
 have hmI:=fun W=>make_int nI (by omega) W
 clear c0 c1 c3 c4 h hB hcl C hn0 ei hbl eiv
 go_enter Tryz.func38,Tryz.ntmps38
 go_wp2_with fail
 go_cut [4] from 11 to 21 (fun s4 wx=>∃gR gm gl gf,s4=.pointer (some ⟨gR,0,none⟩)∧Hid (Below w.heap.size w wx)∧Hid (wx.heap[gR]?=some (.cells #[.slice (some ⟨b,off,none⟩) nI f.ci,.slice (some ⟨gm,0,none⟩) nI nI,.slice (some ⟨gl,0,none⟩) nI nI,.slice none 0 0,.slice (some ⟨gf,0,none⟩) nI nI,.int .i64 0,.int .i64 (-1)] 186))∧Hid (wx.heap[gm]?=some (.cells (Array.replicate nI (Value.int .i64 0)) 3))∧Hid (wx.heap[gl]?=some (.cells (Array.replicate nI (Value.int .i64 0)) 3))∧Hid (wx.heap[gf]?=some (.cells (mb (List.replicate nI false)) 4))∧Hid (gm≠gl∧w.heap.size≤gR∧w.heap.size≤gm∧w.heap.size≤gl∧w.heap.size≤gf))
 case first =>
  refine wp_region_inv (by kernel_rfl) (fun base listed a' w'=>∃b0 b1 b2 b3 b4 b5 b6 b7 b8 b9 b10 b11 b12 x0 x1 x2 x3 x4 x5 x6 x7 x8 x9 x10 x11,listed=#[b0,b1,b2,b3,b4,b5,b6,b7,b8,b9,b10,b11,b12]∧a'=((((((((((((base.put (some 11) x0).put (some 12) x1).put (some 13) x2).put (some 14) x3).put (some 15) x4).put (some 16) x5).put (some 17) x6).put (some 18) x7).put (some 19) x8).put (some 20) x9).put (some 21) x10).put (some 4) x11)∧R82 w gW b off nI f.ci w' b0 b1 b2 b3 b4 b5 b6 b7 b8 b9 b10 b11 b12 x0 x1 x2 x3 x4 x5 x6 x7 x8 x9 x10 x11) ?_ ?_ ?_
  ·exact⟨false,false,false,false,false,false,false,false,false,false,false,false,false,undef,undef,undef,undef,undef,undef,undef,undef,undef,undef,undef,undef,rfl,by kernel_rfl,⟨fun _=>⟨(Below.refl _ _).drew,nofun,nofun,nofun,nofun,nofun⟩,nofun,nofun,nofun,nofun,nofun,nofun,nofun,nofun,nofun,nofun,nofun,nofun,nofun,nofun,nofun⟩⟩
  ·rintro i listed a' w' ⟨b0,b1,b2,b3,b4,b5,b6,b7,b8,b9,b10,b11,b12,x0,x1,x2,x3,x4,x5,x6,x7,x8,x9,x10,x11,rfl,rfl,hI⟩ hr
   have hi:=ready_lt hr
   have hun:=(mem_ready.1 hr).1
   simp only[List.size_toArray,List.length_cons,List.length_nil,Nat.zero_add,Nat.reduceAdd]at hi
   have hi':i=0∨i=1∨i=2∨i=3∨i=4∨i=5∨i=6∨i=7∨i=8∨i=9∨i=10∨i=11∨i=12:=by omega
   clear hi
   rcases hi' with rfl | rfl | rfl | rfl | rfl | rfl | rfl | rfl | rfl | rfl | rfl | rfl | rfl
   ·have hbi:b0=false:=by simpa using hun
    subst hbi 
    clear hr hun
    refine wpOp_step rfl (fun K hK=>?_)
    go_simp
    exact hK _ _ ⟨true,b1,b2,b3,b4,b5,b6,b7,b8,b9,b10,b11,b12,(.pointer (some ⟨gW,0,none⟩)),x1,x2,x3,x4,x5,x6,x7,x8,x9,x10,x11,rfl,by kernel_rfl,{ hI with f0:=fun _=>rfl }⟩
   ·have hbi:b1=false:=by simpa using hun
    have e0:b0=true:=by simpa using ready_dep hr rfl ⟨0,.data⟩ (by simp) rfl
    subst hbi e0
    clear hr hun
    obtain rfl:=hI.f0 rfl
    refine wpOp_step rfl (fun K hK=>?_)
    go_simp
    exact hK _ _ ⟨true,true,b2,b3,b4,b5,b6,b7,b8,b9,b10,b11,b12,(.pointer (some ⟨gW,0,none⟩)),(.pointer (some ⟨gW,0,none⟩)),x2,x3,x4,x5,x6,x7,x8,x9,x10,x11,rfl,by kernel_rfl,{ hI with f1:=fun _=>rfl }⟩
   ·have hbi:b2=false:=by simpa using hun
    have e1:b1=true:=by simpa using ready_dep hr rfl ⟨1,.data⟩ (by simp) rfl
    subst hbi e1
    clear hr hun
    obtain rfl:=hI.f1 rfl
    refine wpOp_step rfl (fun K hK=>?_)
    go_simp
    exact hK _ _ ⟨b0,true,true,b3,b4,b5,b6,b7,b8,b9,b10,b11,b12,x0,(.pointer (some ⟨gW,0,none⟩)),(.pointer (some ⟨gW,2,none⟩)),x3,x4,x5,x6,x7,x8,x9,x10,x11,rfl,by kernel_rfl,{ hI with f2:=fun _=>rfl }⟩
   ·have hbi:b3=false:=by simpa using hun
    have e2:b2=true:=by simpa using ready_dep hr rfl ⟨2,.data⟩ (by simp) rfl
    have n12:b12=false:=by
     cases hg:b12 with
     | false=>rfl
     | true=>have h9:=hI.c3 hg;rw[hbi]at h9;cases h9
    subst hbi e2 n12
    clear hr hun
    obtain rfl:=hI.f2 rfl
    have hP:=hI.P rfl
    have cx:=cell_later hP.1 c2
    refine wpOp_step rfl (fun K hK=>?_)
    go_simp
    exact hK _ _ ⟨b0,b1,true,true,b4,b5,b6,b7,b8,b9,b10,b11,false,x0,x1,(.pointer (some ⟨gW,2,none⟩)),(.slice (some ⟨b,off,none⟩) nI f.ci),x4,x5,x6,x7,x8,x9,x10,x11,rfl,by kernel_rfl,{ hI with c3:=fun _=>rfl,r:=nofun,f3:=fun _=>rfl }⟩
   ·have hbi:b4=false:=by simpa using hun
    subst hbi 
    clear hr hun
    refine wpOp_step rfl (fun K hK=>?_)
    go_simp
    exact hK _ _ ⟨b0,b1,b2,b3,true,b5,b6,b7,b8,b9,b10,b11,b12,x0,x1,x2,x3,(.int .i64 (nI:Int)),x5,x6,x7,x8,x9,x10,x11,rfl,by kernel_rfl,{ hI with f4:=fun _=>rfl }⟩
   ·have hbi:b5=false:=by simpa using hun
    have e4:b4=true:=by simpa using ready_dep hr rfl ⟨4,.data⟩ (by simp) rfl
    have n12:b12=false:=by
     cases hg:b12 with
     | false=>rfl
     | true=>have h9:=hI.c5 hg;rw[hbi]at h9;cases h9
    have n10:b10=false:=by
     cases hg:b10 with
     | false=>rfl
     | true=>have h9:=(hI.m10 hg).1;rw[hbi]at h9;cases h9
    subst hbi e4 n12 n10
    clear hr hun
    obtain rfl:=hI.f4 rfl
    have hP:=hI.P rfl
    refine wpOp_step rfl (fun K hK=>?_)
    go_simp
    exact hK _ _ ⟨b0,b1,b2,b3,true,true,b6,b7,b8,b9,false,b11,false,x0,x1,x2,x3,(.int .i64 (nI:Int)),(.slice (some ⟨w'.heap.size,0,none⟩) nI nI),x6,x7,x8,x9,x10,x11,rfl,by kernel_rfl,{ hI with P:=fun _=>⟨below_alloc hP.1 _,fun _=>⟨_,rfl,hP.1.size,blk_new _ _⟩,fun e=>(by obtain⟨g,e1,e2,e3⟩:=hP.2.2.1 e;exact⟨g,e1,e2,blk_old e3 _⟩),fun e=>(by obtain⟨g,e1,e2,e3⟩:=hP.2.2.2.1 e;exact⟨g,e1,e2,blk_old e3 _⟩),fun e=>(by obtain⟨g,e1,e2,e3⟩:=hP.2.2.2.2.1 e;exact⟨g,e1,e2,blk_old e3 _⟩),fun _ e=>(by obtain⟨g,e1,e2,e3⟩:=hP.2.2.1 e;rw[e1];intro q;injection q with q;injection q with q;injection q with q;have:=blk_lt e3;omega)⟩,c5:=fun _=>rfl,m10:=nofun,r:=nofun }⟩
   ·have hbi:b6=false:=by simpa using hun
    subst hbi 
    clear hr hun
    refine wpOp_step rfl (fun K hK=>?_)
    go_simp
    exact hK _ _ ⟨b0,b1,b2,b3,b4,b5,true,b7,b8,b9,b10,b11,b12,x0,x1,x2,x3,x4,x5,(.int .i64 (nI:Int)),x7,x8,x9,x10,x11,rfl,by kernel_rfl,{ hI with f6:=fun _=>rfl }⟩
   ·have hbi:b7=false:=by simpa using hun
    have e6:b6=true:=by simpa using ready_dep hr rfl ⟨6,.data⟩ (by simp) rfl
    have n12:b12=false:=by
     cases hg:b12 with
     | false=>rfl
     | true=>have h9:=hI.c7 hg;rw[hbi]at h9;cases h9
    have n10:b10=false:=by
     cases hg:b10 with
     | false=>rfl
     | true=>have h9:=(hI.m10 hg).2.1;rw[hbi]at h9;cases h9
    subst hbi e6 n12 n10
    clear hr hun
    obtain rfl:=hI.f6 rfl
    have hP:=hI.P rfl
    refine wpOp_step rfl (fun K hK=>?_)
    go_simp
    exact hK _ _ ⟨b0,b1,b2,b3,b4,b5,true,true,b8,b9,false,b11,false,x0,x1,x2,x3,x4,x5,(.int .i64 (nI:Int)),(.slice (some ⟨w'.heap.size,0,none⟩) nI nI),x8,x9,x10,x11,rfl,by kernel_rfl,{ hI with P:=fun _=>⟨below_alloc hP.1 _,fun e=>(by obtain⟨g,e1,e2,e3⟩:=hP.2.1 e;exact⟨g,e1,e2,blk_old e3 _⟩),fun _=>⟨_,rfl,hP.1.size,blk_new _ _⟩,fun e=>(by obtain⟨g,e1,e2,e3⟩:=hP.2.2.2.1 e;exact⟨g,e1,e2,blk_old e3 _⟩),fun e=>(by obtain⟨g,e1,e2,e3⟩:=hP.2.2.2.2.1 e;exact⟨g,e1,e2,blk_old e3 _⟩),fun e _=>(by obtain⟨g,e1,e2,e3⟩:=hP.2.1 e;rw[e1];intro q;injection q with q;injection q with q;injection q with q;have:=blk_lt e3;omega)⟩,c7:=fun _=>rfl,m10:=nofun,r:=nofun }⟩
   ·have hbi:b8=false:=by simpa using hun
    subst hbi 
    clear hr hun
    refine wpOp_step rfl (fun K hK=>?_)
    go_simp
    exact hK _ _ ⟨b0,b1,b2,b3,b4,b5,b6,b7,true,b9,b10,b11,b12,x0,x1,x2,x3,x4,x5,x6,x7,(.int .i64 (nI:Int)),x9,x10,x11,rfl,by kernel_rfl,{ hI with f8:=fun _=>rfl }⟩
   ·have hbi:b9=false:=by simpa using hun
    have e8:b8=true:=by simpa using ready_dep hr rfl ⟨8,.data⟩ (by simp) rfl
    have n12:b12=false:=by
     cases hg:b12 with
     | false=>rfl
     | true=>have h9:=hI.c9 hg;rw[hbi]at h9;cases h9
    have n10:b10=false:=by
     cases hg:b10 with
     | false=>rfl
     | true=>have h9:=(hI.m10 hg).2.2.1;rw[hbi]at h9;cases h9
    subst hbi e8 n12 n10
    clear hr hun
    obtain rfl:=hI.f8 rfl
    have hP:=hI.P rfl
    refine wpOp_step rfl (fun K hK=>?_)
    go_simp
    exact hK _ _ ⟨b0,b1,b2,b3,b4,b5,b6,b7,true,true,false,b11,false,x0,x1,x2,x3,x4,x5,x6,x7,(.int .i64 (nI:Int)),(.slice (some ⟨w'.heap.size,0,none⟩) nI nI),x10,x11,rfl,by kernel_rfl,{ hI with P:=fun _=>⟨below_alloc hP.1 _,fun e=>(by obtain⟨g,e1,e2,e3⟩:=hP.2.1 e;exact⟨g,e1,e2,blk_old e3 _⟩),fun e=>(by obtain⟨g,e1,e2,e3⟩:=hP.2.2.1 e;exact⟨g,e1,e2,blk_old e3 _⟩),fun _=>⟨_,rfl,hP.1.size,blk_new _ _⟩,fun e=>(by obtain⟨g,e1,e2,e3⟩:=hP.2.2.2.2.1 e;exact⟨g,e1,e2,blk_old e3 _⟩),hP.2.2.2.2.2⟩,c9:=fun _=>rfl,m10:=nofun,r:=nofun }⟩
   ·have hbi:b10=false:=by simpa using hun
    have e3:b3=true:=by simpa using ready_dep hr rfl ⟨3,.data⟩ (by simp) rfl
    have e5:b5=true:=by simpa using ready_dep hr rfl ⟨5,.data⟩ (by simp) rfl
    have e7:b7=true:=by simpa using ready_dep hr rfl ⟨7,.data⟩ (by simp) rfl
    have e9:b9=true:=by simpa using ready_dep hr rfl ⟨9,.data⟩ (by simp) rfl
    have n12:b12=false:=by
     cases hg:b12 with
     | false=>rfl
     | true=>have h9:=hI.c10 hg;rw[hbi]at h9;cases h9
    subst hbi e3 e5 e7 e9 n12
    clear hr hun
    obtain rfl:=hI.f3 rfl
    obtain⟨g5,rfl,h5a,h5b⟩:=(hI.P rfl).2.1 rfl
    obtain⟨g7,rfl,h7a,h7b⟩:=(hI.P rfl).2.2.1 rfl
    obtain⟨g9,rfl,h9a,h9b⟩:=(hI.P rfl).2.2.2.1 rfl
    refine wpOp_step rfl (fun K hK=>?_)
    go_simp
    exact hK _ _ ⟨b0,b1,b2,true,b4,true,b6,true,b8,true,true,b11,false,x0,x1,x2,(.slice (some ⟨b,off,none⟩) nI f.ci),x4,(.slice (some ⟨g5,0,none⟩) nI nI),x6,(.slice (some ⟨g7,0,none⟩) nI nI),x8,(.slice (some ⟨g9,0,none⟩) nI nI),(.agg #[.slice (some ⟨b,off,none⟩) nI f.ci,.slice (some ⟨g5,0,none⟩) nI nI,.slice (some ⟨g7,0,none⟩) nI nI,.slice none 0 0,.slice (some ⟨g9,0,none⟩) nI nI,.int .i64 0,.int .i64 (-1)]),x11,rfl,by kernel_rfl,{ hI with m10:=fun _=>⟨rfl,rfl,rfl,rfl⟩,c10:=fun _=>rfl,r:=nofun }⟩
   ·have hbi:b11=false:=by simpa using hun
    have n12:b12=false:=by
     cases hg:b12 with
     | false=>rfl
     | true=>have h9:=hI.c11 hg;rw[hbi]at h9;cases h9
    subst hbi n12
    clear hr hun
    have hP:=hI.P rfl
    refine wpOp_step rfl (fun K hK=>?_)
    go_simp
    exact hK _ _ ⟨b0,b1,b2,b3,b4,b5,b6,b7,b8,b9,b10,true,false,x0,x1,x2,x3,x4,x5,x6,x7,x8,x9,x10,(.pointer (some ⟨w'.heap.size,0,none⟩)),rfl,by kernel_rfl,{ hI with P:=fun _=>⟨below_alloc hP.1 _,fun e=>(by obtain⟨g,e1,e2,e3⟩:=hP.2.1 e;exact⟨g,e1,e2,blk_old e3 _⟩),fun e=>(by obtain⟨g,e1,e2,e3⟩:=hP.2.2.1 e;exact⟨g,e1,e2,blk_old e3 _⟩),fun e=>(by obtain⟨g,e1,e2,e3⟩:=hP.2.2.2.1 e;exact⟨g,e1,e2,blk_old e3 _⟩),fun _=>⟨_,rfl,hP.1.size,blk_new _ _⟩,hP.2.2.2.2.2⟩,c11:=fun _=>rfl,r:=nofun }⟩
   ·have hbi:b12=false:=by simpa using hun
    have e5:b5=true:=by simpa using ready_dep hr rfl ⟨5,.phase⟩ (by simp) rfl
    have e7:b7=true:=by simpa using ready_dep hr rfl ⟨7,.phase⟩ (by simp) rfl
    have e9:b9=true:=by simpa using ready_dep hr rfl ⟨9,.phase⟩ (by simp) rfl
    have e3:b3=true:=by simpa using ready_dep hr rfl ⟨3,.phase⟩ (by simp) rfl
    have e11:b11=true:=by simpa using ready_dep hr rfl ⟨11,.data⟩ (by simp) rfl
    have e10:b10=true:=by simpa using ready_dep hr rfl ⟨10,.data⟩ (by simp) rfl
    subst hbi e5 e7 e9 e3 e11 e10
    clear hr hun
    obtain⟨g5,rfl,h5a,h5b⟩:=(hI.P rfl).2.1 rfl
    obtain⟨g7,rfl,h7a,h7b⟩:=(hI.P rfl).2.2.1 rfl
    obtain⟨g9,rfl,h9a,h9b⟩:=(hI.P rfl).2.2.2.1 rfl
    obtain rfl:=hI.f3 rfl
    obtain⟨g11,rfl,h11a,h11b⟩:=(hI.P rfl).2.2.2.2.1 rfl
    obtain rfl:=(hI.m10 rfl).2.2.2
    have hP:=hI.P rfl
    have d0:w'.cell? ⟨g11,0,none⟩=some (.slice none 0 0):=by rw[blk_cell h11b];rfl
    have d1:w'.cell? ⟨g11,1,none⟩=some (.slice none 0 0):=by rw[blk_cell h11b];rfl
    have d2:w'.cell? ⟨g11,2,none⟩=some (.slice none 0 0):=by rw[blk_cell h11b];rfl
    have d3:w'.cell? ⟨g11,3,none⟩=some (.slice none 0 0):=by rw[blk_cell h11b];rfl
    have d4:w'.cell? ⟨g11,4,none⟩=some (.slice none 0 0):=by rw[blk_cell h11b];rfl
    have d5:w'.cell? ⟨g11,5,none⟩=some (.int .i64 0):=by rw[blk_cell h11b];rfl
    have d6:w'.cell? ⟨g11,6,none⟩=some (.int .i64 0):=by rw[blk_cell h11b];rfl
    have fz:=blk_frozen h11b
    have hn5:g11≠g5:=fun q=>rn_in h11b (by rw[q];exact h5b)
    have hn7:g11≠g7:=fun q=>rn_in h11b (by rw[q];exact h7b)
    have hn9:g11≠g9:=fun q=>rn_bo h11b (by rw[q];exact h9b)
    have hne:g5≠g7:=fun q=>hP.2.2.2.2.2 rfl rfl (by rw[q])
    have hfin:=rn_store hP.1 h11a h11b h5b h7b h9b hn5 hn7 hn9 (.slice (some ⟨b,off,none⟩) nI f.ci) (.slice (some ⟨g5,0,none⟩) nI nI) (.slice (some ⟨g7,0,none⟩) nI nI) (.slice (some ⟨g9,0,none⟩) nI nI)
    refine wpOp_step rfl (fun K hK=>?_)
    go_simp
    exact hK _ _ ⟨b0,b1,b2,true,b4,true,b6,true,b8,true,true,true,true,x0,x1,x2,(.slice (some ⟨b,off,none⟩) nI f.ci),x4,(.slice (some ⟨g5,0,none⟩) nI nI),x6,(.slice (some ⟨g7,0,none⟩) nI nI),x8,(.slice (some ⟨g9,0,none⟩) nI nI),(.agg #[.slice (some ⟨b,off,none⟩) nI f.ci,.slice (some ⟨g5,0,none⟩) nI nI,.slice (some ⟨g7,0,none⟩) nI nI,.slice none 0 0,.slice (some ⟨g9,0,none⟩) nI nI,.int .i64 0,.int .i64 (-1)]),(.pointer (some ⟨g11,0,none⟩)),rfl,by kernel_rfl,{ hI with P:=nofun,r:=fun _=>⟨g11,g5,g7,g9,rfl,hfin.1,hfin.2.1,hfin.2.2.1,hfin.2.2.2.1,hfin.2.2.2.2,hne,h11a,h5a,h7a,h9a⟩,c3:=fun _=>rfl,c5:=fun _=>rfl,c7:=fun _=>rfl,c9:=fun _=>rfl,c10:=fun _=>rfl,c11:=fun _=>rfl }⟩
  ·rintro listed a' w' ⟨b0,b1,b2,b3,b4,b5,b6,b7,b8,b9,b10,b11,b12,x0,x1,x2,x3,x4,x5,x6,x7,x8,x9,x10,x11,rfl,rfl,hI⟩ hrd
   have e0:b0=true:=by simpa using ready_nextb hrd 0 rfl (by simp[Region.binds])
   have e1:b1=true:=by simpa using ready_nextb hrd 1 rfl (by simp[Region.binds,e0])
   have e2:b2=true:=by simpa using ready_nextb hrd 2 rfl (by simp[Region.binds,e0,e1])
   have e3:b3=true:=by simpa using ready_nextb hrd 3 rfl (by simp[Region.binds,e0,e1,e2])
   have e4:b4=true:=by simpa using ready_nextb hrd 4 rfl (by simp[Region.binds,e0,e1,e2,e3])
   have e5:b5=true:=by simpa using ready_nextb hrd 5 rfl (by simp[Region.binds,e0,e1,e2,e3,e4])
   have e6:b6=true:=by simpa using ready_nextb hrd 6 rfl (by simp[Region.binds,e0,e1,e2,e3,e4,e5])
   have e7:b7=true:=by simpa using ready_nextb hrd 7 rfl (by simp[Region.binds,e0,e1,e2,e3,e4,e5,e6])
   have e8:b8=true:=by simpa using ready_nextb hrd 8 rfl (by simp[Region.binds,e0,e1,e2,e3,e4,e5,e6,e7])
   have e9:b9=true:=by simpa using ready_nextb hrd 9 rfl (by simp[Region.binds,e0,e1,e2,e3,e4,e5,e6,e7,e8])
   have e10:b10=true:=by simpa using ready_nextb hrd 10 rfl (by simp[Region.binds,e0,e1,e2,e3,e4,e5,e6,e7,e8,e9])
   have e11:b11=true:=by simpa using ready_nextb hrd 11 rfl (by simp[Region.binds,e0,e1,e2,e3,e4,e5,e6,e7,e8,e9,e10])
   have e12:b12=true:=by simpa using ready_nextb hrd 12 rfl (by simp[Region.binds,e0,e1,e2,e3,e4,e5,e6,e7,e8,e9,e10,e11])
   subst e0 e1 e2 e3 e4 e5 e6 e7 e8 e9 e10 e11 e12
   clear hrd
   have hd:=hI.r rfl
   clear hI
   go_wp2_with fail
   go_simp
   go_meet
   exact hd
 case rest =>
  obtain⟨gR,gm,gl,gf,rfl,HBx,hR,hm,hl,hf,hne⟩:=hcut
  have HR0:Hid (RnV w [] W0.heap.size gR gm gl gf nI iv wc (.slice none 0 0) tj0):=by
   refine⟨HW.out.base,?_,?_,?_,?_,ORow.nil _ _ _ _ _,hne.out.1,(fun e=>by cases e),(fun e=>by cases e),ButL.of_below HBx.out,.inr hne.out.2.1,.inr hne.out.2.2.1,.inr hne.out.2.2.2.1,.inr hne.out.2.2.2.2,fun g e=>by cases e⟩
   ·rw[HIV.out];exact hR.out
   ·show _=some (Obj.cells (fnA nI fun _=>.int .i64 0) _);rw[fnA_rep];exact hm.out
   ·show _=some (Obj.cells (fnA nI fun _=>.int .i64 0) _);rw[fnA_rep];exact hl.out
   ·show _=some (Obj.cells (fnA nI fun _=>.bool false) _);rw[←mb_rep];exact hf.out
  have HNE:Hid (W0.heap.size≤gR∧W0.heap.size≤gm∧W0.heap.size≤gl∧W0.heap.size≤gf):=⟨Nat.le_trans HW.out.base hne.out.2.1,Nat.le_trans HW.out.base hne.out.2.2.1,Nat.le_trans HW.out.base hne.out.2.2.2.1,Nat.le_trans HW.out.base hne.out.2.2.2.2⟩
  have c2':wc.cell? ⟨gW,2,none⟩=some (.slice (some ⟨b,off,none⟩) nI f.ci):=cell_later HBx.out c2
  clear hR hm hl hf hne hmB hmI c2
  have HRC:Hid (∀i,(∃x,(zs.map SR.o)[i]?=some (some x))→i<nI):=fun i hi=>by
   obtain⟨x,hx⟩:=hi
   have h9:=(List.getElem?_eq_some_iff.1 hx).1
   rw[List.length_map,HW.out.len]at h9
   exact h9
  have HCE:Hid (∀x y,(∃v,(zs.map SR.o)[x]?=some (some v))→y∈EP f.d x→∃v,(zs.map SR.o)[y]?=some (some v)):=fun x y hx hy=>by
   have hlt:=HRC.out x hx
   obtain⟨n,hn⟩:∃n,f.d.ins[x]?=some n:=⟨f.d.ins[x]'(by rw[HC.out.ok.ins];exact hlt),by simp⟩
   refine HCL.out x n hn hx y ?_
   unfold EP at hy
   rw[List.getD_eq_getElem?_getD,hn]at hy
   exact hy
  go_wp2_with fail
  clear c2'
  go_loopw [27] (fun i wr=>∃(j:Nat) (ov:Value) (s:TJ.S),j≤nI∧i=.int .i64 j∧Hid (RnV w [] W0.heap.size gR gm gl gf nI iv wr ov s)∧Hid (TJ.W (EP f.d) s [])∧Hid (RnK nI s)∧Hid (∀i,i<j→(∃x,(zs.map SR.o)[i]?=some (some x))→s.met i≠0)∧Hid (∀i,s.met i≠0→∃x,(zs.map SR.o)[i]?=some (some x))) (fun i _=>nI-(intOf i).toNat)
  case atStart=>exact⟨0,_,_,Nat.zero_le _,rfl,HR0,tj0_w _,tj0_k _,fun i hi=>absurd hi (by omega),fun i hi=>absurd rfl hi⟩
  case round =>
   clear HR0
   obtain⟨j,ov,s,hj,rfl,HR,HTW,HK,HD,HM⟩:=hrel
   obtain⟨q0,q1,q2,q3,q4,q5,q6⟩:=HR.out.cells
   have HBr:Hid (Below w.heap.size w wr):=ButL.nil HR.out.but
   by_cases k1:j<nI
   ·obtain⟨z,hz⟩:∃z,zs[j]?=some z:=⟨zs[j]'(by rw[HW.out.len];exact k1),by simp⟩
    have hWr:=HW.out.later HBr.out
    obtain⟨_,_,_,w3,_⟩:=hWr.cells
    obtain⟨r0,_,_⟩:=hWr.row hz
    obtain⟨mj,lj,oj⟩:=HR.out.at_ k1
    have HZO:Hid ((zs.map SR.o)[j]?=some z.o):=by show _=_;rw[List.getElem?_map,hz];rfl
    clear hWr hz
    cases hzo:z.o with
    | none =>
     rw[hzo]at r0
     have r0:wr.cell? ⟨gS,j*3,none⟩=some (.bool false):=r0
     have HD2:Hid (∀i,i<j+1→(∃x,(zs.map SR.o)[i]?=some (some x))→s.met i≠0):=fun i hi hx=>by
      by_cases e:i=j
      ·obtain⟨x,hx⟩:=hx
       rw[e,HZO.out,hzo]at hx
       cases hx
      ·exact HD.out i (by omega) hx
     go_wp2_with fail
     go_roundw
     case rel=>exact⟨j+1,ov,s,by omega,by go_num,HR,HTW,HK,HD2,HM⟩
     case measure=>simp[intOf];omega
    | some x =>
     rw[hzo]at r0
     have r0:wr.cell? ⟨gS,j*3,none⟩=some (.bool true):=r0
     have HRJ:Hid (∃x,(zs.map SR.o)[j]?=some (some x)):=⟨x,by rw[HZO.out,hzo]⟩
     by_cases hmj:s.met j=0
     ·rw[hmj]at mj
      have mj:wr.cell? ⟨gm,j,none⟩=some (.int .i64 0):=mj
      go_wp2_with fail
      refine (visit_any W0 aC cap xs p nR nI nP f E cv iv HC.out gR gm gl gf HNE.out.1 HNE.out.2.1 HNE.out.2.2.1 HNE.out.2.2.2 (unm nI s.met) _ j [] ov s (Nat.le_refl _) k1 hmj HTW.out (fun g hg=>by cases hg) HK.out HR.out.anew (HB.out.trans (HBr.out.mono HW.out.base))).mono ?_
      rintro e w11 ⟨rfl,ov2,s2,hv2,hV,hk2,hn2⟩
      have HR2:Hid (RnV w [] W0.heap.size gR gm gl gf nI iv w11 ov2 s2):=hv2.back HW.out.base HR.out.but (fun g hg=>(HR.out.own g hg).1)
      have HTW2:Hid (TJ.W (EP f.d) s2 []):=hV.w
      have HK2:Hid (RnK nI s2):=hk2
      have HD2:Hid (∀i,i<j+1→(∃x,(zs.map SR.o)[i]?=some (some x))→s2.met i≠0):=fun i hi hx=>by
       by_cases e:i=j
       ·rw[e];exact hV.at_
       ·have h9:=HD.out i (by omega) hx
        rw[hV.met i h9];exact h9
      have HM2:Hid (∀i,s2.met i≠0→∃x,(zs.map SR.o)[i]?=some (some x)):=fun i hi=>by
       by_cases e:s.met i=0
       ·exact TJ.R.closed (P:=fun i=>∃x,(zs.map SR.o)[i]?=some (some x)) HCE.out HRJ.out (hn2 i e hi)
       ·exact HM.out i e
      clear hv2 hV hk2 hn2
      go_wp2_with fail
      go_roundw
      case rel=>exact⟨j+1,ov2,s2,by omega,by go_num,HR2,HTW2,HK2,HD2,HM2⟩
      case measure=>simp[intOf];omega
     ·have tm:(((s.met j:Nat):Int) == 0)=false:=by simpa using (by omega:¬((s.met j:Nat):Int)=0)
      have HD2:Hid (∀i,i<j+1→(∃x,(zs.map SR.o)[i]?=some (some x))→s.met i≠0):=fun i hi hx=>by
       by_cases e:i=j
       ·rw[e];exact hmj
       ·exact HD.out i (by omega) hx
      go_wp2_with fail
      go_roundw
      case rel=>exact⟨j+1,ov,s,by omega,by go_num,HR,HTW,HK,HD2,HM⟩
      case measure=>simp[intOf];omega
   ·have ej:j=nI:=by omega
    subst ej
    have HLR:Hid (LrP (zs.map SR.o) f.d s.least):=by
     have hop:=HTW.out.none
     have hoff:∀i,(∃x,(zs.map SR.o)[i]?=some (some x))→s.off i=true:=fun i hi=>by
      have h9:=(HTW.out.m1 i).1 (HD.out i (HRC.out i hi) hi)
      rw[hop]at h9
      rcases h9 with q | q
      ·cases q
      ·exact q
     have hsame:∀x y,y∈EP f.d x↔y∈EE f.d x:=fun x y=>(silS_mem _ _ _).symm
     rcases HTW.out.lst with ⟨e,hno⟩ | ⟨l,e,hlo,hlc,hll⟩
     ·show LrP _ _ _
      rw[e]
      exact fun i hi hc=>hno i (hoff i hi) ((Cyc_same hsame i).2 hc)
     ·show LrP _ _ _
      rw[e]
      exact fun due=>⟨HM.out l ((HTW.out.m1 l).2 (.inr hlo)),(Cyc_same hsame l).1 hlc,fun j hj hx hc=>by have:=hll j (hoff j hx) ((Cyc_same hsame j).2 hc);omega⟩
    obtain⟨ll,hll⟩:∃ll,lsI s.least=ll:=⟨_,rfl⟩
    rw[hll]at q6
    have HLL:Hid (lsI s.least=ll):=hll
    clear hll
    go_wp2_with fail
    go_ret
    exact⟨s.least,by rw[HLL.out];rfl,HLR.out,HBr.out⟩
end Go.Proofs.YtjglgbepobmjhaaGreatDoor
