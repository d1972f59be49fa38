import Derived.Test.YtjglgbepobmjhaaGreatDoorP27
import Derived.Test.YtjglgbepobmjhaaGreatDoorP29
import Derived.Test.YtjglgbepobmjhaaGreatDoorP16
import Derived.Test.YtjglgbepobmjhaaGreatDoorP18
import Derived.Test.YtjglgbepobmjhaaGreatDoorP19
import Derived.Deep.CutRange
set_option linter.unusedVariables false
set_option linter.unusedSimpArgs false
set_option maxRecDepth 20000
set_option maxHeartbeats 8000000
namespace Go.Proofs.YtjglgbepobmjhaaGreatDoor
open Go.RowKit
theorem silentV_few (n:ID) (a:Nat):(silentV n a).length≤10:=by
 unfold silentV
 split<;>split<;>simp
def EP (d:FD):Nat→List Nat:=fun x=>silentV (d.ins.getD x id0) x
theorem RnV.down {W0:World} {w:World} {S:List Nat} {gR gm gl gf nI:Nat} {iv:Value} {wr:World} {ov:Value} {s:TJ.S} (h:RnV w S W0.heap.size gR gm gl gf nI iv wr ov s) (hb:Below W0.heap.size W0 w) (hS:∀g∈S,W0.heap.size≤g):Below W0.heap.size W0 wr:=h.but.below hb hS h.base
theorem rnS_ge {W0:World} {w:World} {S:List Nat} {gR gm gl gf nI:Nat} {iv:Value} {wr:World} {ov:Value} {s:TJ.S} (h:RnV w S W0.heap.size gR gm gl gf nI iv wr ov s) (h1:W0.heap.size≤gR) (h2:W0.heap.size≤gm) (h3:W0.heap.size≤gl) (h4:W0.heap.size≤gf):∀g∈rnS gR gm gl gf ov,W0.heap.size≤g:=by
 intro g hg
 simp only[rnS,List.mem_cons,Option.mem_toList]at hg
 rcases hg with e | e | e | e | e
 ·rw[e];exact h1
 ·rw[e];exact h2
 ·rw[e];exact h3
 ·rw[e];exact h4
 ·exact (h.opn.own_lt e).1
structure R93 (w1 w2 w3:World) (gR gm gl nI a c:Nat) (w':World) (b0 b1 b2 b3 b4 b5 b6 b7 b8 b9 b10 b11 b12 b13 b14 b15 b16 b17 b18 b19 b20 b21:Bool) (x0 x1 x2 x3 x4 x5 x6 x7 x8 x9 x10 x11 x12 x13 x14 x15 x16 x17 x18 x20:Value):Prop where
 w0:b19=false→w'=w1.drew
 w1_:b19=true→b21=false→w'=w2.drew
 w2_:b21=true→w'=w3.drew
 c3:b19=true→b3=true
 c8:b19=true→b8=true
 c13:b19=true→b13=true
 c17:b19=true→b17=true
 c21:b21=true→b19=true
 f0:b0=true→x0=.pointer (some ⟨gR,0,none⟩)
 f1:b1=true→x1=.pointer (some ⟨gR,0,none⟩)
 f2:b2=true→x2=.pointer (some ⟨gR,1,none⟩)
 f3:b3=true→x3=.slice (some ⟨gm,0,none⟩) nI nI
 f4:b4=true→x4=.int .i64 (a:Int)
 f5:b5=true→x5=.pointer (some ⟨gR,0,none⟩)
 f6:b6=true→x6=.pointer (some ⟨gR,0,none⟩)
 f7:b7=true→x7=.pointer (some ⟨gR,2,none⟩)
 f8:b8=true→x8=.slice (some ⟨gl,0,none⟩) nI nI
 f9:b9=true→x9=.int .i64 (a:Int)
 f10:b10=true→x10=.pointer (some ⟨gR,0,none⟩)
 f11:b11=true→x11=.pointer (some ⟨gR,0,none⟩)
 f12:b12=true→x12=.pointer (some ⟨gR,5,none⟩)
 f13:b13=true→x13=.int .i64 ((c:Int)+1)
 f14:b14=true→x14=.pointer (some ⟨gR,0,none⟩)
 f15:b15=true→x15=.pointer (some ⟨gR,0,none⟩)
 f16:b16=true→x16=.pointer (some ⟨gR,5,none⟩)
 f17:b17=true→x17=.int .i64 ((c:Int)+1)
 f18:b18=true→x18=.pointer (some ⟨gm,a,none⟩)
 f20:b20=true→x20=.pointer (some ⟨gl,a,none⟩)
structure R03 (w1:World) (gR gl nI a y lA lY:Nat) (w':World) (b0 b1 b2 b3 b4 b5 b6 b7 b8 b9 b10 b11 b12 b13 b14 b15 b16 b17 b18 b19 b20 b21:Bool) (x0 x1 x2 x3 x4 x5 x6 x7 x8 x9 x10 x11 x12 x13 x14 x15 x16 x17 x18 x19 x20:Value):Prop where
 w0:b21=false→w'=w1.drew
 w1_:b21=true→w'=(w1.setCell ⟨gl,a,none⟩ (.int .i64 (if lY<lA then (lY:Int) else (lA:Int)))).drew
 c3:b21=true→b3=true
 c8:b21=true→b8=true
 c11:b21=true→b11=true
 c15:b21=true→b15=true
 c18:b21=true→b18=true
 f0:b0=true→x0=.pointer (some ⟨gR,0,none⟩)
 f1:b1=true→x1=.pointer (some ⟨gR,0,none⟩)
 f2:b2=true→x2=.pointer (some ⟨gR,2,none⟩)
 f3:b3=true→x3=.slice (some ⟨gl,0,none⟩) nI nI
 f4:b4=true→x4=.int .i64 (a:Int)
 f5:b5=true→x5=.pointer (some ⟨gR,0,none⟩)
 f6:b6=true→x6=.pointer (some ⟨gR,0,none⟩)
 f7:b7=true→x7=.pointer (some ⟨gR,2,none⟩)
 f8:b8=true→x8=.slice (some ⟨gl,0,none⟩) nI nI
 f9:b9=true→x9=.int .i64 (a:Int)
 f10:b10=true→x10=.pointer (some ⟨gl,a,none⟩)
 f11:b11=true→x11=.int .i64 (lA:Int)
 f12:b12=true→x12=.pointer (some ⟨gR,0,none⟩)
 f13:b13=true→x13=.pointer (some ⟨gR,0,none⟩)
 f14:b14=true→x14=.pointer (some ⟨gR,2,none⟩)
 f15:b15=true→x15=.slice (some ⟨gl,0,none⟩) nI nI
 f16:b16=true→x16=.int .i64 (y:Int)
 f17:b17=true→x17=.pointer (some ⟨gl,y,none⟩)
 f18:b18=true→x18=.int .i64 (lY:Int)
 f19:b19=true→x19=.int .i64 (if lY<lA then (lY:Int) else (lA:Int))
 f20:b20=true→x20=.pointer (some ⟨gl,a,none⟩)
theorem visit_any (W0:World) (aC:Option Addr) (cap:Nat) (xs:List FC) (p nR nI nP:Nat) (f:FC) (E0:Nat→List Nat) (cv iv:Value) (C:WCx W0 aC cap xs p nR nI nP f E0 cv iv) (gR gm gl gf:Nat) (g1:W0.heap.size≤gR) (g2:W0.heap.size≤gm) (g3:W0.heap.size≤gl) (g4:W0.heap.size≤gf):∀(m:Nat) (w:World) (a:Nat) (G:List Nat) (ov:Value) (s:TJ.S),unm nI s.met≤m→a<nI→s.met a=0→TJ.W (EP f.d) s G→(∀g∈G,TJ.R (EP f.d) g a)→RnK nI s→RnV w (rnS gR gm gl gf ov) W0.heap.size gR gm gl gf nI iv w ov s→Below W0.heap.size W0 w →
  Calls Tryz.prog 72 #[.pointer (some ⟨gR,0,none⟩),.int .i64 a] w (VsA (EP f.d) a G W0.heap.size gR gm gl gf nI iv w ov s):=by
 intro m
 induction m with
 | zero =>
  intro w a G ov s hm ha h0
  have:=unm_push (n:=nI) (v:=1) (met:=s.met) ha h0 (by omega)
  omega
 | succ m ih =>
  intro w a G ov s hm ha h0 hW hG hK h hB
  obtain⟨aO,cO,hovv⟩:=h.opn.val
  rw[nz_len]at hovv
  subst hovv
  have HIH:Hid (∀(w:World) (a:Nat) (G:List Nat) (ov:Value) (s:TJ.S),unm nI s.met≤m→a<nI→s.met a=0→TJ.W (EP f.d) s G→(∀g∈G,TJ.R (EP f.d) g a)→RnK nI s→RnV w (rnS gR gm gl gf ov) W0.heap.size gR gm gl gf nI iv w ov s→Below W0.heap.size W0 w→Calls Tryz.prog 72 #[.pointer (some ⟨gR,0,none⟩),.int .i64 a] w (VsA (EP f.d) a G W0.heap.size gR gm gl gf nI iv w ov s)):=ih
  have HI0:Hid (TJ.I (EP f.d) a G s (TJ.push s a) []):=TJ.push_I hW h0 hG
  have HK0:Hid (RnK nI (TJ.push s a)):=hK.push ha h0
  have HG:Hid (∀g∈G,TJ.R (EP f.d) g a):=hG
  have HC:Hid (WCx W0 aC cap xs p nR nI nP f E0 cv iv):=C
  have hI1:=C.ok.ins1
  have hcn:s.count+1≤nI:=by have:=unm_push (n:=nI) (v:=1) (met:=s.met) ha h0 (by omega);have:=hK.cnt;omega
  have hol:s.op.length≤6000:=by have:=hK.opl;omega
  have h1:=h.setCount (s.count+1)
  obtain⟨c0,c1,c2,c3,c4,c5,c6⟩:=h.cells
  have z5:=blk_frozen h.blk 5
  obtain⟨w1,hw1⟩:∃w1,w.setCell ⟨gR,5,none⟩ (.int .i64 ((s.count:Int)+1))=w1:=⟨_,rfl⟩
  have e1:(((s.count+1:Nat)):Int)=(s.count:Int)+1:=by omega
  rw[e1,hw1]at h1
  obtain⟨d0,d1,d2,d3,d4,d5,d6⟩:=h1.cells
  rw[e1]at d5
  obtain⟨dm,dl,_⟩:=h1.at_ ha
  have zm:=blk_frozen h1.met a
  have h2:=h1.setMet a (s.count+1)
  rw[e1]at h2
  obtain⟨w2,hw2⟩:∃w2,w1.setCell ⟨gm,a,none⟩ (.int .i64 ((s.count:Int)+1))=w2:=⟨_,rfl⟩
  rw[hw2]at h2
  obtain⟨_,el,_⟩:=h2.at_ ha
  have zl:=blk_frozen h2.low a
  have h3:=h2.setLow a (s.count+1)
  rw[e1]at h3
  obtain⟨w3,hw3⟩:∃w3,w2.setCell ⟨gl,a,none⟩ (.int .i64 ((s.count:Int)+1))=w3:=⟨_,rfl⟩
  rw[hw3]at h3
  obtain⟨f0,f1,f2,f3,f4,f5,f6⟩:=h3.cells
  have hwr:IntKind.i64.wrap ((s.count:Int)+1)=(s.count:Int)+1:=by rw[IntKind.wrap_i64];omega
  have H3:Hid _:=h3
  clear h1 h2 h3 hK hG hW
  clear c0 c1 c2 c3 c4 c6 d0 d3 d4 d6
  go_enter Tryz.func72,Tryz.ntmps72
  go_wp2_with fail
  go_cut [] from 15 to 34 (fun wx=>wx=w3.drew)
  case first =>
   refine wp_region_inv (by kernel_rfl) (fun base listed a' w'=>∃b0 b1 b2 b3 b4 b5 b6 b7 b8 b9 b10 b11 b12 b13 b14 b15 b16 b17 b18 b19 b20 b21 x0 x1 x2 x3 x4 x5 x6 x7 x8 x9 x10 x11 x12 x13 x14 x15 x16 x17 x18 x20,listed=#[b0,b1,b2,b3,b4,b5,b6,b7,b8,b9,b10,b11,b12,b13,b14,b15,b16,b17,b18,b19,b20,b21]∧a'=((((((((((((((((((((base.put (some 15) x0).put (some 16) x1).put (some 17) x2).put (some 18) x3).put (some 19) x4).put (some 20) x5).put (some 21) x6).put (some 22) x7).put (some 23) x8).put (some 24) x9).put (some 25) x10).put (some 26) x11).put (some 27) x12).put (some 28) x13).put (some 29) x14).put (some 30) x15).put (some 31) x16).put (some 32) x17).put (some 33) x18).put (some 34) x20)∧R93 w1 w2 w3 gR gm gl nI a s.count w' b0 b1 b2 b3 b4 b5 b6 b7 b8 b9 b10 b11 b12 b13 b14 b15 b16 b17 b18 b19 b20 b21 x0 x1 x2 x3 x4 x5 x6 x7 x8 x9 x10 x11 x12 x13 x14 x15 x16 x17 x18 x20) ?_ ?_ ?_
   ·exact⟨false,false,false,false,false,false,false,false,false,false,false,false,false,false,false,false,false,false,false,false,false,false,undef,undef,undef,undef,undef,undef,undef,undef,undef,undef,undef,undef,undef,undef,undef,undef,undef,undef,undef,undef,rfl,by kernel_rfl,⟨fun _=>rfl,nofun,nofun,nofun,nofun,nofun,nofun,nofun,nofun,nofun,nofun,nofun,nofun,nofun,nofun,nofun,nofun,nofun,nofun,nofun,nofun,nofun,nofun,nofun,nofun,nofun,nofun,nofun⟩⟩
   ·rintro i listed a' w' ⟨b0,b1,b2,b3,b4,b5,b6,b7,b8,b9,b10,b11,b12,b13,b14,b15,b16,b17,b18,b19,b20,b21,x0,x1,x2,x3,x4,x5,x6,x7,x8,x9,x10,x11,x12,x13,x14,x15,x16,x17,x18,x20,rfl,rfl,hI⟩ hr
    have hi:=ready_lt hr
    have hun:=(mem_ready.1 hr).1
    simp only[List.size_toArray,List.length_cons,List.length_nil,Nat.zero_add,Nat.reduceAdd]at hi
    have hi':i=0∨i=1∨i=2∨i=3∨i=4∨i=5∨i=6∨i=7∨i=8∨i=9∨i=10∨i=11∨i=12∨i=13∨i=14∨i=15∨i=16∨i=17∨i=18∨i=19∨i=20∨i=21:=by omega
    clear hi
    rcases hi' with rfl | rfl | rfl | rfl | rfl | rfl | rfl | rfl | rfl | rfl | rfl | rfl | rfl | rfl | rfl | rfl | rfl | rfl | rfl | rfl | rfl | rfl
    ·have hbi:b0=false:=by simpa using hun
     subst hbi 
     clear hr hun
     refine wpOp_step rfl (fun K hK=>?_)
     go_simp
     exact hK _ _ ⟨true,b1,b2,b3,b4,b5,b6,b7,b8,b9,b10,b11,b12,b13,b14,b15,b16,b17,b18,b19,b20,b21,(.pointer (some ⟨gR,0,none⟩)),x1,x2,x3,x4,x5,x6,x7,x8,x9,x10,x11,x12,x13,x14,x15,x16,x17,x18,x20,rfl,by kernel_rfl,{ hI with f0:=fun _=>rfl }⟩
    ·have hbi:b1=false:=by simpa using hun
     have e0:b0=true:=by simpa using ready_dep hr rfl ⟨0,.data⟩ (by simp) rfl
     subst hbi e0
     clear hr hun
     obtain rfl:=hI.f0 rfl
     refine wpOp_step rfl (fun K hK=>?_)
     go_simp
     exact hK _ _ ⟨true,true,b2,b3,b4,b5,b6,b7,b8,b9,b10,b11,b12,b13,b14,b15,b16,b17,b18,b19,b20,b21,(.pointer (some ⟨gR,0,none⟩)),(.pointer (some ⟨gR,0,none⟩)),x2,x3,x4,x5,x6,x7,x8,x9,x10,x11,x12,x13,x14,x15,x16,x17,x18,x20,rfl,by kernel_rfl,{ hI with f1:=fun _=>rfl }⟩
    ·have hbi:b2=false:=by simpa using hun
     have e1:b1=true:=by simpa using ready_dep hr rfl ⟨1,.data⟩ (by simp) rfl
     subst hbi e1
     clear hr hun
     obtain rfl:=hI.f1 rfl
     refine wpOp_step rfl (fun K hK=>?_)
     go_simp
     exact hK _ _ ⟨b0,true,true,b3,b4,b5,b6,b7,b8,b9,b10,b11,b12,b13,b14,b15,b16,b17,b18,b19,b20,b21,x0,(.pointer (some ⟨gR,0,none⟩)),(.pointer (some ⟨gR,1,none⟩)),x3,x4,x5,x6,x7,x8,x9,x10,x11,x12,x13,x14,x15,x16,x17,x18,x20,rfl,by kernel_rfl,{ hI with f2:=fun _=>rfl }⟩
    ·have hbi:b3=false:=by simpa using hun
     have e2:b2=true:=by simpa using ready_dep hr rfl ⟨2,.data⟩ (by simp) rfl
     have n19:b19=false:=by
      cases hg:b19 with
      | false=>rfl
      | true=>have h9:=hI.c3 hg;rw[hbi]at h9;cases h9
     subst hbi e2 n19
     clear hr hun
     obtain rfl:=hI.f2 rfl
     obtain rfl:=hI.w0 rfl
     refine wpOp_step rfl (fun K hK=>?_)
     go_simp
     exact hK _ _ ⟨b0,b1,true,true,b4,b5,b6,b7,b8,b9,b10,b11,b12,b13,b14,b15,b16,b17,b18,false,b20,b21,x0,x1,(.pointer (some ⟨gR,1,none⟩)),(.slice (some ⟨gm,0,none⟩) nI nI),x4,x5,x6,x7,x8,x9,x10,x11,x12,x13,x14,x15,x16,x17,x18,x20,rfl,by kernel_rfl,{ hI with c3:=fun _=>rfl,f3:=fun _=>rfl }⟩
    ·have hbi:b4=false:=by simpa using hun
     subst hbi 
     clear hr hun
     refine wpOp_step rfl (fun K hK=>?_)
     go_simp
     exact hK _ _ ⟨b0,b1,b2,b3,true,b5,b6,b7,b8,b9,b10,b11,b12,b13,b14,b15,b16,b17,b18,b19,b20,b21,x0,x1,x2,x3,(.int .i64 (a:Int)),x5,x6,x7,x8,x9,x10,x11,x12,x13,x14,x15,x16,x17,x18,x20,rfl,by kernel_rfl,{ hI with f4:=fun _=>rfl }⟩
    ·have hbi:b5=false:=by simpa using hun
     subst hbi 
     clear hr hun
     refine wpOp_step rfl (fun K hK=>?_)
     go_simp
     exact hK _ _ ⟨b0,b1,b2,b3,b4,true,b6,b7,b8,b9,b10,b11,b12,b13,b14,b15,b16,b17,b18,b19,b20,b21,x0,x1,x2,x3,x4,(.pointer (some ⟨gR,0,none⟩)),x6,x7,x8,x9,x10,x11,x12,x13,x14,x15,x16,x17,x18,x20,rfl,by kernel_rfl,{ hI with f5:=fun _=>rfl }⟩
    ·have hbi:b6=false:=by simpa using hun
     have e5:b5=true:=by simpa using ready_dep hr rfl ⟨5,.data⟩ (by simp) rfl
     subst hbi e5
     clear hr hun
     obtain rfl:=hI.f5 rfl
     refine wpOp_step rfl (fun K hK=>?_)
     go_simp
     exact hK _ _ ⟨b0,b1,b2,b3,b4,true,true,b7,b8,b9,b10,b11,b12,b13,b14,b15,b16,b17,b18,b19,b20,b21,x0,x1,x2,x3,x4,(.pointer (some ⟨gR,0,none⟩)),(.pointer (some ⟨gR,0,none⟩)),x7,x8,x9,x10,x11,x12,x13,x14,x15,x16,x17,x18,x20,rfl,by kernel_rfl,{ hI with f6:=fun _=>rfl }⟩
    ·have hbi:b7=false:=by simpa using hun
     have e6:b6=true:=by simpa using ready_dep hr rfl ⟨6,.data⟩ (by simp) rfl
     subst hbi e6
     clear hr hun
     obtain rfl:=hI.f6 rfl
     refine wpOp_step rfl (fun K hK=>?_)
     go_simp
     exact hK _ _ ⟨b0,b1,b2,b3,b4,b5,true,true,b8,b9,b10,b11,b12,b13,b14,b15,b16,b17,b18,b19,b20,b21,x0,x1,x2,x3,x4,x5,(.pointer (some ⟨gR,0,none⟩)),(.pointer (some ⟨gR,2,none⟩)),x8,x9,x10,x11,x12,x13,x14,x15,x16,x17,x18,x20,rfl,by kernel_rfl,{ hI with f7:=fun _=>rfl }⟩
    ·have hbi:b8=false:=by simpa using hun
     have e7:b7=true:=by simpa using ready_dep hr rfl ⟨7,.data⟩ (by simp) rfl
     have n19:b19=false:=by
      cases hg:b19 with
      | false=>rfl
      | true=>have h9:=hI.c8 hg;rw[hbi]at h9;cases h9
     subst hbi e7 n19
     clear hr hun
     obtain rfl:=hI.f7 rfl
     obtain rfl:=hI.w0 rfl
     refine wpOp_step rfl (fun K hK=>?_)
     go_simp
     exact hK _ _ ⟨b0,b1,b2,b3,b4,b5,b6,true,true,b9,b10,b11,b12,b13,b14,b15,b16,b17,b18,false,b20,b21,x0,x1,x2,x3,x4,x5,x6,(.pointer (some ⟨gR,2,none⟩)),(.slice (some ⟨gl,0,none⟩) nI nI),x9,x10,x11,x12,x13,x14,x15,x16,x17,x18,x20,rfl,by kernel_rfl,{ hI with c8:=fun _=>rfl,f8:=fun _=>rfl }⟩
    ·have hbi:b9=false:=by simpa using hun
     subst hbi 
     clear hr hun
     refine wpOp_step rfl (fun K hK=>?_)
     go_simp
     exact hK _ _ ⟨b0,b1,b2,b3,b4,b5,b6,b7,b8,true,b10,b11,b12,b13,b14,b15,b16,b17,b18,b19,b20,b21,x0,x1,x2,x3,x4,x5,x6,x7,x8,(.int .i64 (a:Int)),x10,x11,x12,x13,x14,x15,x16,x17,x18,x20,rfl,by kernel_rfl,{ hI with f9:=fun _=>rfl }⟩
    ·have hbi:b10=false:=by simpa using hun
     subst hbi 
     clear hr hun
     refine wpOp_step rfl (fun K hK=>?_)
     go_simp
     exact hK _ _ ⟨b0,b1,b2,b3,b4,b5,b6,b7,b8,b9,true,b11,b12,b13,b14,b15,b16,b17,b18,b19,b20,b21,x0,x1,x2,x3,x4,x5,x6,x7,x8,x9,(.pointer (some ⟨gR,0,none⟩)),x11,x12,x13,x14,x15,x16,x17,x18,x20,rfl,by kernel_rfl,{ hI with f10:=fun _=>rfl }⟩
    ·have hbi:b11=false:=by simpa using hun
     have e10:b10=true:=by simpa using ready_dep hr rfl ⟨10,.data⟩ (by simp) rfl
     subst hbi e10
     clear hr hun
     obtain rfl:=hI.f10 rfl
     refine wpOp_step rfl (fun K hK=>?_)
     go_simp
     exact hK _ _ ⟨b0,b1,b2,b3,b4,b5,b6,b7,b8,b9,true,true,b12,b13,b14,b15,b16,b17,b18,b19,b20,b21,x0,x1,x2,x3,x4,x5,x6,x7,x8,x9,(.pointer (some ⟨gR,0,none⟩)),(.pointer (some ⟨gR,0,none⟩)),x12,x13,x14,x15,x16,x17,x18,x20,rfl,by kernel_rfl,{ hI with f11:=fun _=>rfl }⟩
    ·have hbi:b12=false:=by simpa using hun
     have e11:b11=true:=by simpa using ready_dep hr rfl ⟨11,.data⟩ (by simp) rfl
     subst hbi e11
     clear hr hun
     obtain rfl:=hI.f11 rfl
     refine wpOp_step rfl (fun K hK=>?_)
     go_simp
     exact hK _ _ ⟨b0,b1,b2,b3,b4,b5,b6,b7,b8,b9,b10,true,true,b13,b14,b15,b16,b17,b18,b19,b20,b21,x0,x1,x2,x3,x4,x5,x6,x7,x8,x9,x10,(.pointer (some ⟨gR,0,none⟩)),(.pointer (some ⟨gR,5,none⟩)),x13,x14,x15,x16,x17,x18,x20,rfl,by kernel_rfl,{ hI with f12:=fun _=>rfl }⟩
    ·have hbi:b13=false:=by simpa using hun
     have e12:b12=true:=by simpa using ready_dep hr rfl ⟨12,.data⟩ (by simp) rfl
     have n19:b19=false:=by
      cases hg:b19 with
      | false=>rfl
      | true=>have h9:=hI.c13 hg;rw[hbi]at h9;cases h9
     subst hbi e12 n19
     clear hr hun
     obtain rfl:=hI.f12 rfl
     obtain rfl:=hI.w0 rfl
     refine wpOp_step rfl (fun K hK=>?_)
     go_simp
     exact hK _ _ ⟨b0,b1,b2,b3,b4,b5,b6,b7,b8,b9,b10,b11,true,true,b14,b15,b16,b17,b18,false,b20,b21,x0,x1,x2,x3,x4,x5,x6,x7,x8,x9,x10,x11,(.pointer (some ⟨gR,5,none⟩)),(.int .i64 ((s.count:Int)+1)),x14,x15,x16,x17,x18,x20,rfl,by kernel_rfl,{ hI with c13:=fun _=>rfl,f13:=fun _=>rfl }⟩
    ·have hbi:b14=false:=by simpa using hun
     subst hbi 
     clear hr hun
     refine wpOp_step rfl (fun K hK=>?_)
     go_simp
     exact hK _ _ ⟨b0,b1,b2,b3,b4,b5,b6,b7,b8,b9,b10,b11,b12,b13,true,b15,b16,b17,b18,b19,b20,b21,x0,x1,x2,x3,x4,x5,x6,x7,x8,x9,x10,x11,x12,x13,(.pointer (some ⟨gR,0,none⟩)),x15,x16,x17,x18,x20,rfl,by kernel_rfl,{ hI with f14:=fun _=>rfl }⟩
    ·have hbi:b15=false:=by simpa using hun
     have e14:b14=true:=by simpa using ready_dep hr rfl ⟨14,.data⟩ (by simp) rfl
     subst hbi e14
     clear hr hun
     obtain rfl:=hI.f14 rfl
     refine wpOp_step rfl (fun K hK=>?_)
     go_simp
     exact hK _ _ ⟨b0,b1,b2,b3,b4,b5,b6,b7,b8,b9,b10,b11,b12,b13,true,true,b16,b17,b18,b19,b20,b21,x0,x1,x2,x3,x4,x5,x6,x7,x8,x9,x10,x11,x12,x13,(.pointer (some ⟨gR,0,none⟩)),(.pointer (some ⟨gR,0,none⟩)),x16,x17,x18,x20,rfl,by kernel_rfl,{ hI with f15:=fun _=>rfl }⟩
    ·have hbi:b16=false:=by simpa using hun
     have e15:b15=true:=by simpa using ready_dep hr rfl ⟨15,.data⟩ (by simp) rfl
     subst hbi e15
     clear hr hun
     obtain rfl:=hI.f15 rfl
     refine wpOp_step rfl (fun K hK=>?_)
     go_simp
     exact hK _ _ ⟨b0,b1,b2,b3,b4,b5,b6,b7,b8,b9,b10,b11,b12,b13,b14,true,true,b17,b18,b19,b20,b21,x0,x1,x2,x3,x4,x5,x6,x7,x8,x9,x10,x11,x12,x13,x14,(.pointer (some ⟨gR,0,none⟩)),(.pointer (some ⟨gR,5,none⟩)),x17,x18,x20,rfl,by kernel_rfl,{ hI with f16:=fun _=>rfl }⟩
    ·have hbi:b17=false:=by simpa using hun
     have e16:b16=true:=by simpa using ready_dep hr rfl ⟨16,.data⟩ (by simp) rfl
     have n19:b19=false:=by
      cases hg:b19 with
      | false=>rfl
      | true=>have h9:=hI.c17 hg;rw[hbi]at h9;cases h9
     subst hbi e16 n19
     clear hr hun
     obtain rfl:=hI.f16 rfl
     obtain rfl:=hI.w0 rfl
     refine wpOp_step rfl (fun K hK=>?_)
     go_simp
     exact hK _ _ ⟨b0,b1,b2,b3,b4,b5,b6,b7,b8,b9,b10,b11,b12,b13,b14,b15,true,true,b18,false,b20,b21,x0,x1,x2,x3,x4,x5,x6,x7,x8,x9,x10,x11,x12,x13,x14,x15,(.pointer (some ⟨gR,5,none⟩)),(.int .i64 ((s.count:Int)+1)),x18,x20,rfl,by kernel_rfl,{ hI with c17:=fun _=>rfl,f17:=fun _=>rfl }⟩
    ·have hbi:b18=false:=by simpa using hun
     have e3:b3=true:=by simpa using ready_dep hr rfl ⟨3,.data⟩ (by simp) rfl
     have e4:b4=true:=by simpa using ready_dep hr rfl ⟨4,.data⟩ (by simp) rfl
     subst hbi e3 e4
     clear hr hun
     obtain rfl:=hI.f3 rfl
     obtain rfl:=hI.f4 rfl
     refine wpOp_step rfl (fun K hK=>?_)
     go_simp
     exact hK _ _ ⟨b0,b1,b2,true,true,b5,b6,b7,b8,b9,b10,b11,b12,b13,b14,b15,b16,b17,true,b19,b20,b21,x0,x1,x2,(.slice (some ⟨gm,0,none⟩) nI nI),(.int .i64 (a:Int)),x5,x6,x7,x8,x9,x10,x11,x12,x13,x14,x15,x16,x17,(.pointer (some ⟨gm,a,none⟩)),x20,rfl,by kernel_rfl,{ hI with f18:=fun _=>rfl }⟩
    ·have hbi:b19=false:=by simpa using hun
     have e18:b18=true:=by simpa using ready_dep hr rfl ⟨18,.data⟩ (by simp) rfl
     have e13:b13=true:=by simpa using ready_dep hr rfl ⟨13,.data⟩ (by simp) rfl
     have e3:b3=true:=by simpa using ready_dep hr rfl ⟨3,.phase⟩ (by simp) rfl
     have e8:b8=true:=by simpa using ready_dep hr rfl ⟨8,.phase⟩ (by simp) rfl
     have e17:b17=true:=by simpa using ready_dep hr rfl ⟨17,.phase⟩ (by simp) rfl
     subst hbi e18 e13 e3 e8 e17
     clear hr hun
     obtain rfl:=hI.f18 rfl
     obtain rfl:=hI.f13 rfl
     obtain rfl:=hI.f3 rfl
     obtain rfl:=hI.f8 rfl
     obtain rfl:=hI.f17 rfl
     obtain rfl:=hI.w0 rfl
     have hb21:b21=false:=by
      cases hg:b21 with
      | false=>rfl
      | true=>have h9:=hI.c21 hg;cases h9
     subst hb21
     refine wpOp_step rfl (fun K hK=>?_)
     go_simp
     exact hK _ _ ⟨b0,b1,b2,true,b4,b5,b6,b7,true,b9,b10,b11,b12,true,b14,b15,b16,true,true,true,b20,false,x0,x1,x2,(.slice (some ⟨gm,0,none⟩) nI nI),x4,x5,x6,x7,(.slice (some ⟨gl,0,none⟩) nI nI),x9,x10,x11,x12,(.int .i64 ((s.count:Int)+1)),x14,x15,x16,(.int .i64 ((s.count:Int)+1)),(.pointer (some ⟨gm,a,none⟩)),x20,rfl,by kernel_rfl,{ hI with w0:=nofun,w1_:=fun _ _=>rfl,c3:=fun _=>rfl,c8:=fun _=>rfl,c13:=fun _=>rfl,c17:=fun _=>rfl,c21:=nofun,w2_:=nofun }⟩
    ·have hbi:b20=false:=by simpa using hun
     have e8:b8=true:=by simpa using ready_dep hr rfl ⟨8,.data⟩ (by simp) rfl
     have e9:b9=true:=by simpa using ready_dep hr rfl ⟨9,.data⟩ (by simp) rfl
     subst hbi e8 e9
     clear hr hun
     obtain rfl:=hI.f8 rfl
     obtain rfl:=hI.f9 rfl
     refine wpOp_step rfl (fun K hK=>?_)
     go_simp
     exact hK _ _ ⟨b0,b1,b2,b3,b4,b5,b6,b7,true,true,b10,b11,b12,b13,b14,b15,b16,b17,b18,b19,true,b21,x0,x1,x2,x3,x4,x5,x6,x7,(.slice (some ⟨gl,0,none⟩) nI nI),(.int .i64 (a:Int)),x10,x11,x12,x13,x14,x15,x16,x17,x18,(.pointer (some ⟨gl,a,none⟩)),rfl,by kernel_rfl,{ hI with f20:=fun _=>rfl }⟩
    ·have hbi:b21=false:=by simpa using hun
     have e20:b20=true:=by simpa using ready_dep hr rfl ⟨20,.data⟩ (by simp) rfl
     have e17:b17=true:=by simpa using ready_dep hr rfl ⟨17,.data⟩ (by simp) rfl
     have e19:b19=true:=by simpa using ready_dep hr rfl ⟨19,.chain⟩ (by simp) rfl
     subst hbi e20 e17 e19
     clear hr hun
     obtain rfl:=hI.f20 rfl
     obtain rfl:=hI.f17 rfl
     obtain rfl:=hI.w1_ rfl rfl
     refine wpOp_step rfl (fun K hK=>?_)
     go_simp
     exact hK _ _ ⟨b0,b1,b2,b3,b4,b5,b6,b7,b8,b9,b10,b11,b12,b13,b14,b15,b16,true,b18,true,true,true,x0,x1,x2,x3,x4,x5,x6,x7,x8,x9,x10,x11,x12,x13,x14,x15,x16,(.int .i64 ((s.count:Int)+1)),x18,(.pointer (some ⟨gl,a,none⟩)),rfl,by kernel_rfl,{ hI with w0:=nofun,w1_:=nofun,c21:=fun _=>rfl,w2_:=fun _=>rfl }⟩
   ·rintro listed a' w' ⟨b0,b1,b2,b3,b4,b5,b6,b7,b8,b9,b10,b11,b12,b13,b14,b15,b16,b17,b18,b19,b20,b21,x0,x1,x2,x3,x4,x5,x6,x7,x8,x9,x10,x11,x12,x13,x14,x15,x16,x17,x18,x20,rfl,rfl,hI⟩ hrd
    have e0:b0=true:=by simpa using ready_nextb hrd 0 rfl (by simp[Region.binds])
    have e1:b1=true:=by simpa using ready_nextb hrd 1 rfl (by simp[Region.binds,e0])
    have e2:b2=true:=by simpa using ready_nextb hrd 2 rfl (by simp[Region.binds,e0,e1])
    have e3:b3=true:=by simpa using ready_nextb hrd 3 rfl (by simp[Region.binds,e0,e1,e2])
    have e4:b4=true:=by simpa using ready_nextb hrd 4 rfl (by simp[Region.binds,e0,e1,e2,e3])
    have e10:b10=true:=by simpa using ready_nextb hrd 10 rfl (by simp[Region.binds,e0,e1,e2,e3,e4])
    have e11:b11=true:=by simpa using ready_nextb hrd 11 rfl (by simp[Region.binds,e0,e1,e2,e3,e4,e10])
    have e12:b12=true:=by simpa using ready_nextb hrd 12 rfl (by simp[Region.binds,e0,e1,e2,e3,e4,e10,e11])
    have e13:b13=true:=by simpa using ready_nextb hrd 13 rfl (by simp[Region.binds,e0,e1,e2,e3,e4,e10,e11,e12])
    have e5:b5=true:=by simpa using ready_nextb hrd 5 rfl (by simp[Region.binds,e0,e1,e2,e3,e4,e10,e11,e12,e13])
    have e6:b6=true:=by simpa using ready_nextb hrd 6 rfl (by simp[Region.binds,e0,e1,e2,e3,e4,e10,e11,e12,e13,e5])
    have e7:b7=true:=by simpa using ready_nextb hrd 7 rfl (by simp[Region.binds,e0,e1,e2,e3,e4,e10,e11,e12,e13,e5,e6])
    have e8:b8=true:=by simpa using ready_nextb hrd 8 rfl (by simp[Region.binds,e0,e1,e2,e3,e4,e10,e11,e12,e13,e5,e6,e7])
    have e14:b14=true:=by simpa using ready_nextb hrd 14 rfl (by simp[Region.binds,e0,e1,e2,e3,e4,e10,e11,e12,e13,e5,e6,e7,e8])
    have e15:b15=true:=by simpa using ready_nextb hrd 15 rfl (by simp[Region.binds,e0,e1,e2,e3,e4,e10,e11,e12,e13,e5,e6,e7,e8,e14])
    have e16:b16=true:=by simpa using ready_nextb hrd 16 rfl (by simp[Region.binds,e0,e1,e2,e3,e4,e10,e11,e12,e13,e5,e6,e7,e8,e14,e15])
    have e17:b17=true:=by simpa using ready_nextb hrd 17 rfl (by simp[Region.binds,e0,e1,e2,e3,e4,e10,e11,e12,e13,e5,e6,e7,e8,e14,e15,e16])
    have e18:b18=true:=by simpa using ready_nextb hrd 18 rfl (by simp[Region.binds,e0,e1,e2,e3,e4,e10,e11,e12,e13,e5,e6,e7,e8,e14,e15,e16,e17])
    have e19:b19=true:=by simpa using ready_nextb hrd 19 rfl (by simp[Region.binds,e0,e1,e2,e3,e4,e10,e11,e12,e13,e5,e6,e7,e8,e14,e15,e16,e17,e18])
    have e9:b9=true:=by simpa using ready_nextb hrd 9 rfl (by simp[Region.binds,e0,e1,e2,e3,e4,e10,e11,e12,e13,e5,e6,e7,e8,e14,e15,e16,e17,e18,e19])
    have e20:b20=true:=by simpa using ready_nextb hrd 20 rfl (by simp[Region.binds,e0,e1,e2,e3,e4,e10,e11,e12,e13,e5,e6,e7,e8,e14,e15,e16,e17,e18,e19,e9])
    have e21:b21=true:=by simpa using ready_nextb hrd 21 rfl (by simp[Region.binds,e0,e1,e2,e3,e4,e10,e11,e12,e13,e5,e6,e7,e8,e14,e15,e16,e17,e18,e19,e9,e20])
    subst e0 e1 e2 e3 e4 e5 e6 e7 e8 e9 e10 e11 e12 e13 e14 e15 e16 e17 e18 e19 e20 e21
    clear hrd
    have hd:=hI.w2_ rfl
    clear hI
    go_wp2_with fail
    go_simp
    go_meet
    first | rfl | exact hd
  case rest =>
   subst hcut
   clear hw1 hw2 hw3 c5 z5 d1 d2 d5 dm dl zm el zl e1
   have H4:Hid (RnV w (rnS gR gm gl gf (.slice aO s.op.length cO)) W0.heap.size gR gm gl gf nI iv w3.drew (.slice aO s.op.length cO) { s with met:=fun x=>if x=a then s.count+1 else s.met x,low:=fun x=>if x=a then s.count+1 else s.low x,count:=s.count+1 }):=H3.out.drewN 1
   obtain⟨w4,hw4⟩:∃w4,w3.drew=w4:=⟨_,rfl⟩
   rw[hw4]at H4 ⊢
   have ff:∀j v,w3.cell? ⟨gR,j,none⟩=some v→w4.cell? ⟨gR,j,none⟩=some v:=fun j v hv=>by rw[←hw4];exact hv
   have b3:=ff _ _ f3
   clear hw4 ff f0 f1 f2 f3 f4 f5 f6 H3
   obtain⟨g8,cap8,w8,hr,⟨o8,hbk,ho8⟩,hF3⟩:=H4.out.open_ a hol
   obtain⟨v8,hv8⟩:∃v,o8[3]?=some v:=⟨o8[3],by simp⟩
   have k3:w8.cell? ⟨gR,3,none⟩=some v8:=by rw[blk_cell hbk];exact hv8
   have kz:=blk_frozen hbk
   obtain⟨w9,hw9⟩:∃w9,w8.setCell ⟨gR,3,none⟩ (.slice (some ⟨g8,0,none⟩) (s.op.length+1) cap8)=w9:=⟨_,rfl⟩
   rw[hw9]at hF3
   have H9:Hid (RnV w (rnS gR gm gl gf (.slice aO s.op.length cO)) W0.heap.size gR gm gl gf nI iv w9 (.slice (some ⟨g8,0,none⟩) (s.op.length+1) cap8) (TJ.push s a)):=hF3
   obtain⟨n,hn⟩:∃n,f.d.ins[a]?=some n:=⟨f.d.ins[a]'(by rw[HC.out.ok.ins];exact ha),by simp⟩
   have HIN:Hid (InsOk nR nI n):=HC.out.ok.ok n (List.mem_of_getElem? hn)
   have HSE:Hid (EP f.d a=silentV n a):=by show silentV (f.d.ins.getD a id0) a=_;rw[List.getD_eq_getElem?_getD,hn];rfl
   have HS0:Hid (∀g∈rnS gR gm gl gf (.slice aO s.op.length cO),W0.heap.size≤g):=rnS_ge H4.out g1 g2 g3 g4
   have HB9:Hid (Below W0.heap.size W0 w9):=H9.out.down hB HS0.out
   obtain⟨b,off,ei,hbl,i0,i1,i2,i3,i4⟩:=HC.out.ins hn HB9.out
   obtain⟨x0,_,_,_,_,_,_⟩:=H9.out.cells
   have eiv:iv=.slice (some ⟨b,off,none⟩) nI f.ci:=by rw[HC.out.eiv,ei]
   have HIV:Hid (iv=.slice (some ⟨b,off,none⟩) nI f.ci):=eiv
   rw[eiv]at x0
   have HLT:Hid (∀y∈EP f.d a,y<nI):=by show ∀y∈EP f.d a,y<nI;rw[HSE.out];exact silentV_lt HIN.out (HC.out.ok.goes a n hn)
   have HLY:Hid (LayAt w9):=HC.out.lay.later HB9.out
   clear hF3 hbk ho8 hv8 eiv ei hbl hn
   go_wp2_with (first
    | (at_builtin;refine wpList_append_run rfl _ _ _ rfl _ _ _ _ rfl rfl hr ?_;clear hr)
    | (go_at_call 155;refine (sil_any n a nI nR _ HIN.out HLY.out (by omega)).mono ?_;rintro e w10 ⟨⟨sv,rfl,hso⟩,hx10⟩;rw[←HSE.out]at hso;obtain⟨aS,cS,rfl,hss⟩:=ORow.lies hso (fun y=>intC_len y)))
   have H10:Hid (RnV w10 (rnS gR gm gl gf (.slice (some ⟨g8,0,none⟩) (s.op.length+1) cap8)) W0.heap.size gR gm gl gf nI iv w10 (.slice (some ⟨g8,0,none⟩) (s.op.length+1) cap8) (TJ.push s a)):=(H9.out.later hx10).anew
   have HW10:Hid (Below W0.heap.size W0 w10):=HB9.out.trans (hx10.mono (Nat.le_trans h.base H9.out.but.size))
   have HBK:Hid (ButL (rnS gR gm gl gf (.slice aO s.op.length cO)) w w10):=H9.out.but.thenB hx10
   have HSO:Hid (OI w10 w9.heap.size (.slice aS (nz (EP f.d a)).length cS) (nz (EP f.d a))):=hso
   have HSS:Hid (SlA w10 1 intC aS (nz (EP f.d a))):=hss
   have HOW:Hid (∀g∈rnS gR gm gl gf (.slice (some ⟨g8,0,none⟩) (s.op.length+1) cap8),(g∈rnS gR gm gl gf (.slice aO s.op.length cO)∨w.heap.size≤g)∧g<w9.heap.size):=H9.out.own
   have HS1:Hid (∀g∈rnS gR gm gl gf (.slice (some ⟨g8,0,none⟩) (s.op.length+1) cap8),W0.heap.size≤g):=rnS_ge H9.out g1 g2 g3 g4
   have HUN:Hid (unm nI s.met≤m+1):=hm
   have HBA:Hid (W0.heap.size≤w.heap.size):=h.base
   obtain⟨L,hL⟩:∃L,(nz (EP f.d a)).length=L:=⟨_,rfl⟩
   have HL:Hid ((EP f.d a).length=L):=by show _=_;rw[←hL,nz_len]
   have hL6:L≤10:=by rw[←hL,nz_len,HSE.out];exact silentV_few n a
   rw[hL]at HSO ⊢
   clear hso hss hx10 h hB hm hw9 k3 kz i0 i1 i2 i3 i4 x0 b3 hL H9 HB9 H4 HLY ih
   go_loopw [5,60] (fun bk i wr=>∃(j:Nat) (ov1:Value) (s1:TJ.S),j≤L∧i=.int .i64 j∧bk=.bool (decide (a∈(EP f.d a).take j))∧Hid (RnV w10 (rnS gR gm gl gf (.slice (some ⟨g8,0,none⟩) (s.op.length+1) cap8)) W0.heap.size gR gm gl gf nI iv wr ov1 s1)∧Hid (TJ.I (EP f.d) a G s s1 ((EP f.d a).take j))∧Hid (RnK nI s1)∧Hid (∀x,s.met x=0→s1.met x≠0→TJ.R (EP f.d) a x)) (fun _ i _=>L-(intOf i).toNat)
   case atStart=>exact⟨0,_,_,Nat.zero_le _,rfl,by simp,H10,by simpa using HI0,HK0,fun x hx0 hx1=>by
    by_cases e:x=a
    ·rw[e];exact TJ.R.refl _
    ·exact absurd hx0 (fun _=>hx1 (by show (if x=a then _ else s.met x)=0;rw[if_neg e];exact hx0))⟩
   case round =>
    clear HI0 HK0
    obtain⟨j,ov1,s1,hj,rfl,rfl,HR,HJ,HK,HNR⟩:=hrel
    obtain⟨q0,q1,q2,q3,q4,q5,q6⟩:=HR.out.cells
    obtain⟨ma,la,oa⟩:=HR.out.at_ ha
    by_cases k1:j<L
    ·obtain⟨y,hy⟩:∃y,(EP f.d a)[j]?=some y:=⟨(EP f.d a)[j]'(by rw[HL.out];exact k1),by simp⟩
     have hyI:y<nI:=HLT.out y (List.mem_of_getElem? hy)
     have HYM:Hid (y∈EP f.d a):=List.mem_of_getElem? hy
     have HTK:Hid ((EP f.d a).take (j+1)=(EP f.d a).take j++[y]):=by show _=_;rw[List.take_add_one,hy];rfl
     obtain⟨b,off,rfl,hbl,hc⟩:=HSS.out j (y:Int) (by rw[nz_get,hy];rfl)
     have hb9:w9.heap.size≤b:=(HSO.out.own_lt (g:=b) rfl).1
     have cy:wr.cell? ⟨b,off+j,none⟩=some (.int .i64 y):=HR.out.but.cell (fun hq=>by have:=(HOW.out b hq).2;omega) (by have:=hc 0 _ rfl;simpa using this)
     clear hc hbl hb9 hy
     obtain⟨my,ly,oy⟩:=HR.out.at_ hyI
     obtain⟨d0,hd0⟩:∃d0,decide (a∈(EP f.d a).take j)=d0:=⟨_,rfl⟩
     obtain⟨d1,hd1⟩:∃d1,decide (a∈(EP f.d a).take (j+1))=d1:=⟨_,rfl⟩
     have HD1:Hid (decide (a∈(EP f.d a).take (j+1))=d1):=hd1
     have hdd:d1=(d0 || decide (y=a)):=by
      rw[←hd1,←hd0,HTK.out]
      have e9:(a∈(EP f.d a).take j++[y])↔(a∈(EP f.d a).take j∨y=a):=by simp[eq_comm]
      simp only[e9,Bool.decide_or]
     rw[hd0]
     clear hd0 hd1
     go_upto_region 8 with (fail)
     go_cut [5] from 64 to 69 (fun s5 wx=>s5=.bool d1∧wx=wr)
     case first =>
      cases d0
      ·by_cases e:y=a
       ·have t:((y:Int) == (a:Int))=true:=by simp[e]
        obtain rfl:d1=true:=by rw[hdd];simp[e]
        clear hdd HD1 e
        go_wp2_with fail
        go_simp
        go_meet
        exact⟨rfl,rfl⟩
       ·have t:((y:Int) == (a:Int))=false:=by simpa using (by omega:¬(y:Int)=(a:Int))
        obtain rfl:d1=false:=by rw[hdd];simp[e]
        clear hdd HD1
        go_wp2_with fail
        go_simp
        go_meet
        exact⟨rfl,rfl⟩
      ·obtain rfl:d1=true:=by rw[hdd];rfl
       clear hdd HD1
       go_wp2_with fail
       go_simp
       go_meet
       exact⟨rfl,rfl⟩
     case rest =>
      obtain⟨rfl,rfl⟩:=hcut
      clear hdd
      obtain⟨wq,hwq⟩:∃wq,wq=wc:=⟨wc,rfl⟩
      subst hwq
      go_upto_if 77 with (fail)
      go_cut [] from 61 to 109 (fun wx=>∃ov2 s2,Hid (RnV w10 (rnS gR gm gl gf (.slice (some ⟨g8,0,none⟩) (s.op.length+1) cap8)) W0.heap.size gR gm gl gf nI iv wx ov2 s2)∧Hid (TJ.I (EP f.d) a G s (TJ.upd s2 a y) ((EP f.d a).take (j+1)))∧Hid (RnK nI s2)∧Hid (∀x,s.met x=0→s2.met x≠0→TJ.R (EP f.d) a x))
      case first =>
       by_cases hmy:s1.met y=0
       ·rw[hmy]at my
        have my:wq.cell? ⟨gm,y,none⟩=some (.int .i64 0):=my
        have HUM:Hid (unm nI s1.met≤m):=by
         have h9:=unm_lt (nI:=nI) HJ.out.met h0 (by rw[HJ.out.ma];omega) ha
         have h8:=HUN.out
         show _≤_
         omega
        go_wp2_with fail
        refine (HIH.out wq y (a :: G) ov1 s1 HUM.out hyI hmy HJ.out.w (TJ.V.reach HG.out HYM.out) HK.out HR.out.anew (HR.out.down HW10.out HS1.out)).mono ?_
        rintro e w11 ⟨rfl,ov2,s2,hv2,hV,hk2,hn2⟩
        have HR2:Hid (RnV w10 (rnS gR gm gl gf (.slice (some ⟨g8,0,none⟩) (s.op.length+1) cap8)) W0.heap.size gR gm gl gf nI iv w11 ov2 s2):=hv2.back H10.out.base HR.out.but (fun g hg=>(HR.out.own g hg).1)
        have HJ2:Hid (TJ.I (EP f.d) a G s (TJ.upd s2 a y) ((EP f.d a).take (j+1))):=by show TJ.I _ _ _ _ _ _;rw[HTK.out];exact HJ.out.child HYM.out hmy hV
        have HK2:Hid (RnK nI s2):=hk2
        have HN2:Hid (∀x,s.met x=0→s2.met x≠0→TJ.R (EP f.d) a x):=fun x hx0 hx1=>by
         by_cases e9:s1.met x=0
         ·exact (TJ.R.step HYM.out).trans (hn2 x e9 hx1)
         ·exact HNR.out x hx0 e9
        clear hv2 hV hk2 hn2 q0 q1 q2 q3 q4 q5 q6 ma la oa my ly oy
        go_wp2_with fail
        go_simp
        go_meet
        exact⟨ov2,s2,HR2,HJ2,HK2,HN2⟩
       ·have tm:(((s1.met y:Nat):Int) == 0)=false:=by simpa using (by omega:¬((s1.met y:Nat):Int)=0)
        have HJ2:Hid (TJ.I (EP f.d) a G s (TJ.upd s1 a y) ((EP f.d a).take (j+1))):=by show TJ.I _ _ _ _ _ _;rw[HTK.out];exact HJ.out.old HYM.out hmy
        go_wp2_with fail
        go_simp
        go_meet
        exact⟨ov1,s1,HR,HJ2,HK,HNR⟩
      case rest =>
       obtain⟨ov2,s2,HR2,HJ2,HK2,HN2⟩:=hcut
       have HN3:Hid (∀x,s.met x=0→(TJ.upd s2 a y).met x≠0→TJ.R (EP f.d) a x):=by show ∀x,_;rw[TJ.upd_met];exact HN2.out
       clear q0 q1 q2 q3 q4 q5 q6 ma la oa my ly oy HR HJ HK cy
       obtain⟨q0,q1,q2,q3,q4,q5,q6⟩:=HR2.out.cells
       obtain⟨ma,la,oa⟩:=HR2.out.at_ ha
       obtain⟨my,ly,oy⟩:=HR2.out.at_ hyI
       cases ho:s2.off y with
       | true =>
        rw[ho]at oy
        have HR3:Hid (RnV w10 (rnS gR gm gl gf (.slice (some ⟨g8,0,none⟩) (s.op.length+1) cap8)) W0.heap.size gR gm gl gf nI iv wc ov2 (TJ.upd s2 a y)):=HR2.out.upd_off ho
        go_wp2_with fail
        go_roundw
        case rel=>exact⟨j+1,ov2,TJ.upd s2 a y,by omega,by go_num,by rw[HD1.out],HR3,HJ2,HK2.out.upd,HN3⟩
        case measure=>simp[intOf];omega
       | false =>
        rw[ho]at oy
        have HR3:Hid (RnV w10 (rnS gR gm gl gf (.slice (some ⟨g8,0,none⟩) (s.op.length+1) cap8)) W0.heap.size gR gm gl gf nI iv (wc.setCell ⟨gl,a,none⟩ (.int .i64 ((min (s2.low a) (s2.low y):Nat):Int))) ov2 (TJ.upd s2 a y)):=HR2.out.upd_on ho
        have zl:=blk_frozen HR2.out.low a
        rw[show ((min (s2.low a) (s2.low y):Nat):Int)=(if s2.low y<s2.low a then ((s2.low y:Nat):Int) else ((s2.low a:Nat):Int)) by split<;>omega]at HR3
        go_wp2_with fail
        refine wp_region_inv (by kernel_rfl) (fun base listed a' w'=>∃b0 b1 b2 b3 b4 b5 b6 b7 b8 b9 b10 b11 b12 b13 b14 b15 b16 b17 b18 b19 b20 b21 x0 x1 x2 x3 x4 x5 x6 x7 x8 x9 x10 x11 x12 x13 x14 x15 x16 x17 x18 x19 x20,listed=#[b0,b1,b2,b3,b4,b5,b6,b7,b8,b9,b10,b11,b12,b13,b14,b15,b16,b17,b18,b19,b20,b21]∧a'=(((((((((((((((((((((base.put (some 89) x0).put (some 90) x1).put (some 91) x2).put (some 92) x3).put (some 93) x4).put (some 94) x5).put (some 95) x6).put (some 96) x7).put (some 97) x8).put (some 98) x9).put (some 99) x10).put (some 100) x11).put (some 101) x12).put (some 102) x13).put (some 103) x14).put (some 104) x15).put (some 105) x16).put (some 106) x17).put (some 107) x18).put (some 108) x19).put (some 109) x20)∧R03 wc gR gl nI a y (s2.low a) (s2.low y) w' b0 b1 b2 b3 b4 b5 b6 b7 b8 b9 b10 b11 b12 b13 b14 b15 b16 b17 b18 b19 b20 b21 x0 x1 x2 x3 x4 x5 x6 x7 x8 x9 x10 x11 x12 x13 x14 x15 x16 x17 x18 x19 x20) ?_ ?_ ?_
        ·exact⟨false,false,false,false,false,false,false,false,false,false,false,false,false,false,false,false,false,false,false,false,false,false,u89,u90,u91,u92,u93,u94,u95,u96,u97,u98,u99,u100,u101,u102,u103,u104,u105,u106,u107,u108,u109,rfl,by kernel_rfl,⟨fun _=>rfl,nofun,nofun,nofun,nofun,nofun,nofun,nofun,nofun,nofun,nofun,nofun,nofun,nofun,nofun,nofun,nofun,nofun,nofun,nofun,nofun,nofun,nofun,nofun,nofun,nofun,nofun,nofun⟩⟩
        ·rintro i listed a' w' ⟨b0,b1,b2,b3,b4,b5,b6,b7,b8,b9,b10,b11,b12,b13,b14,b15,b16,b17,b18,b19,b20,b21,x0,x1,x2,x3,x4,x5,x6,x7,x8,x9,x10,x11,x12,x13,x14,x15,x16,x17,x18,x19,x20,rfl,rfl,hI⟩ hr
         have hi:=ready_lt hr
         have hun:=(mem_ready.1 hr).1
         simp only[List.size_toArray,List.length_cons,List.length_nil,Nat.zero_add,Nat.reduceAdd]at hi
         have hi':i=0∨i=1∨i=2∨i=3∨i=4∨i=5∨i=6∨i=7∨i=8∨i=9∨i=10∨i=11∨i=12∨i=13∨i=14∨i=15∨i=16∨i=17∨i=18∨i=19∨i=20∨i=21:=by omega
         clear hi
         rcases hi' with rfl | rfl | rfl | rfl | rfl | rfl | rfl | rfl | rfl | rfl | rfl | rfl | rfl | rfl | rfl | rfl | rfl | rfl | rfl | rfl | rfl | rfl
         ·have hbi:b0=false:=by simpa using hun
          subst hbi 
          clear hr hun
          refine wpOp_step rfl (fun K hK=>?_)
          go_simp
          exact hK _ _ ⟨true,b1,b2,b3,b4,b5,b6,b7,b8,b9,b10,b11,b12,b13,b14,b15,b16,b17,b18,b19,b20,b21,(.pointer (some ⟨gR,0,none⟩)),x1,x2,x3,x4,x5,x6,x7,x8,x9,x10,x11,x12,x13,x14,x15,x16,x17,x18,x19,x20,rfl,by kernel_rfl,{ hI with f0:=fun _=>rfl }⟩
         ·have hbi:b1=false:=by simpa using hun
          have e0:b0=true:=by simpa using ready_dep hr rfl ⟨0,.data⟩ (by simp) rfl
          subst hbi e0
          clear hr hun
          obtain rfl:=hI.f0 rfl
          refine wpOp_step rfl (fun K hK=>?_)
          go_simp
          exact hK _ _ ⟨true,true,b2,b3,b4,b5,b6,b7,b8,b9,b10,b11,b12,b13,b14,b15,b16,b17,b18,b19,b20,b21,(.pointer (some ⟨gR,0,none⟩)),(.pointer (some ⟨gR,0,none⟩)),x2,x3,x4,x5,x6,x7,x8,x9,x10,x11,x12,x13,x14,x15,x16,x17,x18,x19,x20,rfl,by kernel_rfl,{ hI with f1:=fun _=>rfl }⟩
         ·have hbi:b2=false:=by simpa using hun
          have e1:b1=true:=by simpa using ready_dep hr rfl ⟨1,.data⟩ (by simp) rfl
          subst hbi e1
          clear hr hun
          obtain rfl:=hI.f1 rfl
          refine wpOp_step rfl (fun K hK=>?_)
          go_simp
          exact hK _ _ ⟨b0,true,true,b3,b4,b5,b6,b7,b8,b9,b10,b11,b12,b13,b14,b15,b16,b17,b18,b19,b20,b21,x0,(.pointer (some ⟨gR,0,none⟩)),(.pointer (some ⟨gR,2,none⟩)),x3,x4,x5,x6,x7,x8,x9,x10,x11,x12,x13,x14,x15,x16,x17,x18,x19,x20,rfl,by kernel_rfl,{ hI with f2:=fun _=>rfl }⟩
         ·have hbi:b3=false:=by simpa using hun
          have e2:b2=true:=by simpa using ready_dep hr rfl ⟨2,.data⟩ (by simp) rfl
          have n21:b21=false:=by
           cases hg:b21 with
           | false=>rfl
           | true=>have h9:=hI.c3 hg;rw[hbi]at h9;cases h9
          subst hbi e2 n21
          clear hr hun
          obtain rfl:=hI.f2 rfl
          obtain rfl:=hI.w0 rfl
          refine wpOp_step rfl (fun K hK=>?_)
          go_simp
          exact hK _ _ ⟨b0,b1,true,true,b4,b5,b6,b7,b8,b9,b10,b11,b12,b13,b14,b15,b16,b17,b18,b19,b20,false,x0,x1,(.pointer (some ⟨gR,2,none⟩)),(.slice (some ⟨gl,0,none⟩) nI nI),x4,x5,x6,x7,x8,x9,x10,x11,x12,x13,x14,x15,x16,x17,x18,x19,x20,rfl,by kernel_rfl,{ hI with c3:=fun _=>rfl,w1_:=nofun,f3:=fun _=>rfl }⟩
         ·have hbi:b4=false:=by simpa using hun
          subst hbi 
          clear hr hun
          refine wpOp_step rfl (fun K hK=>?_)
          go_simp
          exact hK _ _ ⟨b0,b1,b2,b3,true,b5,b6,b7,b8,b9,b10,b11,b12,b13,b14,b15,b16,b17,b18,b19,b20,b21,x0,x1,x2,x3,(.int .i64 (a:Int)),x5,x6,x7,x8,x9,x10,x11,x12,x13,x14,x15,x16,x17,x18,x19,x20,rfl,by kernel_rfl,{ hI with f4:=fun _=>rfl }⟩
         ·have hbi:b5=false:=by simpa using hun
          subst hbi 
          clear hr hun
          refine wpOp_step rfl (fun K hK=>?_)
          go_simp
          exact hK _ _ ⟨b0,b1,b2,b3,b4,true,b6,b7,b8,b9,b10,b11,b12,b13,b14,b15,b16,b17,b18,b19,b20,b21,x0,x1,x2,x3,x4,(.pointer (some ⟨gR,0,none⟩)),x6,x7,x8,x9,x10,x11,x12,x13,x14,x15,x16,x17,x18,x19,x20,rfl,by kernel_rfl,{ hI with f5:=fun _=>rfl }⟩
         ·have hbi:b6=false:=by simpa using hun
          have e5:b5=true:=by simpa using ready_dep hr rfl ⟨5,.data⟩ (by simp) rfl
          subst hbi e5
          clear hr hun
          obtain rfl:=hI.f5 rfl
          refine wpOp_step rfl (fun K hK=>?_)
          go_simp
          exact hK _ _ ⟨b0,b1,b2,b3,b4,true,true,b7,b8,b9,b10,b11,b12,b13,b14,b15,b16,b17,b18,b19,b20,b21,x0,x1,x2,x3,x4,(.pointer (some ⟨gR,0,none⟩)),(.pointer (some ⟨gR,0,none⟩)),x7,x8,x9,x10,x11,x12,x13,x14,x15,x16,x17,x18,x19,x20,rfl,by kernel_rfl,{ hI with f6:=fun _=>rfl }⟩
         ·have hbi:b7=false:=by simpa using hun
          have e6:b6=true:=by simpa using ready_dep hr rfl ⟨6,.data⟩ (by simp) rfl
          subst hbi e6
          clear hr hun
          obtain rfl:=hI.f6 rfl
          refine wpOp_step rfl (fun K hK=>?_)
          go_simp
          exact hK _ _ ⟨b0,b1,b2,b3,b4,b5,true,true,b8,b9,b10,b11,b12,b13,b14,b15,b16,b17,b18,b19,b20,b21,x0,x1,x2,x3,x4,x5,(.pointer (some ⟨gR,0,none⟩)),(.pointer (some ⟨gR,2,none⟩)),x8,x9,x10,x11,x12,x13,x14,x15,x16,x17,x18,x19,x20,rfl,by kernel_rfl,{ hI with f7:=fun _=>rfl }⟩
         ·have hbi:b8=false:=by simpa using hun
          have e7:b7=true:=by simpa using ready_dep hr rfl ⟨7,.data⟩ (by simp) rfl
          have n21:b21=false:=by
           cases hg:b21 with
           | false=>rfl
           | true=>have h9:=hI.c8 hg;rw[hbi]at h9;cases h9
          subst hbi e7 n21
          clear hr hun
          obtain rfl:=hI.f7 rfl
          obtain rfl:=hI.w0 rfl
          refine wpOp_step rfl (fun K hK=>?_)
          go_simp
          exact hK _ _ ⟨b0,b1,b2,b3,b4,b5,b6,true,true,b9,b10,b11,b12,b13,b14,b15,b16,b17,b18,b19,b20,false,x0,x1,x2,x3,x4,x5,x6,(.pointer (some ⟨gR,2,none⟩)),(.slice (some ⟨gl,0,none⟩) nI nI),x9,x10,x11,x12,x13,x14,x15,x16,x17,x18,x19,x20,rfl,by kernel_rfl,{ hI with c8:=fun _=>rfl,w1_:=nofun,f8:=fun _=>rfl }⟩
         ·have hbi:b9=false:=by simpa using hun
          subst hbi 
          clear hr hun
          refine wpOp_step rfl (fun K hK=>?_)
          go_simp
          exact hK _ _ ⟨b0,b1,b2,b3,b4,b5,b6,b7,b8,true,b10,b11,b12,b13,b14,b15,b16,b17,b18,b19,b20,b21,x0,x1,x2,x3,x4,x5,x6,x7,x8,(.int .i64 (a:Int)),x10,x11,x12,x13,x14,x15,x16,x17,x18,x19,x20,rfl,by kernel_rfl,{ hI with f9:=fun _=>rfl }⟩
         ·have hbi:b10=false:=by simpa using hun
          have e8:b8=true:=by simpa using ready_dep hr rfl ⟨8,.data⟩ (by simp) rfl
          have e9:b9=true:=by simpa using ready_dep hr rfl ⟨9,.data⟩ (by simp) rfl
          subst hbi e8 e9
          clear hr hun
          obtain rfl:=hI.f8 rfl
          obtain rfl:=hI.f9 rfl
          refine wpOp_step rfl (fun K hK=>?_)
          go_simp
          exact hK _ _ ⟨b0,b1,b2,b3,b4,b5,b6,b7,true,true,true,b11,b12,b13,b14,b15,b16,b17,b18,b19,b20,b21,x0,x1,x2,x3,x4,x5,x6,x7,(.slice (some ⟨gl,0,none⟩) nI nI),(.int .i64 (a:Int)),(.pointer (some ⟨gl,a,none⟩)),x11,x12,x13,x14,x15,x16,x17,x18,x19,x20,rfl,by kernel_rfl,{ hI with f10:=fun _=>rfl }⟩
         ·have hbi:b11=false:=by simpa using hun
          have e10:b10=true:=by simpa using ready_dep hr rfl ⟨10,.data⟩ (by simp) rfl
          have n21:b21=false:=by
           cases hg:b21 with
           | false=>rfl
           | true=>have h9:=hI.c11 hg;rw[hbi]at h9;cases h9
          subst hbi e10 n21
          clear hr hun
          obtain rfl:=hI.f10 rfl
          obtain rfl:=hI.w0 rfl
          refine wpOp_step rfl (fun K hK=>?_)
          go_simp
          exact hK _ _ ⟨b0,b1,b2,b3,b4,b5,b6,b7,b8,b9,true,true,b12,b13,b14,b15,b16,b17,b18,b19,b20,false,x0,x1,x2,x3,x4,x5,x6,x7,x8,x9,(.pointer (some ⟨gl,a,none⟩)),(.int .i64 ((s2.low a):Int)),x12,x13,x14,x15,x16,x17,x18,x19,x20,rfl,by kernel_rfl,{ hI with c11:=fun _=>rfl,w1_:=nofun,f11:=fun _=>rfl }⟩
         ·have hbi:b12=false:=by simpa using hun
          subst hbi 
          clear hr hun
          refine wpOp_step rfl (fun K hK=>?_)
          go_simp
          exact hK _ _ ⟨b0,b1,b2,b3,b4,b5,b6,b7,b8,b9,b10,b11,true,b13,b14,b15,b16,b17,b18,b19,b20,b21,x0,x1,x2,x3,x4,x5,x6,x7,x8,x9,x10,x11,(.pointer (some ⟨gR,0,none⟩)),x13,x14,x15,x16,x17,x18,x19,x20,rfl,by kernel_rfl,{ hI with f12:=fun _=>rfl }⟩
         ·have hbi:b13=false:=by simpa using hun
          have e12:b12=true:=by simpa using ready_dep hr rfl ⟨12,.data⟩ (by simp) rfl
          subst hbi e12
          clear hr hun
          obtain rfl:=hI.f12 rfl
          refine wpOp_step rfl (fun K hK=>?_)
          go_simp
          exact hK _ _ ⟨b0,b1,b2,b3,b4,b5,b6,b7,b8,b9,b10,b11,true,true,b14,b15,b16,b17,b18,b19,b20,b21,x0,x1,x2,x3,x4,x5,x6,x7,x8,x9,x10,x11,(.pointer (some ⟨gR,0,none⟩)),(.pointer (some ⟨gR,0,none⟩)),x14,x15,x16,x17,x18,x19,x20,rfl,by kernel_rfl,{ hI with f13:=fun _=>rfl }⟩
         ·have hbi:b14=false:=by simpa using hun
          have e13:b13=true:=by simpa using ready_dep hr rfl ⟨13,.data⟩ (by simp) rfl
          subst hbi e13
          clear hr hun
          obtain rfl:=hI.f13 rfl
          refine wpOp_step rfl (fun K hK=>?_)
          go_simp
          exact hK _ _ ⟨b0,b1,b2,b3,b4,b5,b6,b7,b8,b9,b10,b11,b12,true,true,b15,b16,b17,b18,b19,b20,b21,x0,x1,x2,x3,x4,x5,x6,x7,x8,x9,x10,x11,x12,(.pointer (some ⟨gR,0,none⟩)),(.pointer (some ⟨gR,2,none⟩)),x15,x16,x17,x18,x19,x20,rfl,by kernel_rfl,{ hI with f14:=fun _=>rfl }⟩
         ·have hbi:b15=false:=by simpa using hun
          have e14:b14=true:=by simpa using ready_dep hr rfl ⟨14,.data⟩ (by simp) rfl
          have n21:b21=false:=by
           cases hg:b21 with
           | false=>rfl
           | true=>have h9:=hI.c15 hg;rw[hbi]at h9;cases h9
          subst hbi e14 n21
          clear hr hun
          obtain rfl:=hI.f14 rfl
          obtain rfl:=hI.w0 rfl
          refine wpOp_step rfl (fun K hK=>?_)
          go_simp
          exact hK _ _ ⟨b0,b1,b2,b3,b4,b5,b6,b7,b8,b9,b10,b11,b12,b13,true,true,b16,b17,b18,b19,b20,false,x0,x1,x2,x3,x4,x5,x6,x7,x8,x9,x10,x11,x12,x13,(.pointer (some ⟨gR,2,none⟩)),(.slice (some ⟨gl,0,none⟩) nI nI),x16,x17,x18,x19,x20,rfl,by kernel_rfl,{ hI with c15:=fun _=>rfl,w1_:=nofun,f15:=fun _=>rfl }⟩
         ·have hbi:b16=false:=by simpa using hun
          subst hbi 
          clear hr hun
          refine wpOp_step rfl (fun K hK=>?_)
          go_simp
          exact hK _ _ ⟨b0,b1,b2,b3,b4,b5,b6,b7,b8,b9,b10,b11,b12,b13,b14,b15,true,b17,b18,b19,b20,b21,x0,x1,x2,x3,x4,x5,x6,x7,x8,x9,x10,x11,x12,x13,x14,x15,(.int .i64 (y:Int)),x17,x18,x19,x20,rfl,by kernel_rfl,{ hI with f16:=fun _=>rfl }⟩
         ·have hbi:b17=false:=by simpa using hun
          have e15:b15=true:=by simpa using ready_dep hr rfl ⟨15,.data⟩ (by simp) rfl
          have e16:b16=true:=by simpa using ready_dep hr rfl ⟨16,.data⟩ (by simp) rfl
          subst hbi e15 e16
          clear hr hun
          obtain rfl:=hI.f15 rfl
          obtain rfl:=hI.f16 rfl
          refine wpOp_step rfl (fun K hK=>?_)
          go_simp
          exact hK _ _ ⟨b0,b1,b2,b3,b4,b5,b6,b7,b8,b9,b10,b11,b12,b13,b14,true,true,true,b18,b19,b20,b21,x0,x1,x2,x3,x4,x5,x6,x7,x8,x9,x10,x11,x12,x13,x14,(.slice (some ⟨gl,0,none⟩) nI nI),(.int .i64 (y:Int)),(.pointer (some ⟨gl,y,none⟩)),x18,x19,x20,rfl,by kernel_rfl,{ hI with f17:=fun _=>rfl }⟩
         ·have hbi:b18=false:=by simpa using hun
          have e17:b17=true:=by simpa using ready_dep hr rfl ⟨17,.data⟩ (by simp) rfl
          have n21:b21=false:=by
           cases hg:b21 with
           | false=>rfl
           | true=>have h9:=hI.c18 hg;rw[hbi]at h9;cases h9
          subst hbi e17 n21
          clear hr hun
          obtain rfl:=hI.f17 rfl
          obtain rfl:=hI.w0 rfl
          refine wpOp_step rfl (fun K hK=>?_)
          go_simp
          exact hK _ _ ⟨b0,b1,b2,b3,b4,b5,b6,b7,b8,b9,b10,b11,b12,b13,b14,b15,b16,true,true,b19,b20,false,x0,x1,x2,x3,x4,x5,x6,x7,x8,x9,x10,x11,x12,x13,x14,x15,x16,(.pointer (some ⟨gl,y,none⟩)),(.int .i64 ((s2.low y):Int)),x19,x20,rfl,by kernel_rfl,{ hI with c18:=fun _=>rfl,w1_:=nofun,f18:=fun _=>rfl }⟩
         ·have hbi:b19=false:=by simpa using hun
          have e11:b11=true:=by simpa using ready_dep hr rfl ⟨11,.data⟩ (by simp) rfl
          have e18:b18=true:=by simpa using ready_dep hr rfl ⟨18,.data⟩ (by simp) rfl
          subst hbi e11 e18
          clear hr hun
          obtain rfl:=hI.f11 rfl
          obtain rfl:=hI.f18 rfl
          refine wpOp_step rfl (fun K hK=>?_)
          go_simp
          exact hK _ _ ⟨b0,b1,b2,b3,b4,b5,b6,b7,b8,b9,b10,true,b12,b13,b14,b15,b16,b17,true,true,b20,b21,x0,x1,x2,x3,x4,x5,x6,x7,x8,x9,x10,(.int .i64 ((s2.low a):Int)),x12,x13,x14,x15,x16,x17,(.int .i64 ((s2.low y):Int)),(.int .i64 (if (s2.low y)<(s2.low a) then ((s2.low y):Int) else ((s2.low a):Int))),x20,rfl,by kernel_rfl,{ hI with f19:=fun _=>rfl }⟩
         ·have hbi:b20=false:=by simpa using hun
          have e3:b3=true:=by simpa using ready_dep hr rfl ⟨3,.data⟩ (by simp) rfl
          have e4:b4=true:=by simpa using ready_dep hr rfl ⟨4,.data⟩ (by simp) rfl
          subst hbi e3 e4
          clear hr hun
          obtain rfl:=hI.f3 rfl
          obtain rfl:=hI.f4 rfl
          refine wpOp_step rfl (fun K hK=>?_)
          go_simp
          exact hK _ _ ⟨b0,b1,b2,true,true,b5,b6,b7,b8,b9,b10,b11,b12,b13,b14,b15,b16,b17,b18,b19,true,b21,x0,x1,x2,(.slice (some ⟨gl,0,none⟩) nI nI),(.int .i64 (a:Int)),x5,x6,x7,x8,x9,x10,x11,x12,x13,x14,x15,x16,x17,x18,x19,(.pointer (some ⟨gl,a,none⟩)),rfl,by kernel_rfl,{ hI with f20:=fun _=>rfl }⟩
         ·have hbi:b21=false:=by simpa using hun
          have e20:b20=true:=by simpa using ready_dep hr rfl ⟨20,.data⟩ (by simp) rfl
          have e19:b19=true:=by simpa using ready_dep hr rfl ⟨19,.data⟩ (by simp) rfl
          have e3:b3=true:=by simpa using ready_dep hr rfl ⟨3,.phase⟩ (by simp) rfl
          have e8:b8=true:=by simpa using ready_dep hr rfl ⟨8,.phase⟩ (by simp) rfl
          have e11:b11=true:=by simpa using ready_dep hr rfl ⟨11,.phase⟩ (by simp) rfl
          have e15:b15=true:=by simpa using ready_dep hr rfl ⟨15,.phase⟩ (by simp) rfl
          have e18:b18=true:=by simpa using ready_dep hr rfl ⟨18,.phase⟩ (by simp) rfl
          subst hbi e20 e19 e3 e8 e11 e15 e18
          clear hr hun
          obtain rfl:=hI.f20 rfl
          obtain rfl:=hI.f19 rfl
          obtain rfl:=hI.f3 rfl
          obtain rfl:=hI.f8 rfl
          obtain rfl:=hI.f11 rfl
          obtain rfl:=hI.f15 rfl
          obtain rfl:=hI.f18 rfl
          obtain rfl:=hI.w0 rfl
          refine wpOp_step rfl (fun K hK=>?_)
          go_simp
          exact hK _ _ ⟨b0,b1,b2,true,b4,b5,b6,b7,true,b9,b10,true,b12,b13,b14,true,b16,b17,true,true,true,true,x0,x1,x2,(.slice (some ⟨gl,0,none⟩) nI nI),x4,x5,x6,x7,(.slice (some ⟨gl,0,none⟩) nI nI),x9,x10,(.int .i64 ((s2.low a):Int)),x12,x13,x14,(.slice (some ⟨gl,0,none⟩) nI nI),x16,x17,(.int .i64 ((s2.low y):Int)),(.int .i64 (if (s2.low y)<(s2.low a) then ((s2.low y):Int) else ((s2.low a):Int))),(.pointer (some ⟨gl,a,none⟩)),rfl,by kernel_rfl,{ hI with w0:=nofun,w1_:=fun _=>rfl,c3:=fun _=>rfl,c8:=fun _=>rfl,c11:=fun _=>rfl,c15:=fun _=>rfl,c18:=fun _=>rfl }⟩
        ·rintro listed a' w' ⟨b0,b1,b2,b3,b4,b5,b6,b7,b8,b9,b10,b11,b12,b13,b14,b15,b16,b17,b18,b19,b20,b21,x0,x1,x2,x3,x4,x5,x6,x7,x8,x9,x10,x11,x12,x13,x14,x15,x16,x17,x18,x19,x20,rfl,rfl,hI⟩ hrd
         have e0:b0=true:=by simpa using ready_nextb hrd 0 rfl (by simp[Region.binds])
         have e1:b1=true:=by simpa using ready_nextb hrd 1 rfl (by simp[Region.binds,e0])
         have e2:b2=true:=by simpa using ready_nextb hrd 2 rfl (by simp[Region.binds,e0,e1])
         have e3:b3=true:=by simpa using ready_nextb hrd 3 rfl (by simp[Region.binds,e0,e1,e2])
         have e4:b4=true:=by simpa using ready_nextb hrd 4 rfl (by simp[Region.binds,e0,e1,e2,e3])
         have e5:b5=true:=by simpa using ready_nextb hrd 5 rfl (by simp[Region.binds,e0,e1,e2,e3,e4])
         have e6:b6=true:=by simpa using ready_nextb hrd 6 rfl (by simp[Region.binds,e0,e1,e2,e3,e4,e5])
         have e7:b7=true:=by simpa using ready_nextb hrd 7 rfl (by simp[Region.binds,e0,e1,e2,e3,e4,e5,e6])
         have e8:b8=true:=by simpa using ready_nextb hrd 8 rfl (by simp[Region.binds,e0,e1,e2,e3,e4,e5,e6,e7])
         have e9:b9=true:=by simpa using ready_nextb hrd 9 rfl (by simp[Region.binds,e0,e1,e2,e3,e4,e5,e6,e7,e8])
         have e10:b10=true:=by simpa using ready_nextb hrd 10 rfl (by simp[Region.binds,e0,e1,e2,e3,e4,e5,e6,e7,e8,e9])
         have e11:b11=true:=by simpa using ready_nextb hrd 11 rfl (by simp[Region.binds,e0,e1,e2,e3,e4,e5,e6,e7,e8,e9,e10])
         have e12:b12=true:=by simpa using ready_nextb hrd 12 rfl (by simp[Region.binds,e0,e1,e2,e3,e4,e5,e6,e7,e8,e9,e10,e11])
         have e13:b13=true:=by simpa using ready_nextb hrd 13 rfl (by simp[Region.binds,e0,e1,e2,e3,e4,e5,e6,e7,e8,e9,e10,e11,e12])
         have e14:b14=true:=by simpa using ready_nextb hrd 14 rfl (by simp[Region.binds,e0,e1,e2,e3,e4,e5,e6,e7,e8,e9,e10,e11,e12,e13])
         have e15:b15=true:=by simpa using ready_nextb hrd 15 rfl (by simp[Region.binds,e0,e1,e2,e3,e4,e5,e6,e7,e8,e9,e10,e11,e12,e13,e14])
         have e16:b16=true:=by simpa using ready_nextb hrd 16 rfl (by simp[Region.binds,e0,e1,e2,e3,e4,e5,e6,e7,e8,e9,e10,e11,e12,e13,e14,e15])
         have e17:b17=true:=by simpa using ready_nextb hrd 17 rfl (by simp[Region.binds,e0,e1,e2,e3,e4,e5,e6,e7,e8,e9,e10,e11,e12,e13,e14,e15,e16])
         have e18:b18=true:=by simpa using ready_nextb hrd 18 rfl (by simp[Region.binds,e0,e1,e2,e3,e4,e5,e6,e7,e8,e9,e10,e11,e12,e13,e14,e15,e16,e17])
         have e19:b19=true:=by simpa using ready_nextb hrd 19 rfl (by simp[Region.binds,e0,e1,e2,e3,e4,e5,e6,e7,e8,e9,e10,e11,e12,e13,e14,e15,e16,e17,e18])
         have e20:b20=true:=by simpa using ready_nextb hrd 20 rfl (by simp[Region.binds,e0,e1,e2,e3,e4,e5,e6,e7,e8,e9,e10,e11,e12,e13,e14,e15,e16,e17,e18,e19])
         have e21:b21=true:=by simpa using ready_nextb hrd 21 rfl (by simp[Region.binds,e0,e1,e2,e3,e4,e5,e6,e7,e8,e9,e10,e11,e12,e13,e14,e15,e16,e17,e18,e19,e20])
         subst e0 e1 e2 e3 e4 e5 e6 e7 e8 e9 e10 e11 e12 e13 e14 e15 e16 e17 e18 e19 e20 e21
         clear hrd
         obtain rfl:=hI.w1_ rfl
         clear hI
         go_wp2_with fail
         go_roundw
         case rel=>exact⟨j+1,ov2,TJ.upd s2 a y,by omega,by go_num,by rw[HD1.out],HR3.out.drewN 1,HJ2,HK2.out.upd,HN3⟩
         case measure=>simp[intOf];omega
    ·have ej:j=L:=by omega
     subst ej
     have HTL:Hid ((EP f.d a).take j=EP f.d a):=List.take_of_length_le (by rw[HL.out];exact Nat.le_refl _)
     rw[HTL.out]at HJ ⊢
     obtain⟨new,hnew,_⟩:=HJ.out.op
     have HNW:Hid (s1.op=s.op++a :: new):=hnew
     clear hnew
     by_cases hlm:s1.low a=s1.met a
     ·have t:(((s1.low a:Nat):Int) == ((s1.met a:Nat):Int))=true:=by simp[hlm]
      have HLM:Hid (s1.low a=s1.met a):=hlm
      obtain⟨bb,hbb⟩:∃bb,decide (a∈EP f.d a)=bb:=⟨_,rfl⟩
      have HBB:Hid (bb=true↔a∈EP f.d a):=by show _↔_;rw[←hbb];simp
      rw[hbb]
      clear hlm hbb
      go_wp2_with fail
      go_quiet (fail)
      go_wp2_with (go_at_call 156;refine (close_any w10 _ W0.heap.size gR gm gl gf nI iv _ ov1 s1 s.op a new bb (HR.out.drewN _) HK.out HNW.out hI1).mono ?_;rintro e w12 ⟨rfl,ov3,hr3⟩)
      go_end0
      exact⟨rfl,ov3,_,hr3.back HBA.out HBK.out (fun g hg=>(HOW.out g hg).1),HJ.out.close HLM.out new HNW.out bb HBB.out,HK.out.close HNW.out,HNR.out⟩
     ·have t:(((s1.low a:Nat):Int) == ((s1.met a:Nat):Int))=false:=by simpa using (by omega:¬((s1.low a:Nat):Int)=((s1.met a:Nat):Int))
      have HLM:Hid (s1.low a≠s1.met a):=hlm
      clear hlm
      go_wp2_with fail
      go_quiet (fail)
      go_wp2_with fail
      go_end0
      exact⟨rfl,ov1,s1,(HR.out.drewN _).back HBA.out HBK.out (fun g hg=>(HOW.out g hg).1),HJ.out.leave HLM.out,HK.out,HNR.out⟩
end Go.Proofs.YtjglgbepobmjhaaGreatDoor
