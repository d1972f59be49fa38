import Derived.Test.YtkajknidfoelcaaGreatDoorP37
import Derived.Test.YtkajknidfoelcaaGreatDoorP13
import Derived.Deep.CutRange
set_option linter.unusedVariables false
set_option linter.unusedSimpArgs false
set_option maxRecDepth 20000
set_option maxHeartbeats 8000000
namespace Go.Proofs.YtkajknidfoelcaaGreatDoor.U
open Go.RowKit M T
attribute [local go_sem] run_store_float
structure RBin (W:World) (gm gf I:Nat) (m:MachD) (w':World) (b0 b1 b2 b3 b4 b5 b6 b7 b8 b9 b10 b11 b12 b13 b14 b15 b16 b17:Bool) (x0 x1 x2 x3 x4 x5 x6 x7 x8 x9 x10 x11 x12 x13 x14 x15 x17:Value):Prop where
 P0:b11=false→Below W.heap.size W w'
 P1:b11=true→MachAt w' gm { m with rticks:=m.rticks+1 }∧ButL [gm] W w'
 A0:b15=true→b16=false→∃g,x15=.pointer (some ⟨g,0,none⟩)∧w'.heap[g]?=some ZvO∧W.heap.size≤g
 A1:b16=true→∃g,x15=.pointer (some ⟨g,0,none⟩)∧w'.heap[g]?=some noO∧W.heap.size≤g
 o16:b16=true→b15=true∧b11=true
 sz:W.heap.size≤w'.heap.size
 c6:b6=true→b5=true
 c10:b10=true→b9=true∧b6=true
 c11:b11=true→b2=true∧b10=true
 f0:b0=true→x0=.pointer (some ⟨gm,0,none⟩)
 f1:b1=true→x1=.pointer (some ⟨I,2,none⟩)
 f2:b2=true→x2=.int .i64 12
 f3:b3=true→x3=.pointer (some ⟨gf,0,none⟩)
 f4:b4=true→x4=.pointer (some ⟨I,3,none⟩)
 f5:b5=true→x5=.int .i64 0
 f6:b6=true→x6=noA
 f7:b7=true→x7=.pointer (some ⟨gf,0,none⟩)
 f8:b8=true→x8=.pointer (some ⟨I,4,none⟩)
 f9:b9=true→x9=.int .i64 0
 f10:b10=true→x10=noA
 f11:b11=true→x11=.tuple #[noA,.nilIface]
 f12:b12=true→x12=.tuple #[noA,.nilIface]
 f13:b13=true→x13=noA
 f14:b14=true→x14=.nilIface
 f17:b17=true→x17=.nilIface
theorem doBin_go (gm gf:Nat) (n:ID) (m:MachD) (c:CallD) (w:World) (hm:MachAt w gm m) (hc:CallAt w gf c) (hr:c.regs.length=250) (ha:n.a=4) (hb:n.b=12) (hcc:n.c=0) (hd:n.d=0) (h0:c.regs[0]?=some (sdV ⟨4,0,0,⟨#[]⟩,0⟩)) (he:m.rticks<m.ticks) (hz:0≤m.rticks) (ht:m.ticks≤100000) :
  Calls Tryz.prog 94 #[.pointer (some ⟨gm,0,none⟩),.pointer (some ⟨gf,0,none⟩),insV n] w fun e w'=>e=.returned .nilIface∧MachAt w' gm { m with rticks:=m.rticks+1 }∧CallAt w' gf { c with regs:=c.regs.set 4 (sdV ⟨4,0,0,⟨#[]⟩,0⟩) }∧ButL [gm,gf] w w':=by
 obtain⟨op,a,b,cc,d⟩:=n
 dsimp only[insV]at ha hb hcc hd ⊢
 subst ha hb hcc hd
 obtain⟨W,hW⟩:∃W,w.alloc (InO ⟨op,4,12,0,0⟩)=W:=⟨_,rfl⟩
 have hbw:Below w.heap.size w W:=by rw[←hW];exact bw1 _ _
 have bn:W.heap[w.heap.size]?=some (InO ⟨op,4,12,0,0⟩):=by rw[←hW];exact blk_new _ _
 have hne:w.heap.size≠gf∧w.heap.size≠gm:=⟨by have:=blk_lt hc;omega,by have:=blk_lt hm;omega⟩
 have hmf:gm≠gf:=ne_ty hm hc (by decide)
 have HM:Hid (MachAt W gm m):=hm.later hbw
 have HC:Hid (CallAt W gf c):=hc.later hbw
 have HB:Hid (Below w.heap.size w W):=hbw
 have HI:Hid (W.heap[w.heap.size]?=some (InO ⟨op,4,12,0,0⟩)):=bn
 have d1:W.cell? ⟨w.heap.size,1,none⟩=some (.int .i64 4):=by rw[blk_cell bn];rfl
 have d2:W.cell? ⟨w.heap.size,2,none⟩=some (.int .i64 12):=by rw[blk_cell bn];rfl
 have d3:W.cell? ⟨w.heap.size,3,none⟩=some (.int .i64 0):=by rw[blk_cell bn];rfl
 have d4:W.cell? ⟨w.heap.size,4,none⟩=some (.int .i64 0):=by rw[blk_cell bn];rfl
 have hgmW:gm<W.heap.size:=Nat.lt_of_lt_of_le (blk_lt hm) hbw.size
 clear hm hc hbw bn
 go_enter Tryz.func94,Tryz.ntmps94
 go_wp2_with fail
 clear hW
 go_cut [7,8] from 9 to 23 (fun x y wx=>∃g,x=.pointer (some ⟨g,0,none⟩)∧y=.nilIface∧Hid (wx.heap[g]?=some noO∧W.heap.size≤g∧MachAt wx gm { m with rticks:=m.rticks+1 }∧ButL [gm] W wx))
 case first =>
  refine wp_region_inv (by kernel_rfl) (fun base listed a' w'=>∃b0 b1 b2 b3 b4 b5 b6 b7 b8 b9 b10 b11 b12 b13 b14 b15 b16 b17 x0 x1 x2 x3 x4 x5 x6 x7 x8 x9 x10 x11 x12 x13 x14 x15 x17,listed=#[b0,b1,b2,b3,b4,b5,b6,b7,b8,b9,b10,b11,b12,b13,b14,b15,b16,b17]∧a'=(((((((((((((((((base.put (some 10) x0).put (some 11) x1).put (some 12) x2).put (some 13) x3).put (some 14) x4).put (some 15) x5).put (some 16) x6).put (some 17) x7).put (some 18) x8).put (some 19) x9).put (some 20) x10).put (some 21) x11).put (some 9) x12).put (some 22) x13).put (some 23) x14).put (some 7) x15).put (some 8) x17)∧RBin W gm gf w.heap.size m w' b0 b1 b2 b3 b4 b5 b6 b7 b8 b9 b10 b11 b12 b13 b14 b15 b16 b17 x0 x1 x2 x3 x4 x5 x6 x7 x8 x9 x10 x11 x12 x13 x14 x15 x17) ?_ ?_ ?_
  ·exact⟨false,false,false,false,false,false,false,false,false,false,false,false,false,false,false,false,false,false,undef,undef,undef,undef,undef,undef,undef,undef,undef,undef,undef,undef,undef,undef,undef,undef,undef,rfl,by kernel_rfl,⟨fun _=>(Below.refl _ _).drew,nofun,nofun,nofun,nofun,Nat.le_refl _,nofun,nofun,nofun,nofun,nofun,nofun,nofun,nofun,nofun,nofun,nofun,nofun,nofun,nofun,nofun,nofun,nofun,nofun,nofun⟩⟩
  ·rintro i listed a' w' ⟨b0,b1,b2,b3,b4,b5,b6,b7,b8,b9,b10,b11,b12,b13,b14,b15,b16,b17,x0,x1,x2,x3,x4,x5,x6,x7,x8,x9,x10,x11,x12,x13,x14,x15,x17,rfl,rfl,hI⟩ hr
   have hi:=ready_lt hr
   have hun:=(mem_ready.1 hr).1
   simp only[List.size_toArray,List.length_cons,List.length_nil,Nat.zero_add,Nat.reduceAdd]at hi
   have hi':i=0∨i=1∨i=2∨i=3∨i=4∨i=5∨i=6∨i=7∨i=8∨i=9∨i=10∨i=11∨i=12∨i=13∨i=14∨i=15∨i=16∨i=17:=by omega
   clear hi
   rcases hi' with rfl | rfl | rfl | rfl | rfl | rfl | rfl | rfl | rfl | rfl | rfl | rfl | rfl | rfl | rfl | rfl | rfl | rfl
   ·have hbi:b0=false:=by simpa using hun
    subst hbi 
    clear hr hun
    refine wpOp_step rfl (fun K hK=>?_)
    go_simp
    exact hK _ _ ⟨true,b1,b2,b3,b4,b5,b6,b7,b8,b9,b10,b11,b12,b13,b14,b15,b16,b17,(.pointer (some ⟨gm,0,none⟩)),x1,x2,x3,x4,x5,x6,x7,x8,x9,x10,x11,x12,x13,x14,x15,x17,rfl,by kernel_rfl,{ hI with f0:=fun _=>rfl }⟩
   ·have hbi:b1=false:=by simpa using hun
    subst hbi 
    clear hr hun
    refine wpOp_step rfl (fun K hK=>?_)
    go_simp
    exact hK _ _ ⟨b0,true,b2,b3,b4,b5,b6,b7,b8,b9,b10,b11,b12,b13,b14,b15,b16,b17,x0,(.pointer (some ⟨w.heap.size,2,none⟩)),x2,x3,x4,x5,x6,x7,x8,x9,x10,x11,x12,x13,x14,x15,x17,rfl,by kernel_rfl,{ hI with f1:=fun _=>rfl }⟩
   ·have hbi:b2=false:=by simpa using hun
    have e1:b1=true:=by simpa using ready_dep hr rfl ⟨1,.data⟩ (by simp) rfl
    have n11:b11=false:=by
     cases hg:b11 with
     | false=>rfl
     | true=>have h9:=(hI.c11 hg).1;rw[hbi]at h9;cases h9
    have n16:b16=false:=by
     cases hg:b16 with
     | false=>rfl
     | true=>have h9:=(hI.c11 (hI.o16 hg).2).1;rw[hbi]at h9;cases h9
    subst hbi e1 n11 n16
    clear hr hun
    obtain rfl:=hI.f1 rfl
    have hw:=hI.P0 rfl
    have hcell:=cell_later hw d2
    refine wpOp_step rfl (fun K hK=>?_)
    go_simp
    exact hK _ _ ⟨b0,true,true,b3,b4,b5,b6,b7,b8,b9,b10,false,b12,b13,b14,b15,false,b17,x0,(.pointer (some ⟨w.heap.size,2,none⟩)),(.int .i64 12),x3,x4,x5,x6,x7,x8,x9,x10,x11,x12,x13,x14,x15,x17,rfl,by kernel_rfl,{ hI with P1:=nofun,A1:=nofun,o16:=nofun,c11:=nofun,f2:=fun _=>rfl,f11:=nofun }⟩
   ·have hbi:b3=false:=by simpa using hun
    subst hbi 
    clear hr hun
    refine wpOp_step rfl (fun K hK=>?_)
    go_simp
    exact hK _ _ ⟨b0,b1,b2,true,b4,b5,b6,b7,b8,b9,b10,b11,b12,b13,b14,b15,b16,b17,x0,x1,x2,(.pointer (some ⟨gf,0,none⟩)),x4,x5,x6,x7,x8,x9,x10,x11,x12,x13,x14,x15,x17,rfl,by kernel_rfl,{ hI with f3:=fun _=>rfl }⟩
   ·have hbi:b4=false:=by simpa using hun
    subst hbi 
    clear hr hun
    refine wpOp_step rfl (fun K hK=>?_)
    go_simp
    exact hK _ _ ⟨b0,b1,b2,b3,true,b5,b6,b7,b8,b9,b10,b11,b12,b13,b14,b15,b16,b17,x0,x1,x2,x3,(.pointer (some ⟨w.heap.size,3,none⟩)),x5,x6,x7,x8,x9,x10,x11,x12,x13,x14,x15,x17,rfl,by kernel_rfl,{ hI with f4:=fun _=>rfl }⟩
   ·have hbi:b5=false:=by simpa using hun
    have e4:b4=true:=by simpa using ready_dep hr rfl ⟨4,.data⟩ (by simp) rfl
    have n11:b11=false:=by
     cases hg:b11 with
     | false=>rfl
     | true=>have h9:=hI.c6 (hI.c10 (hI.c11 hg).2).2;rw[hbi]at h9;cases h9
    have n16:b16=false:=by
     cases hg:b16 with
     | false=>rfl
     | true=>have h9:=hI.c6 (hI.c10 (hI.c11 (hI.o16 hg).2).2).2;rw[hbi]at h9;cases h9
    subst hbi e4 n11 n16
    clear hr hun
    obtain rfl:=hI.f4 rfl
    have hw:=hI.P0 rfl
    have hcell:=cell_later hw d3
    refine wpOp_step rfl (fun K hK=>?_)
    go_simp
    exact hK _ _ ⟨b0,b1,b2,b3,true,true,b6,b7,b8,b9,b10,false,b12,b13,b14,b15,false,b17,x0,x1,x2,x3,(.pointer (some ⟨w.heap.size,3,none⟩)),(.int .i64 0),x6,x7,x8,x9,x10,x11,x12,x13,x14,x15,x17,rfl,by kernel_rfl,{ hI with P1:=nofun,A1:=nofun,o16:=nofun,c11:=nofun,c6:=fun _=>rfl,f5:=fun _=>rfl,f11:=nofun }⟩
   ·have hbi:b6=false:=by simpa using hun
    have e3:b3=true:=by simpa using ready_dep hr rfl ⟨3,.data⟩ (by simp) rfl
    have e5:b5=true:=by simpa using ready_dep hr rfl ⟨5,.data⟩ (by simp) rfl
    have n11:b11=false:=by
     cases hg:b11 with
     | false=>rfl
     | true=>have h9:=(hI.c10 (hI.c11 hg).2).2;rw[hbi]at h9;cases h9
    have n16:b16=false:=by
     cases hg:b16 with
     | false=>rfl
     | true=>have h9:=(hI.c10 (hI.c11 (hI.o16 hg).2).2).2;rw[hbi]at h9;cases h9
    subst hbi e3 e5 n11 n16
    clear hr hun
    obtain rfl:=hI.f3 rfl
    obtain rfl:=hI.f5 rfl
    have hw:=hI.P0 rfl
    refine wpOp_step rfl (fun K hK=>?_)
    go_simp
    refine (value_pos gf 0 1 ⟨4,0,0,⟨#[]⟩,0⟩ none none 0 0 c _ (HC.out.later hw) hr (by omega) h0).mono ?_
    rintro e w1 ⟨rfl,hx⟩
    have hsz:W.heap.size≤w1.heap.size:=Nat.le_trans hI.sz hx.size
    have hA0:b15=true→False∨∃g,x15=.pointer (some ⟨g,0,none⟩)∧w1.heap[g]?=some ZvO∧W.heap.size≤g:=fun h=>by obtain⟨g,h1,h2,h3⟩:=hI.A0 h rfl;exact .inr ⟨g,h1,blk_later hx h2,h3⟩
    exact hK _ _ ⟨b0,b1,b2,true,b4,true,true,b7,b8,b9,b10,false,b12,b13,b14,b15,false,b17,x0,x1,x2,(.pointer (some ⟨gf,0,none⟩)),x4,(.int .i64 0),(noA),x7,x8,x9,x10,x11,x12,x13,x14,x15,x17,rfl,by kernel_rfl,{ hI with P1:=nofun,A1:=nofun,o16:=nofun,c11:=nofun,P0:=fun _=>hw.trans (hx.mono hw.size),A0:=fun h _=>(hA0 h).resolve_left id,sz:=hsz,c6:=fun _=>rfl,c10:=fun h=>⟨(hI.c10 h).1,rfl⟩,f6:=fun _=>rfl,f11:=nofun }⟩
   ·have hbi:b7=false:=by simpa using hun
    subst hbi 
    clear hr hun
    refine wpOp_step rfl (fun K hK=>?_)
    go_simp
    exact hK _ _ ⟨b0,b1,b2,b3,b4,b5,b6,true,b8,b9,b10,b11,b12,b13,b14,b15,b16,b17,x0,x1,x2,x3,x4,x5,x6,(.pointer (some ⟨gf,0,none⟩)),x8,x9,x10,x11,x12,x13,x14,x15,x17,rfl,by kernel_rfl,{ hI with f7:=fun _=>rfl }⟩
   ·have hbi:b8=false:=by simpa using hun
    subst hbi 
    clear hr hun
    refine wpOp_step rfl (fun K hK=>?_)
    go_simp
    exact hK _ _ ⟨b0,b1,b2,b3,b4,b5,b6,b7,true,b9,b10,b11,b12,b13,b14,b15,b16,b17,x0,x1,x2,x3,x4,x5,x6,x7,(.pointer (some ⟨w.heap.size,4,none⟩)),x9,x10,x11,x12,x13,x14,x15,x17,rfl,by kernel_rfl,{ hI with f8:=fun _=>rfl }⟩
   ·have hbi:b9=false:=by simpa using hun
    have e8:b8=true:=by simpa using ready_dep hr rfl ⟨8,.data⟩ (by simp) rfl
    have n11:b11=false:=by
     cases hg:b11 with
     | false=>rfl
     | true=>have h9:=(hI.c10 (hI.c11 hg).2).1;rw[hbi]at h9;cases h9
    have n16:b16=false:=by
     cases hg:b16 with
     | false=>rfl
     | true=>have h9:=(hI.c10 (hI.c11 (hI.o16 hg).2).2).1;rw[hbi]at h9;cases h9
    subst hbi e8 n11 n16
    clear hr hun
    obtain rfl:=hI.f8 rfl
    have hw:=hI.P0 rfl
    have hcell:=cell_later hw d4
    refine wpOp_step rfl (fun K hK=>?_)
    go_simp
    exact hK _ _ ⟨b0,b1,b2,b3,b4,b5,b6,b7,true,true,b10,false,b12,b13,b14,b15,false,b17,x0,x1,x2,x3,x4,x5,x6,x7,(.pointer (some ⟨w.heap.size,4,none⟩)),(.int .i64 0),x10,x11,x12,x13,x14,x15,x17,rfl,by kernel_rfl,{ hI with P1:=nofun,A1:=nofun,o16:=nofun,c11:=nofun,c10:=fun h=>⟨rfl,(hI.c10 h).2⟩,f9:=fun _=>rfl,f11:=nofun }⟩
   ·have hbi:b10=false:=by simpa using hun
    have e7:b7=true:=by simpa using ready_dep hr rfl ⟨7,.data⟩ (by simp) rfl
    have e9:b9=true:=by simpa using ready_dep hr rfl ⟨9,.data⟩ (by simp) rfl
    have e6:b6=true:=by simpa using ready_dep hr rfl ⟨6,.chain⟩ (by simp) rfl
    have n11:b11=false:=by
     cases hg:b11 with
     | false=>rfl
     | true=>have h9:=(hI.c11 hg).2;rw[hbi]at h9;cases h9
    have n16:b16=false:=by
     cases hg:b16 with
     | false=>rfl
     | true=>have h9:=(hI.c11 (hI.o16 hg).2).2;rw[hbi]at h9;cases h9
    subst hbi e7 e9 e6 n11 n16
    clear hr hun
    obtain rfl:=hI.f7 rfl
    obtain rfl:=hI.f9 rfl
    obtain rfl:=hI.f6 rfl
    have hw:=hI.P0 rfl
    refine wpOp_step rfl (fun K hK=>?_)
    go_simp
    refine (value_pos gf 0 1 ⟨4,0,0,⟨#[]⟩,0⟩ none none 0 0 c _ (HC.out.later hw) hr (by omega) h0).mono ?_
    rintro e w1 ⟨rfl,hx⟩
    have hsz:W.heap.size≤w1.heap.size:=Nat.le_trans hI.sz hx.size
    have hA0:b15=true→False∨∃g,x15=.pointer (some ⟨g,0,none⟩)∧w1.heap[g]?=some ZvO∧W.heap.size≤g:=fun h=>by obtain⟨g,h1,h2,h3⟩:=hI.A0 h rfl;exact .inr ⟨g,h1,blk_later hx h2,h3⟩
    exact hK _ _ ⟨b0,b1,b2,b3,b4,b5,true,true,b8,true,true,false,b12,b13,b14,b15,false,b17,x0,x1,x2,x3,x4,x5,(noA),(.pointer (some ⟨gf,0,none⟩)),x8,(.int .i64 0),(noA),x11,x12,x13,x14,x15,x17,rfl,by kernel_rfl,{ hI with P1:=nofun,A1:=nofun,o16:=nofun,c11:=nofun,P0:=fun _=>hw.trans (hx.mono hw.size),A0:=fun h _=>(hA0 h).resolve_left id,sz:=hsz,c10:=fun _=>⟨rfl,rfl⟩,f10:=fun _=>rfl,f11:=nofun }⟩
   ·have hbi:b11=false:=by simpa using hun
    have e0:b0=true:=by simpa using ready_dep hr rfl ⟨0,.data⟩ (by simp) rfl
    have e2:b2=true:=by simpa using ready_dep hr rfl ⟨2,.data⟩ (by simp) rfl
    have e6:b6=true:=by simpa using ready_dep hr rfl ⟨6,.data⟩ (by simp) rfl
    have e10:b10=true:=by simpa using ready_dep hr rfl ⟨10,.data⟩ (by simp) rfl
    have n16:b16=false:=by
     cases hg:b16 with
     | false=>rfl
     | true=>have h9:=(hI.o16 hg).2;rw[hbi]at h9;cases h9
    subst hbi e0 e2 e6 e10 n16
    clear hr hun
    obtain rfl:=hI.f0 rfl
    obtain rfl:=hI.f2 rfl
    obtain rfl:=hI.f6 rfl
    obtain rfl:=hI.f10 rfl
    have hw:=hI.P0 rfl
    refine wpOp_step rfl (fun K hK=>?_)
    go_simp
    refine (mbinary_go gm m _ (HM.out.later hw) he hz ht).mono ?_
    rintro e w1 ⟨rfl,hm1,hb1⟩
    have hsz:W.heap.size≤w1.heap.size:=Nat.le_trans hI.sz hb1.size
    have hA0:b15=true→False∨∃g,x15=.pointer (some ⟨g,0,none⟩)∧w1.heap[g]?=some ZvO∧W.heap.size≤g:=fun h=>by obtain⟨g,h1,h2,h3⟩:=hI.A0 h rfl;exact .inr ⟨g,h1,hb1.blk h2 (by simp;omega),h3⟩
    exact hK _ _ ⟨true,b1,true,b3,b4,b5,true,b7,b8,b9,true,true,b12,b13,b14,b15,false,b17,(.pointer (some ⟨gm,0,none⟩)),x1,(.int .i64 12),x3,x4,x5,(noA),x7,x8,x9,(noA),(.tuple #[noA,.nilIface]),x12,x13,x14,x15,x17,rfl,by kernel_rfl,{ hI with P0:=nofun,P1:=fun _=>⟨hm1,(ButL.of_below hw).trans hb1⟩,A0:=fun h _=>(hA0 h).resolve_left id,A1:=nofun,o16:=nofun,sz:=hsz,c11:=fun _=>⟨rfl,rfl⟩,f11:=fun _=>rfl }⟩
   ·have hbi:b12=false:=by simpa using hun
    have e11:b11=true:=by simpa using ready_dep hr rfl ⟨11,.data⟩ (by simp) rfl
    subst hbi e11
    clear hr hun
    obtain rfl:=hI.f11 rfl
    refine wpOp_step rfl (fun K hK=>?_)
    go_simp
    exact hK _ _ ⟨b0,b1,b2,b3,b4,b5,b6,b7,b8,b9,b10,true,true,b13,b14,b15,b16,b17,x0,x1,x2,x3,x4,x5,x6,x7,x8,x9,x10,(.tuple #[noA,.nilIface]),(.tuple #[noA,.nilIface]),x13,x14,x15,x17,rfl,by kernel_rfl,{ hI with f12:=fun _=>rfl }⟩
   ·have hbi:b13=false:=by simpa using hun
    have e12:b12=true:=by simpa using ready_dep hr rfl ⟨12,.data⟩ (by simp) rfl
    subst hbi e12
    clear hr hun
    obtain rfl:=hI.f12 rfl
    refine wpOp_step rfl (fun K hK=>?_)
    go_simp
    exact hK _ _ ⟨b0,b1,b2,b3,b4,b5,b6,b7,b8,b9,b10,b11,true,true,b14,b15,b16,b17,x0,x1,x2,x3,x4,x5,x6,x7,x8,x9,x10,x11,(.tuple #[noA,.nilIface]),(noA),x14,x15,x17,rfl,by kernel_rfl,{ hI with f13:=fun _=>rfl }⟩
   ·have hbi:b14=false:=by simpa using hun
    have e12:b12=true:=by simpa using ready_dep hr rfl ⟨12,.data⟩ (by simp) rfl
    subst hbi e12
    clear hr hun
    obtain rfl:=hI.f12 rfl
    refine wpOp_step rfl (fun K hK=>?_)
    go_simp
    exact hK _ _ ⟨b0,b1,b2,b3,b4,b5,b6,b7,b8,b9,b10,b11,true,b13,true,b15,b16,b17,x0,x1,x2,x3,x4,x5,x6,x7,x8,x9,x10,x11,(.tuple #[noA,.nilIface]),x13,(.nilIface),x15,x17,rfl,by kernel_rfl,{ hI with f14:=fun _=>rfl }⟩
   ·have hbi:b15=false:=by simpa using hun
    have n16:b16=false:=by
     cases hg:b16 with
     | false=>rfl
     | true=>have h9:=(hI.o16 hg).1;rw[hbi]at h9;cases h9
    subst hbi n16
    clear hr hun
    refine wpOp_step rfl (fun K hK=>?_)
    go_simp
    exact hK _ _ ⟨b0,b1,b2,b3,b4,b5,b6,b7,b8,b9,b10,b11,b12,b13,b14,true,false,b17,x0,x1,x2,x3,x4,x5,x6,x7,x8,x9,x10,x11,x12,x13,x14,(.pointer (some ⟨w'.heap.size,0,none⟩)),x17,rfl,by kernel_rfl,{ hI with P0:=fun h=>(hI.P0 h).trans ((bw1 _ _).mono (hI.P0 h).size),P1:=fun h=>⟨(hI.P1 h).1.later (bw1 _ _),(hI.P1 h).2.alloc _⟩,A0:=fun _ _=>⟨w'.heap.size,rfl,blk_new _ _,hI.sz⟩,A1:=nofun,o16:=nofun,sz:=Nat.le_trans hI.sz (by simp) }⟩
   ·have hbi:b16=false:=by simpa using hun
    have e15:b15=true:=by simpa using ready_dep hr rfl ⟨15,.data⟩ (by simp) rfl
    have e13:b13=true:=by simpa using ready_dep hr rfl ⟨13,.data⟩ (by simp) rfl
    have e11:b11=true:=by simpa using ready_dep hr rfl ⟨11,.chain⟩ (by simp) rfl
    subst hbi e15 e13 e11
    clear hr hun
    obtain⟨g,rfl,hg,hge⟩:=hI.A0 rfl rfl
    obtain rfl:=hI.f13 rfl
    obtain rfl:=hI.f11 rfl
    have q0:w'.cell? ⟨g,0,none⟩=some (.int .i64 0):=by rw[blk_cell hg];rfl
    have q1:w'.cell? ⟨g,1,none⟩=some (.int .i64 0):=by rw[blk_cell hg];rfl
    have q2:w'.cell? ⟨g,2,none⟩=some (.float .f64 0):=by rw[blk_cell hg];rfl
    have q3:w'.cell? ⟨g,3,none⟩=some (.string ⟨#[]⟩):=by rw[blk_cell hg];rfl
    have q4:w'.cell? ⟨g,4,none⟩=some (.int .i64 0):=by rw[blk_cell hg];rfl
    have qz:=blk_frozen hg
    obtain⟨p1,p2⟩:=hI.P1 rfl
    refine wpOp_step rfl (fun K hK=>?_)
    go_simp
    exact hK _ _ ⟨b0,b1,b2,b3,b4,b5,b6,b7,b8,b9,b10,true,b12,true,b14,true,true,b17,x0,x1,x2,x3,x4,x5,x6,x7,x8,x9,x10,(.tuple #[noA,.nilIface]),x12,(noA),x14,(.pointer (some ⟨g,0,none⟩)),x17,rfl,by kernel_rfl,{ hI with P0:=nofun,P1:=fun _=>⟨blk5 p1 (by omega) _ _ _ _ _,but5 p2 hge _ _ _ _ _⟩,A0:=(fun _ h=>by cases h),A1:=fun _=>⟨g,rfl,blk_set (blk_set (blk_set (blk_set (blk_set hg 0 _) 1 _) 2 _) 3 _) 4 _,hge⟩,o16:=fun _=>⟨rfl,rfl⟩,sz:=by simpa using hI.sz }⟩
   ·have hbi:b17=false:=by simpa using hun
    have e14:b14=true:=by simpa using ready_dep hr rfl ⟨14,.data⟩ (by simp) rfl
    have e16:b16=true:=by simpa using ready_dep hr rfl ⟨16,.chain⟩ (by simp) rfl
    subst hbi e14 e16
    clear hr hun
    obtain rfl:=hI.f14 rfl
    refine wpOp_step rfl (fun K hK=>?_)
    go_simp
    exact hK _ _ ⟨b0,b1,b2,b3,b4,b5,b6,b7,b8,b9,b10,b11,b12,b13,true,b15,true,true,x0,x1,x2,x3,x4,x5,x6,x7,x8,x9,x10,x11,x12,x13,(.nilIface),x15,(.nilIface),rfl,by kernel_rfl,{ hI with f17:=fun _=>rfl }⟩
  ·rintro listed a' w' ⟨b0,b1,b2,b3,b4,b5,b6,b7,b8,b9,b10,b11,b12,b13,b14,b15,b16,b17,x0,x1,x2,x3,x4,x5,x6,x7,x8,x9,x10,x11,x12,x13,x14,x15,x17,rfl,rfl,hI⟩ hrd
   have e0:b0=true:=by simpa using ready_nextb hrd 0 rfl (by simp[Region.binds])
   have e1:b1=true:=by simpa using ready_nextb hrd 1 rfl (by simp[Region.binds,e0])
   have e2:b2=true:=by simpa using ready_nextb hrd 2 rfl (by simp[Region.binds,e0,e1])
   have e3:b3=true:=by simpa using ready_nextb hrd 3 rfl (by simp[Region.binds,e0,e1,e2])
   have e4:b4=true:=by simpa using ready_nextb hrd 4 rfl (by simp[Region.binds,e0,e1,e2,e3])
   have e5:b5=true:=by simpa using ready_nextb hrd 5 rfl (by simp[Region.binds,e0,e1,e2,e3,e4])
   have e6:b6=true:=by simpa using ready_nextb hrd 6 rfl (by simp[Region.binds,e0,e1,e2,e3,e4,e5])
   have e7:b7=true:=by simpa using ready_nextb hrd 7 rfl (by simp[Region.binds,e0,e1,e2,e3,e4,e5,e6])
   have e8:b8=true:=by simpa using ready_nextb hrd 8 rfl (by simp[Region.binds,e0,e1,e2,e3,e4,e5,e6,e7])
   have e9:b9=true:=by simpa using ready_nextb hrd 9 rfl (by simp[Region.binds,e0,e1,e2,e3,e4,e5,e6,e7,e8])
   have e10:b10=true:=by simpa using ready_nextb hrd 10 rfl (by simp[Region.binds,e0,e1,e2,e3,e4,e5,e6,e7,e8,e9])
   have e11:b11=true:=by simpa using ready_nextb hrd 11 rfl (by simp[Region.binds,e0,e1,e2,e3,e4,e5,e6,e7,e8,e9,e10])
   have e12:b12=true:=by simpa using ready_nextb hrd 12 rfl (by simp[Region.binds,e0,e1,e2,e3,e4,e5,e6,e7,e8,e9,e10,e11])
   have e13:b13=true:=by simpa using ready_nextb hrd 13 rfl (by simp[Region.binds,e0,e1,e2,e3,e4,e5,e6,e7,e8,e9,e10,e11,e12])
   have e14:b14=true:=by simpa using ready_nextb hrd 14 rfl (by simp[Region.binds,e0,e1,e2,e3,e4,e5,e6,e7,e8,e9,e10,e11,e12,e13])
   have e15:b15=true:=by simpa using ready_nextb hrd 15 rfl (by simp[Region.binds,e0,e1,e2,e3,e4,e5,e6,e7,e8,e9,e10,e11,e12,e13,e14])
   have e16:b16=true:=by simpa using ready_nextb hrd 16 rfl (by simp[Region.binds,e0,e1,e2,e3,e4,e5,e6,e7,e8,e9,e10,e11,e12,e13,e14,e15])
   have e17:b17=true:=by simpa using ready_nextb hrd 17 rfl (by simp[Region.binds,e0,e1,e2,e3,e4,e5,e6,e7,e8,e9,e10,e11,e12,e13,e14,e15,e16])
   subst e0 e1 e2 e3 e4 e5 e6 e7 e8 e9 e10 e11 e12 e13 e14 e15 e16 e17
   clear hrd
   obtain⟨g,rfl,hg,hge⟩:=hI.A1 rfl
   obtain⟨p1,p2⟩:=hI.P1 rfl
   obtain rfl:=hI.f17 rfl
   have HX:Hid (w'.heap[g]?=some noO∧W.heap.size≤g∧MachAt w' gm { m with rticks:=m.rticks+1 }∧ButL [gm] W w'):=⟨hg,hge,p1,p2⟩
   clear hI hg hge p1 p2
   go_wp2_with fail
   go_simp
   go_meet
   exact⟨g,rfl,rfl,HX⟩
 case rest =>
  obtain⟨g,rfl,rfl,HX⟩:=hcut
  have hx:=HX.out
  have p1:wc.cell? ⟨w.heap.size,1,none⟩=some (.int .i64 4):=by rw[blk_cell (hx.2.2.2.blk HI.out (by simp;exact hne.2))];rfl
  obtain⟨e0,e1,e2,e3,e4⟩:=vO_cells (v:=⟨4,0,0,⟨#[]⟩,0⟩) hx.1
  have HC1:Hid (CallAt wc gf c):=HC.out.but hx.2.2.2 (by simp;exact fun e=>hmf e.symm)
  have HB1:Hid (ButL [gm,gf] w wc):=(ButL.of_below HB.out).trans (hx.2.2.2.mono (fun q hq=>.inl (by simp at hq;subst hq;simp)))
  have HM1:Hid (MachAt wc gm { m with rticks:=m.rticks+1 }):=hx.2.2.1
  clear hx HX d1 d2 d3 d4
  go_wp2_with fail
  refine (put_any gf 4 ⟨4,0,0,⟨#[]⟩,0⟩ c _ HC1.out hr (by omega)).mono ?_
  rintro e w4 ⟨rfl,hc4,hb4⟩
  have HC4:Hid (CallAt w4 gf { c with regs:=c.regs.set 4 (sdV ⟨4,0,0,⟨#[]⟩,0⟩) }):=hc4
  have HM4:Hid (MachAt w4 gm { m with rticks:=m.rticks+1 }):=MachAt.but HM1.out hb4 (by simp;exact hmf)
  have HB4:Hid (ButL [gm,gf] w w4):=HB1.out.trans (hb4.mono (fun q hq=>.inl (by simp at hq;subst hq;simp)))
  clear hc4 hb4
  go_wp2_with fail
  go_ret
  exact⟨rfl,HM4.out,HC4.out,HB4.out⟩
end Go.Proofs.YtkajknidfoelcaaGreatDoor.U
