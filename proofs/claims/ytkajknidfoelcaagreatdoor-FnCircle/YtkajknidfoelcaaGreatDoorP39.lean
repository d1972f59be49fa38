import Derived.Test.YtkajknidfoelcaaGreatDoorP37
import Derived.Test.YtkajknidfoelcaaGreatDoorP13
import Derived.Deep.CutRange
import Derived.Test.YtkajknidfoelcaaGreatDoorP33
import Derived.Test.YtkajknidfoelcaaGreatDoorP32
import Derived.Test.YtkajknidfoelcaaGreatDoorP28
set_option linter.unusedVariables false
set_option linter.unusedSimpArgs false
set_option maxRecDepth 20000
set_option maxHeartbeats 8000000
namespace Go.Proofs.YtkajknidfoelcaaGreatDoor.U
open Go.RowKit M T
attribute [local go_sem] run_store_float
structure RBov (W:World) (gm gf I:Nat) (p:Option Addr) (w':World) (b0 b1 b2 b3 b4 b5 b6 b7 b8 b9 b10 b11 b12 b13 b14 b15 b16 b17:Bool) (x0 x1 x2 x3 x4 x5 x6 x7 x8 x9 x10 x11 x12 x13 x14 x15 x17:Value):Prop where
 P0:Below W.heap.size W w'
 A0:b15=true→b16=false→∃g,x15=.pointer (some ⟨g,0,none⟩)∧w'.heap[g]?=some ZvO∧W.heap.size≤g
 A1:b16=true→∃g,x15=.pointer (some ⟨g,0,none⟩)∧w'.heap[g]?=some ZvO∧W.heap.size≤g
 o16:b16=true→b15=true∧b11=true
 sz:W.heap.size≤w'.heap.size
 c6:b6=true→b5=true
 c10:b10=true→b9=true∧b6=true
 c11:b11=true→b2=true∧b10=true
 f0:b0=true→x0=.pointer (some ⟨gm,0,none⟩)
 f1:b1=true→x1=.pointer (some ⟨I,2,none⟩)
 f2:b2=true→x2=.int .i64 12
 f3:b3=true→x3=.pointer (some ⟨gf,0,none⟩)
 f4:b4=true→x4=.pointer (some ⟨I,3,none⟩)
 f5:b5=true→x5=.int .i64 0
 f6:b6=true→x6=noA
 f7:b7=true→x7=.pointer (some ⟨gf,0,none⟩)
 f8:b8=true→x8=.pointer (some ⟨I,4,none⟩)
 f9:b9=true→x9=.int .i64 0
 f10:b10=true→x10=noA
 f11:b11=true→x11=.tuple #[.agg #[.int .i64 0,.int .i64 0,.float .f64 0,.string ⟨#[]⟩,.int .i64 0],.iface 487 (.pointer p)]
 f12:b12=true→x12=.tuple #[.agg #[.int .i64 0,.int .i64 0,.float .f64 0,.string ⟨#[]⟩,.int .i64 0],.iface 487 (.pointer p)]
 f13:b13=true→x13=.agg #[.int .i64 0,.int .i64 0,.float .f64 0,.string ⟨#[]⟩,.int .i64 0]
 f14:b14=true→x14=.iface 487 (.pointer p)
 f17:b17=true→x17=.iface 487 (.pointer p)
theorem doBin_over (p:Option Addr) (gm gf:Nat) (n:ID) (m:MachD) (c:CallD) (w:World) (hm:MachAt w gm m) (hc:CallAt w gf c) (hr:c.regs.length=250) (ha:n.a=4) (hb:n.b=12) (hcc:n.c=0) (hd:n.d=0) (h0:c.regs[0]?=some (sdV ⟨4,0,0,⟨#[]⟩,0⟩)) (he:m.rticks=m.ticks) (ho:OvV w p) :
  Calls Tryz.prog 94 #[.pointer (some ⟨gm,0,none⟩),.pointer (some ⟨gf,0,none⟩),insV n] w fun e w'=>e=.returned (ovI p)∧Below w.heap.size w w':=by
 obtain⟨op,a,b,cc,d⟩:=n
 dsimp only[insV]at ha hb hcc hd ⊢
 subst ha hb hcc hd
 obtain⟨W,hW⟩:∃W,w.alloc (InO ⟨op,4,12,0,0⟩)=W:=⟨_,rfl⟩
 have hbw:Below w.heap.size w W:=by rw[←hW];exact bw1 _ _
 have bn:W.heap[w.heap.size]?=some (InO ⟨op,4,12,0,0⟩):=by rw[←hW];exact blk_new _ _
 have hne:w.heap.size≠gf∧w.heap.size≠gm:=⟨by have:=blk_lt hc;omega,by have:=blk_lt hm;omega⟩
 have hmf:gm≠gf:=ne_ty hm hc (by decide)
 have HM:Hid (MachAt W gm m):=hm.later hbw
 have HC:Hid (CallAt W gf c):=hc.later hbw
 have HB:Hid (Below w.heap.size w W):=hbw
 have HO:Hid (OvV W p):=ho.later hbw
 have HI:Hid (W.heap[w.heap.size]?=some (InO ⟨op,4,12,0,0⟩)):=bn
 have d1:W.cell? ⟨w.heap.size,1,none⟩=some (.int .i64 4):=by rw[blk_cell bn];rfl
 have d2:W.cell? ⟨w.heap.size,2,none⟩=some (.int .i64 12):=by rw[blk_cell bn];rfl
 have d3:W.cell? ⟨w.heap.size,3,none⟩=some (.int .i64 0):=by rw[blk_cell bn];rfl
 have d4:W.cell? ⟨w.heap.size,4,none⟩=some (.int .i64 0):=by rw[blk_cell bn];rfl
 have hgmW:gm<W.heap.size:=Nat.lt_of_lt_of_le (blk_lt hm) hbw.size
 clear hm hc hbw bn ho
 go_enter Tryz.func94,Tryz.ntmps94
 go_wp2_with fail
 clear hW
 go_cut [8] from 7 to 23 (fun y wx=>y=.iface 487 (.pointer p)∧Hid (Below W.heap.size W wx))
 case first =>
  refine wp_region_inv (by kernel_rfl) (fun base listed a' w'=>∃b0 b1 b2 b3 b4 b5 b6 b7 b8 b9 b10 b11 b12 b13 b14 b15 b16 b17 x0 x1 x2 x3 x4 x5 x6 x7 x8 x9 x10 x11 x12 x13 x14 x15 x17,listed=#[b0,b1,b2,b3,b4,b5,b6,b7,b8,b9,b10,b11,b12,b13,b14,b15,b16,b17]∧a'=(((((((((((((((((base.put (some 10) x0).put (some 11) x1).put (some 12) x2).put (some 13) x3).put (some 14) x4).put (some 15) x5).put (some 16) x6).put (some 17) x7).put (some 18) x8).put (some 19) x9).put (some 20) x10).put (some 21) x11).put (some 9) x12).put (some 22) x13).put (some 23) x14).put (some 7) x15).put (some 8) x17)∧RBov W gm gf w.heap.size p w' b0 b1 b2 b3 b4 b5 b6 b7 b8 b9 b10 b11 b12 b13 b14 b15 b16 b17 x0 x1 x2 x3 x4 x5 x6 x7 x8 x9 x10 x11 x12 x13 x14 x15 x17) ?_ ?_ ?_
  ·exact⟨false,false,false,false,false,false,false,false,false,false,false,false,false,false,false,false,false,false,undef,undef,undef,undef,undef,undef,undef,undef,undef,undef,undef,undef,undef,undef,undef,undef,undef,rfl,by kernel_rfl,⟨(Below.refl _ _).drew,nofun,nofun,nofun,Nat.le_refl _,nofun,nofun,nofun,nofun,nofun,nofun,nofun,nofun,nofun,nofun,nofun,nofun,nofun,nofun,nofun,nofun,nofun,nofun,nofun⟩⟩
  ·rintro i listed a' w' ⟨b0,b1,b2,b3,b4,b5,b6,b7,b8,b9,b10,b11,b12,b13,b14,b15,b16,b17,x0,x1,x2,x3,x4,x5,x6,x7,x8,x9,x10,x11,x12,x13,x14,x15,x17,rfl,rfl,hI⟩ hr
   have hi:=ready_lt hr
   have hun:=(mem_ready.1 hr).1
   simp only[List.size_toArray,List.length_cons,List.length_nil,Nat.zero_add,Nat.reduceAdd]at hi
   have hi':i=0∨i=1∨i=2∨i=3∨i=4∨i=5∨i=6∨i=7∨i=8∨i=9∨i=10∨i=11∨i=12∨i=13∨i=14∨i=15∨i=16∨i=17:=by omega
   clear hi
   rcases hi' with rfl | rfl | rfl | rfl | rfl | rfl | rfl | rfl | rfl | rfl | rfl | rfl | rfl | rfl | rfl | rfl | rfl | rfl
   ·have hbi:b0=false:=by simpa using hun
    subst hbi 
    clear hr hun
    refine wpOp_step rfl (fun K hK=>?_)
    go_simp
    exact hK _ _ ⟨true,b1,b2,b3,b4,b5,b6,b7,b8,b9,b10,b11,b12,b13,b14,b15,b16,b17,(.pointer (some ⟨gm,0,none⟩)),x1,x2,x3,x4,x5,x6,x7,x8,x9,x10,x11,x12,x13,x14,x15,x17,rfl,by kernel_rfl,{ hI with f0:=fun _=>rfl }⟩
   ·have hbi:b1=false:=by simpa using hun
    subst hbi 
    clear hr hun
    refine wpOp_step rfl (fun K hK=>?_)
    go_simp
    exact hK _ _ ⟨b0,true,b2,b3,b4,b5,b6,b7,b8,b9,b10,b11,b12,b13,b14,b15,b16,b17,x0,(.pointer (some ⟨w.heap.size,2,none⟩)),x2,x3,x4,x5,x6,x7,x8,x9,x10,x11,x12,x13,x14,x15,x17,rfl,by kernel_rfl,{ hI with f1:=fun _=>rfl }⟩
   ·have hbi:b2=false:=by simpa using hun
    have e1:b1=true:=by simpa using ready_dep hr rfl ⟨1,.data⟩ (by simp) rfl
    have n11:b11=false:=by
     cases hg:b11 with
     | false=>rfl
     | true=>have h9:=(hI.c11 hg).1;rw[hbi]at h9;cases h9
    have n16:b16=false:=by
     cases hg:b16 with
     | false=>rfl
     | true=>have h9:=(hI.c11 (hI.o16 hg).2).1;rw[hbi]at h9;cases h9
    subst hbi e1 n11 n16
    clear hr hun
    obtain rfl:=hI.f1 rfl
    have hw:=hI.P0
    have hcell:=cell_later hw d2
    refine wpOp_step rfl (fun K hK=>?_)
    go_simp
    exact hK _ _ ⟨b0,true,true,b3,b4,b5,b6,b7,b8,b9,b10,false,b12,b13,b14,b15,false,b17,x0,(.pointer (some ⟨w.heap.size,2,none⟩)),(.int .i64 12),x3,x4,x5,x6,x7,x8,x9,x10,x11,x12,x13,x14,x15,x17,rfl,by kernel_rfl,{ hI with A1:=nofun,o16:=nofun,c11:=nofun,f2:=fun _=>rfl,f11:=nofun }⟩
   ·have hbi:b3=false:=by simpa using hun
    subst hbi 
    clear hr hun
    refine wpOp_step rfl (fun K hK=>?_)
    go_simp
    exact hK _ _ ⟨b0,b1,b2,true,b4,b5,b6,b7,b8,b9,b10,b11,b12,b13,b14,b15,b16,b17,x0,x1,x2,(.pointer (some ⟨gf,0,none⟩)),x4,x5,x6,x7,x8,x9,x10,x11,x12,x13,x14,x15,x17,rfl,by kernel_rfl,{ hI with f3:=fun _=>rfl }⟩
   ·have hbi:b4=false:=by simpa using hun
    subst hbi 
    clear hr hun
    refine wpOp_step rfl (fun K hK=>?_)
    go_simp
    exact hK _ _ ⟨b0,b1,b2,b3,true,b5,b6,b7,b8,b9,b10,b11,b12,b13,b14,b15,b16,b17,x0,x1,x2,x3,(.pointer (some ⟨w.heap.size,3,none⟩)),x5,x6,x7,x8,x9,x10,x11,x12,x13,x14,x15,x17,rfl,by kernel_rfl,{ hI with f4:=fun _=>rfl }⟩
   ·have hbi:b5=false:=by simpa using hun
    have e4:b4=true:=by simpa using ready_dep hr rfl ⟨4,.data⟩ (by simp) rfl
    have n11:b11=false:=by
     cases hg:b11 with
     | false=>rfl
     | true=>have h9:=hI.c6 (hI.c10 (hI.c11 hg).2).2;rw[hbi]at h9;cases h9
    have n16:b16=false:=by
     cases hg:b16 with
     | false=>rfl
     | true=>have h9:=hI.c6 (hI.c10 (hI.c11 (hI.o16 hg).2).2).2;rw[hbi]at h9;cases h9
    subst hbi e4 n11 n16
    clear hr hun
    obtain rfl:=hI.f4 rfl
    have hw:=hI.P0
    have hcell:=cell_later hw d3
    refine wpOp_step rfl (fun K hK=>?_)
    go_simp
    exact hK _ _ ⟨b0,b1,b2,b3,true,true,b6,b7,b8,b9,b10,false,b12,b13,b14,b15,false,b17,x0,x1,x2,x3,(.pointer (some ⟨w.heap.size,3,none⟩)),(.int .i64 0),x6,x7,x8,x9,x10,x11,x12,x13,x14,x15,x17,rfl,by kernel_rfl,{ hI with A1:=nofun,o16:=nofun,c11:=nofun,c6:=fun _=>rfl,f5:=fun _=>rfl,f11:=nofun }⟩
   ·have hbi:b6=false:=by simpa using hun
    have e3:b3=true:=by simpa using ready_dep hr rfl ⟨3,.data⟩ (by simp) rfl
    have e5:b5=true:=by simpa using ready_dep hr rfl ⟨5,.data⟩ (by simp) rfl
    have n11:b11=false:=by
     cases hg:b11 with
     | false=>rfl
     | true=>have h9:=(hI.c10 (hI.c11 hg).2).2;rw[hbi]at h9;cases h9
    have n16:b16=false:=by
     cases hg:b16 with
     | false=>rfl
     | true=>have h9:=(hI.c10 (hI.c11 (hI.o16 hg).2).2).2;rw[hbi]at h9;cases h9
    subst hbi e3 e5 n11 n16
    clear hr hun
    obtain rfl:=hI.f3 rfl
    obtain rfl:=hI.f5 rfl
    have hw:=hI.P0
    refine wpOp_step rfl (fun K hK=>?_)
    go_simp
    refine (value_pos gf 0 1 ⟨4,0,0,⟨#[]⟩,0⟩ none none 0 0 c _ (HC.out.later hw) hr (by omega) h0).mono ?_
    rintro e w1 ⟨rfl,hx⟩
    have hsz:W.heap.size≤w1.heap.size:=Nat.le_trans hI.sz hx.size
    have hA0:b15=true→False∨∃g,x15=.pointer (some ⟨g,0,none⟩)∧w1.heap[g]?=some ZvO∧W.heap.size≤g:=fun h=>by obtain⟨g,h1,h2,h3⟩:=hI.A0 h rfl;exact .inr ⟨g,h1,blk_later hx h2,h3⟩
    exact hK _ _ ⟨b0,b1,b2,true,b4,true,true,b7,b8,b9,b10,false,b12,b13,b14,b15,false,b17,x0,x1,x2,(.pointer (some ⟨gf,0,none⟩)),x4,(.int .i64 0),(noA),x7,x8,x9,x10,x11,x12,x13,x14,x15,x17,rfl,by kernel_rfl,{ hI with A1:=nofun,o16:=nofun,c11:=nofun,P0:=hw.trans (hx.mono hw.size),A0:=fun h _=>(hA0 h).resolve_left id,sz:=hsz,c6:=fun _=>rfl,c10:=fun h=>⟨(hI.c10 h).1,rfl⟩,f6:=fun _=>rfl,f11:=nofun }⟩
   ·have hbi:b7=false:=by simpa using hun
    subst hbi 
    clear hr hun
    refine wpOp_step rfl (fun K hK=>?_)
    go_simp
    exact hK _ _ ⟨b0,b1,b2,b3,b4,b5,b6,true,b8,b9,b10,b11,b12,b13,b14,b15,b16,b17,x0,x1,x2,x3,x4,x5,x6,(.pointer (some ⟨gf,0,none⟩)),x8,x9,x10,x11,x12,x13,x14,x15,x17,rfl,by kernel_rfl,{ hI with f7:=fun _=>rfl }⟩
   ·have hbi:b8=false:=by simpa using hun
    subst hbi 
    clear hr hun
    refine wpOp_step rfl (fun K hK=>?_)
    go_simp
    exact hK _ _ ⟨b0,b1,b2,b3,b4,b5,b6,b7,true,b9,b10,b11,b12,b13,b14,b15,b16,b17,x0,x1,x2,x3,x4,x5,x6,x7,(.pointer (some ⟨w.heap.size,4,none⟩)),x9,x10,x11,x12,x13,x14,x15,x17,rfl,by kernel_rfl,{ hI with f8:=fun _=>rfl }⟩
   ·have hbi:b9=false:=by simpa using hun
    have e8:b8=true:=by simpa using ready_dep hr rfl ⟨8,.data⟩ (by simp) rfl
    have n11:b11=false:=by
     cases hg:b11 with
     | false=>rfl
     | true=>have h9:=(hI.c10 (hI.c11 hg).2).1;rw[hbi]at h9;cases h9
    have n16:b16=false:=by
     cases hg:b16 with
     | false=>rfl
     | true=>have h9:=(hI.c10 (hI.c11 (hI.o16 hg).2).2).1;rw[hbi]at h9;cases h9
    subst hbi e8 n11 n16
    clear hr hun
    obtain rfl:=hI.f8 rfl
    have hw:=hI.P0
    have hcell:=cell_later hw d4
    refine wpOp_step rfl (fun K hK=>?_)
    go_simp
    exact hK _ _ ⟨b0,b1,b2,b3,b4,b5,b6,b7,true,true,b10,false,b12,b13,b14,b15,false,b17,x0,x1,x2,x3,x4,x5,x6,x7,(.pointer (some ⟨w.heap.size,4,none⟩)),(.int .i64 0),x10,x11,x12,x13,x14,x15,x17,rfl,by kernel_rfl,{ hI with A1:=nofun,o16:=nofun,c11:=nofun,c10:=fun h=>⟨rfl,(hI.c10 h).2⟩,f9:=fun _=>rfl,f11:=nofun }⟩
   ·have hbi:b10=false:=by simpa using hun
    have e7:b7=true:=by simpa using ready_dep hr rfl ⟨7,.data⟩ (by simp) rfl
    have e9:b9=true:=by simpa using ready_dep hr rfl ⟨9,.data⟩ (by simp) rfl
    have e6:b6=true:=by simpa using ready_dep hr rfl ⟨6,.chain⟩ (by simp) rfl
    have n11:b11=false:=by
     cases hg:b11 with
     | false=>rfl
     | true=>have h9:=(hI.c11 hg).2;rw[hbi]at h9;cases h9
    have n16:b16=false:=by
     cases hg:b16 with
     | false=>rfl
     | true=>have h9:=(hI.c11 (hI.o16 hg).2).2;rw[hbi]at h9;cases h9
    subst hbi e7 e9 e6 n11 n16
    clear hr hun
    obtain rfl:=hI.f7 rfl
    obtain rfl:=hI.f9 rfl
    obtain rfl:=hI.f6 rfl
    have hw:=hI.P0
    refine wpOp_step rfl (fun K hK=>?_)
    go_simp
    refine (value_pos gf 0 1 ⟨4,0,0,⟨#[]⟩,0⟩ none none 0 0 c _ (HC.out.later hw) hr (by omega) h0).mono ?_
    rintro e w1 ⟨rfl,hx⟩
    have hsz:W.heap.size≤w1.heap.size:=Nat.le_trans hI.sz hx.size
    have hA0:b15=true→False∨∃g,x15=.pointer (some ⟨g,0,none⟩)∧w1.heap[g]?=some ZvO∧W.heap.size≤g:=fun h=>by obtain⟨g,h1,h2,h3⟩:=hI.A0 h rfl;exact .inr ⟨g,h1,blk_later hx h2,h3⟩
    exact hK _ _ ⟨b0,b1,b2,b3,b4,b5,true,true,b8,true,true,false,b12,b13,b14,b15,false,b17,x0,x1,x2,x3,x4,x5,(noA),(.pointer (some ⟨gf,0,none⟩)),x8,(.int .i64 0),(noA),x11,x12,x13,x14,x15,x17,rfl,by kernel_rfl,{ hI with A1:=nofun,o16:=nofun,c11:=nofun,P0:=hw.trans (hx.mono hw.size),A0:=fun h _=>(hA0 h).resolve_left id,sz:=hsz,c10:=fun _=>⟨rfl,rfl⟩,f10:=fun _=>rfl,f11:=nofun }⟩
   ·have hbi:b11=false:=by simpa using hun
    have e0:b0=true:=by simpa using ready_dep hr rfl ⟨0,.data⟩ (by simp) rfl
    have e2:b2=true:=by simpa using ready_dep hr rfl ⟨2,.data⟩ (by simp) rfl
    have e6:b6=true:=by simpa using ready_dep hr rfl ⟨6,.data⟩ (by simp) rfl
    have e10:b10=true:=by simpa using ready_dep hr rfl ⟨10,.data⟩ (by simp) rfl
    have n16:b16=false:=by
     cases hg:b16 with
     | false=>rfl
     | true=>have h9:=(hI.o16 hg).2;rw[hbi]at h9;cases h9
    subst hbi e0 e2 e6 e10 n16
    clear hr hun
    obtain rfl:=hI.f0 rfl
    obtain rfl:=hI.f2 rfl
    obtain rfl:=hI.f6 rfl
    obtain rfl:=hI.f10 rfl
    have hw:=hI.P0
    refine wpOp_step rfl (fun K hK=>?_)
    go_simp
    refine (mbinary_over p gm m _ (HM.out.later hw) (HO.out.later hw) he).mono ?_
    rintro e w1 ⟨rfl,hx⟩
    unfold ovI
    have hsz:W.heap.size≤w1.heap.size:=Nat.le_trans hI.sz hx.size
    have hA0:b15=true→False∨∃g,x15=.pointer (some ⟨g,0,none⟩)∧w1.heap[g]?=some ZvO∧W.heap.size≤g:=fun h=>by obtain⟨g,h1,h2,h3⟩:=hI.A0 h rfl;exact .inr ⟨g,h1,blk_later hx h2,h3⟩
    exact hK _ _ ⟨true,b1,true,b3,b4,b5,true,b7,b8,b9,true,true,b12,b13,b14,b15,false,b17,(.pointer (some ⟨gm,0,none⟩)),x1,(.int .i64 12),x3,x4,x5,(noA),x7,x8,x9,(noA),(.tuple #[.agg #[.int .i64 0,.int .i64 0,.float .f64 0,.string ⟨#[]⟩,.int .i64 0],.iface 487 (.pointer p)]),x12,x13,x14,x15,x17,rfl,by kernel_rfl,{ hI with P0:=hw.trans (hx.mono hw.size),A0:=fun h _=>(hA0 h).resolve_left id,A1:=nofun,o16:=nofun,sz:=hsz,c11:=fun _=>⟨rfl,rfl⟩,f11:=fun _=>rfl }⟩
   ·have hbi:b12=false:=by simpa using hun
    have e11:b11=true:=by simpa using ready_dep hr rfl ⟨11,.data⟩ (by simp) rfl
    subst hbi e11
    clear hr hun
    obtain rfl:=hI.f11 rfl
    refine wpOp_step rfl (fun K hK=>?_)
    go_simp
    exact hK _ _ ⟨b0,b1,b2,b3,b4,b5,b6,b7,b8,b9,b10,true,true,b13,b14,b15,b16,b17,x0,x1,x2,x3,x4,x5,x6,x7,x8,x9,x10,(.tuple #[.agg #[.int .i64 0,.int .i64 0,.float .f64 0,.string ⟨#[]⟩,.int .i64 0],.iface 487 (.pointer p)]),(.tuple #[.agg #[.int .i64 0,.int .i64 0,.float .f64 0,.string ⟨#[]⟩,.int .i64 0],.iface 487 (.pointer p)]),x13,x14,x15,x17,rfl,by kernel_rfl,{ hI with f12:=fun _=>rfl }⟩
   ·have hbi:b13=false:=by simpa using hun
    have e12:b12=true:=by simpa using ready_dep hr rfl ⟨12,.data⟩ (by simp) rfl
    subst hbi e12
    clear hr hun
    obtain rfl:=hI.f12 rfl
    refine wpOp_step rfl (fun K hK=>?_)
    go_simp
    exact hK _ _ ⟨b0,b1,b2,b3,b4,b5,b6,b7,b8,b9,b10,b11,true,true,b14,b15,b16,b17,x0,x1,x2,x3,x4,x5,x6,x7,x8,x9,x10,x11,(.tuple #[.agg #[.int .i64 0,.int .i64 0,.float .f64 0,.string ⟨#[]⟩,.int .i64 0],.iface 487 (.pointer p)]),(.agg #[.int .i64 0,.int .i64 0,.float .f64 0,.string ⟨#[]⟩,.int .i64 0]),x14,x15,x17,rfl,by kernel_rfl,{ hI with f13:=fun _=>rfl }⟩
   ·have hbi:b14=false:=by simpa using hun
    have e12:b12=true:=by simpa using ready_dep hr rfl ⟨12,.data⟩ (by simp) rfl
    subst hbi e12
    clear hr hun
    obtain rfl:=hI.f12 rfl
    refine wpOp_step rfl (fun K hK=>?_)
    go_simp
    exact hK _ _ ⟨b0,b1,b2,b3,b4,b5,b6,b7,b8,b9,b10,b11,true,b13,true,b15,b16,b17,x0,x1,x2,x3,x4,x5,x6,x7,x8,x9,x10,x11,(.tuple #[.agg #[.int .i64 0,.int .i64 0,.float .f64 0,.string ⟨#[]⟩,.int .i64 0],.iface 487 (.pointer p)]),x13,(.iface 487 (.pointer p)),x15,x17,rfl,by kernel_rfl,{ hI with f14:=fun _=>rfl }⟩
   ·have hbi:b15=false:=by simpa using hun
    have n16:b16=false:=by
     cases hg:b16 with
     | false=>rfl
     | true=>have h9:=(hI.o16 hg).1;rw[hbi]at h9;cases h9
    subst hbi n16
    clear hr hun
    refine wpOp_step rfl (fun K hK=>?_)
    go_simp
    exact hK _ _ ⟨b0,b1,b2,b3,b4,b5,b6,b7,b8,b9,b10,b11,b12,b13,b14,true,false,b17,x0,x1,x2,x3,x4,x5,x6,x7,x8,x9,x10,x11,x12,x13,x14,(.pointer (some ⟨w'.heap.size,0,none⟩)),x17,rfl,by kernel_rfl,{ hI with P0:=hI.P0.trans ((bw1 _ _).mono hI.P0.size),A0:=fun _ _=>⟨w'.heap.size,rfl,blk_new _ _,hI.sz⟩,A1:=nofun,o16:=nofun,sz:=Nat.le_trans hI.sz (by simp) }⟩
   ·have hbi:b16=false:=by simpa using hun
    have e15:b15=true:=by simpa using ready_dep hr rfl ⟨15,.data⟩ (by simp) rfl
    have e13:b13=true:=by simpa using ready_dep hr rfl ⟨13,.data⟩ (by simp) rfl
    have e11:b11=true:=by simpa using ready_dep hr rfl ⟨11,.chain⟩ (by simp) rfl
    subst hbi e15 e13 e11
    clear hr hun
    obtain⟨g,rfl,hg,hge⟩:=hI.A0 rfl rfl
    obtain rfl:=hI.f13 rfl
    obtain rfl:=hI.f11 rfl
    have q0:w'.cell? ⟨g,0,none⟩=some (.int .i64 0):=by rw[blk_cell hg];rfl
    have q1:w'.cell? ⟨g,1,none⟩=some (.int .i64 0):=by rw[blk_cell hg];rfl
    have q2:w'.cell? ⟨g,2,none⟩=some (.float .f64 0):=by rw[blk_cell hg];rfl
    have q3:w'.cell? ⟨g,3,none⟩=some (.string ⟨#[]⟩):=by rw[blk_cell hg];rfl
    have q4:w'.cell? ⟨g,4,none⟩=some (.int .i64 0):=by rw[blk_cell hg];rfl
    have qz:=blk_frozen hg
    refine wpOp_step rfl (fun K hK=>?_)
    go_simp
    exact hK _ _ ⟨b0,b1,b2,b3,b4,b5,b6,b7,b8,b9,b10,true,b12,true,b14,true,true,b17,x0,x1,x2,x3,x4,x5,x6,x7,x8,x9,x10,(.tuple #[.agg #[.int .i64 0,.int .i64 0,.float .f64 0,.string ⟨#[]⟩,.int .i64 0],.iface 487 (.pointer p)]),x12,(.agg #[.int .i64 0,.int .i64 0,.float .f64 0,.string ⟨#[]⟩,.int .i64 0]),x14,(.pointer (some ⟨g,0,none⟩)),x17,rfl,by kernel_rfl,{ hI with P0:=ButL.nil (but5 (ButL.of_below hI.P0) hge _ _ _ _ _),A0:=(fun _ h=>by cases h),A1:=fun _=>⟨g,rfl,blk_set (blk_set (blk_set (blk_set (blk_set hg 0 _) 1 _) 2 _) 3 _) 4 _,hge⟩,o16:=fun _=>⟨rfl,rfl⟩,sz:=by simpa using hI.sz }⟩
   ·have hbi:b17=false:=by simpa using hun
    have e14:b14=true:=by simpa using ready_dep hr rfl ⟨14,.data⟩ (by simp) rfl
    have e16:b16=true:=by simpa using ready_dep hr rfl ⟨16,.chain⟩ (by simp) rfl
    subst hbi e14 e16
    clear hr hun
    obtain rfl:=hI.f14 rfl
    refine wpOp_step rfl (fun K hK=>?_)
    go_simp
    exact hK _ _ ⟨b0,b1,b2,b3,b4,b5,b6,b7,b8,b9,b10,b11,b12,b13,true,b15,true,true,x0,x1,x2,x3,x4,x5,x6,x7,x8,x9,x10,x11,x12,x13,(.iface 487 (.pointer p)),x15,(.iface 487 (.pointer p)),rfl,by kernel_rfl,{ hI with f17:=fun _=>rfl }⟩
  ·rintro listed a' w' ⟨b0,b1,b2,b3,b4,b5,b6,b7,b8,b9,b10,b11,b12,b13,b14,b15,b16,b17,x0,x1,x2,x3,x4,x5,x6,x7,x8,x9,x10,x11,x12,x13,x14,x15,x17,rfl,rfl,hI⟩ hrd
   have e0:b0=true:=by simpa using ready_nextb hrd 0 rfl (by simp[Region.binds])
   have e1:b1=true:=by simpa using ready_nextb hrd 1 rfl (by simp[Region.binds,e0])
   have e2:b2=true:=by simpa using ready_nextb hrd 2 rfl (by simp[Region.binds,e0,e1])
   have e3:b3=true:=by simpa using ready_nextb hrd 3 rfl (by simp[Region.binds,e0,e1,e2])
   have e4:b4=true:=by simpa using ready_nextb hrd 4 rfl (by simp[Region.binds,e0,e1,e2,e3])
   have e5:b5=true:=by simpa using ready_nextb hrd 5 rfl (by simp[Region.binds,e0,e1,e2,e3,e4])
   have e6:b6=true:=by simpa using ready_nextb hrd 6 rfl (by simp[Region.binds,e0,e1,e2,e3,e4,e5])
   have e7:b7=true:=by simpa using ready_nextb hrd 7 rfl (by simp[Region.binds,e0,e1,e2,e3,e4,e5,e6])
   have e8:b8=true:=by simpa using ready_nextb hrd 8 rfl (by simp[Region.binds,e0,e1,e2,e3,e4,e5,e6,e7])
   have e9:b9=true:=by simpa using ready_nextb hrd 9 rfl (by simp[Region.binds,e0,e1,e2,e3,e4,e5,e6,e7,e8])
   have e10:b10=true:=by simpa using ready_nextb hrd 10 rfl (by simp[Region.binds,e0,e1,e2,e3,e4,e5,e6,e7,e8,e9])
   have e11:b11=true:=by simpa using ready_nextb hrd 11 rfl (by simp[Region.binds,e0,e1,e2,e3,e4,e5,e6,e7,e8,e9,e10])
   have e12:b12=true:=by simpa using ready_nextb hrd 12 rfl (by simp[Region.binds,e0,e1,e2,e3,e4,e5,e6,e7,e8,e9,e10,e11])
   have e13:b13=true:=by simpa using ready_nextb hrd 13 rfl (by simp[Region.binds,e0,e1,e2,e3,e4,e5,e6,e7,e8,e9,e10,e11,e12])
   have e14:b14=true:=by simpa using ready_nextb hrd 14 rfl (by simp[Region.binds,e0,e1,e2,e3,e4,e5,e6,e7,e8,e9,e10,e11,e12,e13])
   have e15:b15=true:=by simpa using ready_nextb hrd 15 rfl (by simp[Region.binds,e0,e1,e2,e3,e4,e5,e6,e7,e8,e9,e10,e11,e12,e13,e14])
   have e16:b16=true:=by simpa using ready_nextb hrd 16 rfl (by simp[Region.binds,e0,e1,e2,e3,e4,e5,e6,e7,e8,e9,e10,e11,e12,e13,e14,e15])
   have e17:b17=true:=by simpa using ready_nextb hrd 17 rfl (by simp[Region.binds,e0,e1,e2,e3,e4,e5,e6,e7,e8,e9,e10,e11,e12,e13,e14,e15,e16])
   subst e0 e1 e2 e3 e4 e5 e6 e7 e8 e9 e10 e11 e12 e13 e14 e15 e16 e17
   clear hrd
   obtain⟨g,rfl,hg,hge⟩:=hI.A1 rfl
   obtain rfl:=hI.f17 rfl
   have HX:Hid (Below W.heap.size W w'):=hI.P0
   clear hI hg hge
   go_wp2_with fail
   go_simp
   go_meet
   exact⟨rfl,HX⟩
 case rest =>
  obtain⟨rfl,HX⟩:=hcut
  have HB1:Hid (Below w.heap.size w wc):=HB.out.trans (HX.out.mono HB.out.size)
  clear HX d1 d2 d3 d4
  go_wp2_with fail
  go_ret
  exact⟨rfl,HB1.out⟩
end Go.Proofs.YtkajknidfoelcaaGreatDoor.U
namespace Go.Proofs.YtkajknidfoelcaaGreatDoor
open Go.RowKit
end Go.Proofs.YtkajknidfoelcaaGreatDoor
namespace Go.Proofs.YtkajknidfoelcaaGreatDoor.M
open Go.RowKit
abbrev RD:Type:=Nat ⊕ (Int ⊕ Bool)
def RD.sd:RD→SD
 | .inr (.inr false)=>sd0
 | .inl r=>sdV (tabV r)
 | .inr (.inl n)=>sdV (intD n)
 | .inr (.inr true)=>sdL (.slice none 0 0)
structure PS where
 at':Nat
 regs:List RD
 nt:Nat
 ng:Nat
structure MK where
 gm:Nat
 gf:Nat
 gt:Nat
 gk:Nat
 gch:Nat
 ta:Array Value
 ka:Array Value
 m0:MachD
 c0:CallD
def MK.m (K:MK) (z:Int) (tv:Value):MachD:={ K.m0 with since:=z,made:=z,tables:=tv }
def MK.c (K:MK) (at' next:Int) (gv:Value) (rs:List SD):CallD:={ K.c0 with at':=at',next:=next,guards:=gv,regs:=rs }
structure MX (w0:World) (K:MK) (w:World) (nt:Nat) (at' next:Int) (regs:List RD) (vs:List Value) (gs:List Nat) (tv gv:Value):Prop where
 bel:Below w0.heap.size w0 w
 geM:w0.heap.size≤K.gm
 geF:w0.heap.size≤K.gf
 mac:MachAt w K.gm (K.m nt tv)
 cal:CallAt w K.gf (K.c at' next gv (regs.map RD.sd))
 tsk:w.heap[K.gt]?=some (.cells K.ta 149)
 row:w.heap[K.gk]?=some (.cells K.ka 99)
 cha:w.heap[K.gch]?=some (.chan 0 #[] false 0 0 false)
 gu:ORow w w0.heap.size 322 1 vC gv vs
 tb:ORow w w0.heap.size 295 1 pC tv gs
 sh:∀g∈gs,w.heap[g]?=some ShO
 lg:gs.length=nt
 lr:regs.length=250
def wr (K:MK) (tv gv:Value):List Nat:=K.gm :: K.gf :: (gv.ownBlock.toList++tv.ownBlock.toList)
theorem ne_chan {w:World} {g g':Nat} {a:Array Value} {t:TypeId} {c:Nat} {b:Array Value} {x:Bool} {s r:Nat} {y:Bool} (h:w.heap[g]?=some (.cells a t)) (h':w.heap[g']?=some (.chan c b x s r y)):g'≠g:=by
 rintro rfl
 rw[h]at h'
 cases h'
theorem own_blk {α:Type} {w:World} {B:Nat} {et:TypeId} {k:Nat} {cells:α→List Value} {sv:Value} {xs:List α} (ho:ORow w B et k cells sv xs) {g:Nat} (h:sv.ownBlock=some g):B≤g∧∃cur,w.heap[g]?=some (.cells cur et):=by
 rcases ho.2 with ⟨e1,_⟩ | ⟨g0,c0,cur,e1,e2,e3,_⟩
 ·rw[e1]at h;cases h
 ·rw[e1]at h
  have e':g0=g:=Option.some.inj h
  subst e'
  exact⟨e2,cur,e3⟩
theorem MX.wrTy {w0:World} {K:MK} {w:World} {nt:Nat} {at' next:Int} {regs:List RD} {vs:List Value} {gs:List Nat} {tv gv:Value} (h:MX w0 K w nt at' next regs vs gs tv gv):∀g∈wr K tv gv,w0.heap.size≤g∧∃a t,w.heap[g]?=some (.cells a t)∧(t=111∨t=214∨t=322∨t=295):=by
 intro g hg
 simp only[wr,List.mem_cons,List.mem_append,Option.mem_toList]at hg
 rcases hg with rfl | rfl | hg | hg
 ·exact⟨h.geM,_,_,h.mac,.inl rfl⟩
 ·exact⟨h.geF,_,_,h.cal,.inr (.inl rfl)⟩
 ·obtain⟨h1,cur,h2⟩:=own_blk h.gu hg
  exact⟨h1,_,_,h2,.inr (.inr (.inl rfl))⟩
 ·obtain⟨h1,cur,h2⟩:=own_blk h.tb hg
  exact⟨h1,_,_,h2,.inr (.inr (.inr rfl))⟩
theorem MX.stay {w0:World} {K:MK} {w w':World} {nt:Nat} {at' next:Int} {regs:List RD} {vs:List Value} {gs:List Nat} {tv gv:Value} (h:MX w0 K w nt at' next regs vs gs tv gv) (hb:ButL (wr K tv gv) w w') :
  Below w0.heap.size w0 w'∧w'.heap[K.gt]?=some (.cells K.ta 149)∧w'.heap[K.gk]?=some (.cells K.ka 99)∧w'.heap[K.gch]?=some (.chan 0 #[] false 0 0 false)∧∀g∈gs,w'.heap[g]?=some ShO:=by
 have hS:=h.wrTy
 have hty:∀(q:Nat) (b:Array Value) (u:TypeId),w.heap[q]?=some (.cells b u)→u≠111→u≠214→u≠322→u≠295→w'.heap[q]?=some (.cells b u):=by
  intro q b u hq n1 n2 n3 n4
  refine hb.blk hq (fun hm=>?_)
  obtain⟨_,a,t,ht,hc⟩:=hS q hm
  rw[hq]at ht
  injection ht with ht
  injection ht with _ ht
  subst ht
  rcases hc with e | e | e | e
  ·exact n1 e
  ·exact n2 e
  ·exact n3 e
  ·exact n4 e
 refine⟨hb.below h.bel (fun g hg=>(hS g hg).1) h.bel.size,hty _ _ _ h.tsk (by decide) (by decide) (by decide) (by decide),hty _ _ _ h.row (by decide) (by decide) (by decide) (by decide),hb.blk h.cha (fun hm=>?_),fun g hg=>hty _ _ _ (h.sh g hg) (by decide) (by decide) (by decide) (by decide)⟩
 obtain⟨_,a,t,ht,_⟩:=hS _ hm
 exact ne_chan ht h.cha rfl
end Go.Proofs.YtkajknidfoelcaaGreatDoor.M
namespace Go.Proofs.YtkajknidfoelcaaGreatDoor.M
open Go.RowKit
section
variable {w0:World} {K:MK} {w w':World} {nt:Nat} {at' next:Int} {regs:List RD} {vs:List Value} {gs:List Nat} {tv gv:Value}
theorem MX.mf (h:MX w0 K w nt at' next regs vs gs tv gv):K.gm≠K.gf:=ne_ty h.mac h.cal (by decide)
theorem MX.call (h:MX w0 K w nt at' next regs vs gs tv gv) {at2 next2:Int} {regs2:List RD} (hb:ButL [K.gf] w w') (hc:CallAt w' K.gf (K.c at2 next2 gv (regs2.map RD.sd))) (hl:regs2.length=250):MX w0 K w' nt at2 next2 regs2 vs gs tv gv:=by
 obtain⟨s1,s2,s3,s4,s5⟩:=h.stay (hb.mono (fun g hg=>.inl (by simp at hg;subst hg;simp[wr])))
 exact⟨s1,h.geM,h.geF,h.mac.but hb (by simp;exact h.mf),hc,s2,s3,s4,ORow.butn h.gu hb (fun g e hg=>by simp at hg;subst hg;exact own_ne h.gu h.cal (by decide) e),ORow.butn h.tb hb (fun g e hg=>by simp at hg;subst hg;exact own_ne h.tb h.cal (by decide) e),s5,h.lg,hl⟩
end
theorem flat_vC:∀xs:List Value,xs.flatMap vC=xs
 | []=>rfl
 | x :: xs=>by rw[List.flatMap_cons,flat_vC xs];rfl
theorem vrow_shrink {w:World} {B:Nat} {et:TypeId} {g cap:Nat} {xs:List Value} (h:ORow w B et 1 vC (.slice (some ⟨g,0,none⟩) xs.length cap) xs) {m:Nat} (hm:m≤xs.length):ORow w B et 1 vC (.slice (some ⟨g,0,none⟩) m cap) (xs.take m):=by
 have hl:(xs.take m).length=m:=by rw[List.length_take];omega
 obtain⟨h1,h2⟩:=h
 unfold ORow
 rw[hl,flat_vC]
 refine⟨by rw[hl];omega,?_⟩
 rcases h2 with ⟨e,_⟩ | ⟨g',c',cur,e,hb,hg,hl',hm',hs,ht⟩
 ·cases e
 ·injection e with e1 _ e3
  injection e1 with e1
  injection e1 with e1
  subst e1 e3
  refine .inr ⟨g,cap,cur,rfl,hb,hg,by omega,hm',hs,?_⟩
  rw[flat_vC]at ht
  rw[Nat.mul_one]at ht ⊢
  rw[←ht,List.take_take]
  congr 1
  omega
section
variable {w0:World} {K:MK} {w:World} {nt ng at':Nat} {regs:List RD} {vs:List Value} {gs:List Nat} {tv gv:Value} {n:ID} {s:PS}
theorem cf31 (args:Array Value) (W:World):(callFunc 102 args).run Tryz.prog W=.ok (.enter 102 args) W:=by kernel_rfl
theorem cf40 (args:Array Value) (W:World):(callFunc 110 args).run Tryz.prog W=.ok (.enter 110 args) W:=by kernel_rfl
theorem cf42 (args:Array Value) (W:World):(callFunc 112 args).run Tryz.prog W=.ok (.enter 112 args) W:=by kernel_rfl
theorem cf19 (args:Array Value) (W:World):(callFunc 95 args).run Tryz.prog W=.ok (.enter 95 args) W:=by kernel_rfl
theorem cf22 (args:Array Value) (W:World):(callFunc 96 args).run Tryz.prog W=.ok (.enter 96 args) W:=by kernel_rfl
end
end Go.Proofs.YtkajknidfoelcaaGreatDoor.M
