import Derived.Test.YtjglgbepobmjhaaGreatDoorP40
set_option linter.unusedVariables false
set_option linter.unusedSimpArgs false
set_option maxRecDepth 20000
set_option maxHeartbeats 8000000
namespace Go.Proofs.YtjglgbepobmjhaaGreatDoor.M
open Go.RowKit
attribute [local go_sem] run_store_float
def call0 (iv cv:Value):CallD:={ fn:=vd0,proto:=0,ins:=iv,consts:=cv,ups:=.slice none 0 0,at':=0,next:=0,line:=0,guards:=.slice none 0 0,way:=.nilIface,regs:=List.replicate 250 sd0 }
theorem build_call (W:World) (a1 a2:Option Addr) (n1 c1 n2 c2:Nat):(Instr.build 210 #[(0,.agg #[.int .i64 0,.int .i64 0,.float .f64 0,.string ⟨#[]⟩,.int .i64 0]),(1,.int .i64 0),(2,.slice a1 n1 c1),(3,.slice a2 n2 c2),(4,.slice none 0 0)]).run Tryz.prog W=.ok (.agg (call0 (.slice a1 n1 c1) (.slice a2 n2 c2)).arr) W:=by kernel_rfl
structure ROpn (W2:World) (gw gp:Nat) (f:FC) (w':World) (b0 b1 b2 b3 b4 b5 b6 b7 b8 b9 b10 b11 b12 b13 b14 b15:Bool) (x0 x1 x2 x3 x4 x5 x6 x7 x8 x9 x10 x11 x12 x13 x14 x15:Value):Prop where
 P:b14=false→W2=w'
 m13:b13=true→b0=true∧b4=true∧b6=true∧b8=true∧b12=true
 m14:b14=true→b13=true∧x14=.pointer (some ⟨W2.heap.size,0,none⟩)∧w'=W2.alloc (.cells (call0 (.slice f.ai f.d.ins.length f.ci) (.slice f.ac f.d.consts.length f.cc)).arr 210)
 m15:b15=true→b14=true∧x15=x14
 f0:b0=true→x0=.agg #[.int .i64 0,.int .i64 0,.float .f64 0,.string ⟨#[]⟩,.int .i64 0]
 f1:b1=true→x1=.pointer (some ⟨gw,0,none⟩)
 f2:b2=true→x2=.pointer (some ⟨gw,0,none⟩)
 f3:b3=true→x3=.pointer (some ⟨gw,1,none⟩)
 f4:b4=true→x4=.int .i64 0
 f5:b5=true→x5=.pointer (some ⟨gp,7,none⟩)
 f6:b6=true→x6=.slice f.ai f.d.ins.length f.ci
 f7:b7=true→x7=.pointer (some ⟨gp,6,none⟩)
 f8:b8=true→x8=.slice f.ac f.d.consts.length f.cc
 f9:b9=true→x9=.pointer (some ⟨gw,0,none⟩)
 f10:b10=true→x10=.pointer (some ⟨gw,0,none⟩)
 f11:b11=true→x11=.pointer (some ⟨gw,2,none⟩)
 f12:b12=true→x12=.slice none 0 0
 f13:b13=true→x13=.agg (call0 (.slice f.ai f.d.ins.length f.ci) (.slice f.ac f.d.consts.length f.cc)).arr
theorem open_any (gm gt gw bp op gch n cap:Nat) (m:MachD) (f:FC) (w:World) (hm:MachAt w gm m) (hp:m.protos=.slice (some ⟨bp,op,none⟩) (n+1) cap) (hr:m.running=.pointer (some ⟨gt,0,none⟩)) (ht:w.heap[gt]?=some (.cells (taskA (.slice none 0 0) gch 2) 145))
  (hw:w.heap[gw]?=some (.cells #[.int .i64 0,.int .i64 0,.slice none 0 0] 151)) (hf:∀j v,f.cells[j]?=some v→w.cell? ⟨bp,op+j,none⟩=some v) (hpar:f.d.params=0) (hrest:f.d.rest=false) :
  Calls Tryz.prog 48 #[.pointer (some ⟨gm,0,none⟩),.agg #[.int .i64 0,.int .i64 0,.float .f64 0,.string ⟨#[]⟩,.int .i64 0],.pointer (some ⟨gw,0,none⟩),.slice none 0 0] w fun e w'=>∃gf gc cap',e=.returned (.pointer (some ⟨gf,0,none⟩))∧w.heap.size≤gf∧CallAt w' gf (call0 (.slice f.ai f.d.ins.length f.ci) (.slice f.ac f.d.consts.length f.cc))∧w'.heap[gt]?=some (.cells (taskA (.slice (some ⟨gc,0,none⟩) 1 cap') gch 2) 145)∧ButL [gt] w w':=by
 obtain⟨W,hW⟩:∃W,w.alloc (.cells #[.int .i64 0,.int .i64 0,.float .f64 0,.string ⟨#[]⟩,.int .i64 0] 70)=W:=⟨_,rfl⟩
 have hb:Below w.heap.size w W:=by rw[←hW];exact bw1 _ _
 have hsz:W.heap.size=w.heap.size+1:=by rw[←hW];simp
 have bn:W.heap[w.heap.size]?=some (.cells #[.int .i64 0,.int .i64 0,.float .f64 0,.string ⟨#[]⟩,.int .i64 0] 70):=by rw[←hW];exact blk_new _ _
 have hgm:=blk_lt hm
 have hgw:=blk_lt hw
 have hbp:=World.block_lt_of_cell? _ _ (hf 0 _ rfl)
 have m0:W.cell? ⟨gm,0,none⟩=some (.slice (some ⟨bp,op,none⟩) (n+1) cap):=by rw[(hm.later hb).cell,←hp];rfl
 have k1:W.cell? ⟨gw,1,none⟩=some (.int .i64 0):=by rw[blk_cell (blk_later hb hw)];rfl
 have f0:W.cell? ⟨bp,op,none⟩=some (.string f.d.name):=cell_later hb (hf 0 _ rfl)
 have f1:W.cell? ⟨bp,op+1,none⟩=some (.int .i64 f.d.line):=cell_later hb (hf 1 _ rfl)
 have f2:W.cell? ⟨bp,op+2,none⟩=some (.int .i64 0):=by rw[←hpar];exact cell_later hb (hf 2 _ rfl)
 have f3:W.cell? ⟨bp,op+3,none⟩=some (.bool false):=by rw[←hrest];exact cell_later hb (hf 3 _ rfl)
 have f4:W.cell? ⟨bp,op+4,none⟩=some (.int .i64 f.d.regs):=cell_later hb (hf 4 _ rfl)
 have f5:W.cell? ⟨bp,op+5,none⟩=some (.slice f.au f.d.ups.length f.cu):=cell_later hb (hf 5 _ rfl)
 have f6:W.cell? ⟨bp,op+6,none⟩=some (.slice f.ac f.d.consts.length f.cc):=cell_later hb (hf 6 _ rfl)
 have f7:W.cell? ⟨bp,op+7,none⟩=some (.slice f.ai f.d.ins.length f.ci):=cell_later hb (hf 7 _ rfl)
 have f8:W.cell? ⟨bp,op+8,none⟩=some (.slice f.an f.d.named.length f.cn):=cell_later hb (hf 8 _ rfl)
 obtain⟨W2,hW2⟩:∃W2,(W.alloc (.cells #[.string f.d.name,.int .i64 f.d.line,.int .i64 0,.bool false,.int .i64 f.d.regs,.slice f.au f.d.ups.length f.cu,.slice f.ac f.d.consts.length f.cc,.slice f.ai f.d.ins.length f.ci,.slice f.an f.d.named.length f.cn] 53)).drew.drew=W2:=⟨_,rfl⟩
 have hb2:Below W.heap.size W W2:=by rw[←hW2];exact ((bw1 W _).drew).drew
 have hsz2:W2.heap.size=w.heap.size+1+1:=by rw[←hW2];simp[hsz]
 have hpr:W2.heap[w.heap.size+1]?=some (.cells #[.string f.d.name,.int .i64 f.d.line,.int .i64 0,.bool false,.int .i64 f.d.regs,.slice f.au f.d.ups.length f.cu,.slice f.ac f.d.consts.length f.cc,.slice f.ai f.d.ins.length f.ci,.slice f.an f.d.named.length f.cn] 53):=by rw[←hW2];exact blk_newn (by omega) _
 have hbw:=hb.trans (hb2.mono hb.size)
 have e0:W2.cell? ⟨w.heap.size,0,none⟩=some (.int .i64 0):=by rw[blk_cell (blk_later hb2 bn)];rfl
 have e1:W2.cell? ⟨w.heap.size,1,none⟩=some (.int .i64 0):=by rw[blk_cell (blk_later hb2 bn)];rfl
 have e2:W2.cell? ⟨w.heap.size,2,none⟩=some (.float .f64 0):=by rw[blk_cell (blk_later hb2 bn)];rfl
 have e3:W2.cell? ⟨w.heap.size,3,none⟩=some (.string ⟨#[]⟩):=by rw[blk_cell (blk_later hb2 bn)];rfl
 have e4:W2.cell? ⟨w.heap.size,4,none⟩=some (.int .i64 0):=by rw[blk_cell (blk_later hb2 bn)];rfl
 have g1:W2.cell? ⟨gw,1,none⟩=some (.int .i64 0):=by rw[blk_cell (blk_later hbw hw)];rfl
 have g2:W2.cell? ⟨gw,2,none⟩=some (.slice none 0 0):=by rw[blk_cell (blk_later hbw hw)];rfl
 have p6:W2.cell? ⟨w.heap.size+1,6,none⟩=some (.slice f.ac f.d.consts.length f.cc):=by rw[blk_cell hpr];rfl
 have p7:W2.cell? ⟨w.heap.size+1,7,none⟩=some (.slice f.ai f.d.ins.length f.ci):=by rw[blk_cell hpr];rfl
 obtain⟨W3,hW3⟩:∃W3,W2.alloc (.cells (call0 (.slice f.ai f.d.ins.length f.ci) (.slice f.ac f.d.consts.length f.cc)).arr 210)=W3:=⟨_,rfl⟩
 have hb3:Below W2.heap.size W2 W3:=by rw[←hW3];exact bw1 _ _
 have hsz3:W3.heap.size=w.heap.size+1+1+1:=by rw[←hW3];simp[hsz2]
 have hb03:=hbw.trans (hb3.mono hbw.size)
 have hm3:MachAt W3 gm m:=hm.later hb03
 have ht3:=blk_later hb03 ht
 have q2:W3.cell? ⟨w.heap.size+1,2,none⟩=some (.int .i64 0):=by rw[blk_cell (blk_later hb3 hpr)];rfl
 have q3:W3.cell? ⟨w.heap.size+1,3,none⟩=some (.bool false):=by rw[blk_cell (blk_later hb3 hpr)];rfl
 have q75:W3.cell? ⟨gm,75,none⟩=some (.pointer (some ⟨gt,0,none⟩)):=by rw[hm3.cell,←hr];rfl
 have q8:W3.cell? ⟨gt,8,none⟩=some (.slice none 0 0):=by rw[blk_cell ht3];rfl
 have hy:=bw1 W3 (.cells #[.pointer (some ⟨w.heap.size+1+1,0,none⟩)] 146)
 have q75a:=cell_later hy q75
 have q8a:=cell_later hy q8
 obtain⟨g',cap',w2,hrn,ho2,hg2⟩:=(ORow.nil (W3.alloc (.cells #[.pointer (some ⟨w.heap.size+1+1,0,none⟩)] 146)).drew w.heap.size 146 1 pC).app 140 8 Tryz.underlying140 (by kernel_rfl) (by omega) (by omega) (w.heap.size+1+1) (w.heap.size+1+1+1) 140 (show (W3.alloc (.cells #[.pointer (some ⟨w.heap.size+1+1,0,none⟩)] 146)).heap[w.heap.size+1+1+1]?=_ from blk_newn (by omega) _) rfl (by intro u hu;simp[pC]at hu;subst hu;rfl) (by simp) (by simp;omega)
 have hb4:Below W3.heap.size W3 w2:=ButL.nil (ButL.grown (S:=[]) (((ButL.refl [] W3).alloc _).drew) hg2 (fun b e=>by cases e))
 have ht4:=blk_later hb4 ht3
 have r8:w2.cell? ⟨gt,8,none⟩=some (.slice none 0 0):=by rw[blk_cell ht4];rfl
 have z4:=blk_frozen ht4
 have r75:w2.cell? ⟨gm,75,none⟩=some (.pointer (some ⟨gt,0,none⟩)):=cell_later hb4 q75
 have hgt:=blk_lt ht
 have HE:Hid (w.heap.size≤w.heap.size+1+1∧CallAt (w2.setCell ⟨gt,8,none⟩ (.slice (some ⟨g',0,none⟩) 1 cap')) (w.heap.size+1+1) (call0 (.slice f.ai f.d.ins.length f.ci) (.slice f.ac f.d.consts.length f.cc))∧(w2.setCell ⟨gt,8,none⟩ (.slice (some ⟨g',0,none⟩) 1 cap')).heap[gt]?=some (.cells (taskA (.slice (some ⟨g',0,none⟩) 1 cap') gch 2) 145)∧ButL [gt] w (w2.setCell ⟨gt,8,none⟩ (.slice (some ⟨g',0,none⟩) 1 cap'))):=by
  have hc3:W3.heap[w.heap.size+1+1]?=some (.cells (call0 (.slice f.ai f.d.ins.length f.ci) (.slice f.ac f.d.consts.length f.cc)).arr 210):=by rw[←hW3];exact blk_newn (by omega) _
  refine⟨by omega,blk_other (blk_later hb4 hc3) (by omega) _ _,blk_set ht4 8 _,?_⟩
  exact ((ButL.of_below hb03).thenB hb4).set (by simp) _ _
 have HRN:Hid _:=hrn
 have HW3:Hid (W2.alloc (.cells (call0 (.slice f.ai f.d.ins.length f.ci) (.slice f.ac f.d.consts.length f.cc)).arr 210)=W3):=hW3
 have HW2:Hid _:=hW2
 have HSZ:Hid (W2.heap.size=w.heap.size+1+1):=hsz2
 clear hW3 hsz2
 clear hb hb2 hb3 hb4 hbw hb03 hm hm3 ht ht3 ht4 hw hf hpr bn ho2 hg2 hrn hy hp hr
 go_enter Tryz.func48,Tryz.ntmps48
 go_wp2_with fail
 clear hW
 go_region
 go_wp2_with fail
 clear m0 k1 f0 f1 f2 f3 f4 f5 f6 f7 f8
 go_cut [10] from 22 to 36 (fun s10 wx=>s10=.pointer (some ⟨W2.heap.size,0,none⟩)∧wx=W2.alloc (.cells (call0 (.slice f.ai f.d.ins.length f.ci) (.slice f.ac f.d.consts.length f.cc)).arr 210))
 case first =>
  refine wp_region_inv (by kernel_rfl) (fun base listed a' w'=>∃b0 b1 b2 b3 b4 b5 b6 b7 b8 b9 b10 b11 b12 b13 b14 b15 x0 x1 x2 x3 x4 x5 x6 x7 x8 x9 x10 x11 x12 x13 x14 x15,listed=#[b0,b1,b2,b3,b4,b5,b6,b7,b8,b9,b10,b11,b12,b13,b14,b15]∧a'=((((((((((((((((base.put (some 22) x0).put (some 23) x1).put (some 24) x2).put (some 25) x3).put (some 26) x4).put (some 27) x5).put (some 28) x6).put (some 29) x7).put (some 30) x8).put (some 31) x9).put (some 32) x10).put (some 33) x11).put (some 34) x12).put (some 35) x13).put (some 36) x14).put (some 10) x15)∧ROpn W2 gw (w.heap.size+1) f w' b0 b1 b2 b3 b4 b5 b6 b7 b8 b9 b10 b11 b12 b13 b14 b15 x0 x1 x2 x3 x4 x5 x6 x7 x8 x9 x10 x11 x12 x13 x14 x15) ?_ ?_ ?_
  ·exact⟨false,false,false,false,false,false,false,false,false,false,false,false,false,false,false,false,undef,undef,undef,undef,undef,undef,undef,undef,undef,undef,undef,undef,undef,undef,undef,undef,rfl,by kernel_rfl,⟨fun _=>HW2.out.symm,nofun,nofun,nofun,nofun,nofun,nofun,nofun,nofun,nofun,nofun,nofun,nofun,nofun,nofun,nofun,nofun,nofun⟩⟩
  ·rintro i listed a' w' ⟨b0,b1,b2,b3,b4,b5,b6,b7,b8,b9,b10,b11,b12,b13,b14,b15,x0,x1,x2,x3,x4,x5,x6,x7,x8,x9,x10,x11,x12,x13,x14,x15,rfl,rfl,hI⟩ hr
   have hi:=ready_lt hr
   have hun:=(mem_ready.1 hr).1
   simp only[List.size_toArray,List.length_cons,List.length_nil,Nat.zero_add,Nat.reduceAdd]at hi
   have hi':i=0∨i=1∨i=2∨i=3∨i=4∨i=5∨i=6∨i=7∨i=8∨i=9∨i=10∨i=11∨i=12∨i=13∨i=14∨i=15:=by omega
   clear hi
   rcases hi' with rfl | rfl | rfl | rfl | rfl | rfl | rfl | rfl | rfl | rfl | rfl | rfl | rfl | rfl | rfl | rfl
   ·have hbi:b0=false:=by simpa using hun
    have n13:b13=false:=by
     cases hg:b13 with
     | false=>rfl
     | true=>have h9:=(hI.m13 hg).1;rw[hbi]at h9;cases h9
    have n14:b14=false:=by
     cases hg:b14 with
     | false=>rfl
     | true=>have h9:=(hI.m13 (hI.m14 hg).1).1;rw[hbi]at h9;cases h9
    have n15:b15=false:=by
     cases hg:b15 with
     | false=>rfl
     | true=>have h9:=(hI.m13 (hI.m14 (hI.m15 hg).1).1).1;rw[hbi]at h9;cases h9
    subst hbi n13 n14 n15
    clear hr hun
    have hw:=hI.P rfl
    subst hw
    refine wpOp_step rfl (fun K hK=>?_)
    go_simp
    exact hK _ _ ⟨true,b1,b2,b3,b4,b5,b6,b7,b8,b9,b10,b11,b12,false,false,false,(.agg #[.int .i64 0,.int .i64 0,.float .f64 0,.string ⟨#[]⟩,.int .i64 0]),x1,x2,x3,x4,x5,x6,x7,x8,x9,x10,x11,x12,x13,x14,x15,rfl,by kernel_rfl,{ hI with m13:=nofun,m14:=nofun,m15:=nofun,f0:=fun _=>rfl,f13:=nofun }⟩
   ·have hbi:b1=false:=by simpa using hun
    subst hbi 
    clear hr hun
    refine wpOp_step rfl (fun K hK=>?_)
    go_simp
    exact hK _ _ ⟨b0,true,b2,b3,b4,b5,b6,b7,b8,b9,b10,b11,b12,b13,b14,b15,x0,(.pointer (some ⟨gw,0,none⟩)),x2,x3,x4,x5,x6,x7,x8,x9,x10,x11,x12,x13,x14,x15,rfl,by kernel_rfl,{ hI with f1:=fun _=>rfl }⟩
   ·have hbi:b2=false:=by simpa using hun
    have e1:b1=true:=by simpa using ready_dep hr rfl ⟨1,.data⟩ (by simp) rfl
    subst hbi e1
    clear hr hun
    obtain rfl:=hI.f1 rfl
    refine wpOp_step rfl (fun K hK=>?_)
    go_simp
    exact hK _ _ ⟨b0,true,true,b3,b4,b5,b6,b7,b8,b9,b10,b11,b12,b13,b14,b15,x0,(.pointer (some ⟨gw,0,none⟩)),(.pointer (some ⟨gw,0,none⟩)),x3,x4,x5,x6,x7,x8,x9,x10,x11,x12,x13,x14,x15,rfl,by kernel_rfl,{ hI with f2:=fun _=>rfl }⟩
   ·have hbi:b3=false:=by simpa using hun
    have e2:b2=true:=by simpa using ready_dep hr rfl ⟨2,.data⟩ (by simp) rfl
    subst hbi e2
    clear hr hun
    obtain rfl:=hI.f2 rfl
    refine wpOp_step rfl (fun K hK=>?_)
    go_simp
    exact hK _ _ ⟨b0,b1,true,true,b4,b5,b6,b7,b8,b9,b10,b11,b12,b13,b14,b15,x0,x1,(.pointer (some ⟨gw,0,none⟩)),(.pointer (some ⟨gw,1,none⟩)),x4,x5,x6,x7,x8,x9,x10,x11,x12,x13,x14,x15,rfl,by kernel_rfl,{ hI with f3:=fun _=>rfl }⟩
   ·have hbi:b4=false:=by simpa using hun
    have e3:b3=true:=by simpa using ready_dep hr rfl ⟨3,.data⟩ (by simp) rfl
    have n13:b13=false:=by
     cases hg:b13 with
     | false=>rfl
     | true=>have h9:=(hI.m13 hg).2.1;rw[hbi]at h9;cases h9
    have n14:b14=false:=by
     cases hg:b14 with
     | false=>rfl
     | true=>have h9:=(hI.m13 (hI.m14 hg).1).2.1;rw[hbi]at h9;cases h9
    have n15:b15=false:=by
     cases hg:b15 with
     | false=>rfl
     | true=>have h9:=(hI.m13 (hI.m14 (hI.m15 hg).1).1).2.1;rw[hbi]at h9;cases h9
    subst hbi e3 n13 n14 n15
    clear hr hun
    obtain rfl:=hI.f3 rfl
    have hw:=hI.P rfl
    subst hw
    refine wpOp_step rfl (fun K hK=>?_)
    go_simp
    exact hK _ _ ⟨b0,b1,b2,true,true,b5,b6,b7,b8,b9,b10,b11,b12,false,false,false,x0,x1,x2,(.pointer (some ⟨gw,1,none⟩)),(.int .i64 0),x5,x6,x7,x8,x9,x10,x11,x12,x13,x14,x15,rfl,by kernel_rfl,{ hI with m13:=nofun,m14:=nofun,m15:=nofun,f4:=fun _=>rfl,f13:=nofun }⟩
   ·have hbi:b5=false:=by simpa using hun
    subst hbi 
    clear hr hun
    refine wpOp_step rfl (fun K hK=>?_)
    go_simp
    exact hK _ _ ⟨b0,b1,b2,b3,b4,true,b6,b7,b8,b9,b10,b11,b12,b13,b14,b15,x0,x1,x2,x3,x4,(.pointer (some ⟨w.heap.size+1,7,none⟩)),x6,x7,x8,x9,x10,x11,x12,x13,x14,x15,rfl,by kernel_rfl,{ hI with f5:=fun _=>rfl }⟩
   ·have hbi:b6=false:=by simpa using hun
    have e5:b5=true:=by simpa using ready_dep hr rfl ⟨5,.data⟩ (by simp) rfl
    have n13:b13=false:=by
     cases hg:b13 with
     | false=>rfl
     | true=>have h9:=(hI.m13 hg).2.2.1;rw[hbi]at h9;cases h9
    have n14:b14=false:=by
     cases hg:b14 with
     | false=>rfl
     | true=>have h9:=(hI.m13 (hI.m14 hg).1).2.2.1;rw[hbi]at h9;cases h9
    have n15:b15=false:=by
     cases hg:b15 with
     | false=>rfl
     | true=>have h9:=(hI.m13 (hI.m14 (hI.m15 hg).1).1).2.2.1;rw[hbi]at h9;cases h9
    subst hbi e5 n13 n14 n15
    clear hr hun
    obtain rfl:=hI.f5 rfl
    have hw:=hI.P rfl
    subst hw
    refine wpOp_step rfl (fun K hK=>?_)
    go_simp
    exact hK _ _ ⟨b0,b1,b2,b3,b4,true,true,b7,b8,b9,b10,b11,b12,false,false,false,x0,x1,x2,x3,x4,(.pointer (some ⟨w.heap.size+1,7,none⟩)),(.slice f.ai f.d.ins.length f.ci),x7,x8,x9,x10,x11,x12,x13,x14,x15,rfl,by kernel_rfl,{ hI with m13:=nofun,m14:=nofun,m15:=nofun,f6:=fun _=>rfl,f13:=nofun }⟩
   ·have hbi:b7=false:=by simpa using hun
    subst hbi 
    clear hr hun
    refine wpOp_step rfl (fun K hK=>?_)
    go_simp
    exact hK _ _ ⟨b0,b1,b2,b3,b4,b5,b6,true,b8,b9,b10,b11,b12,b13,b14,b15,x0,x1,x2,x3,x4,x5,x6,(.pointer (some ⟨w.heap.size+1,6,none⟩)),x8,x9,x10,x11,x12,x13,x14,x15,rfl,by kernel_rfl,{ hI with f7:=fun _=>rfl }⟩
   ·have hbi:b8=false:=by simpa using hun
    have e7:b7=true:=by simpa using ready_dep hr rfl ⟨7,.data⟩ (by simp) rfl
    have n13:b13=false:=by
     cases hg:b13 with
     | false=>rfl
     | true=>have h9:=(hI.m13 hg).2.2.2.1;rw[hbi]at h9;cases h9
    have n14:b14=false:=by
     cases hg:b14 with
     | false=>rfl
     | true=>have h9:=(hI.m13 (hI.m14 hg).1).2.2.2.1;rw[hbi]at h9;cases h9
    have n15:b15=false:=by
     cases hg:b15 with
     | false=>rfl
     | true=>have h9:=(hI.m13 (hI.m14 (hI.m15 hg).1).1).2.2.2.1;rw[hbi]at h9;cases h9
    subst hbi e7 n13 n14 n15
    clear hr hun
    obtain rfl:=hI.f7 rfl
    have hw:=hI.P rfl
    subst hw
    refine wpOp_step rfl (fun K hK=>?_)
    go_simp
    exact hK _ _ ⟨b0,b1,b2,b3,b4,b5,b6,true,true,b9,b10,b11,b12,false,false,false,x0,x1,x2,x3,x4,x5,x6,(.pointer (some ⟨w.heap.size+1,6,none⟩)),(.slice f.ac f.d.consts.length f.cc),x9,x10,x11,x12,x13,x14,x15,rfl,by kernel_rfl,{ hI with m13:=nofun,m14:=nofun,m15:=nofun,f8:=fun _=>rfl,f13:=nofun }⟩
   ·have hbi:b9=false:=by simpa using hun
    subst hbi 
    clear hr hun
    refine wpOp_step rfl (fun K hK=>?_)
    go_simp
    exact hK _ _ ⟨b0,b1,b2,b3,b4,b5,b6,b7,b8,true,b10,b11,b12,b13,b14,b15,x0,x1,x2,x3,x4,x5,x6,x7,x8,(.pointer (some ⟨gw,0,none⟩)),x10,x11,x12,x13,x14,x15,rfl,by kernel_rfl,{ hI with f9:=fun _=>rfl }⟩
   ·have hbi:b10=false:=by simpa using hun
    have e9:b9=true:=by simpa using ready_dep hr rfl ⟨9,.data⟩ (by simp) rfl
    subst hbi e9
    clear hr hun
    obtain rfl:=hI.f9 rfl
    refine wpOp_step rfl (fun K hK=>?_)
    go_simp
    exact hK _ _ ⟨b0,b1,b2,b3,b4,b5,b6,b7,b8,true,true,b11,b12,b13,b14,b15,x0,x1,x2,x3,x4,x5,x6,x7,x8,(.pointer (some ⟨gw,0,none⟩)),(.pointer (some ⟨gw,0,none⟩)),x11,x12,x13,x14,x15,rfl,by kernel_rfl,{ hI with f10:=fun _=>rfl }⟩
   ·have hbi:b11=false:=by simpa using hun
    have e10:b10=true:=by simpa using ready_dep hr rfl ⟨10,.data⟩ (by simp) rfl
    subst hbi e10
    clear hr hun
    obtain rfl:=hI.f10 rfl
    refine wpOp_step rfl (fun K hK=>?_)
    go_simp
    exact hK _ _ ⟨b0,b1,b2,b3,b4,b5,b6,b7,b8,b9,true,true,b12,b13,b14,b15,x0,x1,x2,x3,x4,x5,x6,x7,x8,x9,(.pointer (some ⟨gw,0,none⟩)),(.pointer (some ⟨gw,2,none⟩)),x12,x13,x14,x15,rfl,by kernel_rfl,{ hI with f11:=fun _=>rfl }⟩
   ·have hbi:b12=false:=by simpa using hun
    have e11:b11=true:=by simpa using ready_dep hr rfl ⟨11,.data⟩ (by simp) rfl
    have n13:b13=false:=by
     cases hg:b13 with
     | false=>rfl
     | true=>have h9:=(hI.m13 hg).2.2.2.2;rw[hbi]at h9;cases h9
    have n14:b14=false:=by
     cases hg:b14 with
     | false=>rfl
     | true=>have h9:=(hI.m13 (hI.m14 hg).1).2.2.2.2;rw[hbi]at h9;cases h9
    have n15:b15=false:=by
     cases hg:b15 with
     | false=>rfl
     | true=>have h9:=(hI.m13 (hI.m14 (hI.m15 hg).1).1).2.2.2.2;rw[hbi]at h9;cases h9
    subst hbi e11 n13 n14 n15
    clear hr hun
    obtain rfl:=hI.f11 rfl
    have hw:=hI.P rfl
    subst hw
    refine wpOp_step rfl (fun K hK=>?_)
    go_simp
    exact hK _ _ ⟨b0,b1,b2,b3,b4,b5,b6,b7,b8,b9,b10,true,true,false,false,false,x0,x1,x2,x3,x4,x5,x6,x7,x8,x9,x10,(.pointer (some ⟨gw,2,none⟩)),(.slice none 0 0),x13,x14,x15,rfl,by kernel_rfl,{ hI with m13:=nofun,m14:=nofun,m15:=nofun,f12:=fun _=>rfl,f13:=nofun }⟩
   ·have hbi:b13=false:=by simpa using hun
    have e0:b0=true:=by simpa using ready_dep hr rfl ⟨0,.data⟩ (by simp) rfl
    have e4:b4=true:=by simpa using ready_dep hr rfl ⟨4,.data⟩ (by simp) rfl
    have e6:b6=true:=by simpa using ready_dep hr rfl ⟨6,.data⟩ (by simp) rfl
    have e8:b8=true:=by simpa using ready_dep hr rfl ⟨8,.data⟩ (by simp) rfl
    have e12:b12=true:=by simpa using ready_dep hr rfl ⟨12,.data⟩ (by simp) rfl
    have n14:b14=false:=by
     cases hg:b14 with
     | false=>rfl
     | true=>have h9:=(hI.m14 hg).1;rw[hbi]at h9;cases h9
    have n15:b15=false:=by
     cases hg:b15 with
     | false=>rfl
     | true=>have h9:=(hI.m14 (hI.m15 hg).1).1;rw[hbi]at h9;cases h9
    subst hbi e0 e4 e6 e8 e12 n14 n15
    clear hr hun
    obtain rfl:=hI.f0 rfl
    obtain rfl:=hI.f4 rfl
    obtain rfl:=hI.f6 rfl
    obtain rfl:=hI.f8 rfl
    obtain rfl:=hI.f12 rfl
    have hw:=hI.P rfl
    subst hw
    refine wpOp_step rfl (fun K hK=>?_)
    refine wp_build_run 210 #[(0,.tmp 22),(1,.tmp 26),(2,.tmp 28),(3,.tmp 30),(4,.tmp 34)] rfl #[(0,.agg #[.int .i64 0,.int .i64 0,.float .f64 0,.string ⟨#[]⟩,.int .i64 0]),(1,.int .i64 0),(2,.slice f.ai f.d.ins.length f.ci),(3,.slice f.ac f.d.consts.length f.cc),(4,.slice none 0 0)] (by simp only[List.map_toArray,List.map_cons,List.map_nil];kernel_rfl) (.agg (call0 (.slice f.ai f.d.ins.length f.ci) (.slice f.ac f.d.consts.length f.cc)).arr) (build_call _ _ _ _ _ _ _) ?_
    exact hK _ _ ⟨true,b1,b2,b3,true,b5,true,b7,true,b9,b10,b11,true,true,false,false,(.agg #[.int .i64 0,.int .i64 0,.float .f64 0,.string ⟨#[]⟩,.int .i64 0]),x1,x2,x3,(.int .i64 0),x5,(.slice f.ai f.d.ins.length f.ci),x7,(.slice f.ac f.d.consts.length f.cc),x9,x10,x11,(.slice none 0 0),(.agg (call0 (.slice f.ai f.d.ins.length f.ci) (.slice f.ac f.d.consts.length f.cc)).arr),x14,x15,rfl,by kernel_rfl,{ hI with m13:=fun _=>⟨rfl,rfl,rfl,rfl,rfl⟩,m14:=nofun,m15:=nofun,f13:=fun _=>rfl }⟩
   ·have hbi:b14=false:=by simpa using hun
    have e13:b13=true:=by simpa using ready_dep hr rfl ⟨13,.data⟩ (by simp) rfl
    have n15:b15=false:=by
     cases hg:b15 with
     | false=>rfl
     | true=>have h9:=(hI.m15 hg).1;rw[hbi]at h9;cases h9
    subst hbi e13 n15
    clear hr hun
    obtain rfl:=hI.f13 rfl
    have hw:=hI.P rfl
    subst hw
    refine wpOp_step rfl (fun K hK=>?_)
    go_simp
    exact hK _ _ ⟨b0,b1,b2,b3,b4,b5,b6,b7,b8,b9,b10,b11,b12,true,true,false,x0,x1,x2,x3,x4,x5,x6,x7,x8,x9,x10,x11,x12,(.agg (call0 (.slice f.ai f.d.ins.length f.ci) (.slice f.ac f.d.consts.length f.cc)).arr),(.pointer (some ⟨W2.heap.size,0,none⟩)),x15,rfl,by kernel_rfl,{ hI with P:=nofun,m14:=fun _=>⟨rfl,rfl,rfl⟩,m15:=nofun }⟩
   ·have hbi:b15=false:=by simpa using hun
    have e14:b14=true:=by simpa using ready_dep hr rfl ⟨14,.data⟩ (by simp) rfl
    subst hbi e14
    clear hr hun
    obtain⟨_,rfl,hw⟩:=hI.m14 rfl
    subst hw
    refine wpOp_step rfl (fun K hK=>?_)
    go_simp
    exact hK _ _ ⟨b0,b1,b2,b3,b4,b5,b6,b7,b8,b9,b10,b11,b12,b13,true,true,x0,x1,x2,x3,x4,x5,x6,x7,x8,x9,x10,x11,x12,x13,(.pointer (some ⟨W2.heap.size,0,none⟩)),(.pointer (some ⟨W2.heap.size,0,none⟩)),rfl,by kernel_rfl,{ hI with P:=nofun,m15:=fun _=>⟨rfl,rfl⟩ }⟩
  ·rintro listed a' w' ⟨b0,b1,b2,b3,b4,b5,b6,b7,b8,b9,b10,b11,b12,b13,b14,b15,x0,x1,x2,x3,x4,x5,x6,x7,x8,x9,x10,x11,x12,x13,x14,x15,rfl,rfl,hI⟩ hrd
   have e0:b0=true:=by simpa using ready_nextb hrd 0 rfl (by simp[Region.binds])
   have e1:b1=true:=by simpa using ready_nextb hrd 1 rfl (by simp[Region.binds,e0])
   have e2:b2=true:=by simpa using ready_nextb hrd 2 rfl (by simp[Region.binds,e0,e1])
   have e3:b3=true:=by simpa using ready_nextb hrd 3 rfl (by simp[Region.binds,e0,e1,e2])
   have e4:b4=true:=by simpa using ready_nextb hrd 4 rfl (by simp[Region.binds,e0,e1,e2,e3])
   have e5:b5=true:=by simpa using ready_nextb hrd 5 rfl (by simp[Region.binds,e0,e1,e2,e3,e4])
   have e6:b6=true:=by simpa using ready_nextb hrd 6 rfl (by simp[Region.binds,e0,e1,e2,e3,e4,e5])
   have e7:b7=true:=by simpa using ready_nextb hrd 7 rfl (by simp[Region.binds,e0,e1,e2,e3,e4,e5,e6])
   have e8:b8=true:=by simpa using ready_nextb hrd 8 rfl (by simp[Region.binds,e0,e1,e2,e3,e4,e5,e6,e7])
   have e9:b9=true:=by simpa using ready_nextb hrd 9 rfl (by simp[Region.binds,e0,e1,e2,e3,e4,e5,e6,e7,e8])
   have e10:b10=true:=by simpa using ready_nextb hrd 10 rfl (by simp[Region.binds,e0,e1,e2,e3,e4,e5,e6,e7,e8,e9])
   have e11:b11=true:=by simpa using ready_nextb hrd 11 rfl (by simp[Region.binds,e0,e1,e2,e3,e4,e5,e6,e7,e8,e9,e10])
   have e12:b12=true:=by simpa using ready_nextb hrd 12 rfl (by simp[Region.binds,e0,e1,e2,e3,e4,e5,e6,e7,e8,e9,e10,e11])
   have e13:b13=true:=by simpa using ready_nextb hrd 13 rfl (by simp[Region.binds,e0,e1,e2,e3,e4,e5,e6,e7,e8,e9,e10,e11,e12])
   have e14:b14=true:=by simpa using ready_nextb hrd 14 rfl (by simp[Region.binds,e0,e1,e2,e3,e4,e5,e6,e7,e8,e9,e10,e11,e12,e13])
   have e15:b15=true:=by simpa using ready_nextb hrd 15 rfl (by simp[Region.binds,e0,e1,e2,e3,e4,e5,e6,e7,e8,e9,e10,e11,e12,e13,e14])
   subst e0 e1 e2 e3 e4 e5 e6 e7 e8 e9 e10 e11 e12 e13 e14 e15
   clear hrd
   obtain⟨_,rfl⟩:=hI.m15 rfl
   obtain⟨_,rfl,hw⟩:=hI.m14 rfl
   subst hw
   clear hI
   go_wp2_with fail
   go_simp
   go_meet
   exact⟨rfl,rfl⟩
 case rest =>
  obtain⟨rfl,rfl⟩:=hcut
  rw[HSZ.out]
  rw[HW3.out]
  clear hW2 e0 e1 e2 e3 e4 g1 g2 p6 p7
  go_wp2_with fail
  go_loopw [39] (fun i wr=>i=.int .i64 0∧wr=W3) (fun _ _=>0)
  case atStart=>exact⟨rfl,rfl⟩
  case round =>
   obtain⟨rfl,rfl⟩:=hrel
   go_wp2_with fail
   go_region_law (refine step_append_run rfl _ _ _ rfl _ _ _ _ rfl rfl HRN.out ?_)
   all_goals
    go_wp2_with fail
    go_ret
    exact⟨_,_,_,rfl,HE.out⟩
end Go.Proofs.YtjglgbepobmjhaaGreatDoor.M
