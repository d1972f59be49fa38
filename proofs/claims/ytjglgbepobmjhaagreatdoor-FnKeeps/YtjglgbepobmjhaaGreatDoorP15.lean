import Derived.Test.YtjglgbepobmjhaaGreatDoorP14
import Derived.Deep.CutRange
set_option linter.unusedVariables false
set_option linter.unusedSimpArgs false
set_option maxRecDepth 20000
set_option maxHeartbeats 8000000
namespace Go.Proofs.YtjglgbepobmjhaaGreatDoor
open Go.RowKit
theorem reach_new (B gW gS nI p t:Nat) (cv iv hv:Value) (zs:List SR) (due:List Bool) (w:World) (rb:Bool) (tv gv:Value) (x:SD) (z:SR) (h:WlV B gW gS nI p cv iv w zs hv due) (ht:t<nI) (hz:zs[t]?=some z) (hy:z.o=none) (hn:nI≤6000) (hT:OI w B tv x.ts) (hG:GA w gv x.gs) (hl:x.ts.length≤250) (hg:x.gs.length≤50) (hdu:due[t]?=some false) :
  Calls Tryz.prog 34 #[.pointer (some ⟨gW,0,none⟩),.int .i64 t,.agg #[.bool rb,tv,gv]] w fun e w'=>RcA B gW gS nI p t cv iv hv w (some ⟨(zs.map SR.o).set t (some x),due.set t true⟩) e w'∧ButL (gW :: gS :: hv.ownBlock.toList) w w':=by
 have hok:=h.st.ok z (List.mem_of_getElem? hz)
 unfold SR.ok at hok
 rw[hy]at hok
 obtain⟨e1,e2⟩:=hok
 obtain⟨at2,ct2,rfl,s3⟩:=ORow.lies hT (fun y=>intC_len y)
 obtain⟨ag2,cg2,rfl,_,s4,_⟩:=hG
 obtain⟨W1,hW1⟩:∃W1,(w.alloc (.cells #[.bool rb,.slice at2 x.ts.length ct2,.slice ag2 x.gs.length cg2] 118)).alloc (.cells #[.bool false,.slice none 0 0,.slice none 0 0] 118)=W1:=⟨_,rfl⟩
 have vb1:W1.heap[w.heap.size]?=some (.cells #[.bool rb,.slice at2 x.ts.length ct2,.slice ag2 x.gs.length cg2] 118):=by rw[←hW1];exact blk_old (blk_new _ _) _
 have vk1:W1.heap[w.heap.size+1]?=some (.cells #[.bool false,.slice none 0 0,.slice none 0 0] 118):=by rw[←hW1];exact blk_newn (by simp) _
 have n0:W1.cell? ⟨w.heap.size+1,0,none⟩=some (.bool false):=by rw[blk_cell vk1];rfl
 have n1:W1.cell? ⟨w.heap.size+1,1,none⟩=some (.slice none 0 0):=by rw[blk_cell vk1];rfl
 have n2:W1.cell? ⟨w.heap.size+1,2,none⟩=some (.slice none 0 0):=by rw[blk_cell vk1];rfl
 have nz:=blk_frozen vk1
 obtain⟨W2,hW2⟩:∃W2,((W1.setCell ⟨w.heap.size+1,0,none⟩ (.bool false)).setCell ⟨w.heap.size+1,1,none⟩ (.slice none 0 0)).setCell ⟨w.heap.size+1,2,none⟩ (.slice none 0 0)=W2:=⟨_,rfl⟩
 have hb2:Below w.heap.size w W2:=by
  have h9:Below w.heap.size w W1:=by rw[←hW1];exact bw2 _ _ _
  rw[←hW2]
  exact ButL.nil ((((ButL.of_below h9).setn (by omega) _ _).setn (by omega) _ _).setn (by omega) _ _)
 have HW:Hid (WlV B gW gS nI p cv iv W2 zs hv due):=h.later hb2
 have HBW:Hid (Below w.heap.size w W2):=hb2
 have H3:Hid (SlA W2 1 intC at2 x.ts):=s3.later hb2
 have H4:Hid (SlA W2 3 GD.cells ag2 x.gs):=s4.later hb2
 have hyb:=bw1 w (.cells #[.bool rb,.slice at2 x.ts.length ct2,.slice ag2 x.gs.length cg2] 118)
 obtain⟨c0,c1,c2,c3,c4⟩:=(h.later hyb).cells
 obtain⟨r0,r1,r2⟩:=(h.later hyb).row hz
 rw[hy]at r0
 rw[e1]at r1
 rw[e2]at r2
 have v3:W2.cell? ⟨gW,3,none⟩=some (.slice (some ⟨gS,0,none⟩) nI nI):=HW.out.cells.2.2.2.1
 have vb:W2.heap[w.heap.size]?=some (.cells #[.bool rb,.slice at2 x.ts.length ct2,.slice ag2 x.gs.length cg2] 118):=by rw[←hW2];exact blk_other (blk_other (blk_other vb1 (by omega) _ _) (by omega) _ _) (by omega) _ _
 have v6:W2.cell? ⟨w.heap.size,1,none⟩=some (.slice at2 x.ts.length ct2):=by rw[blk_cell vb];rfl
 have v9:W2.cell? ⟨w.heap.size,2,none⟩=some (.slice ag2 x.gs.length cg2):=by rw[blk_cell vb];rfl
 have vk:W2.heap[w.heap.size+1]?=some (.cells #[.bool false,.slice none 0 0,.slice none 0 0] 118):=by
  rw[←hW2]
  have h9:=blk_set (blk_set (blk_set vk1 0 (.bool false)) 1 (.slice none 0 0)) 2 (.slice none 0 0)
  simpa using h9
 have vk0:W2.cell? ⟨w.heap.size+1,0,none⟩=some (.bool false):=by rw[blk_cell vk];rfl
 have HCJ:Hid (∀wk,Below W2.heap.size W2 wk→wk.cell? ⟨gS,t*3,none⟩=some (.bool false)∧wk.cell? ⟨gS,t*3+1,none⟩=some (.slice none 0 0)∧wk.cell? ⟨gS,t*3+2,none⟩=some (.slice none 0 0)∧∀j,wk.frozen? ⟨gS,j,none⟩=false):=fun wk hk=>by
  have hq:=HW.out.later hk
  obtain⟨q0,q1,q2⟩:=hq.row hz
  rw[hy]at q0
  rw[e1]at q1
  rw[e2]at q2
  exact⟨q0,q1,q2,fun j=>blk_frozen hq.st.blk j⟩
 clear h s3 s4 hT c0 c1 c2 c4 hz hyb hb2 vb vk vb1 vk1
 go_enter Tryz.func34,Tryz.ntmps34
 go_wp2_with fail
 clear hW1 hW2 r0 r1 r2 c3 vk0 n0 n1 n2 nz
 go_cut [] from 18 to 30 (fun wx=>∃tv gv wj,Hid (Below W2.heap.size W2 wj)∧Hid (ORow wj W2.heap.size 3 1 intC tv x.ts)∧Hid (ORow wj W2.heap.size 172 3 GD.cells gv x.gs)∧wx=((wj.setCell ⟨gS,t*3,none⟩ (.bool true)).setCell ⟨gS,t*3+1,none⟩ tv).setCell ⟨gS,t*3+2,none⟩ gv)
 case first =>
  refine wp_region_inv (by kernel_rfl) (fun base listed a' w'=>∃b0 b1 b2 b3 b4 b5 b6 b7 b8 b9 b10 b11 b12 b13 x0' x1' x2' x3' x4' x5' x6' x7' x8' x9' x10' x11' x12',listed=#[b0,b1,b2,b3,b4,b5,b6,b7,b8,b9,b10,b11,b12,b13]∧a'=(((((((((((((base.put (some 18) x0').put (some 19) x1').put (some 20) x2').put (some 21) x3').put (some 22) x4').put (some 23) x5').put (some 24) x6').put (some 25) x7').put (some 26) x8').put (some 27) x9').put (some 28) x10').put (some 29) x11').put (some 30) x12')∧(b13=false→R45 W2 gW gS w.heap.size nI t at2 ag2 ct2 cg2 x w' b0 b1 b2 b3 b4 b5 b6 b7 b8 b9 b10 b11 x0' x1' x2' x3' x4' x5' x6' x7' x8' x9' x10' x11'∧(b12=true→x12'=.pointer (some ⟨gS,t*3,none⟩)))∧(b12=true→b0=true∧b1=true∧b2=true∧b3=true∧b4=true∧b5=true∧b6=true∧b7=true∧b8=true∧b9=true∧b10=true∧b11=true)∧(b13=true→b12=true∧∃tv gv wj,Hid (Below W2.heap.size W2 wj)∧Hid (ORow wj W2.heap.size 3 1 intC tv x.ts)∧Hid (ORow wj W2.heap.size 172 3 GD.cells gv x.gs)∧w'=((wj.setCell ⟨gS,t*3,none⟩ (.bool true)).setCell ⟨gS,t*3+1,none⟩ tv).setCell ⟨gS,t*3+2,none⟩ gv)) ?_ ?_ ?_
  ·exact⟨false,false,false,false,false,false,false,false,false,false,false,false,false,false,undef,undef,undef,undef,undef,undef,undef,undef,undef,undef,undef,undef,undef,rfl,by kernel_rfl,fun _=>⟨⟨(Below.refl _ _).drew,nofun,nofun,nofun,nofun,nofun,nofun,nofun,nofun,nofun,nofun,nofun,nofun⟩,nofun⟩,nofun,nofun⟩
  ·rintro i listed a' w' ⟨b0,b1,b2,b3,b4,b5,b6,b7,b8,b9,b10,b11,b12,b13,x0',x1',x2',x3',x4',x5',x6',x7',x8',x9',x10',x11',x12',rfl,rfl,hI,hA,hD⟩ hr
   have hi:=ready_lt hr
   have hun:=(mem_ready.1 hr).1
   simp only[List.size_toArray,List.length_cons,List.length_nil,Nat.zero_add,Nat.reduceAdd]at hi
   have hi':i=0∨i=1∨i=2∨i=3∨i=4∨i=5∨i=6∨i=7∨i=8∨i=9∨i=10∨i=11∨i=12∨i=13:=by omega
   clear hi
   rcases hi' with rfl | rfl | rfl | rfl | rfl | rfl | rfl | rfl | rfl | rfl | rfl | rfl | rfl | rfl
   ·have hbi:b0=false:=by simpa using hun
    have hb12:b12=false:=by
     cases b12 with
     | false=>rfl
     | true=>obtain⟨e0,e1,e2,e3,e4,e5,e6,e7,e8,e9,e10,e11⟩:=hA rfl;rw[e0]at hbi;cases hbi
    have hb13:b13=false:=by
     cases b13 with
     | false=>rfl
     | true=>have h:=(hD rfl).1;rw[hb12]at h;cases h
    subst hbi hb12 hb13 
    have hI9:=hI rfl
    clear hI
    obtain⟨hI,hI2⟩:=hI9
    clear hD hA hr hun
    refine wpOp_step rfl (fun K hK=>?_)
    go_simp
    exact hK _ _ ⟨true,b1,b2,b3,b4,b5,b6,b7,b8,b9,b10,b11,false,false,.pointer (some ⟨gW,0,none⟩),x1',x2',x3',x4',x5',x6',x7',x8',x9',x10',x11',x12',rfl,by kernel_rfl,fun _=>⟨{ hI with h0:=fun _=>rfl },nofun⟩,nofun,nofun⟩
   ·have hbi:b1=false:=by simpa using hun
    have hb12:b12=false:=by
     cases b12 with
     | false=>rfl
     | true=>obtain⟨e0,e1,e2,e3,e4,e5,e6,e7,e8,e9,e10,e11⟩:=hA rfl;rw[e1]at hbi;cases hbi
    have hb13:b13=false:=by
     cases b13 with
     | false=>rfl
     | true=>have h:=(hD rfl).1;rw[hb12]at h;cases h
    have e0:b0=true:=by simpa using ready_dep hr rfl ⟨0,.data⟩ (by simp) rfl
    subst hbi hb12 hb13 e0
    have hI9:=hI rfl
    clear hI
    obtain⟨hI,hI2⟩:=hI9
    clear hD hA hr hun
    obtain rfl:=hI.h0 rfl
    refine wpOp_step rfl (fun K hK=>?_)
    go_simp
    exact hK _ _ ⟨true,true,b2,b3,b4,b5,b6,b7,b8,b9,b10,b11,false,false,.pointer (some ⟨gW,0,none⟩),.pointer (some ⟨gW,0,none⟩),x2',x3',x4',x5',x6',x7',x8',x9',x10',x11',x12',rfl,by kernel_rfl,fun _=>⟨{ hI with h1:=fun _=>rfl },nofun⟩,nofun,nofun⟩
   ·have hbi:b2=false:=by simpa using hun
    have hb12:b12=false:=by
     cases b12 with
     | false=>rfl
     | true=>obtain⟨e0,e1,e2,e3,e4,e5,e6,e7,e8,e9,e10,e11⟩:=hA rfl;rw[e2]at hbi;cases hbi
    have hb13:b13=false:=by
     cases b13 with
     | false=>rfl
     | true=>have h:=(hD rfl).1;rw[hb12]at h;cases h
    have e1:b1=true:=by simpa using ready_dep hr rfl ⟨1,.data⟩ (by simp) rfl
    subst hbi hb12 hb13 e1
    have hI9:=hI rfl
    clear hI
    obtain⟨hI,hI2⟩:=hI9
    clear hD hA hr hun
    obtain rfl:=hI.h1 rfl
    refine wpOp_step rfl (fun K hK=>?_)
    go_simp
    exact hK _ _ ⟨b0,true,true,b3,b4,b5,b6,b7,b8,b9,b10,b11,false,false,x0',.pointer (some ⟨gW,0,none⟩),.pointer (some ⟨gW,3,none⟩),x3',x4',x5',x6',x7',x8',x9',x10',x11',x12',rfl,by kernel_rfl,fun _=>⟨{ hI with h2:=fun _=>rfl },nofun⟩,nofun,nofun⟩
   ·have hbi:b3=false:=by simpa using hun
    have hb12:b12=false:=by
     cases b12 with
     | false=>rfl
     | true=>obtain⟨e0,e1,e2,e3,e4,e5,e6,e7,e8,e9,e10,e11⟩:=hA rfl;rw[e3]at hbi;cases hbi
    have hb13:b13=false:=by
     cases b13 with
     | false=>rfl
     | true=>have h:=(hD rfl).1;rw[hb12]at h;cases h
    have e2:b2=true:=by simpa using ready_dep hr rfl ⟨2,.data⟩ (by simp) rfl
    subst hbi hb12 hb13 e2
    have hI9:=hI rfl
    clear hI
    obtain⟨hI,hI2⟩:=hI9
    clear hD hA hr hun
    obtain rfl:=hI.h2 rfl
    have cx:w'.cell? ⟨gW,3,none⟩=some (.slice (some ⟨gS,0,none⟩) nI nI):=cell_later hI.hb v3
    refine wpOp_step rfl (fun K hK=>?_)
    go_simp
    exact hK _ _ ⟨b0,b1,true,true,b4,b5,b6,b7,b8,b9,b10,b11,false,false,x0',x1',.pointer (some ⟨gW,3,none⟩),.slice (some ⟨gS,0,none⟩) nI nI,x4',x5',x6',x7',x8',x9',x10',x11',x12',rfl,by kernel_rfl,fun _=>⟨{ hI with h3:=fun _=>rfl },nofun⟩,nofun,nofun⟩
   ·have hbi:b4=false:=by simpa using hun
    have hb12:b12=false:=by
     cases b12 with
     | false=>rfl
     | true=>obtain⟨e0,e1,e2,e3,e4,e5,e6,e7,e8,e9,e10,e11⟩:=hA rfl;rw[e4]at hbi;cases hbi
    have hb13:b13=false:=by
     cases b13 with
     | false=>rfl
     | true=>have h:=(hD rfl).1;rw[hb12]at h;cases h
    subst hbi hb12 hb13 
    have hI9:=hI rfl
    clear hI
    obtain⟨hI,hI2⟩:=hI9
    clear hD hA hr hun
    refine wpOp_step rfl (fun K hK=>?_)
    go_simp
    exact hK _ _ ⟨b0,b1,b2,b3,true,b5,b6,b7,b8,b9,b10,b11,false,false,x0',x1',x2',x3',.int .i64 (t:Int),x5',x6',x7',x8',x9',x10',x11',x12',rfl,by kernel_rfl,fun _=>⟨{ hI with h4:=fun _=>rfl },nofun⟩,nofun,nofun⟩
   ·have hbi:b5=false:=by simpa using hun
    have hb12:b12=false:=by
     cases b12 with
     | false=>rfl
     | true=>obtain⟨e0,e1,e2,e3,e4,e5,e6,e7,e8,e9,e10,e11⟩:=hA rfl;rw[e5]at hbi;cases hbi
    have hb13:b13=false:=by
     cases b13 with
     | false=>rfl
     | true=>have h:=(hD rfl).1;rw[hb12]at h;cases h
    subst hbi hb12 hb13 
    have hI9:=hI rfl
    clear hI
    obtain⟨hI,hI2⟩:=hI9
    clear hD hA hr hun
    refine wpOp_step rfl (fun K hK=>?_)
    go_simp
    exact hK _ _ ⟨b0,b1,b2,b3,b4,true,b6,b7,b8,b9,b10,b11,false,false,x0',x1',x2',x3',x4',.pointer (some ⟨w.heap.size,1,none⟩),x6',x7',x8',x9',x10',x11',x12',rfl,by kernel_rfl,fun _=>⟨{ hI with h5:=fun _=>rfl },nofun⟩,nofun,nofun⟩
   ·have hbi:b6=false:=by simpa using hun
    have hb12:b12=false:=by
     cases b12 with
     | false=>rfl
     | true=>obtain⟨e0,e1,e2,e3,e4,e5,e6,e7,e8,e9,e10,e11⟩:=hA rfl;rw[e6]at hbi;cases hbi
    have hb13:b13=false:=by
     cases b13 with
     | false=>rfl
     | true=>have h:=(hD rfl).1;rw[hb12]at h;cases h
    have e5:b5=true:=by simpa using ready_dep hr rfl ⟨5,.data⟩ (by simp) rfl
    subst hbi hb12 hb13 e5
    have hI9:=hI rfl
    clear hI
    obtain⟨hI,hI2⟩:=hI9
    clear hD hA hr hun
    obtain rfl:=hI.h5 rfl
    have cx:w'.cell? ⟨w.heap.size,1,none⟩=some (.slice at2 x.ts.length ct2):=cell_later hI.hb v6
    refine wpOp_step rfl (fun K hK=>?_)
    go_simp
    exact hK _ _ ⟨b0,b1,b2,b3,b4,true,true,b7,b8,b9,b10,b11,false,false,x0',x1',x2',x3',x4',.pointer (some ⟨w.heap.size,1,none⟩),.slice at2 x.ts.length ct2,x7',x8',x9',x10',x11',x12',rfl,by kernel_rfl,fun _=>⟨{ hI with h6:=fun _=>rfl },nofun⟩,nofun,nofun⟩
   ·have hbi:b7=false:=by simpa using hun
    have hb12:b12=false:=by
     cases b12 with
     | false=>rfl
     | true=>obtain⟨e0,e1,e2,e3,e4,e5,e6,e7,e8,e9,e10,e11⟩:=hA rfl;rw[e7]at hbi;cases hbi
    have hb13:b13=false:=by
     cases b13 with
     | false=>rfl
     | true=>have h:=(hD rfl).1;rw[hb12]at h;cases h
    have e6:b6=true:=by simpa using ready_dep hr rfl ⟨6,.data⟩ (by simp) rfl
    subst hbi hb12 hb13 e6
    have hI9:=hI rfl
    clear hI
    obtain⟨hI,hI2⟩:=hI9
    clear hD hA hr hun
    obtain rfl:=hI.h6 rfl
    refine wpOp_step rfl (fun K hK=>?_)
    go_simp
    refine (clone_int at2 x.ts.length ct2 x.ts _ rfl (H3.out.later hI.hb) (by omega)).mono ?_
    rintro e w2 ⟨⟨sv,rfl,ho⟩,hx⟩
    obtain⟨a7,c7,rfl⟩:=ORow.val (cells:=intC) ho
    have ho':ORow w2 W2.heap.size 3 1 intC (.slice a7 x.ts.length c7) x.ts:=ORow.mono (cells:=intC) ho hI.hb.size
    have hI3:=hI.later hx
    have e11:b11=false:=by
     cases b11 with
     | false=>rfl
     | true=>exact absurd (hI.h11 rfl).1 (by simp)
    subst e11
    exact hK _ _ ⟨b0,b1,b2,b3,b4,b5,true,true,b8,b9,b10,false,false,false,x0',x1',x2',x3',x4',x5',.slice at2 x.ts.length ct2,(.slice a7 x.ts.length c7),x8',x9',x10',x11',x12',rfl,by kernel_rfl,fun _=>⟨{ hI3 with h7:=fun _=>⟨a7,c7,rfl,ho'⟩,h11:=nofun },nofun⟩,nofun,nofun⟩
   ·have hbi:b8=false:=by simpa using hun
    have hb12:b12=false:=by
     cases b12 with
     | false=>rfl
     | true=>obtain⟨e0,e1,e2,e3,e4,e5,e6,e7,e8,e9,e10,e11⟩:=hA rfl;rw[e8]at hbi;cases hbi
    have hb13:b13=false:=by
     cases b13 with
     | false=>rfl
     | true=>have h:=(hD rfl).1;rw[hb12]at h;cases h
    subst hbi hb12 hb13 
    have hI9:=hI rfl
    clear hI
    obtain⟨hI,hI2⟩:=hI9
    clear hD hA hr hun
    refine wpOp_step rfl (fun K hK=>?_)
    go_simp
    exact hK _ _ ⟨b0,b1,b2,b3,b4,b5,b6,b7,true,b9,b10,b11,false,false,x0',x1',x2',x3',x4',x5',x6',x7',.pointer (some ⟨w.heap.size,2,none⟩),x9',x10',x11',x12',rfl,by kernel_rfl,fun _=>⟨{ hI with h8:=fun _=>rfl },nofun⟩,nofun,nofun⟩
   ·have hbi:b9=false:=by simpa using hun
    have hb12:b12=false:=by
     cases b12 with
     | false=>rfl
     | true=>obtain⟨e0,e1,e2,e3,e4,e5,e6,e7,e8,e9,e10,e11⟩:=hA rfl;rw[e9]at hbi;cases hbi
    have hb13:b13=false:=by
     cases b13 with
     | false=>rfl
     | true=>have h:=(hD rfl).1;rw[hb12]at h;cases h
    have e8:b8=true:=by simpa using ready_dep hr rfl ⟨8,.data⟩ (by simp) rfl
    subst hbi hb12 hb13 e8
    have hI9:=hI rfl
    clear hI
    obtain⟨hI,hI2⟩:=hI9
    clear hD hA hr hun
    obtain rfl:=hI.h8 rfl
    have cx:w'.cell? ⟨w.heap.size,2,none⟩=some (.slice ag2 x.gs.length cg2):=cell_later hI.hb v9
    refine wpOp_step rfl (fun K hK=>?_)
    go_simp
    exact hK _ _ ⟨b0,b1,b2,b3,b4,b5,b6,b7,true,true,b10,b11,false,false,x0',x1',x2',x3',x4',x5',x6',x7',.pointer (some ⟨w.heap.size,2,none⟩),.slice ag2 x.gs.length cg2,x10',x11',x12',rfl,by kernel_rfl,fun _=>⟨{ hI with h9:=fun _=>rfl },nofun⟩,nofun,nofun⟩
   ·have hbi:b10=false:=by simpa using hun
    have hb12:b12=false:=by
     cases b12 with
     | false=>rfl
     | true=>obtain⟨e0,e1,e2,e3,e4,e5,e6,e7,e8,e9,e10,e11⟩:=hA rfl;rw[e10]at hbi;cases hbi
    have hb13:b13=false:=by
     cases b13 with
     | false=>rfl
     | true=>have h:=(hD rfl).1;rw[hb12]at h;cases h
    have e9:b9=true:=by simpa using ready_dep hr rfl ⟨9,.data⟩ (by simp) rfl
    have e7:b7=true:=by simpa using ready_dep hr rfl ⟨7,.chain⟩ (by simp) rfl
    subst hbi hb12 hb13 e9 e7
    have hI9:=hI rfl
    clear hI
    obtain⟨hI,hI2⟩:=hI9
    clear hD hA hr hun
    obtain rfl:=hI.h9 rfl
    refine wpOp_step rfl (fun K hK=>?_)
    go_simp
    refine (clone_gd ag2 x.gs.length cg2 x.gs _ rfl (H4.out.later hI.hb) (by omega)).mono ?_
    rintro e w2 ⟨⟨sv,rfl,ho⟩,hx⟩
    obtain⟨a8,c8,rfl⟩:=ORow.val (cells:=GD.cells) ho
    have ho':ORow w2 W2.heap.size 172 3 GD.cells (.slice a8 x.gs.length c8) x.gs:=ORow.mono (cells:=GD.cells) ho hI.hb.size
    have hI3:=hI.later hx
    have e11:b11=false:=by
     cases b11 with
     | false=>rfl
     | true=>exact absurd (hI.h11 rfl).2.1 (by simp)
    subst e11
    exact hK _ _ ⟨b0,b1,b2,b3,b4,b5,b6,true,b8,true,true,false,false,false,x0',x1',x2',x3',x4',x5',x6',x7',x8',.slice ag2 x.gs.length cg2,(.slice a8 x.gs.length c8),x11',x12',rfl,by kernel_rfl,fun _=>⟨{ hI3 with h10:=fun _=>⟨a8,c8,rfl,ho'⟩,h11:=nofun },nofun⟩,nofun,nofun⟩
   ·have hbi:b11=false:=by simpa using hun
    have hb12:b12=false:=by
     cases b12 with
     | false=>rfl
     | true=>obtain⟨e0,e1,e2,e3,e4,e5,e6,e7,e8,e9,e10,e11⟩:=hA rfl;rw[e11]at hbi;cases hbi
    have hb13:b13=false:=by
     cases b13 with
     | false=>rfl
     | true=>have h:=(hD rfl).1;rw[hb12]at h;cases h
    have e7:b7=true:=by simpa using ready_dep hr rfl ⟨7,.data⟩ (by simp) rfl
    have e10:b10=true:=by simpa using ready_dep hr rfl ⟨10,.data⟩ (by simp) rfl
    subst hbi hb12 hb13 e7 e10
    have hI9:=hI rfl
    clear hI
    obtain⟨hI,hI2⟩:=hI9
    clear hD hA hr hun
    obtain⟨a7,c7,rfl,ho7⟩:=hI.h7 rfl
    obtain⟨a8,c8,rfl,ho8⟩:=hI.h10 rfl
    refine wpOp_step rfl (fun K hK=>?_)
    go_simp
    exact hK _ _ ⟨b0,b1,b2,b3,b4,b5,b6,true,b8,b9,true,true,false,false,x0',x1',x2',x3',x4',x5',x6',(.slice a7 x.ts.length c7),x8',x9',(.slice a8 x.gs.length c8),(.agg #[.bool true,.slice a7 x.ts.length c7,.slice a8 x.gs.length c8]),x12',rfl,by kernel_rfl,fun _=>⟨{ hI with h7:=fun _=>⟨a7,c7,rfl,ho7⟩,h10:=fun _=>⟨a8,c8,rfl,ho8⟩,h11:=fun _=>⟨rfl,rfl,rfl⟩ },nofun⟩,nofun,nofun⟩
   ·have hb12:b12=false:=by simpa using hun
    have hb13:b13=false:=by
     cases b13 with
     | false=>rfl
     | true=>have h:=(hD rfl).1;rw[hb12]at h;cases h
    have e0:b0=true:=by simpa using ready_dep hr rfl ⟨0,.phase⟩ (by simp) rfl
    have e1:b1=true:=by simpa using ready_dep hr rfl ⟨1,.phase⟩ (by simp) rfl
    have e2:b2=true:=by simpa using ready_dep hr rfl ⟨2,.phase⟩ (by simp) rfl
    have e3:b3=true:=by simpa using ready_dep hr rfl ⟨3,.phase⟩ (by simp) rfl
    have e4:b4=true:=by simpa using ready_dep hr rfl ⟨4,.phase⟩ (by simp) rfl
    have e5:b5=true:=by simpa using ready_dep hr rfl ⟨5,.phase⟩ (by simp) rfl
    have e6:b6=true:=by simpa using ready_dep hr rfl ⟨6,.phase⟩ (by simp) rfl
    have e7:b7=true:=by simpa using ready_dep hr rfl ⟨7,.phase⟩ (by simp) rfl
    have e8:b8=true:=by simpa using ready_dep hr rfl ⟨8,.phase⟩ (by simp) rfl
    have e9:b9=true:=by simpa using ready_dep hr rfl ⟨9,.phase⟩ (by simp) rfl
    have e10:b10=true:=by simpa using ready_dep hr rfl ⟨10,.phase⟩ (by simp) rfl
    have e11:b11=true:=by simpa using ready_dep hr rfl ⟨11,.phase⟩ (by simp) rfl
    subst hb12 hb13 e0 e1 e2 e3 e4 e5 e6 e7 e8 e9 e10 e11
    have hI9:=hI rfl
    clear hI
    obtain⟨hI,hI2⟩:=hI9
    clear hD hA hr hun
    obtain rfl:=hI.h3 rfl
    obtain rfl:=hI.h4 rfl
    refine wpOp_step rfl (fun K hK=>?_)
    go_simp
    exact hK _ _ ⟨true,true,true,true,true,true,true,true,true,true,true,true,true,false,x0',x1',x2',.slice (some ⟨gS,0,none⟩) nI nI,.int .i64 (t:Int),x5',x6',x7',x8',x9',x10',x11',.pointer (some ⟨gS,t*3,none⟩),rfl,by kernel_rfl,fun _=>⟨hI,fun _=>rfl⟩,fun _=>⟨rfl,rfl,rfl,rfl,rfl,rfl,rfl,rfl,rfl,rfl,rfl,rfl⟩,nofun⟩
   ·have hb13:b13=false:=by simpa using hun
    have e12:b12=true:=by simpa using ready_dep hr rfl ⟨12,.data⟩ (by simp) rfl
    obtain⟨e0,e1,e2,e3,e4,e5,e6,e7,e8,e9,e10,e11⟩:=hA e12
    subst hb13 e12 e0 e1 e2 e3 e4 e5 e6 e7 e8 e9 e10 e11
    have hI9:=hI rfl
    clear hI
    obtain⟨hI,hI2⟩:=hI9
    obtain rfl:=hI2 rfl
    obtain⟨a7,c7,rfl,ho7⟩:=hI.h7 rfl
    obtain⟨a8,c8,rfl,ho8⟩:=hI.h10 rfl
    obtain rfl:=(hI.h11 rfl).2.2
    clear hD hA hr hun
    obtain⟨d0,d1,d2,fz3⟩:=HCJ.out _ hI.hb
    refine wpOp_step rfl (fun K hK=>?_)
    go_simp
    exact hK _ _ ⟨true,true,true,true,true,true,true,true,true,true,true,true,true,true,x0',x1',x2',x3',x4',x5',x6',(.slice a7 x.ts.length c7),x8',x9',(.slice a8 x.gs.length c8),(.agg #[.bool true,.slice a7 x.ts.length c7,.slice a8 x.gs.length c8]),.pointer (some ⟨gS,t*3,none⟩),rfl,by kernel_rfl,nofun,fun _=>⟨rfl,rfl,rfl,rfl,rfl,rfl,rfl,rfl,rfl,rfl,rfl,rfl⟩,fun _=>⟨rfl,_,_,w',hI.hb,ho7,ho8,rfl⟩⟩
  ·rintro listed a' w' ⟨b0,b1,b2,b3,b4,b5,b6,b7,b8,b9,b10,b11,b12,b13,x0',x1',x2',x3',x4',x5',x6',x7',x8',x9',x10',x11',x12',rfl,rfl,hI,hA,hD⟩ hrd
   have e0:b0=true:=by simpa using ready_next hrd 0 rfl (by simp)
   have e1:b1=true:=by simpa using ready_next hrd 1 rfl (by simp[e0])
   have e2:b2=true:=by simpa using ready_next hrd 2 rfl (by simp[e1])
   have e3:b3=true:=by simpa using ready_next hrd 3 rfl (by simp[e2])
   have e4:b4=true:=by simpa using ready_next hrd 4 rfl (by simp)
   have e5:b5=true:=by simpa using ready_next hrd 5 rfl (by simp)
   have e6:b6=true:=by simpa using ready_next hrd 6 rfl (by simp[e5])
   have e7:b7=true:=by simpa using ready_next hrd 7 rfl (by simp[e6])
   have e8:b8=true:=by simpa using ready_next hrd 8 rfl (by simp)
   have e9:b9=true:=by simpa using ready_next hrd 9 rfl (by simp[e8])
   have e10:b10=true:=by simpa using ready_next hrd 10 rfl (by simp[e9,e7])
   have e11:b11=true:=by simpa using ready_next hrd 11 rfl (by simp[e7,e10])
   have e12:b12=true:=by simpa using ready_next hrd 12 rfl (by simp[e0,e1,e2,e3,e4,e5,e6,e7,e8,e9,e10,e11])
   have e13:b13=true:=by simpa using ready_next hrd 13 rfl (by simp[e0,e1,e2,e3,e4,e5,e6,e7,e8,e9,e10,e11,e12])
   have hd:=(hD e13).2
   clear hI hD hA hrd e0 e1 e2 e3 e4 e5 e6 e7 e8 e9 e10 e11 e12 e13
   go_wp2_with fail
   go_simp
   go_meet
   exact hd
 case rest =>
  obtain⟨tv,gv,wj,hB,h1,h2,hwx⟩:=hcut
  have HQ:Hid (WlV B gW gS nI p cv iv wc (zs.set t ⟨some x,tv,gv⟩) hv due):=by rw[hwx];exact WlV.put HW.out hB.out ht h1.out h2.out
  have HBX:Hid (ButL (gW :: gS :: hv.ownBlock.toList) w wc):=by
   rw[hwx]
   exact (((ButL.of_below (HBW.out.trans (hB.out.mono HBW.out.size))).set (by simp) _ _).set (by simp) _ _).set (by simp) _ _
  clear hwx hB h1 h2 HCJ H3 H4 v3 v6 v9 HW HBW
  have hsz:wc.heap.size=wc.heap.size:=rfl
  obtain⟨l,hl1,hl2,hl3⟩:=HQ.out.hp
  have hnot:t∉l:=fun e=>by rw[hl2,hdu]at e;cases e
  have hlen:l.length≤6000:=by rw[hl3];exact Nat.le_trans List.countP_le_length (by rw[HQ.out.dul];exact hn)
  go_wp2_with (first
   | (go_at_call 62;refine (push_any gW 4 B hv l t _ _ _ HQ.out.blk rfl (by decide) hl1 hnot hlen HQ.out.base).mono ?_;rintro e w9 ⟨rfl,hv',l',q1,q2,q3,q4,q5,q6⟩))
  go_ret
  obtain⟨k1,k2⟩:=due_push hdu hl2 hl3 q3 q4
  refine⟨⟨rfl,zs.set t ⟨some x,tv,gv⟩,hv',HQ.out.heaped q5 (by simpa using q1) ⟨l',q2,k1,k2⟩ (by simpa using HQ.out.dul) q6,?_,fun g e=>?_⟩,?_⟩
  ·rw[List.map_set]
  ·rcases q6 g e with q | q
   ·exact .inl q
   ·exact .inr (Nat.le_trans HBX.out.size q)
  ·refine HBX.out.then q5 fun g hg=>.inl ?_
   simp only[List.mem_cons]at hg ⊢
   rcases hg with e | e
   ·exact .inl e
   ·exact .inr (.inr e)
end Go.Proofs.YtjglgbepobmjhaaGreatDoor
