import Derived.Test.YtliahjnnbbgooaaGreatDoorP45
import Derived.Test.YtliahjnnbbgooaaGreatDoorP08
import Derived.Test.YtliahjnnbbgooaaGreatDoorP40
import Derived.Test.YtliahjnnbbgooaaGreatDoorP37
import Derived.Test.YtliahjnnbbgooaaGreatDoorP39
import Derived.Deep.CutRange
set_option linter.unusedVariables false
set_option linter.unusedSimpArgs false
set_option maxRecDepth 20000
set_option maxHeartbeats 8000000
namespace Go.Proofs.YtliahjnnbbgooaaGreatDoor.T
open Go.RowKit
attribute [local go_sem] run_store_float
theorem pkonst_any {w0 w:World} {g r:Nat} {l:List ID} (k n:Int) (f:Nat) (s:ByteArray) (q:Int) (H:Pen w0 w g r [] l) :
  Calls Tryz.prog 13 #[.pointer (some ⟨g,0,none⟩),VV k n f s q] w fun e w'=>e=.returned (.int .i64 0)∧Pen w0 w' g r [⟨k,n,f,s,q⟩] l:=by
 obtain⟨hB,hge,iv,cv,tv,hb,hi,ho⟩:=H
 obtain⟨aa,cc,rfl⟩:=ho.val
 have hy:=bw2 w (VO k n f s q) (.cells #[.int .i64 k,.int .i64 n,.float .f64 f,.string s,.int .i64 q] 49)
 have ho1:=ORow.later ho hy
 have hi1:=ORow.later hi hy
 have hsz:w0.heap.size≤w.heap.size:=hB.size
 obtain⟨g',cap',w2,hr,ho2,hgr⟩:=(show ORow ((w.alloc (VO k n f s q)).alloc (.cells #[.int .i64 k,.int .i64 n,.float .f64 f,.string s,.int .i64 q] 49)).drew w0.heap.size 49 5 VD.cells (.slice aa 0 cc) [] from ho1).app 57 48 Tryz.underlying57 (by kernel_rfl) (by omega) (by omega) (⟨k,n,f,s,q⟩:VD) (w.heap.size+1) 57 (blk_newn (by simp) _) rfl (by intro u hu;simp[VD.cells]at hu;rcases hu with rfl | rfl | rfl | rfl | rfl<;>rfl) (by simp) (by simp;omega)
 replace hgr:((w.alloc (VO k n f s q)).alloc (.cells #[.int .i64 k,.int .i64 n,.float .f64 f,.string s,.int .i64 q] 49)).grownBy w2 (Value.slice aa 0 cc).ownBlock:=⟨hgr.os,hgr.tape,hgr.output,hgr.size,hgr.block⟩
 have hgl:=blk_lt hb
 have hgne:(Value.slice aa ([]:List VD).length cc).ownBlock≠some g:=by
  intro e
  obtain⟨c1,k1⟩:=orow_ty ho e
  rw[hb]at k1;cases k1
 have hb2:w2.heap[g]?=some (.cells (penC r (.slice aa 0 cc) iv tv) 64):=(hgr.block g (by simp;omega) (fun e=>hgne e.symm)).trans (blk_old (blk_old hb _) _)
 have p1:w.cell? ⟨g,6,none⟩=some (.slice aa 0 cc):=by rw[blk_cell hb];rfl
 have p0:((w.alloc (VO k n f s q)).alloc (.cells #[.int .i64 k,.int .i64 n,.float .f64 f,.string s,.int .i64 q] 49)).cell? ⟨g,6,none⟩=some (.slice aa 0 cc):=by rw[blk_cell (blk_old (blk_old hb _) _)];rfl
 have p00:(w.alloc (VO k n f s q)).cell? ⟨g,6,none⟩=some (.slice aa 0 cc):=by rw[blk_cell (blk_old hb _)];rfl
 have p2:w2.cell? ⟨g,6,none⟩=some (.slice aa 0 cc):=by rw[blk_cell hb2];rfl
 have z2:=blk_frozen hb2
 have hi2:ORow w2 w0.heap.size 55 5 ID.cells iv l:=ORow.keep hi1 fun j arr _ hj=>hgr.block j (blk_lt hj) fun e=>by
  obtain⟨c2,k2⟩:=orow_ty ho1 e.symm
  rw[hj]at k2;cases k2
 have hig:iv.ownBlock≠some g:=by
  intro e
  obtain⟨c1,k1⟩:=orow_ty hi e
  rw[hb]at k1;cases k1
 have HE:Hid (Pen w0 (w2.setCell ⟨g,6,none⟩ (.slice (some ⟨g',0,none⟩) 1 cap')) g r [⟨k,n,f,s,q⟩] l):=by
  refine⟨?_,hge,iv,_,tv,blk_set hb2 6 _,ORow.set_own hi2 hig 6 _,?_⟩
  ·have:=below_grown (hB.trans (hy.mono hB.size)) (by simp;omega) ho1 (Nat.le_refl _) hgr
   exact this.setCell (p:=⟨g,6,none⟩) hge _
  ·refine ORow.set_own ho2 (fun e=>?_) 6 _
   obtain⟨c2,k2⟩:=orow_ty ho2 e
   rw[hb2]at k2;cases k2
 obtain⟨W3,hW3⟩:∃W,w2.setCell ⟨g,6,none⟩ (.slice (some ⟨g',0,none⟩) 1 cap')=W:=⟨_,rfl⟩
 rw[hW3]at HE
 have p3:W3.cell? ⟨g,6,none⟩=some (.slice (some ⟨g',0,none⟩) 1 cap'):=by rw[←hW3,blk_cell (blk_set hb2 6 _)];rfl
 have HR:Hid _:=hr
 clear hr
 clear ho ho1 ho2 hgr hb2 hb hB hy hi hi1 hi2 hig
 go_enter Tryz.func13,Tryz.ntmps13
 go_wp2_with fail
 go_loopw [13] (fun i wr=>i=.int .i64 0∧wr=w.alloc (VO k n f s q)) (fun i _=>0)
 case atStart=>exact⟨rfl,rfl⟩
 case round =>
  obtain⟨rfl,rfl⟩:=hrel
  go_wp2_with fail
  go_region_law (refine step_append_run rfl _ _ _ rfl _ _ _ _ rfl rfl HR.out ?_)
  all_goals
   go_wp2_with fail
   go_ret
   exact⟨rfl,HE.out⟩
end Go.Proofs.YtliahjnnbbgooaaGreatDoor.T
namespace Go.Proofs.YtliahjnnbbgooaaGreatDoor.U
open Go.RowKit T
attribute [local go_sem] run_store_float
theorem Pen.later {w0 w w':World} {g r:Nat} {cs:List VD} {l:List ID} (h:T.Pen w0 w g r cs l) (hb:Below w.heap.size w w'):T.Pen w0 w' g r cs l:=by
 obtain⟨h1,h2,iv,cv,tv,h3,h4,h6⟩:=h
 exact⟨h1.trans (hb.mono h1.size),h2,iv,cv,tv,blk_later hb h3,ORow.later h4 hb,ORow.later h6 hb⟩
theorem pback_any {w0 w:World} {g r:Nat} {cs:List VD} {l:List ID} (x:Int) (H:T.Pen w0 w g r cs l) (hl:l.length≤1000) (hx:0≤x∧x≤1000) :
  Calls Tryz.prog 16 #[.pointer (some ⟨g,0,none⟩),.int .i64 x] w fun e w'=>e=.returned (.tuple #[])∧T.Pen w0 w' g r cs (l++[⟨22,x,0,0,0⟩,⟨29,-1-x,0,0,0⟩]):=by
 have HP:Hid (T.Pen w0 w g r cs l):=H
 clear H
 go_enter Tryz.func16,Tryz.ntmps16
 go_wp2_with fail
 refine (T.pput_any _ _ _ _ _ HP.out (by omega)).mono ?_
 rintro e w1 ⟨rfl,H1⟩
 have HP1:Hid _:=H1
 clear H1 HP
 go_wp2_with fail
 refine (T.pput_any _ _ _ _ _ HP1.out (by simp;omega)).mono ?_
 rintro e w2 ⟨rfl,H2⟩
 have HP2:Hid _:=H2
 clear H2 HP1
 go_wp2_with fail
 refine bodyPost_end (v:=.tuple #[]) (by simp[results,Tryz.results16,go_sem]) rfl ⟨rfl,?_⟩
 have:=HP2.out
 rwa [List.append_assoc]at this
end Go.Proofs.YtliahjnnbbgooaaGreatDoor.U
namespace Go.Proofs.YtliahjnnbbgooaaGreatDoor
open Go.RowKit
end Go.Proofs.YtliahjnnbbgooaaGreatDoor
namespace Go.Proofs.YtliahjnnbbgooaaGreatDoor.U
open Go.RowKit T
attribute [local go_sem] run_store_float
theorem pput_z {w0 w:World} {g r:Nat} {cs:List VD} {l:List ID} (z:Int) (op a b c d:Int) (H:T.Pen w0 w g r cs l) (hl:l.length≤100000) (hz:(l.length:Int)=z) :
  Calls Tryz.prog 12 #[.pointer (some ⟨g,0,none⟩),.int .i64 op,.int .i64 a,.int .i64 b,.int .i64 c,.int .i64 d] w fun e w'=>e=.returned (.int .i64 z)∧T.Pen w0 w' g r cs (l++[⟨op,a,b,c,d⟩]):=by
 subst hz;exact T.pput_any op a b c d H hl
theorem setA_app (A C:List ID) (x:ID) (z:Int):setA (A++x :: C) A.length z=A++⟨x.op,z,x.b,x.c,x.d⟩ :: C:=by
 unfold setA
 simp
end Go.Proofs.YtliahjnnbbgooaaGreatDoor.U
namespace Go.Proofs.YtliahjnnbbgooaaGreatDoor.J
open Go.RowKit T U
attribute [local go_sem] run_store_float
theorem eq_op (w:World):(binOp BinOp.eql 49 (.agg #[.int .i64 2,.int .i64 1,.float .f64 0,.string ⟨#[]⟩,.int .i64 0]) (.agg #[.int .i64 8,.int .i64 0,.float .f64 0,.string ⟨#[]⟩,.int .i64 0])).run Tryz.prog w=.ok (.bool false) w:=by kernel_rfl
theorem pkonstJ {w0 w:World} {g r:Nat} {l:List ID} (H:T.Pen w0 w g r [oneD] l) :
  Calls Tryz.prog 13 #[.pointer (some ⟨g,0,none⟩),VV 8 0 0 ⟨#[]⟩ 0] w fun e w'=>e=.returned (.int .i64 1)∧T.Pen w0 w' g r [oneD,priD] l:=by
 obtain⟨hB,hge,iv,cv,tv,hb,hi,ho⟩:=H
 obtain⟨ga,cc,rfl,hga,_,hs,_,_⟩:=ho.open T.vdC_len (by simp)
 obtain⟨b0,o0,e0,_,hc0⟩:=hs 0 oneD rfl
 have e1:ga=b0∧0=o0:=by injection e0 with e0;injection e0 with e0 e2;exact⟨e0,e2⟩
 obtain⟨rfl,rfl⟩:=e1
 obtain⟨W,hW⟩:∃W,w.alloc (VO 8 0 0 ⟨#[]⟩ 0)=W:=⟨_,rfl⟩
 have hbW:Below w.heap.size w W:=by rw[←hW];exact bw1 _ _
 have bv:W.heap[w.heap.size]?=some (VO 8 0 0 ⟨#[]⟩ 0):=by rw[←hW];exact blk_new _ _
 have k0:W.cell? ⟨ga,0,none⟩=some (.int .i64 2):=cell_later hbW (hc0 0 _ rfl)
 have k1:W.cell? ⟨ga,1,none⟩=some (.int .i64 1):=cell_later hbW (hc0 1 _ rfl)
 have k2:W.cell? ⟨ga,2,none⟩=some (.float .f64 0):=cell_later hbW (hc0 2 _ rfl)
 have k3:W.cell? ⟨ga,3,none⟩=some (.string ⟨#[]⟩):=cell_later hbW (hc0 3 _ rfl)
 have k4:W.cell? ⟨ga,4,none⟩=some (.int .i64 0):=cell_later hbW (hc0 4 _ rfl)
 have p6:W.cell? ⟨g,6,none⟩=some (.slice (some ⟨ga,0,none⟩) 1 cc):=by rw[blk_cell (blk_later hbW hb)];rfl
 have p60:w.cell? ⟨g,6,none⟩=some (.slice (some ⟨ga,0,none⟩) 1 cc):=by rw[blk_cell hb];rfl
 have HS:Hid (T.Pen w0 W g r [oneD] l∧W.heap[g]?=some (.cells (T.penC r (.slice (some ⟨ga,0,none⟩) 1 cc) iv tv) 64)∧ORow W w0.heap.size 55 5 ID.cells iv l∧ORow W w0.heap.size 49 5 VD.cells (.slice (some ⟨ga,0,none⟩) 1 cc) [oneD]∧Below w0.heap.size w0 W):=⟨Pen.later ⟨hB,hge,iv,_,tv,hb,hi,ho⟩ hbW,blk_later hbW hb,ORow.later hi hbW,ORow.later ho hbW,hB.trans (hbW.mono hB.size)⟩
 have HV:Hid (W.heap[w.heap.size]?=some (VO 8 0 0 ⟨#[]⟩ 0)):=bv
 obtain⟨v0,v1,v2,v3,v4⟩:W.cell? ⟨w.heap.size,0,none⟩=some (.int .i64 8)∧W.cell? ⟨w.heap.size,1,none⟩=some (.int .i64 0)∧W.cell? ⟨w.heap.size,2,none⟩=some (.float .f64 0)∧W.cell? ⟨w.heap.size,3,none⟩=some (.string ⟨#[]⟩)∧W.cell? ⟨w.heap.size,4,none⟩=some (.int .i64 0):=by refine⟨?_,?_,?_,?_,?_⟩<;>(rw[blk_cell bv];rfl)
 have yy0:=cell_later (bw1 W (VO 2 1 0 ⟨#[]⟩ 0)) v0
 have yy1:=cell_later (bw1 W (VO 2 1 0 ⟨#[]⟩ 0)) v1
 have yy2:=cell_later (bw1 W (VO 2 1 0 ⟨#[]⟩ 0)) v2
 have yy3:=cell_later (bw1 W (VO 2 1 0 ⟨#[]⟩ 0)) v3
 have yy4:=cell_later (bw1 W (VO 2 1 0 ⟨#[]⟩ 0)) v4
 have hq:=eq_op
 have hgW:ga<W.heap.size:=World.block_lt_of_cell? _ _ k0
 clear hB hb hi ho hs e0 hc0 bv hbW
 go_enter Tryz.func13,Tryz.ntmps13
 go_wp2_with fail
 go_loopw [13] (fun i wr=>(i=.int .i64 0∧wr=W)∨(i=.int .i64 1∧Hid (Below W.heap.size W wr))) (fun i _=>1-(intOf i).toNat)
 case atStart=>exact .inl ⟨rfl,rfl⟩
 case round =>
  rcases hrel with ⟨rfl,rfl⟩ | ⟨rfl,HX⟩
  ·clear hW
   go_wp2_with fail
   go_roundw
   case rel=>exact .inr ⟨by go_num,bw1 _ _⟩
   case measure=>simp[intOf]
  ·clear k0 k1 k2 k3 k4 yy0 yy1 yy2 yy3 yy4
   obtain⟨hP,hb,hi,ho,hB⟩:=HS.out
   have hyr:=HX.out
   obtain⟨v0',v1',v2',v3',v4'⟩:wr.cell? ⟨w.heap.size,0,none⟩=some (.int .i64 8)∧wr.cell? ⟨w.heap.size,1,none⟩=some (.int .i64 0)∧wr.cell? ⟨w.heap.size,2,none⟩=some (.float .f64 0)∧wr.cell? ⟨w.heap.size,3,none⟩=some (.string ⟨#[]⟩)∧wr.cell? ⟨w.heap.size,4,none⟩=some (.int .i64 0):=by refine⟨?_,?_,?_,?_,?_⟩<;>(rw[blk_cell (blk_later hyr HV.out)];rfl)
   have hb1:=blk_later hyr hb
   have hy:=hyr.trans ((bw1 wr (.cells #[.int .i64 8,.int .i64 0,.float .f64 0,.string ⟨#[]⟩,.int .i64 0] 49)).mono hyr.size)
   have ho1:=ORow.later ho hy
   have hi1:=ORow.later hi hy
   have hBr:Below w0.heap.size w0 (wr.alloc (.cells #[.int .i64 8,.int .i64 0,.float .f64 0,.string ⟨#[]⟩,.int .i64 0] 49)):=hB.trans (hy.mono hB.size)
   have hsz:w0.heap.size≤wr.heap.size:=Nat.le_trans hB.size hyr.size
   obtain⟨g',cap',w2,hr,ho2,hgr⟩:=(show ORow (wr.alloc (.cells #[.int .i64 8,.int .i64 0,.float .f64 0,.string ⟨#[]⟩,.int .i64 0] 49)).drew w0.heap.size 49 5 VD.cells (.slice (some ⟨ga,0,none⟩) 1 cc) [oneD] from ho1).app 57 48 Tryz.underlying57 (by kernel_rfl) (by omega) (by omega) priD wr.heap.size 57 (blk_new _ _) rfl (by intro u hu;simp[VD.cells,priD]at hu;rcases hu with rfl | rfl | rfl | rfl | rfl<;>rfl) (by simp) (by simp;omega)
   replace hgr:(wr.alloc (.cells #[.int .i64 8,.int .i64 0,.float .f64 0,.string ⟨#[]⟩,.int .i64 0] 49)).grownBy w2 (Value.slice (some ⟨ga,0,none⟩) 1 cc).ownBlock:=⟨hgr.os,hgr.tape,hgr.output,hgr.size,hgr.block⟩
   have hgl:=blk_lt hb1
   have hgne:(Value.slice (some ⟨ga,0,none⟩) [oneD].length cc).ownBlock≠some g:=by
    intro e
    obtain⟨c1,q1⟩:=orow_ty ho e
    rw[hb]at q1;cases q1
   have hb2:w2.heap[g]?=some (.cells (T.penC r (.slice (some ⟨ga,0,none⟩) 1 cc) iv tv) 64):=(hgr.block g (by simp;omega) (fun e=>hgne e.symm)).trans (blk_old hb1 _)
   have q6:wr.cell? ⟨g,6,none⟩=some (.slice (some ⟨ga,0,none⟩) 1 cc):=by rw[blk_cell hb1];rfl
   have q60:(wr.alloc (.cells #[.int .i64 8,.int .i64 0,.float .f64 0,.string ⟨#[]⟩,.int .i64 0] 49)).cell? ⟨g,6,none⟩=some (.slice (some ⟨ga,0,none⟩) 1 cc):=by rw[blk_cell (blk_old hb1 _)];rfl
   have p2:w2.cell? ⟨g,6,none⟩=some (.slice (some ⟨ga,0,none⟩) 1 cc):=by rw[blk_cell hb2];rfl
   have z2:=blk_frozen hb2
   have hi2:ORow w2 w0.heap.size 55 5 ID.cells iv l:=ORow.keep hi1 fun j arr _ hj=>hgr.block j (blk_lt hj) fun e=>by
    obtain⟨c2,q2⟩:=orow_ty ho1 e.symm
    rw[hj]at q2;cases q2
   have hig:iv.ownBlock≠some g:=by
    intro e
    obtain⟨c1,q1⟩:=orow_ty hi e
    rw[hb]at q1;cases q1
   have HE:Hid (T.Pen w0 (w2.setCell ⟨g,6,none⟩ (.slice (some ⟨g',0,none⟩) 2 cap')) g r [oneD,priD] l):=by
    refine⟨?_,hge,iv,_,tv,blk_set hb2 6 _,ORow.set_own hi2 hig 6 _,?_⟩
    ·have:=below_grown hBr (by simp;omega) ho1 (Nat.le_refl _) hgr
     exact this.setCell (p:=⟨g,6,none⟩) hge _
    ·refine ORow.set_own ho2 (fun e=>?_) 6 _
     obtain⟨c2,q2⟩:=orow_ty ho2 e
     rw[hb2]at q2;cases q2
   obtain⟨W3,hW3⟩:∃W,w2.setCell ⟨g,6,none⟩ (.slice (some ⟨g',0,none⟩) 2 cap')=W:=⟨_,rfl⟩
   rw[hW3]at HE
   have p3:W3.cell? ⟨g,6,none⟩=some (.slice (some ⟨g',0,none⟩) 2 cap'):=by rw[←hW3,blk_cell (blk_set hb2 6 _)];rfl
   have HR:Hid _:=hr
   clear hr v0 v1 v2 v3 v4
   clear ho ho1 ho2 hgr hb2 hb hb1 hB hBr hy hyr hi hi1 hi2 hig hP HS
   go_wp2_with fail
   go_region_law (refine step_append_run rfl _ _ _ rfl _ _ _ _ rfl rfl HR.out ?_)
   all_goals
    go_wp2_with fail
    go_ret
    exact⟨rfl,HE.out⟩
theorem eq_pp (w:World):(binOp BinOp.eql 49 (.agg #[.int .i64 8,.int .i64 0,.float .f64 0,.string ⟨#[]⟩,.int .i64 0]) (.agg #[.int .i64 8,.int .i64 0,.float .f64 0,.string ⟨#[]⟩,.int .i64 0])).run Tryz.prog w=.ok (.bool true) w:=by kernel_rfl
theorem pkonst_old {w0 w:World} {g r:Nat} {l:List ID} (H:T.Pen w0 w g r [oneD,priD] l) :
  Calls Tryz.prog 13 #[.pointer (some ⟨g,0,none⟩),VV 8 0 0 ⟨#[]⟩ 0] w fun e w'=>e=.returned (.int .i64 1)∧T.Pen w0 w' g r [oneD,priD] l:=by
 obtain⟨hB,hge,iv,cv,tv,hb,hi,ho⟩:=id H
 obtain⟨ga,cc,rfl,hga,_,hs,_,_⟩:=ho.open T.vdC_len (by simp)
 obtain⟨b0,o0,e0,_,hc0⟩:=hs 0 oneD rfl
 obtain⟨b1,o1,e1,_,hc1⟩:=hs 1 priD rfl
 have e2:ga=b0∧0=o0:=by injection e0 with e0;injection e0 with e0 e2;exact⟨e0,e2⟩
 obtain⟨rfl,rfl⟩:=e2
 have e3:ga=b1∧0=o1:=by injection e1 with e0;injection e0 with e0 e2;exact⟨e0,e2⟩
 obtain⟨rfl,rfl⟩:=e3
 obtain⟨W,hW⟩:∃W,w.alloc (VO 8 0 0 ⟨#[]⟩ 0)=W:=⟨_,rfl⟩
 have hbW:Below w.heap.size w W:=by rw[←hW];exact bw1 _ _
 have bv:W.heap[w.heap.size]?=some (VO 8 0 0 ⟨#[]⟩ 0):=by rw[←hW];exact blk_new _ _
 have HK:Hid (∀wk,Below W.heap.size W wk→(wk.cell? ⟨ga,0,none⟩=some (.int .i64 2)∧wk.cell? ⟨ga,1,none⟩=some (.int .i64 1)∧wk.cell? ⟨ga,2,none⟩=some (.float .f64 0)∧wk.cell? ⟨ga,3,none⟩=some (.string ⟨#[]⟩)∧wk.cell? ⟨ga,4,none⟩=some (.int .i64 0))∧(wk.cell? ⟨ga,5,none⟩=some (.int .i64 8)∧wk.cell? ⟨ga,6,none⟩=some (.int .i64 0)∧wk.cell? ⟨ga,7,none⟩=some (.float .f64 0)∧wk.cell? ⟨ga,8,none⟩=some (.string ⟨#[]⟩)∧wk.cell? ⟨ga,9,none⟩=some (.int .i64 0))∧(wk.cell? ⟨w.heap.size,0,none⟩=some (.int .i64 8)∧wk.cell? ⟨w.heap.size,1,none⟩=some (.int .i64 0)∧wk.cell? ⟨w.heap.size,2,none⟩=some (.float .f64 0)∧wk.cell? ⟨w.heap.size,3,none⟩=some (.string ⟨#[]⟩)∧wk.cell? ⟨w.heap.size,4,none⟩=some (.int .i64 0))∧wk.cell? ⟨g,6,none⟩=some (.slice (some ⟨ga,0,none⟩) 2 cc)):=by
  intro wk hk
  have hx:=hbW.trans (hk.mono hbW.size)
  have bv':=blk_later hk bv
  refine⟨⟨cell_later hx (hc0 0 _ rfl),cell_later hx (hc0 1 _ rfl),cell_later hx (hc0 2 _ rfl),cell_later hx (hc0 3 _ rfl),cell_later hx (hc0 4 _ rfl)⟩,⟨cell_later hx (hc1 0 _ rfl),cell_later hx (hc1 1 _ rfl),cell_later hx (hc1 2 _ rfl),cell_later hx (hc1 3 _ rfl),cell_later hx (hc1 4 _ rfl)⟩,⟨?_,?_,?_,?_,?_⟩,?_⟩
  ·rw[blk_cell bv'];rfl
  ·rw[blk_cell bv'];rfl
  ·rw[blk_cell bv'];rfl
  ·rw[blk_cell bv'];rfl
  ·rw[blk_cell bv'];rfl
  ·rw[blk_cell (blk_later hx hb)];rfl
 have HS:Hid (∀wk,Below W.heap.size W wk→T.Pen w0 wk g r [oneD,priD] l):=fun wk hk=>Pen.later H (hbW.trans (hk.mono hbW.size))
 have hq:=eq_op
 have hq2:=eq_pp
 have hp6:w.cell? ⟨g,6,none⟩=some (.slice (some ⟨ga,0,none⟩) 2 cc):=by rw[blk_cell hb];rfl
 obtain⟨⟨k0,k1,k2,k3,k4⟩,_,⟨v0,v1,v2,v3,v4⟩,p6⟩:=HK.out W (Below.refl _ _)
 obtain⟨_,_,⟨yy0,yy1,yy2,yy3,yy4⟩,_⟩:=HK.out (W.alloc (VO 2 1 0 ⟨#[]⟩ 0)) (bw1 _ _)
 clear H hB hb hi ho hs e0 e1 hc0 hc1 bv hbW
 go_enter Tryz.func13,Tryz.ntmps13
 go_wp2_with fail
 go_loopw [13] (fun i wr=>(i=.int .i64 0∧wr=W)∨(i=.int .i64 1∧Hid (Below W.heap.size W wr))) (fun i _=>1-(intOf i).toNat)
 case atStart=>exact .inl ⟨rfl,rfl⟩
 case round =>
  rcases hrel with ⟨rfl,rfl⟩ | ⟨rfl,HX⟩
  ·clear hW
   go_wp2_with fail
   go_roundw
   case rel=>exact .inr ⟨by go_num,bw1 _ _⟩
   case measure=>simp[intOf]
  ·clear k0 k1 k2 k3 k4 v0 v1 v2 v3 v4 p6 yy0 yy1 yy2 yy3 yy4
   obtain⟨_,⟨k0,k1,k2,k3,k4⟩,⟨v0,v1,v2,v3,v4⟩,p6⟩:=HK.out wr HX.out
   obtain⟨_,_,⟨yy0,yy1,yy2,yy3,yy4⟩,_⟩:=HK.out (wr.alloc (VO 8 0 0 ⟨#[]⟩ 0)) (HX.out.trans ((bw1 _ _).mono HX.out.size))
   go_wp2_with fail
   go_ret
   exact⟨rfl,HS.out _ (HX.out.trans ((bw1 _ _).mono HX.out.size))⟩
theorem pbuiJ {cs:List VD} {w0 w:World} {g r:Nat} {l:List ID} (H:T.Pen w0 w g r cs l) (hl:l.length≤1000) (hcs:cs=[oneD]∨cs=[oneD,priD]) :
  Calls Tryz.prog 15 #[.pointer (some ⟨g,0,none⟩),.int .i64 3,.int .i64 0] w fun e w'=>e=.returned (.tuple #[])∧T.Pen w0 w' g r [oneD,priD] (l++[⟨4,3,1,0,0⟩]):=by
 have HP:Hid (T.Pen w0 w g r cs l):=H
 clear H
 have HK:∀W,T.Pen w0 W g r cs l→Calls Tryz.prog 13 #[.pointer (some ⟨g,0,none⟩),VV 8 0 0 ⟨#[]⟩ 0] W fun e w'=>e=.returned (.int .i64 1)∧T.Pen w0 w' g r [oneD,priD] l:=by
  intro W hW
  rcases hcs with rfl | rfl
  ·exact pkonstJ hW
  ·exact pkonst_old hW
 go_enter Tryz.func15,Tryz.ntmps15
 go_wp2_with fail
 refine (HK _ HP.out).mono ?_
 rintro e w1 ⟨rfl,H1⟩
 have HP1:Hid (T.Pen w0 w1 g r [oneD,priD] l):=H1
 clear H1 HP HK
 go_wp2_with fail
 refine (T.pput_any _ _ _ _ _ HP1.out (by omega)).mono ?_
 rintro e w2 ⟨rfl,H2⟩
 have HP2:Hid _:=H2
 clear H2 HP1
 go_wp2_with fail
 exact bodyPost_end (v:=.tuple #[]) (by simp[results,Tryz.results15,go_sem]) rfl ⟨rfl,HP2.out⟩
end Go.Proofs.YtliahjnnbbgooaaGreatDoor.J
namespace Go.Proofs.YtliahjnnbbgooaaGreatDoor.J
open Go.RowKit T U
theorem psay {w0 w:World} {g r:Nat} {l:List ID} (H:T.Pen w0 w g r [oneD,priD] l) (hl:l.length≤900) :
  Calls Tryz.prog 18 #[.pointer (some ⟨g,0,none⟩),.int .i64 0,.int .i64 3] w fun e w'=>e=.returned (.tuple #[])∧T.Pen w0 w' g r [oneD,priD] (l++[⟨4,3,1,0,0⟩]++[⟨22,4,0,0,0⟩]++[⟨23,4,0,0,0⟩]++[⟨28,4,-4,-5,0⟩]++[⟨42,4,0,0,0⟩]):=by
 have HP:Hid (T.Pen w0 w g r [oneD,priD] l):=H
 clear H
 go_enter Tryz.func18,Tryz.ntmps18
 go_wp2_with fail
 refine (pbuiJ HP.out (by omega) (.inr rfl)).mono ?_
 rintro e w1 ⟨rfl,H1⟩
 replace HP:Hid (T.Pen w0 w1 g r [oneD,priD] (l++[⟨4,3,1,0,0⟩])):=H1
 clear H1
 go_wp2_with fail
 refine (T.pput_any _ _ _ _ _ HP.out (by simp only[List.length_append,List.length_cons,List.length_nil];omega)).mono ?_
 rintro e w2 ⟨rfl,H1⟩
 replace HP:Hid (T.Pen w0 w2 g r [oneD,priD] (l++[⟨4,3,1,0,0⟩]++[⟨22,4,0,0,0⟩])):=H1
 clear H1
 go_wp2_with fail
 refine (T.pput_any _ _ _ _ _ HP.out (by simp only[List.length_append,List.length_cons,List.length_nil];omega)).mono ?_
 rintro e w3 ⟨rfl,H1⟩
 replace HP:Hid (T.Pen w0 w3 g r [oneD,priD] (l++[⟨4,3,1,0,0⟩]++[⟨22,4,0,0,0⟩]++[⟨23,4,0,0,0⟩])):=H1
 clear H1
 go_wp2_with fail
 refine (T.pput_any _ _ _ _ _ HP.out (by simp only[List.length_append,List.length_cons,List.length_nil];omega)).mono ?_
 rintro e w4 ⟨rfl,H1⟩
 replace HP:Hid (T.Pen w0 w4 g r [oneD,priD] (l++[⟨4,3,1,0,0⟩]++[⟨22,4,0,0,0⟩]++[⟨23,4,0,0,0⟩]++[⟨28,4,-4,-5,0⟩])):=H1
 clear H1
 go_wp2_with fail
 refine (T.pput_any _ _ _ _ _ HP.out (by simp only[List.length_append,List.length_cons,List.length_nil];omega)).mono ?_
 rintro e w5 ⟨rfl,H1⟩
 replace HP:Hid (T.Pen w0 w5 g r [oneD,priD] (l++[⟨4,3,1,0,0⟩]++[⟨22,4,0,0,0⟩]++[⟨23,4,0,0,0⟩]++[⟨28,4,-4,-5,0⟩]++[⟨42,4,0,0,0⟩])):=H1
 clear H1
 go_wp2_with fail
 exact bodyPost_end (v:=.tuple #[]) (by simp[results,Tryz.results18,go_sem]) rfl ⟨rfl,HP.out⟩
theorem one_ok:oneD.ok:=⟨by decide,by show (0:Nat)≤maxLen;unfold maxLen;omega⟩
theorem pri_ok:priD.ok:=⟨by decide,by show (0:Nat)≤maxLen;unfold maxLen;omega⟩
def joP:List ID:=[⟨31,0,0,0,0⟩,⟨4,3,0,0,0⟩,⟨22,4,0,0,0⟩,⟨23,4,-4,0,0⟩]
theorem made_j (k:Nat) (hk:k≤12) (w:World) :
  Calls Tryz.prog 6 #[.int .i64 (k:Int)] w fun e w'=>(∃g1 f,e=.returned (.agg #[.slice (some ⟨g1,0,none⟩) 1 1])∧CodeAt w' (some ⟨g1,0,none⟩) [f]∧f.d=⟨⟨#[109,97,105,110]⟩,0,0,false,8,[],[oneD,priD],joiI k,[]⟩)∧Below w.heap.size w w':=by
 go_enter Tryz.func6,Tryz.ntmps6
 go_wp2_with fail
 obtain⟨W1,hW1⟩:∃W1,w.alloc (.cells #[.slice none 0 0] 31)=W1:=⟨_,rfl⟩
 rw[hW1]
 refine (T.pen_any 8 (by omega) _).mono ?_
 rintro e w2 ⟨g,rfl,H⟩
 have HP:Hid (T.Pen W1 w2 g 8 [] []):=H
 clear H
 go_wp2_with fail
 refine (pput_z 0 _ _ _ _ _ HP.out (by simp) rfl).mono ?_
 rintro e w3 ⟨rfl,H⟩
 replace HP:Hid (T.Pen W1 w3 g 8 [] [⟨31,0,0,0,0⟩]):=H
 clear H
 go_wp2_with fail
 refine (mk_int 1 _).mono ?_
 rintro e w4 ⟨rfl,hx⟩
 replace HP:Hid (T.Pen W1 w4 g 8 [] [⟨31,0,0,0,0⟩]):=U.Pen.later HP.out hx
 clear hx
 go_wp2_with fail
 refine (T.pkonst_any 2 1 0 ⟨#[]⟩ 0 HP.out).mono ?_
 rintro e w5 ⟨rfl,H⟩
 replace HP:Hid (T.Pen W1 w5 g 8 [oneD] [⟨31,0,0,0,0⟩]):=H
 clear H
 go_wp2_with fail
 refine (T.pput_any _ _ _ _ _ HP.out (by simp)).mono ?_
 rintro e w6 ⟨rfl,H⟩
 replace HP:Hid (T.Pen W1 w6 g 8 [oneD] [⟨31,0,0,0,0⟩,⟨4,3,0,0,0⟩]):=H
 clear H
 go_wp2_with fail
 refine (T.pput_any _ _ _ _ _ HP.out (by simp)).mono ?_
 rintro e w7 ⟨rfl,H⟩
 replace HP:Hid (T.Pen W1 w7 g 8 [oneD] [⟨31,0,0,0,0⟩,⟨4,3,0,0,0⟩,⟨22,4,0,0,0⟩]):=H
 clear H
 go_wp2_with fail
 refine (T.pput_any _ _ _ _ _ HP.out (by simp)).mono ?_
 rintro e w8 ⟨rfl,H⟩
 replace HP:Hid (T.Pen W1 w8 g 8 [oneD] (joP++List.replicate 0 ⟨24,4,4,0,0⟩)):=H
 clear H
 have HN:Hid (k≤12):=hk
 go_wp2_with fail
 go_loopw [5] (fun i wr=>∃b:Nat,i=.int .i64 (b:Int)∧b≤k∧Hid (T.Pen W1 wr g 8 [oneD] (joP++List.replicate b ⟨24,4,4,0,0⟩))) (fun i _=>k-(intOf i).toNat)
 case atStart=>exact⟨0,rfl,by omega,HP⟩
 case round =>
  clear HP
  obtain⟨b,rfl,hb,HP⟩:=hrel
  have hPl:joP.length=4:=rfl
  by_cases hbn:b<k
  ·have hbn':(b:Int)<(k:Int):=by omega
   go_wp2_with fail
   refine (T.pput_any _ _ _ _ _ HP.out (by rw[List.length_append,List.length_replicate,hPl];omega)).mono ?_
   rintro e w9 ⟨rfl,H⟩
   have HP2:Hid (T.Pen W1 w9 g 8 [oneD] (joP++List.replicate (b+1) ⟨24,4,4,0,0⟩)):=by
    show T.Pen _ _ _ _ _ _
    rw[List.replicate_succ',←List.append_assoc]
    exact H
   clear H HP
   go_wp2_with fail
   go_roundw
   case rel=>exact⟨b+1,by go_num,by omega,HP2⟩
   case measure=>simp[intOf];omega
  ·obtain rfl:b=k:=by omega
   have hbn':¬(b:Int)<(b:Int):=by omega
   obtain⟨R,hR⟩:∃R,R=List.replicate b (⟨24,4,4,0,0⟩:ID):=⟨_,rfl⟩
   have hRl:R.length=b:=by rw[hR,List.length_replicate]
   rw[←hR]at HP
   have HRR:Hid (R=List.replicate b (⟨24,4,4,0,0⟩:ID)):=hR
   clear hR hPl hb hbn
   obtain⟨L0,hL0⟩:∃L0,joP++R=L0:=⟨_,rfl⟩
   have hLl:L0.length=4+b:=by rw[←hL0,List.length_append,hRl];rfl
   rw[hL0]at HP
   have HL0:Hid (joP++R=L0):=hL0
   clear hL0
   go_wp2_with fail
   refine (pbuiJ HP.out (by omega) (.inl rfl)).mono ?_
   rintro e w9 ⟨rfl,H⟩
   replace HP:Hid (T.Pen W1 w9 g 8 [oneD,priD] (L0++[⟨4,3,1,0,0⟩])):=H
   clear H
   go_wp2_with fail
   refine (T.pput_any _ _ _ _ _ HP.out (by simp only[List.length_append,List.length_cons,List.length_nil];omega)).mono ?_
   rintro e w10 ⟨rfl,H⟩
   replace HP:Hid (T.Pen W1 w10 g 8 [oneD,priD] (L0++[⟨4,3,1,0,0⟩]++[⟨28,4,-4,-5,0⟩])):=H
   clear H
   go_wp2_with fail
   refine (T.pput_any _ _ _ _ _ HP.out (by simp only[List.length_append,List.length_cons,List.length_nil];omega)).mono ?_
   rintro e w11 ⟨rfl,H⟩
   replace HP:Hid (T.Pen W1 w11 g 8 [oneD,priD] (L0++[⟨4,3,1,0,0⟩]++[⟨28,4,-4,-5,0⟩]++[⟨42,4,0,0,0⟩])):=H
   clear H
   go_wp2_with fail
   refine (T.pput_any _ _ _ _ _ HP.out (by simp only[List.length_append,List.length_cons,List.length_nil];omega)).mono ?_
   rintro e w12 ⟨rfl,H⟩
   replace HP:Hid (T.Pen W1 w12 g 8 [oneD,priD] (L0++[⟨4,3,1,0,0⟩]++[⟨28,4,-4,-5,0⟩]++[⟨42,4,0,0,0⟩]++[⟨32,0,0,0,0⟩])):=H
   clear H
   go_wp2_with fail
   refine (U.pback_any 3 HP.out (by simp only[List.length_append,List.length_cons,List.length_nil];omega) (by omega)).mono ?_
   rintro e w13 ⟨rfl,H⟩
   obtain⟨L,hL⟩:∃L,L=L0++[⟨4,3,1,0,0⟩,⟨28,4,-4,-5,0⟩,⟨42,4,0,0,0⟩,⟨32,0,0,0,0⟩,⟨22,3,0,0,0⟩,⟨29,-4,0,0,0⟩]:=⟨_,rfl⟩
   replace HP:Hid (T.Pen W1 w13 g 8 [oneD,priD] L):=by
    show T.Pen _ _ _ _ _ _
    rw[hL]
    have h9:=H
    simp only[List.append_assoc,List.cons_append,List.nil_append]at h9
    exact h9
   clear H
   have hLs:L.length=10+b:=by rw[hL,List.length_append,hLl];simp;omega
   have hLj:L=⟨31,0,0,0,0⟩ :: ([⟨4,3,0,0,0⟩,⟨22,4,0,0,0⟩,⟨23,4,-4,0,0⟩]++(R++[⟨4,3,1,0,0⟩,⟨28,4,-4,-5,0⟩,⟨42,4,0,0,0⟩,⟨32,0,0,0,0⟩,⟨22,3,0,0,0⟩,⟨29,-4,0,0,0⟩])):=by
    rw[hL,←HL0.out,List.append_assoc];rfl
   have hLi:L[0]?=some ⟨31,0,0,0,0⟩:=by rw[hLj];rfl
   have HLs:Hid (∀z,setA L 0 z=⟨31,z,0,0,0⟩ :: ([⟨4,3,0,0,0⟩,⟨22,4,0,0,0⟩,⟨23,4,-4,0,0⟩]++(R++[⟨4,3,1,0,0⟩,⟨28,4,-4,-5,0⟩,⟨42,4,0,0,0⟩,⟨32,0,0,0,0⟩,⟨22,3,0,0,0⟩,⟨29,-4,0,0,0⟩]))):=by
    intro z
    rw[hLj]
    exact setA_app [] _ _ _
   clear hL hLj hLl HL0
   obtain⟨gi,cap,q7,qa,qz,HS⟩:=HP.out.open hLi
   have HZ:Hid (T.Pen W1 (w13.setCell ⟨gi,0*5+1,none⟩ (.int .i64 (L.length:Int))).drew g 8 [oneD,priD] (setA L 0 (L.length:Int))):=(HS _).drew
   have HLL:Hid (L.length=10+b):=hLs
   have hi1:0<L.length:=by omega
   have hi3:(0:Int)<(L.length:Int):=by omega
   have hi5:L.length≤1000:=by have:=HN.out;omega
   clear HS hLi hLs
   go_wp2_with fail
   go_cut [] from 35 to 44 (fun wx=>Hid (T.Pen W1 wx g 8 [oneD,priD] (setA L 0 (L.length:Int))))
   case first =>
    go_region_with (go_at_call 17;refine (T.pat_any HP.out.drew).mono ?_;rintro e w' ⟨rfl,rfl⟩)
    all_goals
     go_wp2_with fail
     go_meet
     exact HZ
   case rest =>
    have HP3:Hid (T.Pen W1 wc g 8 [oneD,priD] (⟨31,((10+b:Nat):Int),0,0,0⟩ :: ([⟨4,3,0,0,0⟩,⟨22,4,0,0,0⟩,⟨23,4,-4,0,0⟩]++(R++[⟨4,3,1,0,0⟩,⟨28,4,-4,-5,0⟩,⟨42,4,0,0,0⟩,⟨32,0,0,0,0⟩,⟨22,3,0,0,0⟩,⟨29,-4,0,0,0⟩])))):=by
     have h9:=hcut.out
     rw[HLs.out,HLL.out]at h9
     exact h9
    clear hcut HZ q7 qa qz HP HLs HLL hi1 hi3 hi5
    obtain⟨L,hL⟩:∃L,L=(⟨31,((10+b:Nat):Int),0,0,0⟩:ID) :: ([⟨4,3,0,0,0⟩,⟨22,4,0,0,0⟩,⟨23,4,-4,0,0⟩]++(R++[⟨4,3,1,0,0⟩,⟨28,4,-4,-5,0⟩,⟨42,4,0,0,0⟩,⟨32,0,0,0,0⟩,⟨22,3,0,0,0⟩,⟨29,-4,0,0,0⟩])):=⟨_,rfl⟩
    rw[←hL]at HP3
    have hLl:L.length≤30:=by rw[hL];have:=HN.out;simp;omega
    have HLL:Hid (L=(⟨31,((10+b:Nat):Int),0,0,0⟩:ID) :: ([⟨4,3,0,0,0⟩,⟨22,4,0,0,0⟩,⟨23,4,-4,0,0⟩]++(R++[⟨4,3,1,0,0⟩,⟨28,4,-4,-5,0⟩,⟨42,4,0,0,0⟩,⟨32,0,0,0,0⟩,⟨22,3,0,0,0⟩,⟨29,-4,0,0,0⟩]))):=hL
    clear hL
    go_wp2_with fail
    refine (psay HP3.out (by omega)).mono ?_
    rintro e w14 ⟨rfl,H⟩
    have HP4:Hid _:=H
    clear H HP3
    go_wp2_with fail
    refine (U.pback_any 3 HP4.out (by simp only[List.length_append,List.length_cons,List.length_nil];omega) (by omega)).mono ?_
    rintro e w15 ⟨rfl,H⟩
    have HP:Hid (T.Pen W1 w15 g 8 [oneD,priD] (joiI b)):=by
     show T.Pen _ _ _ _ _ _
     have e9:joiI b=L++[⟨4,3,1,0,0⟩]++[⟨22,4,0,0,0⟩]++[⟨23,4,0,0,0⟩]++[⟨28,4,-4,-5,0⟩]++[⟨42,4,0,0,0⟩]++[⟨22,3,0,0,0⟩,⟨29,-1-3,0,0,0⟩]:=by
      rw[HLL.out,HRR.out]
      unfold joiI
      simp only[List.append_assoc,List.cons_append,List.nil_append]
      rfl
     rw[e9]
     exact H
    clear H HP4
    obtain⟨f,hd,⟨tv,hbb⟩,hli⟩:=HP.out.code
    have hB:Below W1.heap.size W1 w15:=HP.out.bel
    have hBw:Below w.heap.size w w15:=by
     have h1:Below w.heap.size w W1:=by rw[←hW1];exact bw1 _ _
     exact h1.trans (hB.mono h1.size)
    have hc0:w15.heap[w.heap.size]?=some (.cells #[.slice none 0 0] 31):=blk_later hB (by rw[←hW1];exact blk_new _ _)
    have hgW:W1.heap.size≤g:=HP.out.ge
    have hsz:W1.heap.size=w.heap.size+1:=by rw[←hW1];simp
    have c0:w15.cell? ⟨w.heap.size,0,none⟩=some (.slice none 0 0):=by rw[blk_cell hc0];rfl
    have hlt0:=blk_lt hc0
    have z0:=blk_frozen hc0
    have q0:w15.cell? ⟨g,0,none⟩=some (.string f.d.name):=by rw[blk_cell hbb];rfl
    have q1:w15.cell? ⟨g,1,none⟩=some (.int .i64 f.d.line):=by rw[blk_cell hbb];rfl
    have q2:w15.cell? ⟨g,2,none⟩=some (.int .i64 f.d.params):=by rw[blk_cell hbb];rfl
    have q3:w15.cell? ⟨g,3,none⟩=some (.bool f.d.rest):=by rw[blk_cell hbb];rfl
    have q4:w15.cell? ⟨g,4,none⟩=some (.int .i64 f.d.regs):=by rw[blk_cell hbb];rfl
    have q5:w15.cell? ⟨g,5,none⟩=some (.slice f.au f.d.ups.length f.cu):=by rw[blk_cell hbb];rfl
    have q6:w15.cell? ⟨g,6,none⟩=some (.slice f.ac f.d.consts.length f.cc):=by rw[blk_cell hbb];rfl
    have q7:w15.cell? ⟨g,7,none⟩=some (.slice f.ai f.d.ins.length f.ci):=by rw[blk_cell hbb];rfl
    have q8:w15.cell? ⟨g,8,none⟩=some (.slice f.an f.d.named.length f.cn):=by rw[blk_cell hbb];rfl
    have HL:Hid (f.lie ((w15.setCell ⟨w.heap.size,0,none⟩ (.slice (some ⟨w15.heap.size,0,none⟩) 1 1)).alloc (.cells f.cells.toArray 61))):=(hli w.heap.size 0 _ (by omega)).later (bw1 _ _)
    have HO:Hid f.d.ok:=by show FD.ok f.d;rw[hd];exact⟨by show (4:Nat)≤maxLen;unfold maxLen;omega,by simp,by simp,by show (joiI b).length≤1048576;rw[joi_len];have:=HN.out;omega,by simp,by intro v hv;simp only[List.mem_cons,List.not_mem_nil,or_false]at hv;rcases hv with rfl | rfl;exact one_ok;exact pri_ok,by simp⟩
    have HD:Hid (f.d=⟨⟨#[109,97,105,110]⟩,0,0,false,8,[],[oneD,priD],joiI b,[]⟩):=hd
    have HBW:Hid (Below w.heap.size w w15):=hBw
    clear HP hbb hli hB hBw hd
    go_wp2_with fail
    refine bodyPost_ret (v:=.agg #[.slice (some ⟨w15.heap.size,0,none⟩) 1 1]) (by simp[results,Tryz.results6,go_sem,c0,hlt0]) rfl ⟨⟨_,f,rfl,code_one (blk_newn (by simp) _) HL.out HO.out,HD.out⟩,?_⟩
    exact (HBW.out.setCell (p:=⟨w.heap.size,0,none⟩) (by simp) _).trans ((bw1 _ _).mono (by have:=HBW.out.size;simp;omega))
end Go.Proofs.YtliahjnnbbgooaaGreatDoor.J
