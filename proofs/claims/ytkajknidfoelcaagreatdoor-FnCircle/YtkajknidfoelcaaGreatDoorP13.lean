import Derived.Test.YtkajknidfoelcaaGreatDoorP12
import Derived.Test.YtkajknidfoelcaaGreatDoorP09
import Derived.Test.YtkajknidfoelcaaGreatDoorP06
import Derived.Test.YtkajknidfoelcaaGreatDoorP08
import Derived.Test.YtkajknidfoelcaaGreatDoorP10
import Derived.Deep.CutRange
import Derived.Test.YtkajknidfoelcaaGreatDoorP04
set_option linter.unusedVariables false
set_option linter.unusedSimpArgs false
set_option maxRecDepth 20000
set_option maxHeartbeats 8000000
namespace Go.Proofs.YtkajknidfoelcaaGreatDoor
open Go.RowKit
theorem start_false (f:FC) (nR nP:Nat) (w:World) (h1:f.d.regs=nR) (h3:f.d.params=nP) (hrest:f.d.rest=false) (hR1:nR≤250) (hP:nP+0≤nR) :
  Calls Tryz.prog 37 #[PV f] w fun e w'=>(∃tv',e=.returned (.agg #[.bool false,tv',.slice none 0 0])∧OI w' w.heap.size tv' (startT nP nR false))∧Below w.heap.size w w':=by
 obtain⟨d,au,cu,ad,cd,ai,ci,an,cn⟩:=f
 obtain⟨name,line,params,rest,regs,ups,consts,ins,named⟩:=d
 dsimp only at h1 h3 hrest
 subst h1 h3 hrest
 have hmI:=fun W=>make_int nR (by omega) W
 obtain⟨W2,hW2⟩:∃W2,((w.alloc (.cells #[.string name,.int .i64 line,.int .i64 (nP:Int),.bool false,.int .i64 (nR:Int),.slice au ups.length cu,.slice ad consts.length cd,.slice ai ins.length ci,.slice an named.length cn] 58)).alloc (.cells #[.bool false,.slice none 0 0,.slice none 0 0] 122)).alloc (.cells (Array.replicate nR (Value.int .i64 0)) 3)=W2:=⟨_,rfl⟩
 have HB0:Hid (W2.heap[w.heap.size]?=some (.cells #[.string name,.int .i64 line,.int .i64 (nP:Int),.bool false,.int .i64 (nR:Int),.slice au ups.length cu,.slice ad consts.length cd,.slice ai ins.length ci,.slice an named.length cn] 58)):=by show _=_;rw[←hW2];exact blk_old (blk_old (blk_new _ _) _) _
 have p2:W2.cell? ⟨w.heap.size,2,none⟩=some (.int .i64 (nP:Int)):=by rw[blk_cell HB0.out];rfl
 have HT6:Hid (TyAt W2 (w.heap.size+1+1) nR (List.replicate nR 0)):=ty_made nR (by rw[←hW2,List.toArray_replicate];exact blk_newn (by simp) _)
 have HSL:Hid (W2.heap[w.heap.size+1]?=some (.cells #[.bool false,.slice none 0 0,.slice none 0 0] 122)):=by show _=_;rw[←hW2];exact blk_old (blk_newn (by simp) _) _
 have HBW:Hid (Below w.heap.size w W2):=by show Below _ _ _;rw[←hW2];exact bw3 _ _ _ _
 go_enter Tryz.func37,Tryz.ntmps37
 go_wp2_with fail
 clear hmI hW2 p2
 go_loopw [10] (fun r wr=>∃m:Nat,m≤nP∧r=.int .i64 m∧Hid (But (w.heap.size+1+1) W2 wr)∧Hid (TyAt wr (w.heap.size+1+1) nR (List.replicate m 1++List.replicate (nR-m) 0))) (fun r _=>nP-(intOf r).toNat)
 case atStart =>
  exact⟨0,Nat.zero_le _,rfl,But.of_below (Below.refl _ _),by simpa using HT6⟩
 case round =>
  obtain⟨m,hm,rfl,HBT,HT⟩:=hrel
  have hTl:(List.replicate m (1:Int)++List.replicate (nR-m) 0).length=nR:=by simp;omega
  have P2:Hid (wr.heap[w.heap.size]?=some (.cells #[.string name,.int .i64 line,.int .i64 (nP:Int),.bool false,.int .i64 (nR:Int),.slice au ups.length cu,.slice ad consts.length cd,.slice ai ins.length ci,.slice an named.length cn] 58)):=(HBT.out.block _ (blk_lt HB0.out) (by omega)).trans HB0.out
  have j2:wr.cell? ⟨w.heap.size,2,none⟩=some (.int .i64 (nP:Int)):=by rw[blk_cell P2.out];rfl
  have j3:wr.cell? ⟨w.heap.size,3,none⟩=some (.bool false):=by rw[blk_cell P2.out];rfl
  by_cases k1:m<nP
  ·have hmR:m<nR:=by omega
   have hcell:=HT.out.cell (i:=m) (by omega)
   have hfz:=HT.out.froz m
   have hlt:=HT.out.lt
   have HT2:Hid (TyAt (wr.setCell ⟨w.heap.size+1+1,m,none⟩ (.int .i64 1)) (w.heap.size+1+1) nR (List.replicate (m+1) 1++List.replicate (nR-(m+1)) 0)):=by show TyAt _ _ _ _;rw[←ones_set m nR hmR];exact HT.out.set m 1
   have HB6:Hid (But (w.heap.size+1+1) W2 (wr.setCell ⟨w.heap.size+1+1,m,none⟩ (.int .i64 1))):=HBT.out.set m _
   clear HT HBT
   go_wp2_with fail
   go_roundw
   case rel=>exact⟨m+1,by omega,by go_num,HB6,HT2⟩
   case measure=>simp[intOf];omega
  ·have hml:m=nP:=by omega
   subst hml
   have HT2:Hid (TyAt wr (w.heap.size+1+1) nR (startT m nR false)):=HT.out
   have HB6:Hid (But (w.heap.size+1+1) W2 wr):=HBT.out
   clear HT HBT
   have HS5:Hid (wr.heap[w.heap.size+1]?=some (.cells #[.bool false,.slice none 0 0,.slice none 0 0] 122)):=(HB6.out.block _ (blk_lt HSL.out) (by omega)).trans HSL.out
   have b0:wr.cell? ⟨w.heap.size+1,0,none⟩=some (.bool false):=by rw[blk_cell HS5.out];rfl
   have b1:wr.cell? ⟨w.heap.size+1,1,none⟩=some (.slice none 0 0):=by rw[blk_cell HS5.out];rfl
   have b2:wr.cell? ⟨w.heap.size+1,2,none⟩=some (.slice none 0 0):=by rw[blk_cell HS5.out];rfl
   have fz:=blk_frozen HS5.out
   have h9:=HT2.out.own (B:=w.heap.size) (by omega) (by omega)
   rw[startT_len _ _ _ (by omega)]at h9
   have HO:Hid (OI wr w.heap.size (.slice (some ⟨w.heap.size+1+1,0,none⟩) nR nR) (startT m nR false)):=h9
   have HB9:Hid (Below w.heap.size w wr):=But.below HBW.out HB6.out (by omega) HBW.out.size
   clear h9 HT2 HB6 HS5 P2
   go_wp2_with fail
   refine bodyPost_ret (v:=.agg #[.bool false,.slice (some ⟨w.heap.size+1+1,0,none⟩) nR nR,.slice none 0 0]) (by simp[results,Tryz.results37,go_sem,b0,b1,b2]) rfl ⟨⟨_,rfl,?_⟩,?_⟩
   ·have q:(Value.slice (some ⟨w.heap.size+1+1,0,none⟩) nR nR).ownBlock≠some (w.heap.size+1):=fun e=>by
     have e':some (w.heap.size+1+1)=some (w.heap.size+1):=e
     injection e' with e';omega
    exact ORow.set_own (ORow.set_own (ORow.set_own HO.out q _ _) q _ _) q _ _
   ·exact ButL.nil ((((ButL.of_below HB9.out).setn (by omega) _ _).setn (by omega) _ _).setn (by omega) _ _)
theorem start_true (f:FC) (nR nP:Nat) (w:World) (h1:f.d.regs=nR) (h3:f.d.params=nP) (hrest:f.d.rest=true) (hR1:nR≤250) (hP:nP+1≤nR) :
  Calls Tryz.prog 37 #[PV f] w fun e w'=>(∃tv',e=.returned (.agg #[.bool false,tv',.slice none 0 0])∧OI w' w.heap.size tv' (startT nP nR true))∧Below w.heap.size w w':=by
 obtain⟨d,au,cu,ad,cd,ai,ci,an,cn⟩:=f
 obtain⟨name,line,params,rest,regs,ups,consts,ins,named⟩:=d
 dsimp only at h1 h3 hrest
 subst h1 h3 hrest
 have hmI:=fun W=>make_int nR (by omega) W
 obtain⟨W2,hW2⟩:∃W2,((w.alloc (.cells #[.string name,.int .i64 line,.int .i64 (nP:Int),.bool true,.int .i64 (nR:Int),.slice au ups.length cu,.slice ad consts.length cd,.slice ai ins.length ci,.slice an named.length cn] 58)).alloc (.cells #[.bool false,.slice none 0 0,.slice none 0 0] 122)).alloc (.cells (Array.replicate nR (Value.int .i64 0)) 3)=W2:=⟨_,rfl⟩
 have HB0:Hid (W2.heap[w.heap.size]?=some (.cells #[.string name,.int .i64 line,.int .i64 (nP:Int),.bool true,.int .i64 (nR:Int),.slice au ups.length cu,.slice ad consts.length cd,.slice ai ins.length ci,.slice an named.length cn] 58)):=by show _=_;rw[←hW2];exact blk_old (blk_old (blk_new _ _) _) _
 have p2:W2.cell? ⟨w.heap.size,2,none⟩=some (.int .i64 (nP:Int)):=by rw[blk_cell HB0.out];rfl
 have HT6:Hid (TyAt W2 (w.heap.size+1+1) nR (List.replicate nR 0)):=ty_made nR (by rw[←hW2,List.toArray_replicate];exact blk_newn (by simp) _)
 have HSL:Hid (W2.heap[w.heap.size+1]?=some (.cells #[.bool false,.slice none 0 0,.slice none 0 0] 122)):=by show _=_;rw[←hW2];exact blk_old (blk_newn (by simp) _) _
 have HBW:Hid (Below w.heap.size w W2):=by show Below _ _ _;rw[←hW2];exact bw3 _ _ _ _
 go_enter Tryz.func37,Tryz.ntmps37
 go_wp2_with fail
 clear hmI hW2 p2
 go_loopw [10] (fun r wr=>∃m:Nat,m≤nP∧r=.int .i64 m∧Hid (But (w.heap.size+1+1) W2 wr)∧Hid (TyAt wr (w.heap.size+1+1) nR (List.replicate m 1++List.replicate (nR-m) 0))) (fun r _=>nP-(intOf r).toNat)
 case atStart =>
  exact⟨0,Nat.zero_le _,rfl,But.of_below (Below.refl _ _),by simpa using HT6⟩
 case round =>
  obtain⟨m,hm,rfl,HBT,HT⟩:=hrel
  have hTl:(List.replicate m (1:Int)++List.replicate (nR-m) 0).length=nR:=by simp;omega
  have P2:Hid (wr.heap[w.heap.size]?=some (.cells #[.string name,.int .i64 line,.int .i64 (nP:Int),.bool true,.int .i64 (nR:Int),.slice au ups.length cu,.slice ad consts.length cd,.slice ai ins.length ci,.slice an named.length cn] 58)):=(HBT.out.block _ (blk_lt HB0.out) (by omega)).trans HB0.out
  have j2:wr.cell? ⟨w.heap.size,2,none⟩=some (.int .i64 (nP:Int)):=by rw[blk_cell P2.out];rfl
  have j3:wr.cell? ⟨w.heap.size,3,none⟩=some (.bool true):=by rw[blk_cell P2.out];rfl
  by_cases k1:m<nP
  ·have hmR:m<nR:=by omega
   have hcell:=HT.out.cell (i:=m) (by omega)
   have hfz:=HT.out.froz m
   have hlt:=HT.out.lt
   have HT2:Hid (TyAt (wr.setCell ⟨w.heap.size+1+1,m,none⟩ (.int .i64 1)) (w.heap.size+1+1) nR (List.replicate (m+1) 1++List.replicate (nR-(m+1)) 0)):=by show TyAt _ _ _ _;rw[←ones_set m nR hmR];exact HT.out.set m 1
   have HB6:Hid (But (w.heap.size+1+1) W2 (wr.setCell ⟨w.heap.size+1+1,m,none⟩ (.int .i64 1))):=HBT.out.set m _
   clear HT HBT
   go_wp2_with fail
   go_roundw
   case rel=>exact⟨m+1,by omega,by go_num,HB6,HT2⟩
   case measure=>simp[intOf];omega
  ·have hml:m=nP:=by omega
   subst hml
   have hmR:m<nR:=by omega
   have hcell:=HT.out.cell (i:=m) (by omega)
   have hfz:=HT.out.froz m
   have hlt:=HT.out.lt
   have HT2:Hid (TyAt (wr.setCell ⟨w.heap.size+1+1,m,none⟩ (.int .i64 3)) (w.heap.size+1+1) nR (startT m nR true)):=HT.out.set m 3
   have HB6:Hid (But (w.heap.size+1+1) W2 (wr.setCell ⟨w.heap.size+1+1,m,none⟩ (.int .i64 3))):=HBT.out.set m _
   clear HT HBT
   obtain⟨w5,hw5⟩:∃w5,wr.setCell ⟨w.heap.size+1+1,m,none⟩ (.int .i64 3)=w5:=⟨_,rfl⟩
   rw[hw5]at HT2 HB6
   have HS5:Hid (w5.heap[w.heap.size+1]?=some (.cells #[.bool false,.slice none 0 0,.slice none 0 0] 122)):=(HB6.out.block _ (blk_lt HSL.out) (by omega)).trans HSL.out
   have b0:w5.cell? ⟨w.heap.size+1,0,none⟩=some (.bool false):=by rw[blk_cell HS5.out];rfl
   have b1:w5.cell? ⟨w.heap.size+1,1,none⟩=some (.slice none 0 0):=by rw[blk_cell HS5.out];rfl
   have b2:w5.cell? ⟨w.heap.size+1,2,none⟩=some (.slice none 0 0):=by rw[blk_cell HS5.out];rfl
   have fz:=blk_frozen HS5.out
   have h9:=HT2.out.own (B:=w.heap.size) (by omega) (by omega)
   rw[startT_len _ _ _ (by omega)]at h9
   have HO:Hid (OI w5 w.heap.size (.slice (some ⟨w.heap.size+1+1,0,none⟩) nR nR) (startT m nR true)):=h9
   have HB9:Hid (Below w.heap.size w w5):=But.below HBW.out HB6.out (by omega) HBW.out.size
   clear h9 HT2 HB6 HS5 P2
   go_wp2_with fail
   refine bodyPost_ret (v:=.agg #[.bool false,.slice (some ⟨w.heap.size+1+1,0,none⟩) nR nR,.slice none 0 0]) (by simp[results,Tryz.results37,go_sem,b0,b1,b2]) rfl ⟨⟨_,rfl,?_⟩,?_⟩
   ·have q:(Value.slice (some ⟨w.heap.size+1+1,0,none⟩) nR nR).ownBlock≠some (w.heap.size+1):=fun e=>by
     have e':some (w.heap.size+1+1)=some (w.heap.size+1):=e
     injection e' with e';omega
    exact ORow.set_own (ORow.set_own (ORow.set_own HO.out q _ _) q _ _) q _ _
   ·exact ButL.nil ((((ButL.of_below HB9.out).setn (by omega) _ _).setn (by omega) _ _).setn (by omega) _ _)
theorem start_any (f:FC) (nR nP:Nat) (w:World) (h1:f.d.regs=nR) (h3:f.d.params=nP) (hR1:nR≤250) (hP:nP+(if f.d.rest=true then 1 else 0)≤nR) :
  Calls Tryz.prog 37 #[PV f] w fun e w'=>(∃tv',e=.returned (.agg #[.bool false,tv',.slice none 0 0])∧OI w' w.heap.size tv' (startT nP nR f.d.rest))∧Below w.heap.size w w':=by
 cases hr:f.d.rest with
 | false=>exact start_false f nR nP w h1 h3 hr hR1 (by simpa [hr] using hP)
 | true=>exact start_true f nR nP w h1 h3 hr hR1 (by simpa [hr] using hP)
theorem caught_any (rb:Bool) (B:Nat) (tv:Value) (ag:Option Addr) (ng cg:Nat) (ts:List Int) (k:Nat) (w:World) (hT:OI w B tv ts) (hk:k+2≤ts.length) (hl:ts.length≤250) :
  Calls Tryz.prog 156 #[.agg #[.bool rb,tv,(.slice ag ng cg)],.int .i64 k] w fun e w'=>(∃tv',e=.returned (.agg #[.bool false,tv',(.slice ag ng cg)])∧OI w' w.heap.size tv' ((ts.take k++[1,1])++List.replicate (ts.length-k-2) 0))∧Below w.heap.size w w':=by
 obtain⟨aT,cT,rfl,hs⟩:=ORow.lies hT (fun y=>intC_len y)
 have HS:Hid (SlA w 1 intC aT ts):=hs
 have HE:Hid (((zer k (ts.length-k) ts).set k 1).set (k+1) 1=(ts.take k++[1,1])++List.replicate (ts.length-k-2) 0):=caught_eq ts k hk
 rw[←HE.out]
 clear HE hs hT
 obtain⟨L,hL⟩:∃L,ts.length-k=L:=⟨_,rfl⟩
 have HL:Hid (k+L=ts.length):=by show k+L=ts.length;omega
 rw[hL]
 have hwr:IntKind.i64.wrap ((k:Int)+1)=(k:Int)+1:=by rw[IntKind.wrap_i64];omega
 go_enter Tryz.func156,Tryz.ntmps156
 go_wp2_with fail
 refine (clone_int aT ts.length cT ts _ rfl (HS.out.later (bw2 _ _ _)) (by omega)).mono ?_
 rintro e w1 ⟨⟨sv,rfl,ho⟩,hx⟩
 have ho':OI w1 w.heap.size sv ts:=ORow.mono ho (by simp;omega)
 have hg0:∀g,sv.ownBlock=some g→w.heap.size+2≤g:=(fun g e=>by have:=(ho.own_lt e).1;simp at this;omega)
 obtain⟨g,cp,rfl⟩:=ho'.open' (by omega)
 have hgg:=hg0 g rfl
 have HB1:Hid (Below w.heap.size w w1):=(bw2 _ _ _).trans (hx.mono (by simp;omega))
 have hA:w1.heap[w.heap.size]?=some (.cells #[.bool rb,.slice aT ts.length cT,(.slice ag ng cg)] 122):=blk_later hx (blk_old (blk_new _ _) _)
 have hSl:w1.heap[w.heap.size+1]?=some (.cells #[.bool false,.slice none 0 0,.slice none 0 0] 122):=blk_later hx (blk_newn (by simp) _)
 obtain⟨W2,hW2⟩:∃W2,w1.setCells g k (List.replicate L (.int .i64 0))=W2:=⟨_,rfl⟩
 have hclr:∀ty,(Builtin.clear_ #[59] ty #[.slice (some ⟨g,k,none⟩) L (cp-k)]).run Tryz.prog w1=.ok (.tuple #[]) W2:=(fun ty=>by rw[←hW2];exact run_clr w1 ty g k L (cp-k) ho' (by have:=HL.out;omega) (by have:=HL.out;omega))
 have ho2:=OI.zero L k ho' (by have:=HL.out;omega)
 have hb2:=ButL.zero (S:=[]) (.inr (show w.heap.size≤g by omega)) L k (ButL.of_below HB1.out)
 have hA2:=blk_many (show g≠w.heap.size by omega) (List.replicate L (.int .i64 0)) k hA
 have hS2:=blk_many (show g≠w.heap.size+1 by omega) (List.replicate L (.int .i64 0)) k hSl
 rw[hW2]at ho2 hb2 hA2 hS2
 clear hW2 hA hSl ho ho' hx hg0
 have hcap:ts.length≤cp:=OI.cap ho2
 have hne:¬cp=k:=by omega
 have hLk:ts.length-k=L:=hL
 obtain⟨y0,hy0⟩:∃y,(zer k L ts)[k]?=some y:=⟨(zer k L ts)[k]'(by rw[zer_len];omega),by simp⟩
 obtain⟨y1,hy1⟩:∃y,(zer k L ts)[k+1]?=some y:=⟨(zer k L ts)[k+1]'(by rw[zer_len];omega),by simp⟩
 have ck:=ho2.cell hy0
 have z0:=ho2.froz k
 have ho3:=ho2.set k 1 (by rw[zer_len];omega)
 have hA3:=blk_other hA2 (show g≠w.heap.size by omega) k (.int .i64 1)
 have hS3:=blk_other hS2 (show g≠w.heap.size+1 by omega) k (.int .i64 1)
 obtain⟨W3,hW3⟩:∃W3,W2.setCell ⟨g,k,none⟩ (.int .i64 1)=W3:=⟨_,rfl⟩
 rw[hW3]at ho3 hA3 hS3
 have ck1:=ho3.cell (i:=k+1) (z:=y1) (by rw[List.getElem?_set,if_neg (by omega)];exact hy1)
 have z1:=ho3.froz (k+1)
 have ho4:=ho3.set (k+1) 1 (by simp[zer_len];omega)
 have hA4:=blk_other hA3 (show g≠w.heap.size by omega) (k+1) (.int .i64 1)
 have hS4:=blk_other hS3 (show g≠w.heap.size+1 by omega) (k+1) (.int .i64 1)
 have hb3:ButL [] w W3:=by rw[←hW3];exact hb2.seto (.inr (by omega)) _ _
 obtain⟨W4,hW4⟩:∃W4,W3.setCell ⟨g,k+1,none⟩ (.int .i64 1)=W4:=⟨_,rfl⟩
 have hb4:ButL [] w W4:=by rw[←hW4];exact hb3.seto (.inr (by omega)) _ _
 rw[hW4]at ho4 hA4 hS4
 have a2:W4.cell? ⟨w.heap.size,2,none⟩=some (.slice ag ng cg):=by rw[blk_cell hA4];rfl
 have b0:W4.cell? ⟨w.heap.size+1,0,none⟩=some (.bool false):=by rw[blk_cell hS4];rfl
 have b1:W4.cell? ⟨w.heap.size+1,1,none⟩=some (.slice none 0 0):=by rw[blk_cell hS4];rfl
 have b2:W4.cell? ⟨w.heap.size+1,2,none⟩=some (.slice none 0 0):=by rw[blk_cell hS4];rfl
 have f0:=blk_frozen hS4
 have HO4:Hid (OI W4 w.heap.size (.slice (some ⟨g,0,none⟩) ts.length cp) (((zer k L ts).set k 1).set (k+1) 1)):=ho4
 have HB4:Hid (ButL [] w W4):=hb4
 clear ho2 ho3 ho4 hA2 hA3 hA4 hS2 hS3 hS4 hb2 hb3 hb4 hy0 hy1 HS
 go_wp2_with fail
 refine bodyPost_ret (v:=.agg #[.bool false,.slice (some ⟨g,0,none⟩) ts.length cp,.slice ag ng cg]) (by simp[results,Tryz.results156,go_sem,b0,b1,b2]) rfl ⟨⟨_,rfl,?_⟩,?_⟩
 ·have q:(Value.slice (some ⟨g,0,none⟩) ts.length cp).ownBlock≠some (w.heap.size+1):=fun e=>by
   have e':some g=some (w.heap.size+1):=e
   injection e' with e';omega
  exact ORow.set_own (ORow.set_own (ORow.set_own HO4.out q _ _) q _ _) q _ _
 ·exact ButL.nil (((HB4.out.setn (by omega) _ _).setn (by omega) _ _).setn (by omega) _ _)
theorem ready_nextb {md:Region.Mode} {ops:Array Oper} {listed:Array Bool} (hr:Region.ready md ops listed=[]) (i:Nat) {o:Oper} (ho:ops[i]?=some o) (hd:∀e∈o.after.toList,Region.binds md e=true→listed.getD e.on false=true):listed.getD i true=true:=by
 by_cases h:listed.getD i true=true
 ·exact h
 ·have:i∈Region.ready md ops listed:=mem_ready.2 ⟨by simpa using h,o,ho,fun e he hb=>hd e (Array.mem_toList_iff.2 he) hb⟩
  rw[hr]at this
  cases this
abbrev InB (t:Bool) (n:ID):Obj:=.cells (if t=true then #[.int .i64 n.op,.int .i64 n.a,.int .i64 n.b,.int .i64 n.c,.int .i64 n.d] else #[.int .i64 0,.int .i64 0,.int .i64 0,.int .i64 0,.int .i64 0]) 52
abbrev StX (t:Bool) (sT sG:Value):Obj:=.cells (if t=true then #[.bool true,sT,sG] else #[.bool false,.slice none 0 0,.slice none 0 0]) 122
theorem wpOp_off {P:Program} {ops:Array Oper} {Q:Exit→Act→World→Prop} {i j d:Nat} {o oj:Oper} {want:Bool} {v:Value} {K:Act→World→Prop} {a:Act} {w:World} (ho:ops[i]?=some o) (hg:o.guard=some (j,want)) (hoj:ops[j]?=some oj) (hd:oj.dst=some d) (ht:a.tmps[d]?=some v) (hv:v≠.bool want) (h:K (a.put o.dst undef) w):wpOp P ops Q i K a w :=
 wpOp_step ho fun K' hK=>by
  have hw:Region.wanted o (yielded ops a.tmps)=false:=by
   unfold Region.wanted yielded
   rw[hg]
   dsimp only
   rw[hoj]
   simp only[Option.bind_some,hd,ht]
   cases v<;>simp
   rename_i b
   intro e
   exact hv (by rw[e])
  rw[if_neg (by rw[hw];simp)]
  exact hK _ _ h
theorem wpOp_on {P:Program} {ops:Array Oper} {Q:Exit→Act→World→Prop} {i j d:Nat} {o oj:Oper} {want:Bool} {K:Act→World→Prop} {a:Act} {w:World} (ho:ops[i]?=some o) (hg:o.guard=some (j,want)) (hoj:ops[j]?=some oj) (hd:oj.dst=some d) (ht:a.tmps[d]?=some (.bool want)) (h:∀K':Act→World→Prop,(∀a w,K a w→K' a w)→Oper.wp P o a w K' Q):wpOp P ops Q i K a w :=
 wpOp_step ho fun K' hK=>by
  have hw:Region.wanted o (yielded ops a.tmps)=true:=by
   unfold Region.wanted yielded
   rw[hg]
   dsimp only
   rw[hoj]
   simp only[Option.bind_some,hd,ht]
   simp
  rw[if_pos hw]
  exact h K' hK
theorem in_st {w:World} {p:Nat} {x y:Array Value} (h:w.heap[p]?=some (.cells x 52)) (h':w.heap[p]?=some (.cells y 122)):False:=by
 rw[h]at h'
 injection h' with e
 injection e with _ e2
 exact absurd e2 (by decide)
structure R95 (w:World) (gW gS b off nI ci a:Nat) (n:ID) (sT sG:Value) (w':World) (b0 b1 b2 b3 b4 b5 b6 b7 b8 b9 b10 b11 b12 b13 b14 b15 b16 b17:Bool) (x0 x1 x2 x3 x4 x5 x6 x7 x8 x9 x10 x11 x12 x13 y5 y6:Value):Prop where
 hb:Below w.heap.size w w'
 h0:b0=true→x0=.pointer (some ⟨gW,0,none⟩)
 h1:b1=true→x1=.pointer (some ⟨gW,0,none⟩)
 h2:b2=true→x2=.pointer (some ⟨gW,2,none⟩)
 h3:b3=true→x3=.slice (some ⟨b,off,none⟩) nI ci
 h4:b4=true→x4=.int .i64 (a:Int)
 h5:b5=true→x5=.pointer (some ⟨b,off+a*5,none⟩)
 h6:b6=true→x6=IV n
 h7:b7=true→x7=.pointer (some ⟨gW,0,none⟩)
 h8:b8=true→x8=.pointer (some ⟨gW,0,none⟩)
 h9:b9=true→x9=.pointer (some ⟨gW,3,none⟩)
 h10:b10=true→x10=.slice (some ⟨gS,0,none⟩) nI nI
 h11:b11=true→x11=.int .i64 (a:Int)
 h12:b12=true→x12=.pointer (some ⟨gS,a*3,none⟩)
 h13:b13=true→x13=.agg #[.bool true,sT,sG]
 h14:b14=true→∃p5,y5=.pointer (some ⟨p5,0,none⟩)∧w.heap.size≤p5∧w'.heap[p5]?=some (InB b16 n)
 h15:b15=true→∃p6,y6=.pointer (some ⟨p6,0,none⟩)∧w.heap.size≤p6∧w'.heap[p6]?=some (StX b17 sT sG)
 h16:b16=true→b14=true
 h17:b17=true→b15=true
def fnA (n:Nat) (f:Nat→Value):Array Value:=((List.range n).map f).toArray
theorem fnA_size (n:Nat) (f:Nat→Value):(fnA n f).size=n:=by simp[fnA]
theorem fnA_get {n i:Nat} (f:Nat→Value) (h:i<n):(fnA n f)[i]?=some (f i):=by simp[fnA,h]
theorem fnA_set {n i:Nat} (f:Nat→Value) (v:Value):(fnA n f).setIfInBounds i v=fnA n (fun x=>if x=i then v else f x):=by
 apply Array.ext_getElem?
 intro j
 rw[Array.getElem?_setIfInBounds]
 by_cases hj:j<n
 ·rw[fnA_get _ hj,fnA_get _ hj]
  by_cases e:i=j
  ·subst e;rw[if_pos rfl,if_pos (by rw[fnA_size];exact hj),if_pos rfl]
  ·rw[if_neg e,if_neg (fun q=>e q.symm)]
 ·have hn:∀g:Nat→Value,(fnA n g)[j]?=none:=fun g=>Array.getElem?_eq_none (by rw[fnA_size];omega)
  rw[hn,hn]
  split
  ·rw[if_neg (by rw[fnA_size];omega)]
  ·rfl
def unm (n:Nat) (met:Nat→Nat):Nat:=(List.range n).countP fun x=>met x == 0
theorem countP_upd {p q:Nat→Bool} {a:Nat}:∀(l:List Nat),l.Nodup→a∈l→p a=true→q a=false→(∀x,x≠a→q x=p x)→l.countP q+1=l.countP p
 | [],_,h,_,_,_=>by cases h
 | y :: l,hn,h,hp,hq,hx=>by
  rw[List.nodup_cons]at hn
  rw[List.countP_cons,List.countP_cons]
  by_cases e:y=a
  ·subst e
   have hsame:l.countP q=l.countP p:=by
    apply List.countP_congr
    intro z hz
    rw[hx z (by rintro rfl;exact hn.1 hz)]
   rw[hsame,hp,hq];simp
  ·have ih:=countP_upd l hn.2 (by rcases List.mem_cons.1 h with h | h;exact absurd h.symm e;exact h) hp hq hx
   rw[hx y e]
   omega
theorem unm_push {n a v:Nat} {met:Nat→Nat} (ha:a<n) (h0:met a=0) (hv:v≠0):unm n (fun x=>if x=a then v else met x)+1=unm n met:=by
 unfold unm
 refine countP_upd (a:=a) _ List.nodup_range (by simpa using ha) (by simp[h0]) (by simp[hv]) (fun x hx=>by simp[hx])
theorem unm_mono {n:Nat} {met met':Nat→Nat} (h:∀x,met x≠0→met' x≠0):unm n met'≤unm n met:=by
 unfold unm
 apply List.countP_mono_left
 intro x _ hx
 simp only[beq_iff_eq]at hx ⊢
 exact Classical.byContradiction fun q=>h x q hx
def lsI:Option Nat→Int
 | none=>-1
 | some l=>l
structure RnV (W0:World) (S:List Nat) (B gR gm gl gf nI:Nat) (iv:Value) (w:World) (ov:Value) (s:TJ.S):Prop where
 base:B≤W0.heap.size
 blk:w.heap[gR]?=some (.cells #[iv,.slice (some ⟨gm,0,none⟩) nI nI,.slice (some ⟨gl,0,none⟩) nI nI,ov,.slice (some ⟨gf,0,none⟩) nI nI,.int .i64 s.count,.int .i64 (lsI s.least)] 190)
 met:w.heap[gm]?=some (.cells (fnA nI fun i=>.int .i64 (s.met i)) 3)
 low:w.heap[gl]?=some (.cells (fnA nI fun i=>.int .i64 (s.low i)) 3)
 off:w.heap[gf]?=some (.cells (fnA nI fun i=>.bool (s.off i)) 4)
 opn:OI w B ov (nz s.op)
 ne:gm≠gl
 a1:ov.ownBlock≠some gm
 a2:ov.ownBlock≠some gl
 but:ButL S W0 w
 o0:gR∈S∨W0.heap.size≤gR
 o1:gm∈S∨W0.heap.size≤gm
 o2:gl∈S∨W0.heap.size≤gl
 o3:gf∈S∨W0.heap.size≤gf
 o4:∀g,ov.ownBlock=some g→g∈S∨W0.heap.size≤g
structure RnK (nI:Nat) (s:TJ.S):Prop where
 rng:∀x∈s.op,x<nI
 cnt:s.count+unm nI s.met=nI
 opl:s.op.length≤s.count
theorem RnV.ge {W0:World} {S:List Nat} {B gR gm gl gf nI:Nat} {iv:Value} {w:World} {ov:Value} {s:TJ.S} (h:RnV W0 S B gR gm gl gf nI iv w ov s):B≤w.heap.size:=Nat.le_trans h.base h.but.size
theorem RnV.later {W0:World} {S:List Nat} {B gR gm gl gf nI:Nat} {iv:Value} {w w':World} {ov:Value} {s:TJ.S} (h:RnV W0 S B gR gm gl gf nI iv w ov s) (hb:Below w.heap.size w w'):RnV W0 S B gR gm gl gf nI iv w' ov s :=
 ⟨h.base,blk_later hb h.blk,blk_later hb h.met,blk_later hb h.low,blk_later hb h.off,h.opn.later hb,h.ne,h.a1,h.a2,h.but.thenB hb,h.o0,h.o1,h.o2,h.o3,h.o4⟩
theorem RnV.drewN {W0:World} {S:List Nat} {B gR gm gl gf nI:Nat} {iv:Value} {w:World} {ov:Value} {s:TJ.S} (h:RnV W0 S B gR gm gl gf nI iv w ov s) (n:Nat):RnV W0 S B gR gm gl gf nI iv (w.drewN n) ov s :=
 ⟨h.base,h.blk,h.met,h.low,h.off,h.opn.drewN n,h.ne,h.a1,h.a2,h.but.drewN n,h.o0,h.o1,h.o2,h.o3,h.o4⟩
def rnS (gR gm gl gf:Nat) (ov:Value):List Nat:=gR :: gm :: gl :: gf :: ov.ownBlock.toList
theorem RnV.anew {W0:World} {S:List Nat} {B gR gm gl gf nI:Nat} {iv:Value} {w:World} {ov:Value} {s:TJ.S} (h:RnV W0 S B gR gm gl gf nI iv w ov s):RnV w (rnS gR gm gl gf ov) B gR gm gl gf nI iv w ov s :=
 ⟨h.ge,h.blk,h.met,h.low,h.off,h.opn,h.ne,h.a1,h.a2,ButL.refl _ _,.inl (by simp[rnS]),.inl (by simp[rnS]),.inl (by simp[rnS]),.inl (by simp[rnS]),fun g e=>.inl (by simp[rnS,e])⟩
theorem RnV.back {W0 W1:World} {S S1:List Nat} {B gR gm gl gf nI:Nat} {iv:Value} {w:World} {ov:Value} {s:TJ.S} (h:RnV W1 S1 B gR gm gl gf nI iv w ov s) (hB:B≤W0.heap.size) (hb:ButL S W0 W1) (hS:∀g∈S1,g∈S∨W0.heap.size≤g):RnV W0 S B gR gm gl gf nI iv w ov s:=by
 have q:∀g,g∈S1∨W1.heap.size≤g→g∈S∨W0.heap.size≤g:=fun g hg=>by
  rcases hg with hg | hg
  ·exact hS g hg
  ·exact .inr (Nat.le_trans hb.size hg)
 exact⟨hB,h.blk,h.met,h.low,h.off,h.opn,h.ne,h.a1,h.a2,hb.then h.but hS,q _ h.o0,q _ h.o1,q _ h.o2,q _ h.o3,fun g e=>q g (h.o4 g e)⟩
theorem RnV.own {W0:World} {S:List Nat} {B gR gm gl gf nI:Nat} {iv:Value} {w:World} {ov:Value} {s:TJ.S} (h:RnV W0 S B gR gm gl gf nI iv w ov s):∀g∈rnS gR gm gl gf ov,(g∈S∨W0.heap.size≤g)∧g<w.heap.size:=by
 intro g hg
 simp only[rnS,List.mem_cons,Option.mem_toList]at hg
 rcases hg with rfl | rfl | rfl | rfl | hg
 ·exact⟨h.o0,blk_lt h.blk⟩
 ·exact⟨h.o1,blk_lt h.met⟩
 ·exact⟨h.o2,blk_lt h.low⟩
 ·exact⟨h.o3,blk_lt h.off⟩
 ·exact⟨h.o4 g hg,(h.opn.own_lt hg).2⟩
theorem RnV.cells {W0:World} {S:List Nat} {B gR gm gl gf nI:Nat} {iv:Value} {w:World} {ov:Value} {s:TJ.S} (h:RnV W0 S B gR gm gl gf nI iv w ov s):w.cell? ⟨gR,0,none⟩=some iv∧w.cell? ⟨gR,1,none⟩=some (.slice (some ⟨gm,0,none⟩) nI nI)∧w.cell? ⟨gR,2,none⟩=some (.slice (some ⟨gl,0,none⟩) nI nI)∧w.cell? ⟨gR,3,none⟩=some ov∧w.cell? ⟨gR,4,none⟩=some (.slice (some ⟨gf,0,none⟩) nI nI)∧w.cell? ⟨gR,5,none⟩=some (.int .i64 s.count)∧w.cell? ⟨gR,6,none⟩=some (.int .i64 (lsI s.least)):=by
 refine⟨?_,?_,?_,?_,?_,?_,?_⟩<;>rw[blk_cell h.blk]<;>rfl
theorem RnV.at_ {W0:World} {S:List Nat} {B gR gm gl gf nI:Nat} {iv:Value} {w:World} {ov:Value} {s:TJ.S} (h:RnV W0 S B gR gm gl gf nI iv w ov s) {i:Nat} (hi:i<nI):w.cell? ⟨gm,i,none⟩=some (.int .i64 (s.met i))∧w.cell? ⟨gl,i,none⟩=some (.int .i64 (s.low i))∧w.cell? ⟨gf,i,none⟩=some (.bool (s.off i)):=by
 refine⟨?_,?_,?_⟩
 ·rw[blk_cell h.met];exact fnA_get _ hi
 ·rw[blk_cell h.low];exact fnA_get _ hi
 ·rw[blk_cell h.off];exact fnA_get _ hi
theorem blk_ty {w:World} {g:Nat} {a b:Array Value} {t t':TypeId} (h:w.heap[g]?=some (.cells a t)) (h':w.heap[g]?=some (.cells b t')):t=t':=by
 rw[h]at h'
 injection h' with e
 injection e
theorem RnV.diff {W0:World} {S:List Nat} {B gR gm gl gf nI:Nat} {iv:Value} {w:World} {ov:Value} {s:TJ.S} (h:RnV W0 S B gR gm gl gf nI iv w ov s):gR≠gm∧gR≠gl∧gR≠gf∧gm≠gf∧gl≠gf∧ov.ownBlock≠some gR∧ov.ownBlock≠some gf:=by
 refine⟨?_,?_,?_,?_,?_,h.opn.not_blk h.blk (by decide),h.opn.not_blk h.off (by decide)⟩
 ·rintro rfl;exact absurd (blk_ty h.blk h.met) (by decide)
 ·rintro rfl;exact absurd (blk_ty h.blk h.low) (by decide)
 ·rintro rfl;exact absurd (blk_ty h.blk h.off) (by decide)
 ·rintro rfl;exact absurd (blk_ty h.met h.off) (by decide)
 ·rintro rfl;exact absurd (blk_ty h.low h.off) (by decide)
theorem RnV.setCount {W0:World} {S:List Nat} {B gR gm gl gf nI:Nat} {iv:Value} {w:World} {ov:Value} {s:TJ.S} (h:RnV W0 S B gR gm gl gf nI iv w ov s) (v:Nat):RnV W0 S B gR gm gl gf nI iv (w.setCell ⟨gR,5,none⟩ (.int .i64 v)) ov { s with count:=v }:=by
 obtain⟨d1,d2,d3,d4,d5,d6,d7⟩:=h.diff
 refine⟨h.base,?_,blk_other h.met d1 5 _,blk_other h.low d2 5 _,blk_other h.off d3 5 _,h.opn.set_own d6 5 _,h.ne,h.a1,h.a2,h.but.seto h.o0 5 _,h.o0,h.o1,h.o2,h.o3,h.o4⟩
 have:=blk_set h.blk 5 (.int .i64 v)
 simpa using this
theorem RnV.setLeast {W0:World} {S:List Nat} {B gR gm gl gf nI:Nat} {iv:Value} {w:World} {ov:Value} {s:TJ.S} (h:RnV W0 S B gR gm gl gf nI iv w ov s) (v:Nat):RnV W0 S B gR gm gl gf nI iv (w.setCell ⟨gR,6,none⟩ (.int .i64 v)) ov { s with least:=some v }:=by
 obtain⟨d1,d2,d3,d4,d5,d6,d7⟩:=h.diff
 refine⟨h.base,?_,blk_other h.met d1 6 _,blk_other h.low d2 6 _,blk_other h.off d3 6 _,h.opn.set_own d6 6 _,h.ne,h.a1,h.a2,h.but.seto h.o0 6 _,h.o0,h.o1,h.o2,h.o3,h.o4⟩
 have:=blk_set h.blk 6 (.int .i64 v)
 simpa [lsI] using this
theorem fn_if (i:Nat) (v:Nat) (f:Nat→Nat):(fun x=>if x=i then Value.int .i64 (v:Int) else Value.int .i64 (f x:Int))=fun x=>Value.int .i64 (((fun x=>if x=i then v else f x) x:Nat):Int):=by
 funext x
 by_cases e:x=i<;>simp[e]
theorem fn_ifb (i:Nat) (f:Nat→Bool):(fun x=>if x=i then Value.bool true else Value.bool (f x))=fun x=>Value.bool ((fun x=>decide (x=i) || f x) x):=by
 funext x
 by_cases e:x=i<;>simp[e]
theorem RnV.setMet {W0:World} {S:List Nat} {B gR gm gl gf nI:Nat} {iv:Value} {w:World} {ov:Value} {s:TJ.S} (h:RnV W0 S B gR gm gl gf nI iv w ov s) (i v:Nat):RnV W0 S B gR gm gl gf nI iv (w.setCell ⟨gm,i,none⟩ (.int .i64 v)) ov { s with met:=fun x=>if x=i then v else s.met x }:=by
 obtain⟨d1,d2,d3,d4,d5,d6,d7⟩:=h.diff
 refine⟨h.base,blk_other h.blk d1.symm i _,?_,blk_other h.low h.ne i _,blk_other h.off d4 i _,h.opn.set_own h.a1 i _,h.ne,h.a1,h.a2,h.but.seto h.o1 i _,h.o0,h.o1,h.o2,h.o3,h.o4⟩
 have:=blk_set h.met i (.int .i64 v)
 rw[fnA_set,fn_if]at this
 exact this
theorem RnV.setLow {W0:World} {S:List Nat} {B gR gm gl gf nI:Nat} {iv:Value} {w:World} {ov:Value} {s:TJ.S} (h:RnV W0 S B gR gm gl gf nI iv w ov s) (i v:Nat):RnV W0 S B gR gm gl gf nI iv (w.setCell ⟨gl,i,none⟩ (.int .i64 v)) ov { s with low:=fun x=>if x=i then v else s.low x }:=by
 obtain⟨d1,d2,d3,d4,d5,d6,d7⟩:=h.diff
 refine⟨h.base,blk_other h.blk d2.symm i _,blk_other h.met h.ne.symm i _,?_,blk_other h.off d5 i _,h.opn.set_own h.a2 i _,h.ne,h.a1,h.a2,h.but.seto h.o2 i _,h.o0,h.o1,h.o2,h.o3,h.o4⟩
 have:=blk_set h.low i (.int .i64 v)
 rw[fnA_set,fn_if]at this
 exact this
theorem RnV.mark {W0:World} {S:List Nat} {B gR gm gl gf nI:Nat} {iv:Value} {w:World} {ov:Value} {s:TJ.S} (h:RnV W0 S B gR gm gl gf nI iv w ov s) (i:Nat):RnV W0 S B gR gm gl gf nI iv (w.setCell ⟨gf,i,none⟩ (.bool true)) ov { s with off:=fun x=>decide (x=i) || s.off x }:=by
 obtain⟨d1,d2,d3,d4,d5,d6,d7⟩:=h.diff
 refine⟨h.base,blk_other h.blk d3.symm i _,blk_other h.met d4.symm i _,blk_other h.low d5.symm i _,?_,h.opn.set_own d7 i _,h.ne,h.a1,h.a2,h.but.seto h.o3 i _,h.o0,h.o1,h.o2,h.o3,h.o4⟩
 have:=blk_set h.off i (.bool true)
 rw[fnA_set,fn_ifb]at this
 exact this
theorem RnV.shut {W0:World} {S:List Nat} {B gR gm gl gf nI g n cap:Nat} {iv:Value} {w:World} {s:TJ.S} (h:RnV W0 S B gR gm gl gf nI iv w (.slice (some ⟨g,0,none⟩) n cap) s) (m:Nat) (hm:m≤s.op.length):RnV W0 S B gR gm gl gf nI iv (w.setCell ⟨gR,3,none⟩ (.slice (some ⟨g,0,none⟩) m cap)) (.slice (some ⟨g,0,none⟩) m cap) { s with op:=s.op.take m }:=by
 obtain⟨d1,d2,d3,d4,d5,d6,d7⟩:=h.diff
 refine⟨h.base,?_,blk_other h.met d1 3 _,blk_other h.low d2 3 _,blk_other h.off d3 3 _,?_,h.ne,h.a1,h.a2,h.but.seto h.o0 3 _,h.o0,h.o1,h.o2,h.o3,h.o4⟩
 ·have:=blk_set h.blk 3 (.slice (some ⟨g,0,none⟩) m cap)
  simpa using this
 ·have:=ORow.set_own (OI.shrink h.opn m (by rw[nz_len];exact hm)) (g:=gR) d6 3 (.slice (some ⟨g,0,none⟩) m cap)
  rw[nz_take]at this
  exact this
theorem RnV.open_ {W0:World} {S:List Nat} {B gR gm gl gf nI:Nat} {iv:Value} {w:World} {ov:Value} {s:TJ.S} (h:RnV W0 S B gR gm gl gf nI iv w ov s) (a:Nat) (hl:s.op.length≤6000) :
  ∃g' cap' w2,(Builtin.append_ #[59,59] 59 #[ov,.slice (some ⟨w.heap.size,0,none⟩) 1 1]).run Tryz.prog (w.alloc (.cells #[.int .i64 (a:Int)] 3))=.ok (.slice (some ⟨g',0,none⟩) (s.op.length+1) cap') w2 ∧
   (∃o,w2.heap[gR]?=some (.cells o 190)∧3<o.size)∧RnV W0 S B gR gm gl gf nI iv (w2.setCell ⟨gR,3,none⟩ (.slice (some ⟨g',0,none⟩) (s.op.length+1) cap')) (.slice (some ⟨g',0,none⟩) (s.op.length+1) cap') { s with op:=s.op++[a] }:=by
 obtain⟨g',cap',w2,hr,ho2,hg,hwh⟩:=OI.app h.opn (a:Int) (by rw[nz_len];omega) h.ge
 rw[nz_len]at hr ho2
 obtain⟨d1,d2,d3,d4,d5,d6,d7⟩:=h.diff
 have old:∀ {g:Nat} {arr:Array Value} {t:TypeId},w.heap[g]?=some (.cells arr t)→ov.ownBlock≠some g→w2.heap[g]?=some (.cells arr t)∧g≠g':=by
  intro g arr t hg0 hne
  have hlt:=blk_lt hg0
  refine⟨(hg.block g (by simp;omega) (fun e=>hne e.symm)).trans (blk_old hg0 _),?_⟩
  rintro rfl
  rcases hwh with e | e
  ·exact hne e.symm
  ·omega
 obtain⟨k0,n0⟩:=old h.blk d6
 obtain⟨k1,n1⟩:=old h.met h.a1
 obtain⟨k2,n2⟩:=old h.low h.a2
 obtain⟨k3,n3⟩:=old h.off d7
 refine⟨g',cap',w2,hr,⟨_,k0,by simp⟩,h.base,?_,blk_other k1 d1 3 _,blk_other k2 d2 3 _,blk_other k3 d3 3 _,?_,h.ne,(fun e=>by cases e;exact n1 rfl),(fun e=>by cases e;exact n2 rfl),?_,h.o0,h.o1,h.o2,h.o3,?_⟩
 ·have:=blk_set k0 3 (.slice (some ⟨g',0,none⟩) (s.op.length+1) cap')
  simpa using this
 ·have:=ORow.set_own ho2 (g:=gR) (fun e=>by cases e;exact n0 rfl) 3 (.slice (some ⟨g',0,none⟩) (s.op.length+1) cap')
  simp only[nz_app]
  exact this
 ·exact ((h.but.alloc _).grown hg (fun b e=>h.o4 b e)).seto h.o0 3 _
 ·intro b e
  cases e
  rcases hwh with e | e
  ·exact h.o4 g' e.symm
  ·exact .inr (Nat.le_trans h.but.size e)
end Go.Proofs.YtkajknidfoelcaaGreatDoor
