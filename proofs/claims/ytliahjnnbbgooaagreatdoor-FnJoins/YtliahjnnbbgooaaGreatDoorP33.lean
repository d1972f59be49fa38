import Derived.Test.YtliahjnnbbgooaaGreatDoorP32
import Derived.Test.YtliahjnnbbgooaaGreatDoorP31
import Derived.Test.YtliahjnnbbgooaaGreatDoorP29
set_option linter.unusedVariables false
set_option linter.unusedSimpArgs false
set_option maxRecDepth 20000
set_option maxHeartbeats 8000000
namespace Go.Proofs.YtliahjnnbbgooaaGreatDoor.U
open Go.RowKit M T
attribute [local go_sem] run_store_float
theorem handleg_go (gm gt gc gf gn gr:Nat) (hd:Int) (v:VD) (tx s:ByteArray) (m:MachD) (c:CallD) (ta ca:Array Value) (S:List Nat) (Q:World→World→Prop) (w:World) (hm:MachAt w gm m) (hrn:m.running=.pointer (some ⟨gt,0,none⟩)) (htk:TkAt w gt gc gf) (ht:w.heap[gt]?=some (.cells ta 115)) (hcr:w.heap[gc]?=some (.cells ca 116))
  (hc:CallAt w gf c) (hlow:Low c) (hp:c.proto=0) (hn:w.heap[gn]?=some (CtO hd 0)) (hr:w.heap[gr]?=some (ThG v s)) (s1:gf∉S) (s2:gn∉S) (s3:gr∉S)
  (HTo:∀W,ButL [gf] w W→Calls Tryz.prog 35 #[.pointer (some ⟨gm,0,none⟩),.agg #[.int .i64 v.k,.int .i64 v.n,.float .f64 v.f,.string v.s,.int .i64 v.r]] W fun e w'=>e=.returned (.string tx)∧Below W.heap.size W w')
  (HQ:∀wk,ButL [gf] w wk→CallAt wk gf (hcD c hd)→Calls Tryz.prog 206 #[.pointer (some ⟨gm,0,none⟩),.agg #[.int .i64 5,.int .i64 0,.int .i64 0,.int .i64 0,.string tx]] wk fun e w'=>e=.returned .nilIface∧ButL S wk w'∧Q wk w') :
  Calls Tryz.prog 186 #[.pointer (some ⟨gm,0,none⟩),.pointer (some ⟨gf,0,none⟩),.pointer (some ⟨gn,0,none⟩),.pointer (some ⟨gr,0,none⟩)] w fun e w'=>e=.returned .nilIface∧∃wk w5,ButL [gf] w wk∧CallAt wk gf (hcD c hd)∧ButL S wk w5∧Q wk w5∧CallAt w' gf { hcD c hd with regs:=(c.regs.set 4 (sdV v)).set 5 (sdV (strD s)) }∧ButL [gf] w5 w':=by
 have k0:w.cell? ⟨gn,0,none⟩=some (.int .i64 4):=by rw[blk_cell hn];rfl
 have HC:Hid (CallAt w gf c):=hc
 have HM:Hid (MachAt w gm m):=hm
 have HT:Hid (TkAt w gt gc gf):=htk
 have HN:Hid (w.heap[gn]?=some (CtO hd 0)):=hn
 have HR:Hid (w.heap[gr]?=some (ThG v s)):=hr
 have HTa:Hid (w.heap[gt]?=some (.cells ta 115)):=ht
 have HCa:Hid (w.heap[gc]?=some (.cells ca 116)):=hcr
 have HQ':Hid (∀wk,ButL [gf] w wk→CallAt wk gf (hcD c hd)→Calls Tryz.prog 206 #[.pointer (some ⟨gm,0,none⟩),.agg #[.int .i64 5,.int .i64 0,.int .i64 0,.int .i64 0,.string tx]] wk fun e w'=>e=.returned .nilIface∧ButL S wk w'∧Q wk w'):=HQ
 have HTo':Hid (∀W,ButL [gf] w W→Calls Tryz.prog 35 #[.pointer (some ⟨gm,0,none⟩),.agg #[.int .i64 v.k,.int .i64 v.n,.float .f64 v.f,.string v.s,.int .i64 v.r]] W fun e w'=>e=.returned (.string tx)∧Below W.heap.size W w'):=HTo
 clear hc hn hr hm htk ht hcr HQ HTo
 go_enter Tryz.func186,Tryz.ntmps186
 go_wp2_with fail
 refine (T.empty_any gn gf c _ k0 HC.out hlow).mono ?_
 rintro e w1 ⟨rfl,hc1,hb1⟩
 have hn1:w1.heap[gn]?=some (CtO hd 0):=hb1.blk HN.out (by simp;exact ne_ty HN.out HC.out (by decide))
 have n0:w1.cell? ⟨gn,0,none⟩=some (.int .i64 4):=by rw[blk_cell hn1];rfl
 have n1:w1.cell? ⟨gn,1,none⟩=some (.int .i64 hd):=by rw[blk_cell hn1];rfl
 have n2:w1.cell? ⟨gn,2,none⟩=some (.int .i64 0):=by rw[blk_cell hn1];rfl
 have c9:w1.cell? ⟨gf,9,none⟩=some (.int .i64 c.at'):=by rw[hc1.cell 9 (by omega)];rfl
 have c10:w1.cell? ⟨gf,10,none⟩=some (.int .i64 c.next):=by rw[hc1.cell 10 (by omega)];rfl
 have c11:w1.cell? ⟨gf,11,none⟩=some (.int .i64 c.line):=by rw[hc1.cell 11 (by omega)];rfl
 have z:=blk_frozen hc1
 obtain⟨W3,hW3⟩:∃W3,((w1.setCell ⟨gf,11,none⟩ (.int .i64 0)).setCell ⟨gf,9,none⟩ (.int .i64 hd)).setCell ⟨gf,10,none⟩ (.int .i64 hd)=W3:=⟨_,rfl⟩
 have hc3:CallAt W3 gf (hcD c hd):=by
  rw[←hW3]
  have h9:=blk_set (blk_set (blk_set hc1 11 (.int .i64 0)) 9 (.int .i64 hd)) 10 (.int .i64 hd)
  rw[CallD.set_line,CallD.set_at,CallD.set_next]at h9
  exact h9
 have hb3:ButL [gf] w W3:=by rw[←hW3];exact ((hb1.set (by simp) _ _).set (by simp) _ _).set (by simp) _ _
 have HC3:Hid (CallAt W3 gf (hcD c hd)):=hc3
 have HB3:Hid (ButL [gf] w W3):=hb3
 have HR3:Hid (W3.heap[gr]?=some (ThG v s)):=hb3.blk HR.out (by simp;exact ne_ty HR.out HC.out (by decide))
 have HM3:Hid (MachAt W3 gm m):=HM.out.but hb3 (by simp;exact ne_ty HM.out HC.out (by decide))
 have HT3:Hid (TkAt W3 gt gc gf):=tk_but HT.out HTa.out HCa.out hb3 (by simp;exact ne_ty HTa.out HC.out (by decide)) (by simp;exact ne_ty HCa.out HC.out (by decide))
 clear hc1 hb1 k0 hn1 hc3 hb3
 go_wp2_with fail
 go_region
 clear hW3 n0 n1 n2 c9 c10 c11 z
 have r0:W3.cell? ⟨gr,0,none⟩=some (.int .i64 v.k):=by rw[blk_cell HR3.out];rfl
 have r1:W3.cell? ⟨gr,1,none⟩=some (.int .i64 v.n):=by rw[blk_cell HR3.out];rfl
 have r2:W3.cell? ⟨gr,2,none⟩=some (.float .f64 v.f):=by rw[blk_cell HR3.out];rfl
 have r3:W3.cell? ⟨gr,3,none⟩=some (.string v.s):=by rw[blk_cell HR3.out];rfl
 have r4:W3.cell? ⟨gr,4,none⟩=some (.int .i64 v.r):=by rw[blk_cell HR3.out];rfl
 have c11:W3.cell? ⟨gf,11,none⟩=some (.int .i64 0):=by rw[HC3.out.cell 11 (by omega)];rfl
 go_wp2_with fail
 go_cut [9] from 36 to 47 (fun s9 wx=>∃wk,s9=.nilIface∧Hid (ButL [gf] w wk∧CallAt wk gf (hcD c hd)∧ButL S wk wx∧Q wk wx))
 case first =>
  go_region_with (first | (go_at_call 35;refine (HTo'.out _ (by exact HB3.out.drew.drew)).mono ?_;rintro e w4 ⟨rfl,hx4⟩;have HX4:Hid (Below W3.heap.size W3 w4):=⟨hx4.os,hx4.tape,hx4.output,hx4.size,hx4.block⟩;have d11:w4.cell? ⟨gf,11,none⟩=some (.int .i64 0):=cell_later HX4.out c11;clear hx4) | (go_at_call 137;refine (tell_g gm gt gc gf ⟨5,0,tx⟩ m (hcD c hd) .nilIface (fun w'=>∃n,ButL S (w4.drewN n) w'∧Q (w4.drewN n) w') w4 (HM3.out.later HX4.out) hrn (HT3.out.later HX4.out) (HC3.out.later HX4.out) hp (fun n=>(HQ'.out (w4.drewN n) ((HB3.out.thenB HX4.out).drewN n) ((HC3.out.later HX4.out).drewN n)).mono (fun e w' h=>⟨h.1,n,h.2⟩))).mono ?_;rintro e w5 ⟨rfl,n5,hq⟩;have HQ5:Hid (ButL S (w4.drewN n5) w5∧Q (w4.drewN n5) w5):=hq;clear hq))
  all_goals
   skip
   go_wp2_with fail
   go_meet
   exact⟨w4.drewN n5,rfl,(HB3.out.thenB HX4.out).drewN n5,(HC3.out.later HX4.out).drewN n5,HQ5.out⟩
 case rest =>
  obtain⟨wk,rfl,HK⟩:=hcut
  clear r0 r1 r2 r3 r4 c11
  obtain⟨w5v,rfl⟩:∃w5v,w5v=wc:=⟨_,rfl⟩
  have hb5:=HK.out.2.2.1
  have hr5:w5v.heap[gr]?=some (ThG v s):=hb5.blk (HK.out.1.blk HR.out (by simp;exact ne_ty HR.out HC.out (by decide))) s3
  have hn5:w5v.heap[gn]?=some (CtO hd 0):=hb5.blk (HK.out.1.blk HN.out (by simp;exact ne_ty HN.out HC.out (by decide))) s2
  have hc5:CallAt w5v gf (hcD c hd):=HK.out.2.1.but hb5 s1
  have HR5:Hid (w5v.heap[gr]?=some (ThG v s)):=hr5
  have HN5:Hid (w5v.heap[gn]?=some (CtO hd 0)):=hn5
  have HC5:Hid (CallAt w5v gf (hcD c hd)):=hc5
  have r0:w5v.cell? ⟨gr,0,none⟩=some (.int .i64 v.k):=by rw[blk_cell hr5];rfl
  have r1:w5v.cell? ⟨gr,1,none⟩=some (.int .i64 v.n):=by rw[blk_cell hr5];rfl
  have r2:w5v.cell? ⟨gr,2,none⟩=some (.float .f64 v.f):=by rw[blk_cell hr5];rfl
  have r3:w5v.cell? ⟨gr,3,none⟩=some (.string v.s):=by rw[blk_cell hr5];rfl
  have r4:w5v.cell? ⟨gr,4,none⟩=some (.int .i64 v.r):=by rw[blk_cell hr5];rfl
  have n0:w5v.cell? ⟨gn,0,none⟩=some (.int .i64 4):=by rw[blk_cell hn5];rfl
  clear hb5 hr5 hn5 hc5
  go_wp2_with fail
  go_cut [] from 51 to 61 (fun wx=>Hid (CallAt wx gf { hcD c hd with regs:=c.regs.set 4 (sdV v) }∧ButL [gf] w5v wx))
  case first =>
   go_region_with (go_at_call 99;refine (put_any gf 4 v (hcD c hd) w5v.drew HC5.out hlow.1 (by omega)).mono ?_;rintro e w6 ⟨rfl,hc6,hb6⟩;have HC6:Hid (CallAt w6 gf { hcD c hd with regs:=c.regs.set 4 (sdV v) }):=hc6;have HB6:Hid (ButL [gf] w5v w6):=hb6.undrew;clear hc6 hb6)
   all_goals
    go_wp2_with fail
    go_meet
    exact⟨HC6.out,HB6.out⟩
  case rest =>
   have HC6:Hid (CallAt wc gf { hcD c hd with regs:=c.regs.set 4 (sdV v) }):=hcut.out.1
   have HB6:Hid (ButL [gf] w5v wc):=hcut.out.2
   have hr6:wc.heap[gr]?=some (ThG v s):=HB6.out.blk HR5.out (by simp;exact ne_ty HR.out HC.out (by decide))
   have hn6:wc.heap[gn]?=some (CtO hd 0):=HB6.out.blk HN5.out (by simp;exact ne_ty HN.out HC.out (by decide))
   have q5:wc.cell? ⟨gr,5,none⟩=some (.string s):=by rw[blk_cell hr6];rfl
   have q0:wc.cell? ⟨gn,0,none⟩=some (.int .i64 4):=by rw[blk_cell hn6];rfl
   clear hr6 hn6 hcut r0 r1 r2 r3 r4 n0
   go_wp2_with fail
   go_region_with (first | (go_at_call 102;refine (strValue_any s _).mono ?_;rintro e w7 ⟨rfl,hx7⟩;have HX7:Hid (Below wc.heap.size wc w7):=und1' hx7;have t0:w7.cell? ⟨gn,0,none⟩=some (.int .i64 4):=cell_later HX7.out q0;clear hx7) | (go_at_call 99;refine (put_any gf 5 (strD s) { hcD c hd with regs:=c.regs.set 4 (sdV v) } w7 (HC6.out.later HX7.out) (by show (c.regs.set 4 _).length=250;rw[List.length_set];exact hlow.1) (by omega)).mono ?_;rintro e w8 ⟨rfl,hc8,hb8⟩;have HC8:Hid (CallAt w8 gf { hcD c hd with regs:=(c.regs.set 4 (sdV v)).set 5 (sdV (strD s)) }):=hc8;have HB8:Hid (ButL [gf] w7 w8):=hb8;clear hc8 hb8))
   all_goals
    go_wp2_with fail
    go_ret
    exact⟨rfl,wk,w5v,HK.out.1,HK.out.2.1,HK.out.2.2.1,HK.out.2.2.2,HC8.out,(HB6.out.thenB HX7.out).trans HB8.out⟩
end Go.Proofs.YtliahjnnbbgooaaGreatDoor.U
namespace Go.Proofs.YtliahjnnbbgooaaGreatDoor.J
open Go.RowKit M T
attribute [local go_sem] run_store_float
def zs0:List Value:=(List.replicate 250 sd0).flatMap SD.cells
theorem zs0_len:zs0.length=2000:=by
 unfold zs0
 rw[List.length_flatMap,List.map_replicate,List.sum_replicate_nat]
 rfl
theorem zeros0:(Builtin.zeroCells z8 250).toList=zs0:=by
 have hs:z8.size=8:=rfl
 apply List.ext_getElem?
 intro n
 by_cases hn:n<2000
 ·obtain⟨v,h1,h2⟩:=z8_at (n % 8) (Nat.mod_lt _ (by omega))
  have h3:=flat_at SD.cells 8 (List.replicate 250 sd0) (n / 8) (n % 8) sd0 v (fun y _=>sd_len y) (by rw[List.getElem?_replicate,if_pos (by omega)]) h1
  rw[show n / 8*8+n % 8=n by omega]at h3
  unfold zs0
  rw[h3]
  unfold Builtin.zeroCells
  rw[Array.getElem?_toList,Array.getElem?_map,hs,Array.getElem?_range,if_pos (by omega)]
  simp only[Option.map_some]
  rw[h2]
 ·have h1:zs0[n]?=none:=List.getElem?_eq_none (by rw[zs0_len];omega)
  have h2:(Builtin.zeroCells z8 250).toList[n]?=none:=by
   apply List.getElem?_eq_none
   unfold Builtin.zeroCells
   rw[Array.length_toList,Array.size_map,Array.size_range,hs]
   omega
  rw[h1,h2]
theorem zero_slot0:∃z:Value,(∀w,(zeroValue 149).run Tryz.prog w=.ok z w)∧(Builtin.zeroCells z.cells 250).toList=zs0 :=
 ⟨.agg z8,fun w=>by kernel_rfl,zeros0⟩
theorem zs0_one:∀u∈zs0,u.oneCell'=true:=by
 intro u hu
 obtain⟨s,hs,hu⟩:=List.mem_flatMap.1 hu
 rw[List.eq_of_mem_replicate hs]at hu
 simp only[SD.cells,sd0,vd0,List.mem_cons,List.not_mem_nil,or_false]at hu
 rcases hu with rfl | rfl | rfl | rfl | rfl | rfl | rfl | rfl<;>rfl
theorem put0 {c:CallD} (h1:c.regs.length=250):putl c.arr 14 zs0={ c with regs:=List.replicate 250 sd0 }.arr:=by
 have e:c.arr=(c.hd++(c.regs.flatMap SD.cells++[])).toArray:=by
  unfold CallD.arr
  rw[List.append_nil]
 have hl2:(c.regs.flatMap SD.cells).length=zs0.length:=by
  rw[zs0_len,List.length_flatMap]
  have e1:c.regs.map (fun a=>a.cells.length)=List.replicate 250 8:=by
   rw[←h1]
   apply List.ext_getElem?
   intro n
   rw[List.getElem?_map,List.getElem?_replicate]
   by_cases hn:n<c.regs.length
   ·rw[if_pos hn,List.getElem?_eq_getElem hn];rfl
   ·rw[if_neg hn,List.getElem?_eq_none (by omega)];rfl
  rw[e1,List.sum_replicate_nat]
 rw[e,putl_toArray]
 have:=setL_mid zs0 c.hd (c.regs.flatMap SD.cells) [] hl2
 rw[show c.hd.length=14 from rfl]at this
 rw[this,List.append_nil]
 rfl
theorem size0 {c:CallD} (h1:c.regs.length=250):c.arr.size=2014:=by
 unfold CallD.arr
 rw[List.size_toArray,List.length_append,List.length_flatMap]
 have e1:c.regs.map (fun a=>a.cells.length)=List.replicate 250 8:=by
  rw[←h1]
  apply List.ext_getElem?
  intro n
  rw[List.getElem?_map,List.getElem?_replicate]
  by_cases hn:n<c.regs.length
  ·rw[if_pos hn,List.getElem?_eq_getElem hn];rfl
  ·rw[if_neg hn,List.getElem?_eq_none (by omega)];rfl
 rw[e1,List.sum_replicate_nat]
 show 14+250*8=2014
 omega
theorem run_clear0 (w:World) (g:Nat) (ty:TypeId) (c:CallD) (h:CallAt w g c) (h1:c.regs.length=250):(Builtin.clear_ #[369] ty #[.slice (some ⟨g,14,none⟩) 250 250]).run Tryz.prog w=.ok (.tuple #[]) (w.setCells g 14 zs0):=by
 obtain⟨z,hz,hzl⟩:=zero_slot0
 have hsz:=size0 h1
 obtain⟨zs,hzs⟩:∃zs,zs0=zs:=⟨_,rfl⟩
 have hzn:zs.length=2000:=by rw[←hzs];exact zs0_len
 have hz1:∀u∈zs,u.oneCell'=true:=by rw[←hzs];exact zs0_one
 rw[hzs]at hzl ⊢
 have hst:=run_storeCells_cells (P:=Tryz.prog) g 14 zs 0 w (fun j hj=>by
   rw[hzn]at hj
   rw[blk_cell h,Array.getElem?_eq_getElem (by omega)];rfl) (fun j _=>blk_frozen h _) hz1
 simp only[Nat.add_zero]at hst
 exact run_clear_n w _ g 14 249 250 ty z zs hz hzl hst
theorem empty0_any (gn gf:Nat) (c:CallD) (w:World) (hk:w.cell? ⟨gn,0,none⟩=some (.int .i64 0)) (h:CallAt w gf c) (h1:c.regs.length=250) :
  Calls Tryz.prog 185 #[.pointer (some ⟨gn,0,none⟩),.pointer (some ⟨gf,0,none⟩)] w fun e w'=>e=.returned (.tuple #[])∧CallAt w' gf { c with regs:=List.replicate 250 sd0 }∧ButL [gf] w w':=by
 have hr:=run_clear0 w.drew gf 0 c h h1
 have HE:Hid (CallAt (w.drew.setCells gf 14 zs0) gf { c with regs:=List.replicate 250 sd0 }∧ButL [gf] w (w.drew.setCells gf 14 zs0)):=by
  refine⟨?_,but_setCells (by simp) _ _ (ButL.refl _ _).drew⟩
  have:=blk_putl zs0 (w:=w.drew) 14 h
  rw[put0 h1]at this
  exact this
 obtain⟨W9,hW9⟩:∃W9,w.drew.setCells gf 14 zs0=W9:=⟨_,rfl⟩
 rw[hW9]at hr HE
 have HR:Hid _:=hr
 clear h h1 hr hW9
 go_enter Tryz.func185,Tryz.ntmps185
 go_wp2_with fail
 go_region_law (refine step_clear_run rfl _ _ rfl _ _ _ rfl HR.out ?_)
 all_goals
  go_wp2_with fail
  exact bodyPost_end (v:=.tuple #[]) (by simp[results,Tryz.results185,go_sem]) rfl ⟨rfl,HE.out⟩
end Go.Proofs.YtliahjnnbbgooaaGreatDoor.J
namespace Go.Proofs.YtliahjnnbbgooaaGreatDoor.J
open Go.RowKit M T U
attribute [local go_sem] run_store_float
abbrev Ct0 (h:Int):Obj:=.cells #[.int .i64 0,.int .i64 h,.int .i64 0] 230
def hc0 (c:CallD) (hd:Int):CallD:={ c with line:=0,at':=hd,next:=hd,regs:=List.replicate 250 sd0 }
theorem handle0_go (gm gt gc gf gn gr:Nat) (hd:Int) (v:VD) (tx s:ByteArray) (m:MachD) (c:CallD) (ta ca:Array Value) (S:List Nat) (Q:World→World→Prop) (w:World) (hm:MachAt w gm m) (hrn:m.running=.pointer (some ⟨gt,0,none⟩)) (htk:TkAt w gt gc gf) (ht:w.heap[gt]?=some (.cells ta 115)) (hcr:w.heap[gc]?=some (.cells ca 116))
  (hc:CallAt w gf c) (hlow:c.regs.length=250) (hp:c.proto=0) (hn:w.heap[gn]?=some (Ct0 hd)) (hr:w.heap[gr]?=some (ThG v s)) (s1:gf∉S) (s2:gn∉S) (s3:gr∉S)
  (HTo:∀W,ButL [gf] w W→Calls Tryz.prog 35 #[.pointer (some ⟨gm,0,none⟩),.agg #[.int .i64 v.k,.int .i64 v.n,.float .f64 v.f,.string v.s,.int .i64 v.r]] W fun e w'=>e=.returned (.string tx)∧Below W.heap.size W w')
  (HQ:∀wk,ButL [gf] w wk→CallAt wk gf (hc0 c hd)→Calls Tryz.prog 206 #[.pointer (some ⟨gm,0,none⟩),.agg #[.int .i64 5,.int .i64 0,.int .i64 0,.int .i64 0,.string tx]] wk fun e w'=>e=.returned .nilIface∧ButL S wk w'∧Q wk w') :
  Calls Tryz.prog 186 #[.pointer (some ⟨gm,0,none⟩),.pointer (some ⟨gf,0,none⟩),.pointer (some ⟨gn,0,none⟩),.pointer (some ⟨gr,0,none⟩)] w fun e w'=>e=.returned .nilIface∧∃wk w5,ButL [gf] w wk∧CallAt wk gf (hc0 c hd)∧ButL S wk w5∧Q wk w5∧CallAt w' gf { hc0 c hd with regs:=((List.replicate 250 sd0).set 0 (sdV v)).set 1 (sdV (strD s)) }∧ButL [gf] w5 w':=by
 have k0:w.cell? ⟨gn,0,none⟩=some (.int .i64 0):=by rw[blk_cell hn];rfl
 have HC:Hid (CallAt w gf c):=hc
 have HM:Hid (MachAt w gm m):=hm
 have HT:Hid (TkAt w gt gc gf):=htk
 have HN:Hid (w.heap[gn]?=some (Ct0 hd)):=hn
 have HR:Hid (w.heap[gr]?=some (ThG v s)):=hr
 have HTa:Hid (w.heap[gt]?=some (.cells ta 115)):=ht
 have HCa:Hid (w.heap[gc]?=some (.cells ca 116)):=hcr
 have HQ':Hid (∀wk,ButL [gf] w wk→CallAt wk gf (hc0 c hd)→Calls Tryz.prog 206 #[.pointer (some ⟨gm,0,none⟩),.agg #[.int .i64 5,.int .i64 0,.int .i64 0,.int .i64 0,.string tx]] wk fun e w'=>e=.returned .nilIface∧ButL S wk w'∧Q wk w'):=HQ
 have HTo':Hid (∀W,ButL [gf] w W→Calls Tryz.prog 35 #[.pointer (some ⟨gm,0,none⟩),.agg #[.int .i64 v.k,.int .i64 v.n,.float .f64 v.f,.string v.s,.int .i64 v.r]] W fun e w'=>e=.returned (.string tx)∧Below W.heap.size W w'):=HTo
 clear hc hn hr hm htk ht hcr HQ HTo
 go_enter Tryz.func186,Tryz.ntmps186
 go_wp2_with fail
 refine (empty0_any gn gf c _ k0 HC.out hlow).mono ?_
 rintro e w1 ⟨rfl,hc1,hb1⟩
 have hn1:w1.heap[gn]?=some (Ct0 hd):=hb1.blk HN.out (by simp;exact ne_ty HN.out HC.out (by decide))
 have n0:w1.cell? ⟨gn,0,none⟩=some (.int .i64 0):=by rw[blk_cell hn1];rfl
 have n1:w1.cell? ⟨gn,1,none⟩=some (.int .i64 hd):=by rw[blk_cell hn1];rfl
 have n2:w1.cell? ⟨gn,2,none⟩=some (.int .i64 0):=by rw[blk_cell hn1];rfl
 have c9:w1.cell? ⟨gf,9,none⟩=some (.int .i64 c.at'):=by rw[hc1.cell 9 (by omega)];rfl
 have c10:w1.cell? ⟨gf,10,none⟩=some (.int .i64 c.next):=by rw[hc1.cell 10 (by omega)];rfl
 have c11:w1.cell? ⟨gf,11,none⟩=some (.int .i64 c.line):=by rw[hc1.cell 11 (by omega)];rfl
 have z:=blk_frozen hc1
 obtain⟨W3,hW3⟩:∃W3,((w1.setCell ⟨gf,11,none⟩ (.int .i64 0)).setCell ⟨gf,9,none⟩ (.int .i64 hd)).setCell ⟨gf,10,none⟩ (.int .i64 hd)=W3:=⟨_,rfl⟩
 have hc3:CallAt W3 gf (hc0 c hd):=by
  rw[←hW3]
  have h9:=blk_set (blk_set (blk_set hc1 11 (.int .i64 0)) 9 (.int .i64 hd)) 10 (.int .i64 hd)
  rw[CallD.set_line,CallD.set_at,CallD.set_next]at h9
  exact h9
 have hb3:ButL [gf] w W3:=by rw[←hW3];exact ((hb1.set (by simp) _ _).set (by simp) _ _).set (by simp) _ _
 have HC3:Hid (CallAt W3 gf (hc0 c hd)):=hc3
 have HB3:Hid (ButL [gf] w W3):=hb3
 have HR3:Hid (W3.heap[gr]?=some (ThG v s)):=hb3.blk HR.out (by simp;exact ne_ty HR.out HC.out (by decide))
 have HM3:Hid (MachAt W3 gm m):=HM.out.but hb3 (by simp;exact ne_ty HM.out HC.out (by decide))
 have HT3:Hid (TkAt W3 gt gc gf):=tk_but HT.out HTa.out HCa.out hb3 (by simp;exact ne_ty HTa.out HC.out (by decide)) (by simp;exact ne_ty HCa.out HC.out (by decide))
 clear hc1 hb1 k0 hn1 hc3 hb3
 go_wp2_with fail
 go_region
 clear hW3 n0 n1 n2 c9 c10 c11 z
 have r0:W3.cell? ⟨gr,0,none⟩=some (.int .i64 v.k):=by rw[blk_cell HR3.out];rfl
 have r1:W3.cell? ⟨gr,1,none⟩=some (.int .i64 v.n):=by rw[blk_cell HR3.out];rfl
 have r2:W3.cell? ⟨gr,2,none⟩=some (.float .f64 v.f):=by rw[blk_cell HR3.out];rfl
 have r3:W3.cell? ⟨gr,3,none⟩=some (.string v.s):=by rw[blk_cell HR3.out];rfl
 have r4:W3.cell? ⟨gr,4,none⟩=some (.int .i64 v.r):=by rw[blk_cell HR3.out];rfl
 have c11:W3.cell? ⟨gf,11,none⟩=some (.int .i64 0):=by rw[HC3.out.cell 11 (by omega)];rfl
 go_wp2_with fail
 go_cut [9] from 36 to 47 (fun s9 wx=>∃wk,s9=.nilIface∧Hid (ButL [gf] w wk∧CallAt wk gf (hc0 c hd)∧ButL S wk wx∧Q wk wx))
 case first =>
  go_region_with (first | (go_at_call 35;refine (HTo'.out _ (by exact HB3.out.drew.drew)).mono ?_;rintro e w4 ⟨rfl,hx4⟩;have HX4:Hid (Below W3.heap.size W3 w4):=⟨hx4.os,hx4.tape,hx4.output,hx4.size,hx4.block⟩;have d11:w4.cell? ⟨gf,11,none⟩=some (.int .i64 0):=cell_later HX4.out c11;clear hx4) | (go_at_call 137;refine (tell_g gm gt gc gf ⟨5,0,tx⟩ m (hc0 c hd) .nilIface (fun w'=>∃n,ButL S (w4.drewN n) w'∧Q (w4.drewN n) w') w4 (HM3.out.later HX4.out) hrn (HT3.out.later HX4.out) (HC3.out.later HX4.out) hp (fun n=>(HQ'.out (w4.drewN n) ((HB3.out.thenB HX4.out).drewN n) ((HC3.out.later HX4.out).drewN n)).mono (fun e w' h=>⟨h.1,n,h.2⟩))).mono ?_;rintro e w5 ⟨rfl,n5,hq⟩;have HQ5:Hid (ButL S (w4.drewN n5) w5∧Q (w4.drewN n5) w5):=hq;clear hq))
  all_goals
   skip
   go_wp2_with fail
   go_meet
   exact⟨w4.drewN n5,rfl,(HB3.out.thenB HX4.out).drewN n5,(HC3.out.later HX4.out).drewN n5,HQ5.out⟩
 case rest =>
  obtain⟨wk,rfl,HK⟩:=hcut
  clear r0 r1 r2 r3 r4 c11
  obtain⟨w5v,rfl⟩:∃w5v,w5v=wc:=⟨_,rfl⟩
  have hb5:=HK.out.2.2.1
  have hr5:w5v.heap[gr]?=some (ThG v s):=hb5.blk (HK.out.1.blk HR.out (by simp;exact ne_ty HR.out HC.out (by decide))) s3
  have hn5:w5v.heap[gn]?=some (Ct0 hd):=hb5.blk (HK.out.1.blk HN.out (by simp;exact ne_ty HN.out HC.out (by decide))) s2
  have hc5:CallAt w5v gf (hc0 c hd):=HK.out.2.1.but hb5 s1
  have HR5:Hid (w5v.heap[gr]?=some (ThG v s)):=hr5
  have HN5:Hid (w5v.heap[gn]?=some (Ct0 hd)):=hn5
  have HC5:Hid (CallAt w5v gf (hc0 c hd)):=hc5
  have r0:w5v.cell? ⟨gr,0,none⟩=some (.int .i64 v.k):=by rw[blk_cell hr5];rfl
  have r1:w5v.cell? ⟨gr,1,none⟩=some (.int .i64 v.n):=by rw[blk_cell hr5];rfl
  have r2:w5v.cell? ⟨gr,2,none⟩=some (.float .f64 v.f):=by rw[blk_cell hr5];rfl
  have r3:w5v.cell? ⟨gr,3,none⟩=some (.string v.s):=by rw[blk_cell hr5];rfl
  have r4:w5v.cell? ⟨gr,4,none⟩=some (.int .i64 v.r):=by rw[blk_cell hr5];rfl
  have n0:w5v.cell? ⟨gn,0,none⟩=some (.int .i64 0):=by rw[blk_cell hn5];rfl
  clear hb5 hr5 hn5 hc5
  go_wp2_with fail
  go_cut [] from 51 to 61 (fun wx=>Hid (CallAt wx gf { hc0 c hd with regs:=(List.replicate 250 sd0).set 0 (sdV v) }∧ButL [gf] w5v wx))
  case first =>
   go_region_with (go_at_call 99;refine (put_any gf 0 v (hc0 c hd) w5v.drew HC5.out List.length_replicate (by omega)).mono ?_;rintro e w6 ⟨rfl,hc6,hb6⟩;have HC6:Hid (CallAt w6 gf { hc0 c hd with regs:=(List.replicate 250 sd0).set 0 (sdV v) }):=hc6;have HB6:Hid (ButL [gf] w5v w6):=hb6.undrew;clear hc6 hb6)
   all_goals
    go_wp2_with fail
    go_meet
    exact⟨HC6.out,HB6.out⟩
  case rest =>
   have HC6:Hid (CallAt wc gf { hc0 c hd with regs:=(List.replicate 250 sd0).set 0 (sdV v) }):=hcut.out.1
   have HB6:Hid (ButL [gf] w5v wc):=hcut.out.2
   have hr6:wc.heap[gr]?=some (ThG v s):=HB6.out.blk HR5.out (by simp;exact ne_ty HR.out HC.out (by decide))
   have hn6:wc.heap[gn]?=some (Ct0 hd):=HB6.out.blk HN5.out (by simp;exact ne_ty HN.out HC.out (by decide))
   have q5:wc.cell? ⟨gr,5,none⟩=some (.string s):=by rw[blk_cell hr6];rfl
   have q0:wc.cell? ⟨gn,0,none⟩=some (.int .i64 0):=by rw[blk_cell hn6];rfl
   clear hr6 hn6 hcut r0 r1 r2 r3 r4 n0
   go_wp2_with fail
   go_region_with (first | (go_at_call 102;refine (strValue_any s _).mono ?_;rintro e w7 ⟨rfl,hx7⟩;have HX7:Hid (Below wc.heap.size wc w7):=und1' hx7;have t0:w7.cell? ⟨gn,0,none⟩=some (.int .i64 0):=cell_later HX7.out q0;clear hx7) | (go_at_call 99;refine (put_any gf 1 (strD s) { hc0 c hd with regs:=(List.replicate 250 sd0).set 0 (sdV v) } w7 (HC6.out.later HX7.out) (by show ((List.replicate 250 sd0).set 0 _).length=250;rw[List.length_set];exact List.length_replicate) (by omega)).mono ?_;rintro e w8 ⟨rfl,hc8,hb8⟩;have HC8:Hid (CallAt w8 gf { hc0 c hd with regs:=((List.replicate 250 sd0).set 0 (sdV v)).set 1 (sdV (strD s)) }):=hc8;have HB8:Hid (ButL [gf] w7 w8):=hb8;clear hc8 hb8))
   all_goals
    go_wp2_with fail
    go_ret
    exact⟨rfl,wk,w5v,HK.out.1,HK.out.2.1,HK.out.2.2.1,HK.out.2.2.2,HC8.out,(HB6.out.thenB HX7.out).trans HB8.out⟩
end Go.Proofs.YtliahjnnbbgooaaGreatDoor.J
namespace Go.Proofs.YtliahjnnbbgooaaGreatDoor.U
open Go.RowKit M T
attribute [local go_sem] run_store_float
theorem loadc_any (pm:Value) (g i j cb co cn ccap:Nat) (v:VD) (n:ID) (c:CallD) (w:World) (h:CallAt w g c) (hr:c.regs.length=250) (hop:n.op=4) (ha:n.a=i) (hi:i<250) (hb0:n.b=(j:Int)) (hj:j<cn)
  (hcon:c.consts=.slice (some ⟨cb,co,none⟩) cn ccap) (hlt:cb<w.heap.size) (hcv:∀q u,v.cells[q]?=some u→w.cell? ⟨cb,co+j*5+q,none⟩=some u) :
  Calls Tryz.prog 54 #[pm,.pointer (some ⟨g,0,none⟩),insV n] w fun e w'=>e=.returned .nilIface∧CallAt w' g { c with regs:=c.regs.set i (sdV v) }∧ButL [g] w w':=by
 obtain⟨op,a,b,cc,d⟩:=n
 dsimp only[insV]at hop ha hb0 ⊢
 subst hop ha hb0
 obtain⟨W,hW⟩:∃W,(w.alloc (InO ⟨4,i,j,cc,d⟩)).alloc ZvO=W:=⟨_,rfl⟩
 have hb:Below w.heap.size w W:=by rw[←hW];exact bw2 _ _ _
 have b0:W.heap[w.heap.size]?=some (InO ⟨4,i,j,cc,d⟩):=by rw[←hW];exact blk_old (blk_new _ _) _
 have b1:W.heap[w.heap.size+1]?=some ZvO:=by rw[←hW];exact blk_newn (by simp) _
 have h':=h.later hb
 have hgl:=blk_lt h
 have c7:W.cell? ⟨g,7,none⟩=some (.slice (some ⟨cb,co,none⟩) cn ccap):=by rw[h'.cell 7 (by omega),←hcon];rfl
 have d0:W.cell? ⟨w.heap.size,0,none⟩=some (.int .i64 4):=by rw[blk_cell b0];rfl
 have d1:W.cell? ⟨w.heap.size,1,none⟩=some (.int .i64 (i:Int)):=by rw[blk_cell b0];rfl
 have d2:W.cell? ⟨w.heap.size,2,none⟩=some (.int .i64 (j:Int)):=by rw[blk_cell b0];rfl
 have r0:W.cell? ⟨w.heap.size+1,0,none⟩=some (.int .i64 0):=by rw[blk_cell b1];rfl
 have r1:W.cell? ⟨w.heap.size+1,1,none⟩=some (.int .i64 0):=by rw[blk_cell b1];rfl
 have r2:W.cell? ⟨w.heap.size+1,2,none⟩=some (.float .f64 0):=by rw[blk_cell b1];rfl
 have r3:W.cell? ⟨w.heap.size+1,3,none⟩=some (.string ⟨#[]⟩):=by rw[blk_cell b1];rfl
 have r4:W.cell? ⟨w.heap.size+1,4,none⟩=some (.int .i64 0):=by rw[blk_cell b1];rfl
 have z1:=blk_frozen b1
 have k0:W.cell? ⟨cb,co+j*5,none⟩=some (.int .i64 v.k):=cell_later hb (hcv 0 _ rfl)
 have k1:W.cell? ⟨cb,co+j*5+1,none⟩=some (.int .i64 v.n):=cell_later hb (hcv 1 _ rfl)
 have k2:W.cell? ⟨cb,co+j*5+2,none⟩=some (.float .f64 v.f):=cell_later hb (hcv 2 _ rfl)
 have k3:W.cell? ⟨cb,co+j*5+3,none⟩=some (.string v.s):=cell_later hb (hcv 3 _ rfl)
 have k4:W.cell? ⟨cb,co+j*5+4,none⟩=some (.int .i64 v.r):=cell_later hb (hcv 4 _ rfl)
 have hne:w.heap.size+1≠g:=by omega
 obtain⟨W5,hW5⟩:∃W5,((((W.setCell ⟨w.heap.size+1,0,none⟩ (.int .i64 v.k)).setCell ⟨w.heap.size+1,1,none⟩ (.int .i64 v.n)).setCell ⟨w.heap.size+1,2,none⟩ (.float .f64 v.f)).setCell ⟨w.heap.size+1,3,none⟩ (.string v.s)).setCell ⟨w.heap.size+1,4,none⟩ (.int .i64 v.r)=W5:=⟨_,rfl⟩
 have hb5:W5.heap[w.heap.size+1]?=some (vO v):=by
  rw[←hW5]
  exact blk_set (blk_set (blk_set (blk_set (blk_set b1 0 _) 1 _) 2 _) 3 _) 4 _
 have hc5:CallAt W5 g c:=by rw[←hW5];exact blk5 h' hne _ _ _ _ _
 have hi5:W5.heap[w.heap.size]?=some (InO ⟨4,i,j,cc,d⟩):=by rw[←hW5];exact blk5 b0 (by omega) _ _ _ _ _
 have hx5:ButL [g] w W5:=by rw[←hW5];exact but5 (ButL.of_below hb) (by omega) _ _ _ _ _
 obtain⟨e0,e1,e2,e3,e4⟩:=vO_cells hb5
 have e5:W5.cell? ⟨w.heap.size,1,none⟩=some (.int .i64 (i:Int)):=by rw[blk_cell hi5];rfl
 have HC5:Hid (CallAt W5 g c):=hc5
 have HX5:Hid (ButL [g] w W5):=hx5
 have hcp:(j:Int)<(cn:Int):=by omega
 have hcq:(0:Int)≤(j:Int):=by omega
 clear h h' hb b0 b1 hb5 hc5 hi5 hx5 hcv
 go_enter Tryz.func54,Tryz.ntmps54
 go_wp2_with fail
 clear hW
 go_region
 clear r0 r1 r2 r3 r4 k0 k1 k2 k3 k4 d0 d1 d2 z1 c7
 go_wp2_with fail
 refine (put_any g i v c W5.drew HC5.out hr hi).mono ?_
 rintro e w6 ⟨rfl,hc6,hb6⟩
 have HC6:Hid _:=hc6
 have HB6:Hid _:=hb6
 clear hc6 hb6
 go_wp2_with fail
 go_ret
 exact⟨rfl,HC6.out,HX5.out.drew.trans HB6.out⟩
theorem loadm_any (pm:Value) (g i j:Nat) (h0:Int) (v:VD) (pb la:Option Addr) (ln lc:Nat) (n:ID) (c:CallD) (w:World) (h:CallAt w g c) (hr:c.regs.length=250) (hop:n.op=5) (ha:n.a=i) (hi:i<250) (hb0:n.b=(j:Int)) (hj:j<250)
  (hs:c.regs[j]?=some ⟨h0,v,.pointer pb,.slice la ln lc⟩) :
  Calls Tryz.prog 54 #[pm,.pointer (some ⟨g,0,none⟩),insV n] w fun e w'=>e=.returned .nilIface∧CallAt w' g { c with regs:=c.regs.set i (sdV v) }∧ButL [g] w w':=by
 obtain⟨op,a,b,cc,d⟩:=n
 dsimp only[insV]at hop ha hb0 ⊢
 subst hop ha hb0
 obtain⟨W,hW⟩:∃W,(w.alloc (InO ⟨5,i,j,cc,d⟩)).alloc ZvO=W:=⟨_,rfl⟩
 have hb:Below w.heap.size w W:=by rw[←hW];exact bw2 _ _ _
 have b0:W.heap[w.heap.size]?=some (InO ⟨5,i,j,cc,d⟩):=by rw[←hW];exact blk_old (blk_new _ _) _
 have b1:W.heap[w.heap.size+1]?=some ZvO:=by rw[←hW];exact blk_newn (by simp) _
 have hgl:=blk_lt h
 have d0:W.cell? ⟨w.heap.size,0,none⟩=some (.int .i64 5):=by rw[blk_cell b0];rfl
 have d2:W.cell? ⟨w.heap.size,2,none⟩=some (.int .i64 (j:Int)):=by rw[blk_cell b0];rfl
 have HB:Hid (Below w.heap.size w W):=hb
 have HI:Hid (W.heap[w.heap.size]?=some (InO ⟨5,i,j,cc,d⟩)):=b0
 have HZ:Hid (W.heap[w.heap.size+1]?=some ZvO):=b1
 have HC:Hid (CallAt W g c):=h.later hb
 clear h hb b0 b1
 go_enter Tryz.func54,Tryz.ntmps54
 go_wp2_with fail
 clear hW
 refine (value_pos g j h0 v pb la ln lc c _ HC.out hr hj hs).mono ?_
 rintro e w1 ⟨rfl,hx⟩
 have b1:=blk_later hx HZ.out
 have b0:=blk_later hx HI.out
 have r0:w1.cell? ⟨w.heap.size+1,0,none⟩=some (.int .i64 0):=by rw[blk_cell b1];rfl
 have r1:w1.cell? ⟨w.heap.size+1,1,none⟩=some (.int .i64 0):=by rw[blk_cell b1];rfl
 have r2:w1.cell? ⟨w.heap.size+1,2,none⟩=some (.float .f64 0):=by rw[blk_cell b1];rfl
 have r3:w1.cell? ⟨w.heap.size+1,3,none⟩=some (.string ⟨#[]⟩):=by rw[blk_cell b1];rfl
 have r4:w1.cell? ⟨w.heap.size+1,4,none⟩=some (.int .i64 0):=by rw[blk_cell b1];rfl
 have z1:=blk_frozen b1
 have hne:w.heap.size+1≠g:=by omega
 have h1:CallAt w1 g c:=HC.out.later hx
 have hbw:Below w.heap.size w w1:=HB.out.trans (hx.mono HB.out.size)
 obtain⟨W5,hW5⟩:∃W5,((((w1.setCell ⟨w.heap.size+1,0,none⟩ (.int .i64 v.k)).setCell ⟨w.heap.size+1,1,none⟩ (.int .i64 v.n)).setCell ⟨w.heap.size+1,2,none⟩ (.float .f64 v.f)).setCell ⟨w.heap.size+1,3,none⟩ (.string v.s)).setCell ⟨w.heap.size+1,4,none⟩ (.int .i64 v.r)=W5:=⟨_,rfl⟩
 have hb5:W5.heap[w.heap.size+1]?=some (vO v):=by
  rw[←hW5]
  exact blk_set (blk_set (blk_set (blk_set (blk_set b1 0 _) 1 _) 2 _) 3 _) 4 _
 have hc5:CallAt W5 g c:=by rw[←hW5];exact blk5 h1 hne _ _ _ _ _
 have hi5:W5.heap[w.heap.size]?=some (InO ⟨5,i,j,cc,d⟩):=by rw[←hW5];exact blk5 b0 (by omega) _ _ _ _ _
 have hx5:ButL [g] w W5:=by rw[←hW5];exact but5 (ButL.of_below hbw) (by omega) _ _ _ _ _
 obtain⟨e0,e1,e2,e3,e4⟩:=vO_cells hb5
 have e5:W5.cell? ⟨w.heap.size,1,none⟩=some (.int .i64 (i:Int)):=by rw[blk_cell hi5];rfl
 have HC5:Hid (CallAt W5 g c):=hc5
 have HX5:Hid (ButL [g] w W5):=hx5
 clear hx h1 hbw b0 b1 hb5 hc5 hi5 hx5 d0 d2
 go_wp2_with fail
 refine (put_any g i v c _ HC5.out hr hi).mono ?_
 rintro e w6 ⟨rfl,hc6,hb6⟩
 have HC6:Hid _:=hc6
 have HB6:Hid _:=hb6
 clear hc6 hb6
 go_wp2_with fail
 go_ret
 exact⟨rfl,HC6.out,HX5.out.trans HB6.out⟩
end Go.Proofs.YtliahjnnbbgooaaGreatDoor.U
