import Derived.Test.YtliahjnnbbgooaaGreatDoorP30
import Derived.Deep.CutRange
import Derived.Test.YtliahjnnbbgooaaGreatDoorP29
import Derived.Test.YtliahjnnbbgooaaGreatDoorP28
import Derived.Test.YtliahjnnbbgooaaGreatDoorP08
import Derived.LaidEql
import Derived.Test.YtliahjnnbbgooaaGreatDoorP10
import Derived.Deep.WholeRow
set_option linter.unusedVariables false
set_option linter.unusedSimpArgs false
set_option maxRecDepth 20000
set_option maxHeartbeats 8000000
namespace Go.Proofs.YtliahjnnbbgooaaGreatDoor.T
open Go.RowKit M
attribute [local go_sem] run_store_float
structure ThR (w:World) (gm gt gc gf bp op capP:Nat) (m:MachD) (c:CallD):Prop where
 mac:MachAt w gm m
 run:m.running=.pointer (some ⟨gt,0,none⟩)
 tk:TkAt w gt gc gf
 cal:CallAt w gf c
 pro:c.proto=0
 lin:c.line=0
 prs:m.protos=.slice (some ⟨bp,op,none⟩) 1 capP
 nam:w.cell? ⟨bp,op,none⟩=some (.string ⟨#[109,97,105,110]⟩)
theorem ThR.later {w w':World} {gm gt gc gf bp op capP:Nat} {m:MachD} {c:CallD} (h:ThR w gm gt gc gf bp op capP m c) (hb:Below w.heap.size w w'):ThR w' gm gt gc gf bp op capP m c :=
 ⟨h.mac.later hb,h.run,h.tk.later hb,h.cal.later hb,h.pro,h.lin,h.prs,cell_later hb h.nam⟩
theorem und1' {w w':World} (h:Below w.drew.heap.size w.drew w'):Below w.heap.size w w':=⟨h.os,h.tape,h.output,h.size,h.block⟩
theorem bdN {B:Nat} {w w':World} (n:Nat) (h:Below B w w'):Below B w (w'.drewN n):=⟨h.os,h.tape,h.output,h.size,h.block⟩
end Go.Proofs.YtliahjnnbbgooaaGreatDoor.T
namespace Go.Proofs.YtliahjnnbbgooaaGreatDoor.T
open Go.RowKit M
attribute [local go_sem] run_store_float
theorem run_fldS (h0:Int) (v:VD) (pb la:Option Addr) (ln lc:Nat) (w:World):(Instr.field 149 (.agg #[.int .i64 h0,.int .i64 v.k,.int .i64 v.n,.float .f64 v.f,.string v.s,.int .i64 v.r,.pointer pb,.slice la ln lc]) 1).run Tryz.prog w=.ok (.agg #[.int .i64 v.k,.int .i64 v.n,.float .f64 v.f,.string v.s,.int .i64 v.r]) w:=by kernel_rfl
theorem operand_pos (g i:Nat) (h0:Int) (v:VD) (pb la:Option Addr) (ln lc:Nat) (c:CallD) (w:World) (h:CallAt w g c) (hr:c.regs.length=250) (hi:i<250) (hs:c.regs[i]?=some ⟨h0,v,.pointer pb,.slice la ln lc⟩) :
  Calls Tryz.prog 140 #[.pointer (some ⟨g,0,none⟩),.int .i64 (i:Int)] w fun e w'=>e=.returned (.agg #[.int .i64 h0,.int .i64 v.k,.int .i64 v.n,.float .f64 v.f,.string v.s,.int .i64 v.r,.pointer pb,.slice la ln lc])∧Below w.heap.size w w':=by
 have hx0:(0:Int)≤(i:Int):=by omega
 have hx1:(i:Int)<250:=by omega
 obtain⟨W,hW⟩:∃W,w.alloc (.cells #[.int .i64 0,.int .i64 0,.int .i64 0,.float .f64 0,.string ⟨#[]⟩,.int .i64 0,.pointer none,.slice none 0 0] 149)=W:=⟨_,rfl⟩
 have hb:Below w.heap.size w W:=by rw[←hW];exact bw1 _ _
 have bn:W.heap[w.heap.size]?=some (.cells #[.int .i64 0,.int .i64 0,.int .i64 0,.float .f64 0,.string ⟨#[]⟩,.int .i64 0,.pointer none,.slice none 0 0] 149):=by rw[←hW];exact blk_new _ _
 have h':=h.later hb
 have c0:W.cell? ⟨g,14+i*8,none⟩=some (.int .i64 h0):=by have:=h'.reg hs (j:=0) rfl;simpa using this
 have c1:W.cell? ⟨g,14+i*8+1,none⟩=some (.int .i64 v.k):=by have:=h'.reg hs (j:=1) rfl;rwa [←Nat.add_assoc]at this
 have c2:W.cell? ⟨g,14+i*8+2,none⟩=some (.int .i64 v.n):=by have:=h'.reg hs (j:=2) rfl;rwa [←Nat.add_assoc]at this
 have c3:W.cell? ⟨g,14+i*8+3,none⟩=some (.float .f64 v.f):=by have:=h'.reg hs (j:=3) rfl;rwa [←Nat.add_assoc]at this
 have c4:W.cell? ⟨g,14+i*8+4,none⟩=some (.string v.s):=by have:=h'.reg hs (j:=4) rfl;rwa [←Nat.add_assoc]at this
 have c5:W.cell? ⟨g,14+i*8+5,none⟩=some (.int .i64 v.r):=by have:=h'.reg hs (j:=5) rfl;rwa [←Nat.add_assoc]at this
 have c6:W.cell? ⟨g,14+i*8+6,none⟩=some (.pointer pb):=by have:=h'.reg hs (j:=6) rfl;rwa [←Nat.add_assoc]at this
 have c7:W.cell? ⟨g,14+i*8+7,none⟩=some (.slice la ln lc):=by have:=h'.reg hs (j:=7) rfl;rwa [←Nat.add_assoc]at this
 have d0:W.cell? ⟨w.heap.size,0,none⟩=some (.int .i64 0):=by rw[blk_cell bn];rfl
 have d1:W.cell? ⟨w.heap.size,1,none⟩=some (.int .i64 0):=by rw[blk_cell bn];rfl
 have d2:W.cell? ⟨w.heap.size,2,none⟩=some (.int .i64 0):=by rw[blk_cell bn];rfl
 have d3:W.cell? ⟨w.heap.size,3,none⟩=some (.float .f64 0):=by rw[blk_cell bn];rfl
 have d4:W.cell? ⟨w.heap.size,4,none⟩=some (.string ⟨#[]⟩):=by rw[blk_cell bn];rfl
 have d5:W.cell? ⟨w.heap.size,5,none⟩=some (.int .i64 0):=by rw[blk_cell bn];rfl
 have d6:W.cell? ⟨w.heap.size,6,none⟩=some (.pointer none):=by rw[blk_cell bn];rfl
 have d7:W.cell? ⟨w.heap.size,7,none⟩=some (.slice none 0 0):=by rw[blk_cell bn];rfl
 have z:=blk_frozen bn
 have HB:Hid (Below w.heap.size w W):=hb
 clear h h' hb bn
 go_enter Tryz.func140,Tryz.ntmps140
 go_wp2_with fail
 refine bodyPost_ret (v:=.agg #[.int .i64 h0,.int .i64 v.k,.int .i64 v.n,.float .f64 v.f,.string v.s,.int .i64 v.r,.pointer pb,.slice la ln lc]) (by simp[results,Tryz.results140,go_sem,d0,d1,d2,d3,d4,d5,d6,d7]) rfl ⟨rfl,?_⟩
 exact ButL.nil (((((((((ButL.of_below HB.out).setn (Nat.le_refl _) _ _).setn (Nat.le_refl _) _ _).setn (Nat.le_refl _) _ _).setn (Nat.le_refl _) _ _).setn (Nat.le_refl _) _ _).setn (Nat.le_refl _) _ _).setn (Nat.le_refl _) _ _).setn (Nat.le_refl _) _ _)
abbrev ZvO:Obj:=.cells #[.int .i64 0,.int .i64 0,.float .f64 0,.string ⟨#[]⟩,.int .i64 0] 49
theorem value_pos (g i:Nat) (h0:Int) (v:VD) (pb la:Option Addr) (ln lc:Nat) (c:CallD) (w:World) (h:CallAt w g c) (hr:c.regs.length=250) (hi:i<250) (hs:c.regs[i]?=some ⟨h0,v,.pointer pb,.slice la ln lc⟩) :
  Calls Tryz.prog 138 #[.pointer (some ⟨g,0,none⟩),.int .i64 (i:Int)] w fun e w'=>e=.returned (.agg #[.int .i64 v.k,.int .i64 v.n,.float .f64 v.f,.string v.s,.int .i64 v.r])∧Below w.heap.size w w':=by
 have hF:=run_fldS h0 v pb la ln lc
 have HC:Hid (CallAt (w.alloc ZvO) g c):=h.later (bw1 _ _)
 clear h
 go_enter Tryz.func138,Tryz.ntmps138
 go_wp2_with fail
 refine (operand_pos g i h0 v pb la ln lc c _ HC.out hr hi hs).mono ?_
 rintro e w1 ⟨rfl,hx⟩
 have hr3:=blk_later hx (blk_new w ZvO)
 have r0:w1.cell? ⟨w.heap.size,0,none⟩=some (.int .i64 0):=by rw[blk_cell hr3];rfl
 have r1:w1.cell? ⟨w.heap.size,1,none⟩=some (.int .i64 0):=by rw[blk_cell hr3];rfl
 have r2:w1.cell? ⟨w.heap.size,2,none⟩=some (.float .f64 0):=by rw[blk_cell hr3];rfl
 have r3:w1.cell? ⟨w.heap.size,3,none⟩=some (.string ⟨#[]⟩):=by rw[blk_cell hr3];rfl
 have r4:w1.cell? ⟨w.heap.size,4,none⟩=some (.int .i64 0):=by rw[blk_cell hr3];rfl
 have z3:=blk_frozen hr3
 have HB:Hid (Below w.heap.size w w1):=(bw1 _ _).trans (hx.mono (by simp))
 clear hx hr3
 go_wp2_with fail
 refine bodyPost_ret (v:=.agg #[.int .i64 v.k,.int .i64 v.n,.float .f64 v.f,.string v.s,.int .i64 v.r]) (by simp[results,Tryz.results138,go_sem,r0,r1,r2,r3,r4]) rfl ⟨rfl,?_⟩
 exact ButL.nil (but5 (ButL.of_below HB.out) (Nat.le_refl _) _ _ _ _ _)
end Go.Proofs.YtliahjnnbbgooaaGreatDoor.T
namespace Go.Proofs.YtliahjnnbbgooaaGreatDoor.T
open Go.RowKit M
attribute [local go_sem] run_store_float
theorem step_clear_run {P:Program} {ops:Array Oper} {o:Oper} {a:Act} {w:World} {K:Act→World→Prop} {Q:Exit→Act→World→Prop} {E:Prop}
  (hg:o.guard=none) (s:Operand) (t:TypeId) (hop:o.op=Op.call { callee:=Callee.builtin Builtin.clear,args:=#[s],argTypes:=#[t] })
  (sv v':Value) (w':World) (hs:a.eval s=sv) (hrun:(Builtin.clear_ #[t] o.type #[sv]).run P w=.ok v' w') (hK:K (a.put o.dst v') w') :
  if Region.wanted o (yielded ops a.tmps)=true then Oper.wp P o a w K Q else E:=by
 have hw:Region.wanted o (yielded ops a.tmps)=true:=by simp[Region.wanted,hg]
 rw[if_pos hw]
 unfold Oper.wp
 simp[execOp,hop,resolve,invoke,builtin,hs,hrun,Result.andThen]
 exact hK
theorem blk_putl {g:Nat} {t:TypeId}:∀(vs:List Value) {w:World} {ar:Array Value} (o:Nat),w.heap[g]?=some (.cells ar t)→(w.setCells g o vs).heap[g]?=some (.cells (putl ar o vs) t)
 | [],_,_,_,h=>h
 | v :: vs,_,_,o,h=>blk_putl vs (o+1) (blk_set h o v)
theorem but_setCells {S:List Nat} {g:Nat} (hg:g∈S):∀(vs:List Value) {a w:World} (o:Nat),ButL S a w→ButL S a (w.setCells g o vs)
 | [],_,_,_,h=>h
 | v :: vs,_,_,o,h=>but_setCells hg vs (o+1) (h.set hg o v)
def zs4:List Value:=(List.replicate 246 sd0).flatMap SD.cells
theorem zs4_len:zs4.length=1968:=by
 unfold zs4
 rw[List.length_flatMap,List.map_replicate,List.sum_replicate_nat]
 rfl
def z8:Array Value:=#[.int .i64 0,.int .i64 0,.int .i64 0,.float .f64 0,.string ⟨#[]⟩,.int .i64 0,.pointer none,.slice none 0 0]
theorem z8_at:∀m,m<8→∃v,sd0.cells[m]?=some v∧z8[m]! = v
 | 0,_=>⟨_,rfl,rfl⟩
 | 1,_=>⟨_,rfl,rfl⟩
 | 2,_=>⟨_,rfl,rfl⟩
 | 3,_=>⟨_,rfl,rfl⟩
 | 4,_=>⟨_,rfl,rfl⟩
 | 5,_=>⟨_,rfl,rfl⟩
 | 6,_=>⟨_,rfl,rfl⟩
 | 7,_=>⟨_,rfl,rfl⟩
 | n+8,h=>absurd h (by omega)
theorem zeros4:(Builtin.zeroCells z8 246).toList=zs4:=by
 have hs:z8.size=8:=rfl
 apply List.ext_getElem?
 intro n
 by_cases hn:n<1968
 ·obtain⟨v,h1,h2⟩:=z8_at (n % 8) (Nat.mod_lt _ (by omega))
  have h3:=flat_at SD.cells 8 (List.replicate 246 sd0) (n / 8) (n % 8) sd0 v (fun y _=>sd_len y) (by rw[List.getElem?_replicate,if_pos (by omega)]) h1
  rw[show n / 8*8+n % 8=n by omega]at h3
  unfold zs4
  rw[h3]
  unfold Builtin.zeroCells
  rw[Array.getElem?_toList,Array.getElem?_map,hs,Array.getElem?_range,if_pos (by omega)]
  simp only[Option.map_some]
  rw[h2]
 ·have h1:zs4[n]?=none:=List.getElem?_eq_none (by rw[zs4_len];omega)
  have h2:(Builtin.zeroCells z8 246).toList[n]?=none:=by
   apply List.getElem?_eq_none
   unfold Builtin.zeroCells
   rw[Array.length_toList,Array.size_map,Array.size_range,hs]
   omega
  rw[h1,h2]
theorem zero_slot:∃z:Value,(∀w,(zeroValue 149).run Tryz.prog w=.ok z w)∧(Builtin.zeroCells z.cells 246).toList=zs4 :=
 ⟨.agg z8,fun w=>by kernel_rfl,zeros4⟩
theorem zs4_one:∀u∈zs4,u.oneCell'=true:=by
 intro u hu
 obtain⟨s,hs,hu⟩:=List.mem_flatMap.1 hu
 rw[List.eq_of_mem_replicate hs]at hu
 simp only[SD.cells,sd0,vd0,List.mem_cons,List.not_mem_nil,or_false]at hu
 rcases hu with rfl | rfl | rfl | rfl | rfl | rfl | rfl | rfl<;>rfl
def Low (c:CallD):Prop:=c.regs.length=250∧c.regs.drop 4=List.replicate 246 sd0
theorem Low.put {c:CallD} (h:Low c):putl c.arr 46 zs4=c.arr:=by
 obtain⟨h1,h2⟩:=h
 have e:c.arr=(c.hd++(c.regs.take 4).flatMap SD.cells++(zs4++[])).toArray:=by
  unfold CallD.arr
  congr 1
  rw[List.append_nil,List.append_assoc]
  congr 1
  have e1:c.regs=c.regs.take 4++List.replicate 246 sd0:=by rw[←h2,List.take_append_drop]
  conv=>lhs;rw[e1]
  rw[List.flatMap_append]
  rfl
 have hl:(c.hd++(c.regs.take 4).flatMap SD.cells).length=46:=by
  have h3:(c.regs.take 4).length=4:=by rw[List.length_take,h1];rfl
  rw[List.length_append,List.length_flatMap]
  match hq:c.regs.take 4,h3 with
  | [a,b,c',d],_=>simp[sd_len];rfl
 rw[e,putl_toArray]
 have:=setL_mid zs4 (c.hd++(c.regs.take 4).flatMap SD.cells) zs4 [] rfl
 rw[hl]at this
 rw[this]
theorem Low.size {c:CallD} (hl:Low c):c.arr.size=2014:=by
 unfold CallD.arr
 rw[List.size_toArray,List.length_append,List.length_flatMap]
 have e1:c.regs.map (fun a=>a.cells.length)=List.replicate 250 8:=by
  rw[←hl.1]
  apply List.ext_getElem?
  intro n
  rw[List.getElem?_map,List.getElem?_replicate]
  by_cases hn:n<c.regs.length
  ·rw[if_pos hn,List.getElem?_eq_getElem hn];rfl
  ·rw[if_neg hn,List.getElem?_eq_none (by omega)];rfl
 rw[e1,List.sum_replicate_nat]
 show 14+250*8=2014
 omega
theorem run_clear_n (w w':World) (g o n cp:Nat) (ty:TypeId) (z:Value) (zs:List Value) (hz:∀w,(zeroValue 149).run Tryz.prog w=.ok z w) (hzl:(Builtin.zeroCells z.cells (n+1)).toList=zs) (hst:(storeCells ⟨g,o,none⟩ zs).run Tryz.prog w=.ok () w') :
  (Builtin.clear_ #[369] ty #[.slice (some ⟨g,o,none⟩) (n+1) cp]).run Tryz.prog w=.ok (.tuple #[]) w':=by
 simp[Builtin.clear_,run_underlying Tryz.underlying369,hz,hzl,hst]
theorem run_clear4 (w:World) (g:Nat) (ty:TypeId) (c:CallD) (h:CallAt w g c) (hl:Low c):(Builtin.clear_ #[369] ty #[.slice (some ⟨g,46,none⟩) 246 246]).run Tryz.prog w=.ok (.tuple #[]) (w.setCells g 46 zs4):=by
 obtain⟨z,hz,hzl⟩:=zero_slot
 have hsz:=hl.size
 obtain⟨zs,hzs⟩:∃zs,zs4=zs:=⟨_,rfl⟩
 have hzn:zs.length=1968:=by rw[←hzs];exact zs4_len
 have hz1:∀u∈zs,u.oneCell'=true:=by rw[←hzs];exact zs4_one
 rw[hzs]at hzl ⊢
 have hst:=run_storeCells_cells (P:=Tryz.prog) g 46 zs 0 w (fun j hj=>by
   rw[hzn]at hj
   rw[blk_cell h,Array.getElem?_eq_getElem (by omega)];rfl) (fun j _=>blk_frozen h _) hz1
 simp only[Nat.add_zero]at hst
 exact run_clear_n w _ g 46 245 246 ty z zs hz hzl hst
theorem empty_any (gn gf:Nat) (c:CallD) (w:World) (hk:w.cell? ⟨gn,0,none⟩=some (.int .i64 4)) (h:CallAt w gf c) (hl:Low c) :
  Calls Tryz.prog 185 #[.pointer (some ⟨gn,0,none⟩),.pointer (some ⟨gf,0,none⟩)] w fun e w'=>e=.returned (.tuple #[])∧CallAt w' gf c∧ButL [gf] w w':=by
 have hr:=run_clear4 w.drew gf 0 c h hl
 have HE:Hid (CallAt (w.drew.setCells gf 46 zs4) gf c∧ButL [gf] w (w.drew.setCells gf 46 zs4)):=by
  refine⟨?_,but_setCells (by simp) _ _ (ButL.refl _ _).drew⟩
  have:=blk_putl zs4 (w:=w.drew) 46 h
  rw[hl.put]at this
  exact this
 obtain⟨W9,hW9⟩:∃W9,w.drew.setCells gf 46 zs4=W9:=⟨_,rfl⟩
 rw[hW9]at hr HE
 have HR:Hid _:=hr
 clear h hl hr hW9
 go_enter Tryz.func185,Tryz.ntmps185
 go_wp2_with fail
 go_region_law (refine step_clear_run rfl _ _ rfl _ _ _ rfl HR.out ?_)
 all_goals
  go_wp2_with fail
  exact bodyPost_end (v:=.tuple #[]) (by simp[results,Tryz.results185,go_sem]) rfl ⟨rfl,HE.out⟩
end Go.Proofs.YtliahjnnbbgooaaGreatDoor.T
namespace Go.Proofs.YtliahjnnbbgooaaGreatDoor.T
open Go.RowKit M
attribute [local go_sem] run_store_float
theorem gaveStr_any (s:ByteArray) (w:World):Calls Tryz.prog 183 #[.string s] w fun e w'=>e=.returned (.agg #[.int .i64 0,.int .i64 4,.int .i64 0,.float .f64 0,.string s,.int .i64 0])∧Below w.heap.size w w':=by
 go_enter Tryz.func183,Tryz.ntmps183
 go_wp2_with fail
 exact bodyPost_ret (v:=.agg #[.int .i64 0,.int .i64 4,.int .i64 0,.float .f64 0,.string s,.int .i64 0]) (by simp[results,Tryz.results183,go_sem]) rfl ⟨rfl,bw1 _ _⟩
def strD (s:ByteArray):VD:=⟨4,0,0,s,0⟩
theorem strValue_any (s:ByteArray) (w:World):Calls Tryz.prog 102 #[.string s] w fun e w'=>e=.returned (.agg #[.int .i64 4,.int .i64 0,.float .f64 0,.string s,.int .i64 0])∧Below w.heap.size w w':=by
 have hF:=run_fldV 0 4 0 0 s 0
 go_enter Tryz.func102,Tryz.ntmps102
 go_wp2_with fail
 refine (gaveStr_any s _).mono ?_
 rintro e w1 ⟨rfl,hx⟩
 have hr3:=blk_later hx (blk_new w ZvO)
 have r0:w1.cell? ⟨w.heap.size,0,none⟩=some (.int .i64 0):=by rw[blk_cell hr3];rfl
 have r1:w1.cell? ⟨w.heap.size,1,none⟩=some (.int .i64 0):=by rw[blk_cell hr3];rfl
 have r2:w1.cell? ⟨w.heap.size,2,none⟩=some (.float .f64 0):=by rw[blk_cell hr3];rfl
 have r3:w1.cell? ⟨w.heap.size,3,none⟩=some (.string ⟨#[]⟩):=by rw[blk_cell hr3];rfl
 have r4:w1.cell? ⟨w.heap.size,4,none⟩=some (.int .i64 0):=by rw[blk_cell hr3];rfl
 have z3:=blk_frozen hr3
 have HB:Hid (Below w.heap.size w w1):=(bw1 _ _).trans (hx.mono (by simp))
 clear hx hr3
 go_wp2_with fail
 refine bodyPost_ret (v:=.agg #[.int .i64 4,.int .i64 0,.float .f64 0,.string s,.int .i64 0]) (by simp[results,Tryz.results102,go_sem,r0,r1,r2,r3,r4]) rfl ⟨rfl,?_⟩
 exact ButL.nil (but5 (ButL.of_below HB.out) (Nat.le_refl _) _ _ _ _ _)
end Go.Proofs.YtliahjnnbbgooaaGreatDoor.T
namespace Go.Proofs.YtliahjnnbbgooaaGreatDoor.T
open Go.RowKit M
attribute [local go_sem] run_store_float
theorem CallD.set_line (c:CallD) (z:Int):c.arr.setIfInBounds 11 (.int .i64 z)={ c with line:=z }.arr:=by
 unfold CallD.arr;rw[List.setIfInBounds_toArray];rfl
abbrev CtO (h l:Int):Obj:=.cells #[.int .i64 4,.int .i64 h,.int .i64 l] 230
theorem tk_but {w w':World} {S:List Nat} {gt gc gf:Nat} {ta ca:Array Value} {ut uc:TypeId} (h:TkAt w gt gc gf) (ht:w.heap[gt]?=some (.cells ta ut)) (hc:w.heap[gc]?=some (.cells ca uc)) (hb:ButL S w w') (n1:gt∉S) (n2:gc∉S):TkAt w' gt gc gf:=by
 have ht':=hb.blk ht n1
 have hc':=hb.blk hc n2
 obtain⟨⟨cap,h1,h2⟩,h3,h4⟩:=h
 refine⟨⟨cap,?_,h2⟩,?_,?_⟩
 ·rw[blk_cell ht'] ;rw[blk_cell ht]at h1;exact h1
 ·rw[blk_cell ht'] ;rw[blk_cell ht]at h3;exact h3
 ·rw[blk_cell hc'] ;rw[blk_cell hc]at h4;exact h4
def hcD (c:CallD) (hd:Int):CallD:={ c with line:=0,at':=hd,next:=hd }
end Go.Proofs.YtliahjnnbbgooaaGreatDoor.T
namespace Go.Proofs.YtliahjnnbbgooaaGreatDoor.T
open Go.RowKit M
attribute [local go_sem] run_store_float
end Go.Proofs.YtliahjnnbbgooaaGreatDoor.T
namespace Go.Proofs.YtliahjnnbbgooaaGreatDoor.M
open Go.RowKit
attribute [local go_sem] run_store_float
def vC (v:Value):List Value:=[v]
theorem vC_len (v:Value):(vC v).length=1:=rfl
abbrev CaO (n:ID) (l:Int):Obj:=.cells #[.int .i64 n.b,.int .i64 n.a,.int .i64 l] 230
def caV (gn:Nat):Value:=.iface 226 (.pointer (some ⟨gn,0,none⟩))
theorem ORow.drew {α:Type} {w:World} {B:Nat} {et:TypeId} {k:Nat} {cells:α→List Value} {sv:Value} {xs:List α} (h:ORow w B et k cells sv xs):ORow w.drew B et k cells sv xs:=h
theorem doTry_any (pm:Value) (B g:Nat) (n:ID) (c:CallD) (vs:List Value) (w:World) (h:CallAt w g c) (ho:ORow w B 277 1 vC c.guards vs) (hl:vs.length≤1000) (hB:B≤w.heap.size) :
  Calls Tryz.prog 73 #[pm,.pointer (some ⟨g,0,none⟩),insV n] w fun e w'=>e=.returned .nilIface∧∃gv gn,CallAt w' g { c with guards:=gv }∧ORow w' B 277 1 vC gv (vs++[caV gn])∧w.heap.size≤gn∧w'.heap[gn]?=some (CaO n c.line)∧ButL (g :: c.guards.ownBlock.toList) w w':=by
 obtain⟨op,a,b,cc,d⟩:=n
 dsimp only[insV]
 obtain⟨ag,cg,hgv⟩:=ho.val
 obtain⟨W,hW⟩:∃W,w.alloc (InO ⟨op,a,b,cc,d⟩)=W:=⟨_,rfl⟩
 have hb:=bw1 w (InO ⟨op,a,b,cc,d⟩)
 have bn:=blk_new w (InO ⟨op,a,b,cc,d⟩)
 have hsz:W.heap.size=w.heap.size+1:=by rw[←hW];simp
 rw[hW]at hb bn
 have h':CallAt W g c:=h.later hb
 have hgl:=blk_lt h
 have c12:W.cell? ⟨g,12,none⟩=some (.slice ag vs.length cg):=by rw[h'.cell 12 (by omega),←hgv];rfl
 have c11:W.cell? ⟨g,11,none⟩=some (.int .i64 c.line):=by rw[h'.cell 11 (by omega)];rfl
 have d1:W.cell? ⟨w.heap.size,1,none⟩=some (.int .i64 a):=by rw[blk_cell bn];rfl
 have d2:W.cell? ⟨w.heap.size,2,none⟩=some (.int .i64 b):=by rw[blk_cell bn];rfl
 have hb2:=bw2 W (CaO ⟨op,a,b,cc,d⟩ c.line) (.cells #[caV (w.heap.size+1)] 277)
 have ho2:=ORow.drew ((ho.later hb).later hb2)
 rw[hgv]at ho2
 obtain⟨g',cap',w2,hr,ho3,hg3⟩:=ho2.app 146 16 Tryz.underlying146 (by kernel_rfl) (by omega) (by omega) (caV (w.heap.size+1)) (w.heap.size+1+1) 146 (show ((W.alloc (CaO ⟨op,a,b,cc,d⟩ c.line)).alloc (.cells #[caV (w.heap.size+1)] 277)).heap[w.heap.size+1+1]?=_ from blk_newn (by simp;omega) _) rfl (by intro u hu;simp[vC]at hu;subst hu;rfl) (by omega) (by simp;omega)
 have hne:(Value.slice ag vs.length cg).ownBlock≠some g:=by
  intro e
  rw[hgv]at ho
  rcases ho.2 with ⟨e1,_⟩ | ⟨g0,c0,cur,e1,_,e3,_⟩
  ·rw[e1]at e;cases e
  ·rw[e1]at e;have e':g0=g:=Option.some.inj e;subst e';rw[show w.heap[g0]?=_ from h]at e3;cases e3
 have hx:∀(q:Nat) o,((W.alloc (CaO ⟨op,a,b,cc,d⟩ c.line)).alloc (.cells #[caV (w.heap.size+1)] 277)).heap[q]?=some o→(Value.slice ag vs.length cg).ownBlock≠some q→w2.heap[q]?=some o:=fun q o hq hn=>(hg3.block q (blk_lt hq) (fun e=>hn e.symm)).trans hq
 have h2:CallAt w2 g c:=hx g _ (blk_old (blk_old h' _) _) hne
 have p12:w2.cell? ⟨g,12,none⟩=some (.slice ag vs.length cg):=by rw[h2.cell 12 (by omega),←hgv];rfl
 have z2:=blk_frozen h2
 have hn2:w2.heap[w.heap.size+1]?=some (CaO ⟨op,a,b,cc,d⟩ c.line):=hx _ _ (blk_old (blk_newn (by omega) _) _) (fun e=>by
  rw[hgv]at ho
  rcases ho.2 with ⟨e1,_⟩ | ⟨g0,c0,cur,e1,_,e3,_⟩
  ·rw[e1]at e;cases e
  ·rw[e1]at e;have e':g0=w.heap.size+1:=Option.some.inj e;have:=blk_lt e3;omega)
 have HE:Hid (CallAt (w2.setCell ⟨g,12,none⟩ (.slice (some ⟨g',0,none⟩) (vs.length+1) cap')) g { c with guards:=.slice (some ⟨g',0,none⟩) (vs.length+1) cap' }∧ORow (w2.setCell ⟨g,12,none⟩ (.slice (some ⟨g',0,none⟩) (vs.length+1) cap')) B 277 1 vC (.slice (some ⟨g',0,none⟩) (vs.length+1) cap') (vs++[caV (w.heap.size+1)])∧w.heap.size≤w.heap.size+1∧(w2.setCell ⟨g,12,none⟩ (.slice (some ⟨g',0,none⟩) (vs.length+1) cap')).heap[w.heap.size+1]?=some (CaO ⟨op,a,b,cc,d⟩ c.line)∧ButL (g :: c.guards.ownBlock.toList) w (w2.setCell ⟨g,12,none⟩ (.slice (some ⟨g',0,none⟩) (vs.length+1) cap'))):=by
  refine⟨?_,ORow.set_own ho3 (fun e=>?_) _ _,by omega,blk_other hn2 (by omega) _ _,?_⟩
  ·have:=blk_set h2 12 (.slice (some ⟨g',0,none⟩) (vs.length+1) cap')
   rw[CallD.set_guards]at this
   exact this
  ·have e':g'=g:=Option.some.inj e
   subst e'
   rcases ho3.2 with ⟨e1,_⟩ | ⟨g0,c0,cur,e1,_,e3,_⟩
   ·cases e1
   ·injection e1 with e1 _ _;injection e1 with e1;injection e1 with e1;subst e1;rw[show w2.heap[g']?=_ from h2]at e3;cases e3
  ·refine ButL.set ?_ (by simp) _ _
   rw[hgv]
   refine ButL.grown (((ButL.of_below hb).thenB hb2).drew) hg3 (fun q e=>.inl (by rw[e];simp))
 have c12a:(W.alloc (CaO ⟨op,a,b,cc,d⟩ c.line)).cell? ⟨g,12,none⟩=some (.slice ag vs.length cg):=cell_later (bw1 _ _) c12
 have c12b:((W.alloc (CaO ⟨op,a,b,cc,d⟩ c.line)).alloc (.cells #[.iface 226 (.pointer (some ⟨w.heap.size+1,0,none⟩))] 277)).cell? ⟨g,12,none⟩=some (.slice ag vs.length cg):=cell_later (bw1 _ _) c12a
 have HR:Hid _:=hr
 clear hr ho3 hg3 hx h2 hn2 ho2 hb2 ho h' h bn hb
 go_enter Tryz.func73,Tryz.ntmps73
 go_wp2_with fail
 clear hW
 go_region_law (refine step_append_run rfl _ _ _ rfl _ _ _ _ rfl rfl HR.out ?_)
 all_goals
  go_wp2_with fail
  go_ret
  exact⟨rfl,_,w.heap.size+1,HE.out⟩
end Go.Proofs.YtliahjnnbbgooaaGreatDoor.M
namespace Go.Proofs.YtliahjnnbbgooaaGreatDoor.T
open Go.RowKit M
attribute [local go_sem] run_store_float
theorem neq_to (p:Option Addr) (v:Value) (w:World):(binOp BinOp.neq 41 (.iface 112 (.pointer p)) (.iface 484 v)).run Tryz.prog w=.ok (.bool true) w:=by kernel_rfl
theorem ta_scope (v:Value) (w:World):(Instr.typeAssert (.iface 226 v) 277 231 true).run Tryz.prog w=.ok (.tuple #[.pointer none,.bool false]) w:=by kernel_rfl
theorem ta_catch (v:Value) (w:World):(Instr.typeAssert (.iface 226 v) 277 226 true).run Tryz.prog w=.ok (.tuple #[v,.bool true]) w:=by kernel_rfl
theorem ta_thrown (v:Value) (w:World):(Instr.typeAssert (.iface 112 v) 41 112 true).run Tryz.prog w=.ok (.tuple #[v,.bool true]) w:=by kernel_rfl
theorem innermost_any (gf ga cap gn:Nat) (c:CallD) (w:World) (h:CallAt w gf c) (hg:c.guards=.slice (some ⟨ga,0,none⟩) 1 cap) (hcap:1≤cap) (h0:w.cell? ⟨ga,0,none⟩=some (caV gn)) :
  Calls Tryz.prog 184 #[.pointer (some ⟨gf,0,none⟩)] w fun e w'=>e=.returned (caV gn)∧w'=w.drew:=by
 have c12:w.cell? ⟨gf,12,none⟩=some (.slice (some ⟨ga,0,none⟩) 1 cap):=by rw[h.cell 12 (by omega),←hg];rfl
 unfold caV at h0 ⊢
 clear h
 go_enter Tryz.func184,Tryz.ntmps184
 go_wp2_with fail
 go_region
 go_wp2_with fail
 go_ret
 exact⟨rfl,rfl⟩
theorem leave_catch (gm gf gn gr ga cap:Nat) (p:Option Addr) (c:CallD) (R:Value) (Q:World→World→Prop) (w:World) (h:CallAt w gf c) (hg:c.guards=.slice (some ⟨ga,0,none⟩) 1 cap) (hcap:1≤cap) (h0:w.cell? ⟨ga,0,none⟩=some (caV gn)) (ho:OvV w p)
  (HH:∀w2,ButL [gf] w w2→CallAt w2 gf { c with guards:=.slice (some ⟨ga,0,none⟩) 0 cap }→Calls Tryz.prog 186 #[.pointer (some ⟨gm,0,none⟩),.pointer (some ⟨gf,0,none⟩),.pointer (some ⟨gn,0,none⟩),.pointer (some ⟨gr,0,none⟩)] w2 fun e w'=>e=.returned R∧Q w2 w') :
  Calls Tryz.prog 103 #[.pointer (some ⟨gm,0,none⟩),.pointer (some ⟨gf,0,none⟩),.iface 112 (.pointer (some ⟨gr,0,none⟩))] w fun e w'=>e=.returned R∧∃w2,ButL [gf] w w2∧CallAt w2 gf { c with guards:=.slice (some ⟨ga,0,none⟩) 0 cap }∧Q w2 w':=by
 have hv:w.cell? ⟨1,0,none⟩=some (.iface 484 (.pointer p)):=ho
 have hne:=fun W=>neq_to (some ⟨gr,0,none⟩) (.pointer p) W
 have c12:w.cell? ⟨gf,12,none⟩=some (.slice (some ⟨ga,0,none⟩) 1 cap):=by rw[h.cell 12 (by omega),←hg];rfl
 have hts:=fun W=>ta_scope (.pointer (some ⟨gn,0,none⟩)) W
 have htc:=fun W=>ta_catch (.pointer (some ⟨gn,0,none⟩)) W
 have htt:=fun W=>ta_thrown (.pointer (some ⟨gr,0,none⟩)) W
 have HC:Hid (CallAt w gf c):=h
 have H0:Hid (w.cell? ⟨ga,0,none⟩=some (caV gn)):=h0
 have HH':Hid (∀w2,ButL [gf] w w2→CallAt w2 gf { c with guards:=.slice (some ⟨ga,0,none⟩) 0 cap }→Calls Tryz.prog 186 #[.pointer (some ⟨gm,0,none⟩),.pointer (some ⟨gf,0,none⟩),.pointer (some ⟨gn,0,none⟩),.pointer (some ⟨gr,0,none⟩)] w2 fun e w'=>e=.returned R∧Q w2 w'):=HH
 clear h h0 ho HH
 go_enter Tryz.func103,Tryz.ntmps103
 go_wp2_with fail
 go_loopw [2] (fun s wr=>s=.iface 112 (.pointer (some ⟨gr,0,none⟩))∧wr=w) (fun _ _=>0)
 case atStart=>exact⟨rfl,rfl⟩
 case round =>
  obtain⟨rfl,rfl⟩:=hrel
  go_wp2_with fail
  refine (innermost_any gf ga cap gn c _ HC.out hg hcap H0.out).mono ?_
  rintro e w1 ⟨rfl,rfl⟩
  unfold caV
  go_wp2_with fail
  refine (takeOff_any gf 0 cap (some ⟨ga,0,none⟩) c wr.drew HC.out hg (by omega) (by omega)).mono ?_
  rintro e w2 ⟨rfl,hc2,hb2⟩
  have HB2:Hid (ButL [gf] wr w2):=⟨hb2.os,hb2.tape,hb2.output,hb2.size,hb2.block⟩
  have HC2:Hid (CallAt w2 gf { c with guards:=.slice (some ⟨ga,0,none⟩) 0 cap }):=hc2
  clear hc2 hb2
  go_wp2_with fail
  refine (HH'.out w2 HB2.out HC2.out).mono ?_
  rintro e w3 ⟨rfl,hq⟩
  have HQ3:Hid (Q w2 w3):=hq
  clear hq
  go_wp2_with fail
  go_ret
  exact⟨rfl,w2,HB2.out,HC2.out,HQ3.out⟩
end Go.Proofs.YtliahjnnbbgooaaGreatDoor.T
namespace Go.Proofs.YtliahjnnbbgooaaGreatDoor.T
open Go.RowKit M
attribute [local go_sem] run_store_float
end Go.Proofs.YtliahjnnbbgooaaGreatDoor.T
namespace Go.Proofs.YtliahjnnbbgooaaGreatDoor
open Go.RowKit
def leastD:List Bool→Option Nat
 | []=>none
 | true :: _=>some 0
 | false :: r=>(leastD r).map (·+1)
theorem leastD_none:∀ {l:List Bool},leastD l=none→AllOff l
 | [],_=>fun b=>by simp
 | true :: r,h=>by cases h
 | false :: r,h=>by
  have h':leastD r=none:=by simpa [leastD] using h
  intro b
  cases b with
  | zero=>simp
  | succ b=>simpa using leastD_none h' b
theorem leastD_some:∀ {l:List Bool} {a:Nat},leastD l=some a→IsLeast l a
 | [],_,h=>by cases h
 | true :: r,a,h=>by
  cases h
  exact⟨rfl,fun b hb=>by omega⟩
 | false :: r,a,h=>by
  obtain⟨a',h1,rfl⟩:=Option.map_eq_some_iff.1 (show (leastD r).map (·+1)=some a from h)
  obtain⟨h2,h3⟩:=leastD_some h1
  refine⟨by simpa using h2,fun b hb=>?_⟩
  cases b with
  | zero=>simp
  | succ b=>simpa using h3 b (by omega)
def runF (c:List FD) (ins:List ID):Nat→WkS→Option (Except (Nat × Nat) WkS)
 | 0,_=>none
 | k+1,s=>match leastD s.due with
  | none=>some (.ok s)
  | some a=>match passW c ins a s with
   | .error e=>some (.error e)
   | .ok s'=>runF c ins k s'
theorem runF_runs {c:List FD} {ins:List ID}:∀ {k:Nat} {s:WkS} {r:Except (Nat × Nat) WkS},runF c ins k s=some r→∃k',Runs c ins k' s r
 | 0,s,r,h=>by cases h
 | k+1,s,r,h=>by
  unfold runF at h
  split at h
  ·rename_i hl
   cases h
   exact⟨0,.inl ⟨leastD_none hl,rfl⟩⟩
  ·rename_i a hl
   split at h
   ·rename_i e he
    cases h
    exact⟨0,.inr ⟨a,e,leastD_some hl,he,rfl⟩⟩
   ·rename_i s' hs
    obtain⟨k',hk⟩:=runF_runs h
    exact⟨k'+1,a,s',leastD_some hl,hs,hk⟩
def due1 (m:Nat) (j:Nat):Bool:=decide (j=m)
theorem rank_rn {E:Nat→List Nat} {rk:Nat→Nat} (h:∀x,∀y∈E x,rk x<rk y):∀ {n x y:Nat},TJ.RN E n x y→rk x≤rk y
 | 0,x,y,hr=>by cases (show x=y from hr);exact Nat.le_refl _
 | n+1,x,y,hr=>by
  obtain⟨z,h1,h2⟩:=hr
  have:=h x z h1
  have:=rank_rn h h2
  omega
theorem rank_cyc {E:Nat→List Nat} {rk:Nat→Nat} (h:∀x,∀y∈E x,rk x<rk y) (x:Nat):¬TJ.Cyc E x:=by
 rintro ⟨y,h1,n,hn⟩
 have:=h x y h1
 have:=rank_rn h hn
 omega
end Go.Proofs.YtliahjnnbbgooaaGreatDoor
namespace Go.Proofs.YtliahjnnbbgooaaGreatDoor.M
open Go.RowKit
attribute [local go_sem] run_store_float
def instA:Array Value:=instT.toArray
def buiA:Array Value:=buiT.toArray
theorem wpList_store_new {P:Program} {w:World} {ops:Array Oper} {rest:List Oper} {o:Oper} {a:Act} {Q:Exit→Act→World→Prop} (hgd:o.guard=none) (t:TypeId) (x y:Operand) (ho:o.op=.store t x y) (c c':Array Value)
  (hx:a.eval x=.pointer (some ⟨w.heap.size,0,none⟩)) (hy:a.eval y=.agg c') (hi:(P.info? t).map (·.size)=some c'.size) (hs:c.size=c'.size) (h1:c'.all (·.oneCell')=true)
  (h:wpList P ops Q rest (a.put o.dst undef) (w.alloc (.cells c' t))):wpList P ops Q (o :: rest) a (w.alloc (.cells c t)) :=
 wpList_plain hgd fun _ hK=>by
  unfold Oper.wp
  simp only[execOp,ho,hx,hy,Sem.run_bind,run_storeAt_new w t c c' hi hs h1,Result.andThen_ok,Sem.run_pure,Oper.upon_skip]
  exact hK _ _ h
theorem results_new {P:Program} {fn:Func} {w:World} {tmps:Array Value} (k:Nat) (t:TypeId) (c:Array Value) (n:Nat) (e:TypeId) (hres:fn.results=#[.cell k t]) (hk:tmps.getD k undef=.pointer (some ⟨w.heap.size,0,none⟩)) (hu:P.underlying t=some (.array n e)) (hi:(P.info? t).map (·.size)=some c.size) :
  (results fn tmps).run P (w.alloc (.cells c t))=.ok (.agg c) (w.alloc (.cells c t)):=by
 have hl:=run_loadVar_new (P:=P) w t c n e hu hi
 have hk':tmps[k]?.getD undef=.pointer (some ⟨w.heap.size,0,none⟩):=by rw[←hk];simp[Array.getD_eq_getD_getElem?]
 simp[results,hres,hk',asAddr,hl,Result.andThen]
theorem built_any (w:World):Calls Tryz.prog 29 #[] w fun e w'=>e=.returned (.agg buiA)∧Below w.heap.size w w':=by
 go_enter Tryz.func29,Tryz.ntmps29
 go_wp2_with (refine wpList_store_new rfl 81 _ _ rfl _ _ rfl rfl (by kernel_rfl) (by kernel_rfl) (by kernel_rfl) ?_)
 exact bodyPost_ret (v:=.agg buiA) (results_new 0 81 _ 15 80 Tryz.results29 rfl Tryz.underlying81 (by kernel_rfl)) rfl ⟨rfl,bw1 _ _⟩
theorem instr_any (w:World):Calls Tryz.prog 28 #[] w fun e w'=>e=.returned (.agg instA)∧Below w.heap.size w w':=by
 go_enter Tryz.func28,Tryz.ntmps28
 go_wp2_with (refine wpList_store_new rfl 77 _ _ rfl _ _ rfl rfl (by kernel_rfl) (by kernel_rfl) (by kernel_rfl) ?_)
 exact bodyPost_ret (v:=.agg instA) (results_new 0 77 _ 43 76 Tryz.results28 rfl Tryz.underlying77 (by kernel_rfl)) rfl ⟨rfl,bw1 _ _⟩
end Go.Proofs.YtliahjnnbbgooaaGreatDoor.M
