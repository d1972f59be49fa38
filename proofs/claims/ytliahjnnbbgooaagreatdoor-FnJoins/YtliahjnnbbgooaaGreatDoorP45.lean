import Derived.Test.YtliahjnnbbgooaaGreatDoorP44
import Derived.Test.YtliahjnnbbgooaaGreatDoorP40
import Derived.Laws.LoneSync
import Derived.Conc.EventLaws
import Derived.Test.YtliahjnnbbgooaaGreatDoorP27
import Derived.Test.YtliahjnnbbgooaaGreatDoorP37
import Derived.Test.YtliahjnnbbgooaaGreatDoorP31
import Derived.Deep.CutRange
set_option linter.unusedVariables false
set_option linter.unusedSimpArgs false
set_option maxRecDepth 20000
set_option maxHeartbeats 8000000
namespace Go.Proofs.YtliahjnnbbgooaaGreatDoor.J
open Go.RowKit M T U
def joiOk (k:Nat):Bool :=
 decide ((shapeV [joiD k]).1=0) && (match runF [joiD k] (joiI k) 200 (startS (joiD k)) with
  | some (.ok s)=>edgeB (EE (joiD k)) (fun x y=>decide (x<y)) (joiI k).length
  | _=>false)
set_option maxRecDepth 100000 in
theorem joi_all:((List.range 13).all fun k=>joiOk k)=true:=by kernel_rfl
theorem joi_ok {k:Nat} (h:k≤12):joiOk k=true:=by
 have:=joi_all
 simp only[List.all_eq_true,List.mem_range]at this
 exact this k (by omega)
theorem joi_wf {k:Nat} (h:k≤12):(shapeV [joiD k]).1=0∧WF [joiD k] 0 (joiD k) none:=by
 have h0:=joi_ok h
 unfold joiOk at h0
 simp only[Bool.and_eq_true,decide_eq_true_eq]at h0
 obtain⟨hs,h1⟩:=h0
 refine⟨hs,?_⟩
 cases hr:runF [joiD k] (joiI k) 200 (startS (joiD k)) with
 | none=>rw[hr]at h1;cases h1
 | some r =>
  rw[hr]at h1
  cases r with
  | error e=>cases h1
  | ok s =>
   obtain⟨k',hk'⟩:=runF_runs hr
   refine⟨k',_,hk',.inr ⟨fun i _=>rank_cyc (rk:=fun x=>x) (fun x y hy=>?_) i,rfl⟩⟩
   by_cases hx:x<(joiI k).length
   ·simpa using edge_at h1 hx hy
   ·have:=edge_out (d:=joiD k) (by show (joiI k).length≤x;omega) hy
    subst this
    show x<x+1
    omega
end Go.Proofs.YtliahjnnbbgooaaGreatDoor.J
namespace Go.Proofs.YtliahjnnbbgooaaGreatDoor.M
open Go.RowKit
attribute [local go_sem] run_store_float
theorem x_dis (W:World):(callFunc 106 #[]).run Tryz.prog W=.ok (.value (.tuple #[])) W:=by kernel_rfl
theorem x_ena (W:World):(callFunc 108 #[]).run Tryz.prog W=.ok (.value (.tuple #[])) W:=by kernel_rfl
theorem x_acq (g o:Nat) (W:World):(callFunc 109 #[.pointer (some ⟨g,o,none⟩)]).run Tryz.prog W=.ok (.value (.tuple #[])) W:=by kernel_rfl
theorem loadT_one (t:Extern.Atomic.T) (v:Value):Extern.Atomic.loadT t #[v]=(do Extern.Atomic.read t (←asAddr v)):=rfl
theorem x_ld (g o:Nat) (z:Int) (W:World) (h:W.cell? ⟨g,o,none⟩=some (.int .u64 z)):(callFunc 189 #[.pointer (some ⟨g,o,none⟩)]).run Tryz.prog W=.ok (.value (.int .u64 z)) W:=by
 have hf:=Tryz.func189
 have hn:(Tryz.f189.name == "runtime.NumGoroutine")=false:=by kernel_rfl
 have hb:Tryz.f189.body.isNone=true:=by kernel_rfl
 have h1:(Extern.findNext Tryz.f189).isNone=true:=by kernel_rfl
 have h1':Extern.findNext Tryz.f189=none:=Option.isNone_iff_eq_none.1 h1
 have h2:Extern.find Tryz.f189=some (Extern.Atomic.loadT (.int .u64)):=by kernel_rfl
 have hl:(Extern.Atomic.loadT (.int .u64) #[.pointer (some ⟨g,o,none⟩)]).run Tryz.prog W=.ok (.int .u64 z) W:=by
  rw[loadT_one]
  simp[Extern.Atomic.read,asAddr,go_sem,h]
 unfold callFunc
 have hmk:(Sem.mark (Mark.extern 189) (Sem.pure ())).run Tryz.prog W=.ok () W:=rfl
 simp[go_sem,hf,h1',h2,mark]
 rw[if_neg (by simpa using hn),if_pos (by simpa using hb),hmk]
 simp only[Result.andThen_ok]
 rw[hl]
 rfl
theorem uload_any (g o:Nat) (z:Int) (w:World) (h:w.cell? ⟨g,o,none⟩=some (.int .u64 z)) :
  Calls Tryz.prog 107 #[.pointer (some ⟨g,o,none⟩)] w fun e w'=>e=.returned (.int .u64 z)∧w'=w:=by
 have hx:=x_ld g o z w h
 go_enter Tryz.func107,Tryz.ntmps107
 go_wp2_with fail
 go_ret
 exact⟨rfl,rfl⟩
theorem wait_zero (g o:Nat) (w:World) (h:w.cell? ⟨g,o,none⟩=some (.int .u64 0)) :
  Calls Tryz.prog 36 #[.pointer (some ⟨g,o,none⟩)] w fun e w'=>e=.returned (.tuple #[])∧w'=w:=by
 have h1:=x_dis
 have h2:=x_ena
 have h3:=x_acq g o
 have h4:(convert 163 167 (.pointer (some ⟨g,o,none⟩))).run Tryz.prog w=.ok (.pointer (some ⟨g,o,none⟩)) w:=run_convert_to_unsafe (t:=95) Tryz.underlying163 Tryz.underlying167 (by kernel_rfl) h
 have h5:bits BinOp.and IntKind.u64 0 2147483647=0:=by kernel_rfl
 have h6:bits BinOp.and IntKind.u64 0 2147483648=0:=by kernel_rfl
 have HL:Hid (Calls Tryz.prog 107 #[.pointer (some ⟨g,o,none⟩)] w fun e w'=>e=.returned (.int .u64 0)∧w'=w):=uload_any g o 0 w h
 go_enter Tryz.func36,Tryz.ntmps36
 go_wp2_with fail
 go_loopw [] (fun wr=>wr=w) (fun _=>0)
 case atStart=>rfl
 case round =>
  obtain rfl:=hrel
  go_wp2_with fail
  refine HL.out.mono ?_
  rintro e w1 ⟨rfl,rfl⟩
  go_wp2_with fail
  exact bodyPost_ret (v:=.tuple #[]) (by simp[results,Tryz.results36,go_sem]) rfl ⟨rfl,rfl⟩
theorem stop_any (gm gt gk gch cap':Nat) (m:MachD) (cv:Value) (ka:Array Value) (w:World) (hm:MachAt w gm m) (hts:m.tasks=.slice (some ⟨gk,0,none⟩) 1 cap') (hk:w.heap[gk]?=some (.cells ka 85)) (hk0:ka[0]?=some (.pointer (some ⟨gt,0,none⟩))) (ht:w.heap[gt]?=some (.cells (taskA cv gch 2) 115)) (hc:w.heap[gch]?=some (.chan 0 #[] false 0 0 false)) :
  Calls Tryz.prog 23 #[.pointer (some ⟨gm,0,none⟩)] w fun e w'=>e=.returned (.tuple #[])∧MachAt w' gm m∧ButL [gch] w w':=by
 have c74:w.cell? ⟨gm,74,none⟩=some (.slice (some ⟨gk,0,none⟩) 1 cap'):=by rw[hm.cell,←hts];rfl
 have k0:w.cell? ⟨gk,0,none⟩=some (.pointer (some ⟨gt,0,none⟩)):=by rw[blk_cell hk];exact hk0
 have t9:w.cell? ⟨gt,9,none⟩=some (.chan (some gch)):=by rw[blk_cell ht];rfl
 have HM:Hid (MachAt w gm m):=hm
 have hcl:=blk_lt hc
 clear hm hk ht
 go_enter Tryz.func23,Tryz.ntmps23
 go_wp2_with fail
 go_loopw [9] (fun i wr=>(i=.int .i64 0∧wr=w)∨(i=.int .i64 1∧Hid (MachAt wr gm m)∧Hid (ButL [gch] w wr))) (fun i _=>1-(intOf i).toNat)
 case atStart=>exact .inl ⟨rfl,rfl⟩
 case round =>
  rcases hrel with ⟨rfl,rfl⟩ | ⟨rfl,HM2,HB2⟩
  ·have hcr:=run_close_open (P:=Tryz.prog) (w:=wr) #[111] 0 hc
   have HC:Hid (wr.heap[gch]?=some (.chan 0 #[] false 0 0 false)):=hc
   have HB2:Hid (ButL [gch] wr { wr with heap:=wr.heap.setIfInBounds gch (.chan 0 #[] true 0 0 false) }):=⟨rfl,rfl,rfl,by simp,fun k hk hn=>by
    show (wr.heap.setIfInBounds gch _)[k]?=_
    rw[Array.getElem?_setIfInBounds_ne (fun e=>hn (by simp[e]))]⟩
   have HM2:Hid (MachAt { wr with heap:=wr.heap.setIfInBounds gch (.chan 0 #[] true 0 0 false) } gm m):=MachAt.but HM.out HB2.out (by simp;exact fun e=>ne_chan HM.out HC.out e.symm)
   obtain⟨W2,hW2⟩:∃W2,({ wr with heap:=wr.heap.setIfInBounds gch (.chan 0 #[] true 0 0 false) }:World)=W2:=⟨_,rfl⟩
   rw[hW2]at HB2 HM2 hcr
   clear hW2 hc
   go_wp2_with fail
   go_roundw
   case rel=>exact .inr ⟨rfl,HM2,HB2⟩
   case measure=>simp[intOf]
  ·have c81:wr.cell? ⟨gm,81,none⟩=some (.int .u64 0):=by rw[MachAt.cell HM2.out];rfl
   have HWt:Hid (Calls Tryz.prog 36 #[.pointer (some ⟨gm,81,none⟩)] wr fun e w'=>e=.returned (.tuple #[])∧w'=wr):=wait_zero gm 81 wr c81
   clear c74 k0 t9 hc
   go_wp2_with fail
   refine HWt.out.mono ?_
   rintro e w1 ⟨rfl,rfl⟩
   go_wp2_with fail
   exact bodyPost_end (v:=.tuple #[]) (by simp[results,Tryz.results23,go_sem]) rfl ⟨rfl,HM2.out,HB2.out⟩
end Go.Proofs.YtliahjnnbbgooaaGreatDoor.M
namespace Go.Proofs.YtliahjnnbbgooaaGreatDoor.M
open Go.RowKit
attribute [local go_sem] run_store_float
theorem idx_nil (w:World):Calls Tryz.prog 135 #[.slice none 0 0,.func (Fn.func 50) #[] #[]] w fun e w'=>e=.returned (.int .i64 (-1))∧w'=w:=by
 go_enter Tryz.func135,Tryz.ntmps135
 go_wp2_with fail
 go_loopw [8] (fun i wr=>i=.int .i64 0∧wr=w) (fun _ _=>0)
 case atStart=>exact⟨rfl,rfl⟩
 case round =>
  obtain⟨rfl,rfl⟩:=hrel
  go_wp2_with fail
  go_ret
  exact⟨rfl,rfl⟩
theorem cont_nil (w:World):Calls Tryz.prog 49 #[.slice none 0 0,.func (Fn.func 50) #[] #[]] w fun e w'=>e=.returned (.bool false)∧w'=w:=by
 go_enter Tryz.func49,Tryz.ntmps49
 go_wp2_with fail
 refine (idx_nil w).mono ?_
 rintro e w1 ⟨rfl,rfl⟩
 go_wp2_with fail
 go_ret
 exact⟨rfl,rfl⟩
theorem texts_nil (w:World):Calls Tryz.prog 26 #[.slice none 0 0] w fun e w'=>e=.returned (.bool true)∧w'=w:=by
 go_enter Tryz.func26,Tryz.ntmps26
 go_wp2_with fail
 refine (cont_nil w).mono ?_
 rintro e w1 ⟨rfl,rfl⟩
 go_wp2_with fail
 go_ret
 exact⟨rfl,rfl⟩
abbrev RepZ:Obj:=.cells #[.int .i64 0,.slice none 0 0,.slice none 0 0,.string ⟨#[]⟩,.string ⟨#[]⟩,.int .i64 0,.int .i64 0] 27
end Go.Proofs.YtliahjnnbbgooaaGreatDoor.M
namespace Go.Proofs.YtliahjnnbbgooaaGreatDoor.J
open Go.RowKit M T U
attribute [local go_sem] run_store_float
theorem inokJ (w:World):Calls Tryz.prog 20 #[.agg #[.slice none 0 0,.slice none 0 0,.int .i64 9,.int .i64 1,.int .i64 9]] w fun e w'=>e=.returned (.bool true)∧Below w.heap.size w w':=by
 obtain⟨W,hW⟩:∃W,w.alloc (.cells #[.slice none 0 0,.slice none 0 0,.int .i64 9,.int .i64 1,.int .i64 9] 34)=W:=⟨_,rfl⟩
 have hb:Below w.heap.size w W:=by rw[←hW];exact bw1 _ _
 have bn:W.heap[w.heap.size]?=some (.cells #[.slice none 0 0,.slice none 0 0,.int .i64 9,.int .i64 1,.int .i64 9] 34):=by rw[←hW];exact blk_new _ _
 have c0:W.cell? ⟨w.heap.size,0,none⟩=some (.slice none 0 0):=by rw[blk_cell bn];rfl
 have c1:W.cell? ⟨w.heap.size,1,none⟩=some (.slice none 0 0):=by rw[blk_cell bn];rfl
 have c2:W.cell? ⟨w.heap.size,2,none⟩=some (.int .i64 9):=by rw[blk_cell bn];rfl
 have c3:W.cell? ⟨w.heap.size,3,none⟩=some (.int .i64 1):=by rw[blk_cell bn];rfl
 have c4:W.cell? ⟨w.heap.size,4,none⟩=some (.int .i64 9):=by rw[blk_cell bn];rfl
 clear bn
 go_enter Tryz.func20,Tryz.ntmps20
 go_wp2_with (first | (go_at_call 26;refine (texts_nil _).mono ?_;rintro e w1 ⟨rfl,rfl⟩) | (go_at_call 27;refine (wi_any _ _ _ _).mono ?_;rintro e w1 ⟨rfl,rfl⟩;simp only[inR,show decide ((0:Int)≤9)=true by decide,show decide ((9:Int)≤5000)=true by decide,show decide ((1:Int)≤1)=true by decide,show decide ((1:Int)≤60)=true by decide,show decide ((9:Int)≤20000)=true by decide,Bool.and_self]))
 go_ret
 exact⟨rfl,hb⟩
theorem ver_j {f:FC} {k:Nat} (hd:f.d=joiD k) (hk:k≤12) {len B:Nat} {e:Ending} {w':World} (hv:VeP [f] len B e w'):∃gA,e=.returned (.tuple #[.slice (some ⟨gA,0,none⟩) len len,.nilIface]):=by
 obtain⟨h1,h2⟩:=joi_wf hk
 rcases hv.split with ⟨r,_,hc,_⟩ | ⟨_,gA,he,_⟩
 ·exfalso
  rcases hc with ⟨hn,_⟩ | ⟨_,p,f',hp,hw⟩
  ·exact hn (by show (shapeV [f.d]).1=0;rw[hd];exact h1)
  ·have:p=0∧f=f':=by
    cases p with
    | zero=>exact⟨rfl,by simpa using hp⟩
    | succ p=>simp at hp
   obtain⟨rfl,rfl⟩:=this
   have hw':WF [f.d] 0 f.d (some r):=hw
   rw[hd]at hw'
   cases WF.uniq hw' h2
 ·exact⟨gA,he⟩
def repJ (rv:Value) (s t:ByteArray) (tk mk:Int):Value:=.agg #[.int .i64 0,rv,.slice none 0 0,.string s,.string t,.int .i64 tk,.int .i64 mk]
def RepF (k:Nat) (w:World) (e:Ending) (w':World):Prop:=∃(rv:Value) (s tr:ByteArray) (tk mk:Int),e=.returned (repJ rv s tr tk mk)∧ORow w' w.heap.size 67 5 rgC rv (endX k)∧Below w.heap.size w w'
theorem runWatched_j (HJ:JoinC) (bp k:Nat) (f:FC) (ov:Addr) (hd:f.d=joiD k) (hk12:k≤12) (w:World) (H0:CodeAt w (some ⟨bp,0,none⟩) [f]) (hlay:LayAt w) (hov:OvV w (some ov)) :
  Calls Tryz.prog 9 #[.agg #[.slice (some ⟨bp,0,none⟩) 1 1],.agg #[.slice none 0 0,.slice none 0 0,.int .i64 9,.int .i64 1,.int .i64 9],.func (.func 10) #[] #[]] w fun e w'=>RepF k w e w':=by
 obtain⟨W,hW⟩:∃W,((w.alloc (.cells #[.slice (some ⟨bp,0,none⟩) 1 1] 31)).alloc (.cells #[.slice none 0 0,.slice none 0 0,.int .i64 9,.int .i64 1,.int .i64 9] 34)).alloc RepZ=W:=⟨_,rfl⟩
 have hb:Below w.heap.size w W:=by rw[←hW];exact bw3 _ _ _ _
 have hsz:W.heap.size=w.heap.size+1+1+1:=by rw[←hW];simp
 have HK:Hid (∀wk,Below W.heap.size W wk→wk.cell? ⟨w.heap.size,0,none⟩=some (.slice (some ⟨bp,0,none⟩) 1 1)∧wk.cell? ⟨w.heap.size+1,0,none⟩=some (.slice none 0 0)∧wk.cell? ⟨w.heap.size+1,1,none⟩=some (.slice none 0 0)∧wk.cell? ⟨w.heap.size+1,2,none⟩=some (.int .i64 9)∧wk.cell? ⟨w.heap.size+1,3,none⟩=some (.int .i64 1)∧wk.cell? ⟨w.heap.size+1,4,none⟩=some (.int .i64 9)):=by
  intro wk hk
  have b0:wk.heap[w.heap.size]?=some (.cells #[.slice (some ⟨bp,0,none⟩) 1 1] 31):=blk_later hk (by rw[←hW];exact blk_old (blk_old (blk_new _ _) _) _)
  have b1:wk.heap[w.heap.size+1]?=some (.cells #[.slice none 0 0,.slice none 0 0,.int .i64 9,.int .i64 1,.int .i64 9] 34):=blk_later hk (by rw[←hW];exact blk_old (blk_newn (by simp) _) _)
  refine⟨?_,?_,?_,?_,?_,?_⟩
  ·rw[blk_cell b0];rfl
  all_goals (rw[blk_cell b1];rfl)
 have HZ:Hid (W.heap[w.heap.size+1+1]?=some RepZ):=by show _=_;rw[←hW];exact blk_newn (by simp) _
 have HB:Hid (Below w.heap.size w W):=hb
 have HCo:Hid (CodeAt W (some ⟨bp,0,none⟩) [f]):=H0.later hb
 have HLa:Hid (LayAt W):=hlay.later hb
 have HOv:Hid (OvV W (some ov)):=hov.later hb
 obtain⟨x0,x1,x2,x3,x4,x5⟩:=HK.out W (Below.refl _ _)
 clear H0 hlay hov hb
 go_enter Tryz.func9,Tryz.ntmps9
 go_wp2_with fail
 clear hW
 refine (verify_any (some ⟨bp,0,none⟩) 1 1 [f] _ HCo.out rfl HLa.out).mono ?_
 rintro e w1 ⟨hV,hx1⟩
 obtain⟨gA,rfl⟩:=ver_j hd hk12 hV
 have HX1:Hid (Below W.heap.size W w1):=hx1
 obtain⟨y0,y1,y2,y3,y4,y5⟩:=HK.out w1 hx1
 clear hV hx1 x0 x1 x2 x3 x4 x5
 go_wp2_with fail
 refine (inokJ _).mono ?_
 rintro e w2 ⟨rfl,hx2⟩
 have HX2:Hid (Below W.heap.size W w2):=HX1.out.trans (hx2.mono HX1.out.size)
 obtain⟨z0,z1,z2,z3,z4,z5⟩:=HK.out w2 HX2.out
 clear hx2 y0 y1 y2 y3 y4 y5
 go_wp2_with fail
 refine (newMachine_any (some ⟨bp,0,none⟩) 1 1 9 1 9 w2).mono ?_
 rintro e w3 ⟨gm,gt,gk,gch,cap',rfl,hgm,hm,ht,hgt,hc,hgc,ho,hx3⟩
 have HX3:Hid (Below W.heap.size W w3):=HX2.out.trans (hx3.mono HX2.out.size)
 obtain⟨_,ka,hk⟩:=M.own_blk ho (g:=gk) rfl
 have hk0:ka[0]?=some (.pointer (some ⟨gt,0,none⟩)):=by
  obtain⟨a0,c0,e0,hs0⟩:=ho.lies pC_len
  obtain⟨b0,o0,e1,_,hc0⟩:=hs0 0 gt rfl
  have e2:a0=some ⟨gk,0,none⟩:=by injection e0 with e0 _ _;exact e0.symm
  rw[e2]at e1
  have e3:gk=b0∧0=o0:=by injection e1 with e1;injection e1 with e1 e2;exact⟨e1,e2⟩
  obtain⟨rfl,rfl⟩:=e3
  have:=hc0 0 _ rfl
  rw[blk_cell hk]at this
  simpa using this
 have hco2:CodeAt w2 (some ⟨bp,0,none⟩) [f]:=HCo.out.later HX2.out
 have hf2:∀j v,f.cells[j]?=some v→w2.cell? ⟨bp,0+j,none⟩=some v:=by
  obtain⟨b0,o0,e1,_,hc0⟩:=hco2.row 0 f rfl
  have e3:bp=b0∧0=o0:=by injection e1 with e1;injection e1 with e1 e2;exact⟨e1,e2⟩
  obtain⟨rfl,rfl⟩:=e3
  intro j v hv
  have:=hc0 j v hv
  simpa using this
 have hsl2:SlA w2 5 ID.cells f.ai f.d.ins:=(hco2.lie f (by simp)).i
 obtain⟨ib,io,hai⟩:∃ib io,f.ai=some ⟨ib,io,none⟩:=by
  obtain⟨x,hx⟩:∃x,f.d.ins[0]?=some x:=⟨f.d.ins[0]'(by rw[hd];show 0<(joiI k).length;rw[joi_len];omega),by simp⟩
  obtain⟨b0,o0,e1,_,_⟩:=hsl2 0 x hx
  exact⟨b0,o0,e1⟩
 have hov2:OvV w2 (some ov):=HOv.out.later HX2.out
 have hslc:SlA w2 5 VD.cells f.ac f.d.consts:=(hco2.lie f (by simp)).c
 obtain⟨cb,co,hac,hcb,hcc⟩:∃cb co,f.ac=some ⟨cb,co,none⟩∧cb<w2.heap.size∧∀(j:Nat) v,[oneD,priD][j]?=some v→∀q u,v.cells[q]?=some u→w2.cell? ⟨cb,co+j*5+q,none⟩=some u:=by
  obtain⟨b0,o0,e1,e2,e3⟩:=hslc 0 oneD (by rw[hd];rfl)
  refine⟨b0,o0,e1,e2,fun j v hv q u hu=>?_⟩
  obtain⟨b1,o1,e4,_,e5⟩:=hslc j v (by rw[hd];exact hv)
  have e6:b0=b1∧o0=o1:=by rw[e1]at e4;injection e4 with e4;injection e4 with e4 e7;exact⟨e4,e7⟩
  obtain⟨rfl,rfl⟩:=e6
  exact e5 q u hu
 have HRT:Hid (Calls Tryz.prog 22 #[.pointer (some ⟨gm,0,none⟩)] w3 fun e w'=>e=.returned (.tuple #[])∧∃(m:MachD),RunF w2 w' gm gt gk gch cap' ka m (endX k)) :=
  runText_j w2 w3 HJ gm gt gk gch cap' bp 0 1 ib io cb co k ka f ov hm ht hc hk hx3 hgm hgt hf2 hd hk12 hai (by have h9:=hsl2;rw[hai,hd]at h9;exact h9) hac hcb hcc hov2
 have HK0:Hid _:=hk0
 have hgc2:w2.heap.size≤gch:=hgc
 have hgm2:w2.heap.size≤gm:=hgm
 clear z0 z1 z2 z3 z4 z5 hx3 hm ht hc ho hk hk0 hco2 hf2 hsl2 hov2 hgm hgt hgc hai hslc hac hcb hcc
 go_wp2_with fail
 refine HRT.out.mono ?_
 rintro e w4 ⟨rfl,m,hE⟩
 obtain⟨cv,ht4⟩:=hE.tsk
 have HST:Hid (Calls Tryz.prog 23 #[.pointer (some ⟨gm,0,none⟩)] w4 fun e w'=>e=.returned (.tuple #[])∧MachAt w' gm m∧ButL [gch] w4 w'):=stop_any gm gt gk gch cap' m cv ka w4 hE.mac hE.tasks hE.row HK0.out ht4 hE.cha
 have HX4:Hid (Below w2.heap.size w2 w4):=hE.bel
 have HE:Hid (RunF w2 w4 gm gt gk gch cap' ka m (endX k)):=hE
 clear hE ht4 HRT HK0
 go_wp2_with fail
 refine HST.out.mono ?_
 rintro e w5 ⟨rfl,hm5,hb5⟩
 have hx5:Below w2.heap.size w2 w5:=hb5.below HX4.out (fun g hg=>by simp at hg;subst hg;exact hgc2) HX4.out.size
 have HX5:Hid (Below W.heap.size W w5):=HX2.out.trans (hx5.mono HX2.out.size)
 have hrc5:ORow w5 w2.heap.size 67 5 rgC m.recs (endX k):=ORow.butn HE.out.rc hb5 (fun g e hg=>by
  simp at hg
  subst hg
  obtain⟨_,cur,h9⟩:=M.own_blk HE.out.rc e
  exact ne_chan h9 HE.out.cha rfl)
 have HRC:Hid (ORow w5 w.heap.size 67 5 rgC m.recs (endX k)):=ORow.mono hrc5 (by have:=HB.out.size;have:=HX2.out.size;omega)
 have HRO:Hid (∀g,m.recs.ownBlock=some g→w2.heap.size≤g):=fun g e=>(ORow.own_lt hrc5 e).1
 obtain⟨ra,rcap,hrv⟩:=hrc5.val
 obtain⟨nr,hnr⟩:∃nr,(endX k).length=nr:=⟨_,rfl⟩
 rw[hnr]at hrv
 have e1:=HE.out.code
 have e3:=HE.out.vals
 rw[hrv]at HRC HRO
 have c7:w5.cell? ⟨gm,7,none⟩=some (.int .i64 0):=by rw[MachAt.cell hm5,←e1];rfl
 have c8:w5.cell? ⟨gm,8,none⟩=some (.slice ra nr rcap):=by rw[MachAt.cell hm5,←hrv];rfl
 have c9:w5.cell? ⟨gm,9,none⟩=some (.slice none 0 0):=by rw[MachAt.cell hm5,←e3];rfl
 have c10:w5.cell? ⟨gm,10,none⟩=some (.string m.err):=by rw[MachAt.cell hm5];rfl
 have c11:w5.cell? ⟨gm,11,none⟩=some (.string m.trace):=by rw[MachAt.cell hm5];rfl
 have c12:w5.cell? ⟨gm,12,none⟩=some (.int .i64 m.rticks):=by rw[MachAt.cell hm5];rfl
 have c13:w5.cell? ⟨gm,13,none⟩=some (.int .i64 m.made):=by rw[MachAt.cell hm5];rfl
 have hz5:=blk_later HX5.out HZ.out
 have d0:w5.cell? ⟨w.heap.size+1+1,0,none⟩=some (.int .i64 0):=by rw[blk_cell hz5];rfl
 have d1:w5.cell? ⟨w.heap.size+1+1,1,none⟩=some (.slice none 0 0):=by rw[blk_cell hz5];rfl
 have d2:w5.cell? ⟨w.heap.size+1+1,2,none⟩=some (.slice none 0 0):=by rw[blk_cell hz5];rfl
 have d3:w5.cell? ⟨w.heap.size+1+1,3,none⟩=some (.string ⟨#[]⟩):=by rw[blk_cell hz5];rfl
 have d4:w5.cell? ⟨w.heap.size+1+1,4,none⟩=some (.string ⟨#[]⟩):=by rw[blk_cell hz5];rfl
 have d5:w5.cell? ⟨w.heap.size+1+1,5,none⟩=some (.int .i64 0):=by rw[blk_cell hz5];rfl
 have d6:w5.cell? ⟨w.heap.size+1+1,6,none⟩=some (.int .i64 0):=by rw[blk_cell hz5];rfl
 have zz:=blk_frozen hz5
 have hW2:W.heap.size≤w2.heap.size:=HX2.out.size
 have hrz:(Value.slice ra nr rcap).ownBlock≠some (w.heap.size+1+1):=fun e=>by have:=HRO.out _ e;omega
 clear hm5 hb5 hx5 hz5 HST hrc5 hrv hnr e1 e3
 go_wp2_with fail
 have hq:w.heap.size≤w.heap.size+1+1:=by omega
 refine bodyPost_ret (v:=repJ (.slice ra nr rcap) m.err m.trace m.rticks m.made) (by simp[results,Tryz.results9,go_sem,repJ,d0,d1,d2,d3,d4,d5,d6]) rfl ⟨.slice ra nr rcap,m.err,m.trace,m.rticks,m.made,rfl,?_,?_⟩
 ·exact ORow.set_own (ORow.set_own (ORow.set_own (ORow.set_own (ORow.set_own (ORow.set_own (ORow.set_own HRC.out hrz _ _) hrz _ _) hrz _ _) hrz _ _) hrz _ _) hrz _ _) hrz _ _
 ·exact ButL.nil ((((((((ButL.of_below (HB.out.trans (HX5.out.mono HB.out.size))).setn hq _ _).setn hq _ _).setn hq _ _).setn hq _ _).setn hq _ _).setn hq _ _).setn hq _ _)
end Go.Proofs.YtliahjnnbbgooaaGreatDoor.J
namespace Go.Proofs.YtliahjnnbbgooaaGreatDoor.J
open Go.RowKit M T U
attribute [local go_sem] run_store_float
theorem runCode_j (HJ:JoinC) (bp k:Nat) (f:FC) (ov:Addr) (hd:f.d=joiD k) (hk12:k≤12) (w:World) (H0:CodeAt w (some ⟨bp,0,none⟩) [f]) (hlay:LayAt w) (hov:OvV w (some ov)) :
  Calls Tryz.prog 5 #[.agg #[.slice (some ⟨bp,0,none⟩) 1 1],.agg #[.slice none 0 0,.slice none 0 0,.int .i64 9,.int .i64 1,.int .i64 9]] w fun e w'=>RepF k w e w':=by
 obtain⟨W,hW⟩:∃W,((w.alloc (.cells #[.slice (some ⟨bp,0,none⟩) 1 1] 31)).alloc (.cells #[.slice none 0 0,.slice none 0 0,.int .i64 9,.int .i64 1,.int .i64 9] 34)).alloc RepZ=W:=⟨_,rfl⟩
 have hb:Below w.heap.size w W:=by rw[←hW];exact bw3 _ _ _ _
 have b0:W.heap[w.heap.size]?=some (.cells #[.slice (some ⟨bp,0,none⟩) 1 1] 31):=by rw[←hW];exact blk_old (blk_old (blk_new _ _) _) _
 have b1:W.heap[w.heap.size+1]?=some (.cells #[.slice none 0 0,.slice none 0 0,.int .i64 9,.int .i64 1,.int .i64 9] 34):=by rw[←hW];exact blk_old (blk_newn (by simp) _) _
 have x0:W.cell? ⟨w.heap.size,0,none⟩=some (.slice (some ⟨bp,0,none⟩) 1 1):=by rw[blk_cell b0];rfl
 have x1:W.cell? ⟨w.heap.size+1,0,none⟩=some (.slice none 0 0):=by rw[blk_cell b1];rfl
 have x2:W.cell? ⟨w.heap.size+1,1,none⟩=some (.slice none 0 0):=by rw[blk_cell b1];rfl
 have x3:W.cell? ⟨w.heap.size+1,2,none⟩=some (.int .i64 9):=by rw[blk_cell b1];rfl
 have x4:W.cell? ⟨w.heap.size+1,3,none⟩=some (.int .i64 1):=by rw[blk_cell b1];rfl
 have x5:W.cell? ⟨w.heap.size+1,4,none⟩=some (.int .i64 9):=by rw[blk_cell b1];rfl
 have HZ:Hid (W.heap[w.heap.size+1+1]?=some RepZ):=by show _=_;rw[←hW];exact blk_newn (by simp) _
 have HB:Hid (Below w.heap.size w W):=hb
 have hsz:W.heap.size=w.heap.size+1+1+1:=by rw[←hW];simp
 have HR:Hid (Calls Tryz.prog 9 #[.agg #[.slice (some ⟨bp,0,none⟩) 1 1],.agg #[.slice none 0 0,.slice none 0 0,.int .i64 9,.int .i64 1,.int .i64 9],.func (.func 10) #[] #[]] W fun e w'=>RepF k W e w'):=runWatched_j HJ bp k f ov hd hk12 W (H0.later hb) (hlay.later hb) (hov.later hb)
 clear H0 hlay hov hb b0 b1
 go_enter Tryz.func5,Tryz.ntmps5
 go_wp2_with fail
 clear hW
 refine HR.out.mono ?_
 rintro e w5 ⟨rv,s,tr,tk,mk,rfl,hrc,hx⟩
 have hsW:W.heap.size=w.heap.size+1+1+1:=by have h9:=blk_lt HZ.out;have:=hsz;omega
 have hrz:rv.ownBlock≠some (w.heap.size+1+1):=fun e=>by have:=(ORow.own_lt hrc e).1;omega
 have HRC:Hid (ORow w5 w.heap.size 67 5 rgC rv (endX k)):=ORow.mono hrc HB.out.size
 obtain⟨ra,rcap,hrv⟩:=hrc.val
 obtain⟨nr,hnr⟩:∃nr,(endX k).length=nr:=⟨_,rfl⟩
 rw[hnr]at hrv
 subst hrv
 have HX5:Hid (Below W.heap.size W w5):=hx
 have hz5:=blk_later hx HZ.out
 have d0:w5.cell? ⟨w.heap.size+1+1,0,none⟩=some (.int .i64 0):=by rw[blk_cell hz5];rfl
 have d1:w5.cell? ⟨w.heap.size+1+1,1,none⟩=some (.slice none 0 0):=by rw[blk_cell hz5];rfl
 have d2:w5.cell? ⟨w.heap.size+1+1,2,none⟩=some (.slice none 0 0):=by rw[blk_cell hz5];rfl
 have d3:w5.cell? ⟨w.heap.size+1+1,3,none⟩=some (.string ⟨#[]⟩):=by rw[blk_cell hz5];rfl
 have d4:w5.cell? ⟨w.heap.size+1+1,4,none⟩=some (.string ⟨#[]⟩):=by rw[blk_cell hz5];rfl
 have d5:w5.cell? ⟨w.heap.size+1+1,5,none⟩=some (.int .i64 0):=by rw[blk_cell hz5];rfl
 have d6:w5.cell? ⟨w.heap.size+1+1,6,none⟩=some (.int .i64 0):=by rw[blk_cell hz5];rfl
 have zz:=blk_frozen hz5
 unfold repJ
 clear hx hz5 hrc hnr HR x0 x1 x2 x3 x4 x5
 go_wp2_with fail
 have hq:w.heap.size≤w.heap.size+1+1:=by omega
 refine bodyPost_ret (v:=repJ (.slice ra nr rcap) s tr tk mk) (by simp[results,Tryz.results5,go_sem,repJ,d0,d1,d2,d3,d4,d5,d6]) rfl ⟨.slice ra nr rcap,s,tr,tk,mk,rfl,ORow.set_own (ORow.set_own (ORow.set_own (ORow.set_own (ORow.set_own (ORow.set_own (ORow.set_own HRC.out hrz _ _) hrz _ _) hrz _ _) hrz _ _) hrz _ _) hrz _ _) hrz _ _,?_⟩
 exact ButL.nil ((((((((ButL.of_below (HB.out.trans (HX5.out.mono HB.out.size))).setn hq _ _).setn hq _ _).setn hq _ _).setn hq _ _).setn hq _ _).setn hq _ _).setn hq _ _)
end Go.Proofs.YtliahjnnbbgooaaGreatDoor.J
namespace Go.Proofs.YtliahjnnbbgooaaGreatDoor.T
open Go.RowKit
theorem vdC_len (v:VD):v.cells.length=5:=rfl
theorem orow_ty {α:Type} {w:World} {B:Nat} {et:TypeId} {k:Nat} {cells:α→List Value} {sv:Value} {xs:List α} (h:ORow w B et k cells sv xs) {g:Nat} (hg:sv.ownBlock=some g):∃cur,w.heap[g]?=some (.cells cur et):=by
 rcases h.2 with ⟨e,_⟩ | ⟨g',c',cur,e,_,hb,_⟩
 ·rw[e]at hg;cases hg
 ·rw[e]at hg;cases hg;exact⟨cur,hb⟩
def penC (r:Nat) (cv iv tv:Value):Array Value:=#[.string ⟨#[109,97,105,110]⟩,.int .i64 0,.int .i64 0,.bool false,.int .i64 r,.slice none 0 0,cv,iv,.slice none 0 0,tv,.int .i64 0,.int .i64 0]
structure Pen (w0 w:World) (g r:Nat) (cs:List VD) (l:List ID):Prop where
 bel:Below w0.heap.size w0 w
 ge:w0.heap.size≤g
 row:∃iv cv tv,w.heap[g]?=some (.cells (penC r cv iv tv) 64)∧ORow w w0.heap.size 55 5 ID.cells iv l∧ORow w w0.heap.size 49 5 VD.cells cv cs
theorem Pen.drewN {w0 w:World} {g r:Nat} {cs:List VD} {l:List ID} (h:Pen w0 w g r cs l) (n:Nat):Pen w0 (w.drewN n) g r cs l:=by
 obtain⟨h1,h2,iv,cv,tv,h3,h4,h6⟩:=h
 exact⟨⟨h1.os,h1.tape,h1.output,h1.size,h1.block⟩,h2,iv,cv,tv,h3,h4,h6⟩
theorem Pen.drew {w0 w:World} {g r:Nat} {cs:List VD} {l:List ID} (h:Pen w0 w g r cs l):Pen w0 w.drew g r cs l:=by
 obtain⟨h1,h2,iv,cv,tv,h3,h4,h6⟩:=h
 exact⟨⟨h1.os,h1.tape,h1.output,h1.size,h1.block⟩,h2,iv,cv,tv,h3,h4,h6⟩
theorem Pen.at {w0 w:World} {g r:Nat} {cs:List VD} {l:List ID} (h:Pen w0 w g r cs l):∃a cap,w.cell? ⟨g,7,none⟩=some (.slice a l.length cap):=by
 obtain⟨h1,h2,iv,cv,tv,h3,h4,h6⟩:=h
 obtain⟨a,c,rfl⟩:=h4.val
 exact⟨a,c,by rw[blk_cell h3];rfl⟩
theorem pen_any (r:Nat) (hr:r≤250) (w:World):Calls Tryz.prog 11 #[.int .i64 (r:Int)] w fun e w'=>∃g,e=.returned (.pointer (some ⟨g,0,none⟩))∧Pen w w' g r [] []:=by
 have hmI:=fun W=>make_int r (by omega) W
 go_enter Tryz.func11,Tryz.ntmps11
 go_wp2_with fail
 go_ret
 refine⟨w.heap.size+1,rfl,bw2 _ _ _,by omega,_,_,_,blk_newn (by simp) _,ORow.nil _ _ _ _ _,ORow.nil _ _ _ _ _⟩
theorem Pen.open {w0 w:World} {g r:Nat} {cs:List VD} {l:List ID} (h:Pen w0 w g r cs l) {i:Nat} {n:ID} (hi:l[i]?=some n):∃gi cap,w.cell? ⟨g,7,none⟩=some (.slice (some ⟨gi,0,none⟩) l.length cap)∧w.cell? ⟨gi,i*5+1,none⟩=some (.int .i64 n.a)∧(∀q,w.frozen? ⟨gi,q,none⟩=false)∧∀z:Int,Pen w0 (w.setCell ⟨gi,i*5+1,none⟩ (.int .i64 z)) g r cs (setA l i z):=by
 obtain⟨h1,h2,iv,cv,tv,h3,h4,h6⟩:=h
 have hlt:=(List.getElem?_eq_some_iff.1 hi).1
 obtain⟨gi,cap,rfl,hge,_,hs,hfz,_⟩:=h4.open idC_len (by omega)
 obtain⟨b,off,e,_,hc⟩:=hs i n hi
 have e':gi=b∧0=off:=by injection e with e;injection e with e1 e2;exact⟨e1,e2⟩
 obtain⟨rfl,rfl⟩:=e'
 have hne:gi≠g:=by
  rintro rfl
  rcases h4.2 with ⟨e1,_⟩ | ⟨g0,c0,cur,e1,_,e3,_⟩
  ·cases e1
  ·injection e1 with e1 _ _;injection e1 with e1;injection e1 with e1;subst e1;rw[h3]at e3;cases e3
 have hnc:cv.ownBlock≠some gi:=by
  intro e
  obtain⟨c1,k1⟩:=orow_ty h6 e
  obtain⟨c2,k2⟩:=orow_ty h4 rfl
  rw[k1]at k2;cases k2
 refine⟨gi,cap,by rw[blk_cell h3];rfl,by have:=hc 1 _ rfl;simpa using this,hfz,fun z=>⟨h1.setCell (p:=⟨gi,i*5+1,none⟩) hge _,h2,_,cv,tv,blk_other h3 hne _ _,?_,ORow.set_own h6 (fun e=>hnc e) _ _⟩⟩
 unfold setA
 rw[hi]
 exact ORow.setc h4 idC_len hi (by omega) rfl
theorem pput_any {w0 w:World} {g r:Nat} {cs:List VD} {l:List ID} (op a b c d:Int) (H:Pen w0 w g r cs l) (hl:l.length≤100000) :
  Calls Tryz.prog 12 #[.pointer (some ⟨g,0,none⟩),.int .i64 op,.int .i64 a,.int .i64 b,.int .i64 c,.int .i64 d] w fun e w'=>e=.returned (.int .i64 (l.length:Int))∧Pen w0 w' g r cs (l++[⟨op,a,b,c,d⟩]):=by
 obtain⟨hB,hge,iv,cv,tv,hb,ho,hcs⟩:=H
 obtain⟨aa,cc,rfl⟩:=ho.val
 have hy:=bw1 w (.cells #[.int .i64 op,.int .i64 a,.int .i64 b,.int .i64 c,.int .i64 d] 55)
 have ho1:=ORow.later ho hy
 have hsz:w0.heap.size≤w.heap.size:=hB.size
 obtain⟨g',cap',w2,hr,ho2,hgr⟩:=ho1.app 58 40 Tryz.underlying58 (by kernel_rfl) (by omega) (by omega) (⟨op,a,b,c,d⟩:ID) w.heap.size 58 (blk_new _ _) rfl (by intro u hu;simp[ID.cells]at hu;rcases hu with rfl | rfl | rfl | rfl | rfl<;>rfl) (by omega) (by simp;omega)
 have hgne:(Value.slice aa l.length cc).ownBlock≠some g:=by
  intro e
  rcases ho.2 with ⟨e1,_⟩ | ⟨g0,c0,cur,e1,_,e3,_⟩
  ·rw[e1]at e;cases e
  ·rw[e1]at e;cases e;rw[hb]at e3;cases e3
 have hgl:=blk_lt hb
 have hb2:w2.heap[g]?=some (.cells (penC r cv (.slice aa l.length cc) tv) 64):=(hgr.block g (by simp;omega) (fun e=>hgne e.symm)).trans (blk_old hb _)
 have p1:w.cell? ⟨g,7,none⟩=some (.slice aa l.length cc):=by rw[blk_cell hb];rfl
 have p0:(w.alloc (.cells #[.int .i64 op,.int .i64 a,.int .i64 b,.int .i64 c,.int .i64 d] 55)).cell? ⟨g,7,none⟩=some (.slice aa l.length cc):=by rw[blk_cell (blk_old hb _)];rfl
 have p2:w2.cell? ⟨g,7,none⟩=some (.slice aa l.length cc):=by rw[blk_cell hb2];rfl
 have z2:=blk_frozen hb2
 have hcs1:=ORow.later hcs hy
 have hcs2:ORow w2 w0.heap.size 49 5 VD.cells cv cs:=ORow.keep hcs1 fun j arr _ hj=>hgr.block j (blk_lt hj) fun e=>by
  obtain⟨c2,k2⟩:=orow_ty ho1 e.symm
  rw[hj]at k2;cases k2
 have hcg:cv.ownBlock≠some g:=by
  intro e
  obtain⟨c1,k1⟩:=orow_ty hcs e
  rw[hb]at k1;cases k1
 have HE:Hid (Pen w0 (w2.setCell ⟨g,7,none⟩ (.slice (some ⟨g',0,none⟩) (l.length+1) cap')) g r cs (l++[⟨op,a,b,c,d⟩])):=by
  refine⟨?_,hge,_,cv,tv,blk_set hb2 7 _,?_,ORow.set_own hcs2 hcg 7 _⟩
  ·have:=below_grown (hB.trans (hy.mono hB.size)) (by simp;omega) ho1 (Nat.le_refl _) hgr
   exact this.setCell (p:=⟨g,7,none⟩) hge _
  ·refine ORow.set_own ho2 (fun e=>?_) 7 _
   have e':g'=g:=Option.some.inj e
   subst e'
   rcases ho2.2 with ⟨e1,_⟩ | ⟨g0,c0,cur,e1,_,e3,_⟩
   ·cases e1
   ·injection e1 with e1 _ _;injection e1 with e1;injection e1 with e1;subst e1;rw[hb2]at e3;cases e3
 obtain⟨W3,hW3⟩:∃W,w2.setCell ⟨g,7,none⟩ (.slice (some ⟨g',0,none⟩) (l.length+1) cap')=W:=⟨_,rfl⟩
 rw[hW3]at HE
 have p3:W3.cell? ⟨g,7,none⟩=some (.slice (some ⟨g',0,none⟩) (l.length+1) cap'):=by rw[←hW3,blk_cell (blk_set hb2 7 _)];rfl
 clear ho ho1 ho2 hgr hb2 hb hB hy hcs hcs1 hcs2 hcg
 go_enter Tryz.func12,Tryz.ntmps12
 go_wp2_with (at_builtin;refine wpList_append_run rfl _ _ _ rfl _ _ _ _ rfl rfl hr ?_;clear hr)
 go_ret
 exact⟨rfl,HE.out⟩
theorem pat_any {w0 w:World} {g r:Nat} {cs:List VD} {l:List ID} (H:Pen w0 w g r cs l) :
  Calls Tryz.prog 17 #[.pointer (some ⟨g,0,none⟩)] w fun e w'=>e=.returned (.int .i64 (l.length:Int))∧w'=w:=by
 obtain⟨a,cap,hc⟩:=H.at
 go_enter Tryz.func17,Tryz.ntmps17
 go_wp2_with fail
 go_ret
 exact⟨rfl,rfl⟩
theorem Pen.code {w0 w:World} {g r:Nat} {cs:List VD} {l:List ID} (h:Pen w0 w g r cs l):∃(f:FC),f.d=⟨⟨#[109,97,105,110]⟩,0,0,false,r,[],cs,l,[]⟩∧(∃tv,w.heap[g]?=some (.cells (f.cells++[tv,Value.int .i64 0,Value.int .i64 0]).toArray 64))∧∀q j v,q<w0.heap.size→f.lie (w.setCell ⟨q,j,none⟩ v):=by
 obtain⟨h1,h2,iv,cv,tv,h3,h4,h6⟩:=h
 obtain⟨a,cap,rfl,hs⟩:=h4.lies idC_len
 obtain⟨ac,ccap,rfl,hsc⟩:=h6.lies vdC_len
 refine⟨⟨⟨⟨#[109,97,105,110]⟩,0,0,false,r,[],cs,l,[]⟩,none,0,ac,ccap,a,cap,none,0⟩,rfl,⟨tv,h3⟩,fun q j v hq=>⟨SlA.nil _ _ _ _,?_,?_,SlA.nil _ _ _ _⟩⟩
 ·have h5:=ORow.set_own h6 (g:=q) (fun e=>by have:=owns_ge h6 e;omega) j v
  obtain⟨a',cap',e,hs'⟩:=h5.lies vdC_len
  injection e with e1 e2 e3
  subst e1
  exact hs'
 have h5:=ORow.set_own h4 (g:=q) (fun e=>by have:=owns_ge h4 e;omega) j v
 obtain⟨a',cap',e,hs'⟩:=h5.lies idC_len
 injection e with e1 e2 e3
 subst e1
 exact hs'
end Go.Proofs.YtliahjnnbbgooaaGreatDoor.T
