import Derived.Test.YtjglgbepobmjhaaGreatDoorP36
import Derived.Test.YtjglgbepobmjhaaGreatDoorP07
import Derived.BigRegion
import Derived.BigQuiet
import Derived.Deep.QuietTactic
set_option linter.unusedVariables false
set_option linter.unusedSimpArgs false
set_option maxRecDepth 20000
set_option maxHeartbeats 8000000
namespace Go.Proofs.YtjglgbepobmjhaaGreatDoor
open Go.RowKit
theorem VeP.split {xs:List FC} {len B:Nat} {e:Ending} {w':World} (h:VeP xs len B e w'):(∃r:F3,CkR (xs.map FC.d) r∧((shapeV (xs.map FC.d)).1≠0∧r=shapeV (xs.map FC.d)∨(shapeV (xs.map FC.d)).1=0∧∃p f,xs[p]?=some f∧WF (xs.map FC.d) p f.d (some r))∧e=.returned (.tuple #[.slice none 0 0,.iface 80 (FV r.1 r.2.1 r.2.2)])) ∨
 (CkR (xs.map FC.d) (0,0,0)∧∃gA,e=.returned (.tuple #[.slice (some ⟨gA,0,none⟩) len len,.nilIface])∧VeR xs B gA xs.length w'):=h
theorem icheckcode_any (a:Option Addr) (len cap:Nat) (xs:List FC) (w:World) (H0:CodeAt w a xs) (hl:xs.length=len) (hlay:LayAt w) (he:ErrAt w) :
  Calls Tryz.prog 7 #[.agg #[.slice a len cap]] w fun e w'=>(∃r:F3,CkR (xs.map FC.d) r∧e=.returned (FV r.1 r.2.1 r.2.2))∧Below w.heap.size w w':=by
 have hy:=bw2 w (CO (.slice a len cap)) (FO 0 0 0)
 go_enter Tryz.func7,Tryz.ntmps7
 go_wp2_with fail
 refine (verify_any a len cap xs _ (H0.later hy) hl (hlay.later hy)).mono ?_
 rintro e w1 ⟨hV,hx⟩
 have B1:=blk_later hx (blk_newn (k:=w.heap.size+1) (by simp) (FO 0 0 0))
 have hB:=hy.trans (hx.mono hy.size)
 clear hx
 rcases hV.split with ⟨⟨rc,rp,ri⟩,hck,_,rfl⟩ | ⟨hck,gA,rfl,_⟩
 ·have HCK:Hid (CkR (xs.map FC.d) (rc,rp,ri)):=hck
  clear hV hck
  go_wp2_with fail
  refine (faultof_some rc rp ri _ (he.later hB)).mono ?_
  rintro e w2 ⟨rfl,hx⟩
  have B2:=blk_later hx B1
  have r0:w2.cell? ⟨w.heap.size+1,0,none⟩=some (.int .i64 0):=by rw[blk_cell B2];rfl
  have r1:w2.cell? ⟨w.heap.size+1,1,none⟩=some (.int .i64 0):=by rw[blk_cell B2];rfl
  have r2:w2.cell? ⟨w.heap.size+1,2,none⟩=some (.int .i64 0):=by rw[blk_cell B2];rfl
  have z:=blk_frozen B2
  have hz:=hB.trans (hx.mono hB.size)
  clear hx B1 B2 hB H0 hlay he hy
  go_wp2_with fail
  refine bodyPost_ret (v:=FV rc rp ri) (by simp[results,Tryz.results7,go_sem,r0,r1,r2]) rfl ⟨⟨(rc,rp,ri),HCK.out,rfl⟩,?_⟩
  exact ((hz.setCell (p:=⟨w.heap.size+1,0,none⟩) (by simp) _).setCell (p:=⟨w.heap.size+1,1,none⟩) (by simp) _).setCell (p:=⟨w.heap.size+1,2,none⟩) (by simp) _
 ·have HCK:Hid (CkR (xs.map FC.d) (0,0,0)):=hck
  clear hV hck
  go_wp2_with fail
  refine (faultof_none _).mono ?_
  rintro e w2 ⟨rfl,hx⟩
  have B2:=blk_later hx B1
  have r0:w2.cell? ⟨w.heap.size+1,0,none⟩=some (.int .i64 0):=by rw[blk_cell B2];rfl
  have r1:w2.cell? ⟨w.heap.size+1,1,none⟩=some (.int .i64 0):=by rw[blk_cell B2];rfl
  have r2:w2.cell? ⟨w.heap.size+1,2,none⟩=some (.int .i64 0):=by rw[blk_cell B2];rfl
  have z:=blk_frozen B2
  have hz:=hB.trans (hx.mono hB.size)
  clear hx B1 B2 hB H0 hlay he hy
  go_wp2_with fail
  refine bodyPost_ret (v:=FV 0 0 0) (by simp[results,Tryz.results7,go_sem,r0,r1,r2]) rfl ⟨⟨(0,0,0),HCK.out,rfl⟩,?_⟩
  exact ((hz.setCell (p:=⟨w.heap.size+1,0,none⟩) (by simp) _).setCell (p:=⟨w.heap.size+1,1,none⟩) (by simp) _).setCell (p:=⟨w.heap.size+1,2,none⟩) (by simp) _
end Go.Proofs.YtjglgbepobmjhaaGreatDoor
namespace Go.Proofs.YtjglgbepobmjhaaGreatDoor.M
open Go.RowKit
def vd0:VD:=⟨0,0,0,⟨#[]⟩,0⟩
structure SD where
 h:Int
 v:VD
 b:Value
 l:Value
def SD.cells (s:SD):List Value:=[.int .i64 s.h,.int .i64 s.v.k,.int .i64 s.v.n,.float .f64 s.v.f,.string s.v.s,.int .i64 s.v.r,s.b,s.l]
theorem sd_len (s:SD):s.cells.length=8:=rfl
def sd0:SD:=⟨0,vd0,.pointer none,.slice none 0 0⟩
def sdV (v:VD):SD:=⟨1,v,.pointer none,.slice none 0 0⟩
def sdL (l:Value):SD:=⟨3,vd0,.pointer none,l⟩
def setL (l:List Value) (o:Nat):List Value→List Value
 | []=>l
 | v :: vs=>setL (l.set o v) (o+1) vs
theorem putl_toArray:∀(vs:List Value) (l:List Value) (o:Nat),putl l.toArray o vs=(setL l o vs).toArray
 | [],_,_=>rfl
 | v :: vs,l,o=>by
  rw[putl,setL,List.setIfInBounds_toArray,putl_toArray vs]
theorem setL_mid:∀(vs A B C:List Value),B.length=vs.length→setL (A++(B++C)) A.length vs=A++(vs++C)
 | [],A,B,C,h=>by
  have:B=[]:=List.length_eq_zero_iff.1 h
  subst this;rfl
 | v :: vs,A,b :: B,C,h=>by
  have ih:=setL_mid vs (A++[v]) B C (by simpa using h)
  rw[setL,List.set_append_right _ _ (Nat.le_refl _),Nat.sub_self]
  simp only[List.cons_append,List.set_cons_zero]
  rw[List.length_append]at ih
  simpa using ih
 | v :: vs,A,[],C,h=>by simp at h
theorem setL_flat {α:Type} (cells:α→List Value) (k:Nat) (hk:∀y,(cells y).length=k) (P:List Value) (xs:List α) (i:Nat) (x:α) (hi:i<xs.length) :
  setL (P++xs.flatMap cells) (P.length+i*k) (cells x)=P++(xs.set i x).flatMap cells:=by
 have h1:xs=xs.take i++xs[i] :: xs.drop (i+1):=by
  conv=>lhs;rw[←List.take_append_drop i xs]
  rw[List.drop_eq_getElem_cons hi]
 have hl:((xs.take i).flatMap cells).length=i*k:=by
  rw[List.length_flatMap]
  have:(xs.take i).map (fun a=>(cells a).length)=List.replicate i k:=by
   apply List.ext_getElem?
   intro n
   rw[List.getElem?_map,List.getElem?_replicate,List.getElem?_take]
   by_cases hn:n<i
   ·rw[if_pos hn,if_pos hn,List.getElem?_eq_getElem (by omega)];simp[hk]
   ·rw[if_neg hn,if_neg hn];rfl
  rw[this,List.sum_replicate_nat]
 have h2:P++xs.flatMap cells=(P++(xs.take i).flatMap cells)++(cells xs[i]++(xs.drop (i+1)).flatMap cells):=by
  have h4:xs.flatMap cells=(xs.take i).flatMap cells++(cells xs[i]++(xs.drop (i+1)).flatMap cells):=by
   conv=>lhs;rw[h1]
   rw[List.flatMap_append,List.flatMap_cons]
  rw[h4,List.append_assoc]
 have h3:P++(xs.set i x).flatMap cells=(P++(xs.take i).flatMap cells)++(cells x++(xs.drop (i+1)).flatMap cells):=by
  rw[List.set_eq_take_append_cons_drop,if_pos hi]
  simp[List.flatMap_append,List.flatMap_cons]
 rw[h2,h3,show P.length+i*k=(P++(xs.take i).flatMap cells).length by rw[List.length_append,hl]]
 exact setL_mid (cells x) _ (cells xs[i]) _ (by rw[hk,hk])
structure CallD where
 fn:VD
 proto:Int
 ins:Value
 consts:Value
 ups:Value
 at':Int
 next:Int
 line:Int
 guards:Value
 way:Value
 regs:List SD
def CallD.hd (c:CallD):List Value:=[.int .i64 c.fn.k,.int .i64 c.fn.n,.float .f64 c.fn.f,.string c.fn.s,.int .i64 c.fn.r,.int .i64 c.proto,c.ins,c.consts,c.ups,.int .i64 c.at',.int .i64 c.next,.int .i64 c.line,c.guards,c.way]
def CallD.arr (c:CallD):Array Value:=(c.hd++c.regs.flatMap SD.cells).toArray
theorem CallD.get_hd (c:CallD) (i:Nat) (hi:i<14):c.arr[i]?=c.hd[i]?:=by
 unfold CallD.arr
 rw[List.getElem?_toArray,List.getElem?_append_left (by exact hi)]
theorem CallD.get_reg (c:CallD) {i j:Nat} {s:SD} {v:Value} (hs:c.regs[i]?=some s) (hv:s.cells[j]?=some v):c.arr[14+(i*8+j)]?=some v:=by
 unfold CallD.arr
 rw[List.getElem?_toArray,List.getElem?_append_right (by show (14:Nat)≤_;omega)]
 rw[show 14+(i*8+j)-c.hd.length=i*8+j by show 14+(i*8+j)-14=_;omega]
 exact flat_at SD.cells 8 c.regs i j s v (fun y _=>sd_len y) hs hv
theorem CallD.set_reg (c:CallD) {i:Nat} (s:SD) (hi:i<c.regs.length):putl c.arr (14+i*8) s.cells={ c with regs:=c.regs.set i s }.arr:=by
 unfold CallD.arr
 rw[putl_toArray]
 exact congrArg List.toArray (setL_flat SD.cells 8 sd_len c.hd c.regs i s hi)
theorem CallD.set_at (c:CallD) (z:Int):c.arr.setIfInBounds 9 (.int .i64 z)={ c with at':=z }.arr:=by
 unfold CallD.arr;rw[List.setIfInBounds_toArray];rfl
theorem CallD.set_next (c:CallD) (z:Int):c.arr.setIfInBounds 10 (.int .i64 z)={ c with next:=z }.arr:=by
 unfold CallD.arr;rw[List.setIfInBounds_toArray];rfl
theorem CallD.set_guards (c:CallD) (z:Value):c.arr.setIfInBounds 12 z={ c with guards:=z }.arr:=by
 unfold CallD.arr;rw[List.setIfInBounds_toArray];rfl
def CallAt (w:World) (g:Nat) (c:CallD):Prop:=w.heap[g]?=some (.cells c.arr 210)
theorem CallAt.cell {w:World} {g:Nat} {c:CallD} (h:CallAt w g c) (i:Nat) (hi:i<14):w.cell? ⟨g,i,none⟩=c.hd[i]?:=by
 rw[blk_cell h,c.get_hd i hi]
theorem CallAt.reg {w:World} {g:Nat} {c:CallD} (h:CallAt w g c) {i j:Nat} {s:SD} {v:Value} (hs:c.regs[i]?=some s) (hv:s.cells[j]?=some v):w.cell? ⟨g,14+(i*8+j),none⟩=some v:=by
 rw[blk_cell h];exact c.get_reg hs hv
theorem CallAt.later {w w':World} {g:Nat} {c:CallD} (h:CallAt w g c) (hb:Below w.heap.size w w'):CallAt w' g c:=blk_later hb h
theorem CallAt.but {S:List Nat} {w w':World} {g:Nat} {c:CallD} (h:CallAt w g c) (hb:ButL S w w') (hS:g∉S):CallAt w' g c:=hb.blk h hS
def instT:List Value:=[.nilFunc,.func (.func 78) #[] #[],.func (.func 79) #[] #[],.func (.func 80) #[] #[],.func (.func 81) #[] #[],.func (.func 81) #[] #[],.func (.func 82) #[] #[],.func (.func 81) #[] #[],.func (.func 83) #[] #[],.func (.func 81) #[] #[],.func (.func 84) #[] #[],.func (.func 85) #[] #[],.func (.func 86) #[] #[],.func (.func 87) #[] #[],.func (.func 88) #[] #[],.func (.func 89) #[] #[],.func (.func 90) #[] #[],.func (.func 91) #[] #[],.func (.func 92) #[] #[],.func (.func 93) #[] #[],.func (.func 93) #[] #[],.func (.func 93) #[] #[],.func (.func 94) #[] #[],.func (.func 95) #[] #[],.func (.func 95) #[] #[],.func (.func 81) #[] #[],.func (.func 81) #[] #[],.func (.func 96) #[] #[],.func (.func 97) #[] #[],.func (.func 98) #[] #[],.func (.func 99) #[] #[],.func (.func 100) #[] #[],.func (.func 101) #[] #[],.func (.func 102) #[] #[],.func (.func 103) #[] #[],.func (.func 104) #[] #[],.func (.func 105) #[] #[],.func (.func 106) #[] #[],.func (.func 93) #[] #[],.func (.func 107) #[] #[],.func (.func 108) #[] #[],.func (.func 109) #[] #[],.func (.func 110) #[] #[]]
def buiT:List Value:=[.func (.func 111) #[] #[],.func (.func 112) #[] #[],.func (.func 113) #[] #[],.func (.func 114) #[] #[],.func (.func 115) #[] #[],.func (.func 116) #[] #[],.func (.func 117) #[] #[],.func (.func 118) #[] #[],.func (.func 119) #[] #[],.func (.func 120) #[] #[],.func (.func 121) #[] #[],.func (.func 122) #[] #[],.func (.func 123) #[] #[],.func (.func 124) #[] #[],.func (.func 125) #[] #[]]
structure MachD where
 protos:Value
 ticks:Int
 depth:Int
 cells:Int
 watch:Value
 code:Int
 recs:Value
 vals:Value
 err:ByteArray
 trace:ByteArray
 rticks:Int
 made:Int
 tables:Value
 tasks:Value
 running:Value
 living:Int
 since:Int
def MachD.arr (m:MachD):Array Value:=([m.protos,.slice none 0 0,.slice none 0 0,.int .i64 m.ticks,.int .i64 m.depth,.int .i64 m.cells,m.watch,.int .i64 m.code,m.recs,m.vals,.string m.err,.string m.trace,.int .i64 m.rticks,.int .i64 m.made]++instT++buiT++[m.tables,.slice none 0 0,m.tasks,m.running,.slice none 0 0,.int .i64 0,.int .i64 0,.int .i64 m.living,.int .i64 m.since,.int .u64 0,.int .u32 0]).toArray
theorem MachD.size (m:MachD):m.arr.size=83:=rfl
theorem MachD.set_since (m:MachD) (z:Int):m.arr.setIfInBounds 80 (.int .i64 z)={ m with since:=z }.arr:=rfl
theorem MachD.set_made (m:MachD) (z:Int):m.arr.setIfInBounds 13 (.int .i64 z)={ m with made:=z }.arr:=rfl
theorem MachD.set_tables (m:MachD) (z:Value):m.arr.setIfInBounds 72 z={ m with tables:=z }.arr:=rfl
theorem MachD.set_tasks (m:MachD) (z:Value):m.arr.setIfInBounds 74 z={ m with tasks:=z }.arr:=rfl
theorem MachD.set_running (m:MachD) (z:Value):m.arr.setIfInBounds 75 z={ m with running:=z }.arr:=rfl
theorem MachD.set_code (m:MachD) (z:Int):m.arr.setIfInBounds 7 (.int .i64 z)={ m with code:=z }.arr:=rfl
def MachAt (w:World) (g:Nat) (m:MachD):Prop:=w.heap[g]?=some (.cells m.arr 109)
theorem MachAt.cell {w:World} {g:Nat} {m:MachD} (h:MachAt w g m) (i:Nat):w.cell? ⟨g,i,none⟩=m.arr[i]?:=blk_cell h i
theorem MachAt.later {w w':World} {g:Nat} {m:MachD} (h:MachAt w g m) (hb:Below w.heap.size w w'):MachAt w' g m:=blk_later hb h
theorem MachAt.but {S:List Nat} {w w':World} {g:Nat} {m:MachD} (h:MachAt w g m) (hb:ButL S w w') (hS:g∉S):MachAt w' g m:=hb.blk h hS
end Go.Proofs.YtjglgbepobmjhaaGreatDoor.M
namespace Go.Proofs.YtjglgbepobmjhaaGreatDoor.M
open Go.RowKit
attribute [local go_sem] run_store_float
theorem CallAt.set8 {w:World} {g i:Nat} {c:CallD} (h:CallAt w g c) (hi:i<c.regs.length) (s:SD):CallAt ((((((((w.setCell ⟨g,14+i*8,none⟩ (.int .i64 s.h)).setCell ⟨g,14+i*8+1,none⟩ (.int .i64 s.v.k)).setCell ⟨g,14+i*8+2,none⟩ (.int .i64 s.v.n)).setCell ⟨g,14+i*8+3,none⟩ (.float .f64 s.v.f)).setCell ⟨g,14+i*8+4,none⟩ (.string s.v.s)).setCell ⟨g,14+i*8+5,none⟩ (.int .i64 s.v.r)).setCell ⟨g,14+i*8+6,none⟩ s.b).setCell ⟨g,14+i*8+7,none⟩ s.l) g { c with regs:=c.regs.set i s }:=by
 have h8:=blk_set (blk_set (blk_set (blk_set (blk_set (blk_set (blk_set (blk_set h (14+i*8) (.int .i64 s.h)) (14+i*8+1) (.int .i64 s.v.k)) (14+i*8+2) (.int .i64 s.v.n)) (14+i*8+3) (.float .f64 s.v.f)) (14+i*8+4) (.string s.v.s)) (14+i*8+5) (.int .i64 s.v.r)) (14+i*8+6) s.b) (14+i*8+7) s.l
 have e:=CallD.set_reg c s hi
 unfold CallAt
 rw[←e]
 exact h8
theorem but8 {S:List Nat} {w0 w:World} {g i:Nat} (h:ButL S w0 w) (hg:g∈S∨w0.heap.size≤g) (s:SD):ButL S w0 ((((((((w.setCell ⟨g,14+i*8,none⟩ (.int .i64 s.h)).setCell ⟨g,14+i*8+1,none⟩ (.int .i64 s.v.k)).setCell ⟨g,14+i*8+2,none⟩ (.int .i64 s.v.n)).setCell ⟨g,14+i*8+3,none⟩ (.float .f64 s.v.f)).setCell ⟨g,14+i*8+4,none⟩ (.string s.v.s)).setCell ⟨g,14+i*8+5,none⟩ (.int .i64 s.v.r)).setCell ⟨g,14+i*8+6,none⟩ s.b).setCell ⟨g,14+i*8+7,none⟩ s.l) :=
 (((((((h.seto hg _ _).seto hg _ _).seto hg _ _).seto hg _ _).seto hg _ _).seto hg _ _).seto hg _ _).seto hg _ _
theorem CallAt.drewN {w:World} {g:Nat} {c:CallD} (h:CallAt w g c) (n:Nat):CallAt (w.drewN n) g c:=h
theorem CallAt.drew {w:World} {g:Nat} {c:CallD} (h:CallAt w g c):CallAt w.drew g c:=h
theorem putList_any (g i n cap:Nat) (a:Option Addr) (c:CallD) (w:World) (h:CallAt w g c) (hr:c.regs.length=250) (hi:i<250) :
  Calls Tryz.prog 128 #[.pointer (some ⟨g,0,none⟩),.int .i64 (i:Int),.slice a n cap] w fun e w'=>e=.returned (.tuple #[])∧CallAt w' g { c with regs:=c.regs.set i (sdL (.slice a n cap)) }∧ButL [g] w w':=by
 obtain⟨s,hs⟩:∃s,c.regs[i]?=some s:=⟨c.regs[i]'(by omega),by simp⟩
 have c0:w.cell? ⟨g,14+i*8,none⟩=some (.int .i64 s.h):=by have:=h.reg hs (j:=0) rfl;simpa using this
 have c1:w.cell? ⟨g,14+i*8+1,none⟩=some (.int .i64 s.v.k):=by have:=h.reg hs (j:=1) rfl;rwa [←Nat.add_assoc]at this
 have c2:w.cell? ⟨g,14+i*8+2,none⟩=some (.int .i64 s.v.n):=by have:=h.reg hs (j:=2) rfl;rwa [←Nat.add_assoc]at this
 have c3:w.cell? ⟨g,14+i*8+3,none⟩=some (.float .f64 s.v.f):=by have:=h.reg hs (j:=3) rfl;rwa [←Nat.add_assoc]at this
 have c4:w.cell? ⟨g,14+i*8+4,none⟩=some (.string s.v.s):=by have:=h.reg hs (j:=4) rfl;rwa [←Nat.add_assoc]at this
 have c5:w.cell? ⟨g,14+i*8+5,none⟩=some (.int .i64 s.v.r):=by have:=h.reg hs (j:=5) rfl;rwa [←Nat.add_assoc]at this
 have c6:w.cell? ⟨g,14+i*8+6,none⟩=some s.b:=by have:=h.reg hs (j:=6) rfl;rwa [←Nat.add_assoc]at this
 have c7:w.cell? ⟨g,14+i*8+7,none⟩=some s.l:=by have:=h.reg hs (j:=7) rfl;rwa [←Nat.add_assoc]at this
 have z:=blk_frozen h
 have HC:Hid (CallAt w g c):=h
 clear h
 go_enter Tryz.func128,Tryz.ntmps128
 go_wp2_with fail
 exact bodyPost_end (v:=.tuple #[]) (by simp[results,Tryz.results128,go_sem]) rfl ⟨rfl,HC.out.set8 (by omega) (sdL (.slice a n cap)),but8 (ButL.refl _ _) (.inl (by simp)) (sdL (.slice a n cap))⟩
theorem put_any (g i:Nat) (v:VD) (c:CallD) (w:World) (h:CallAt w g c) (hr:c.regs.length=250) (hi:i<250) :
  Calls Tryz.prog 126 #[.pointer (some ⟨g,0,none⟩),.int .i64 (i:Int),.agg #[.int .i64 v.k,.int .i64 v.n,.float .f64 v.f,.string v.s,.int .i64 v.r]] w fun e w'=>e=.returned (.tuple #[])∧CallAt w' g { c with regs:=c.regs.set i (sdV v) }∧ButL [g] w w':=by
 obtain⟨s,hs⟩:∃s,c.regs[i]?=some s:=⟨c.regs[i]'(by omega),by simp⟩
 have hlt:=blk_lt h
 obtain⟨W,hW⟩:∃W,w.alloc (.cells #[.int .i64 v.k,.int .i64 v.n,.float .f64 v.f,.string v.s,.int .i64 v.r] 70)=W:=⟨_,rfl⟩
 have hb:=bw1 w (.cells #[.int .i64 v.k,.int .i64 v.n,.float .f64 v.f,.string v.s,.int .i64 v.r] 70)
 have bn:=blk_new w (.cells #[.int .i64 v.k,.int .i64 v.n,.float .f64 v.f,.string v.s,.int .i64 v.r] 70)
 rw[hW]at hb bn
 have h':CallAt W g c:=h.later hb
 have c0:W.cell? ⟨g,14+i*8,none⟩=some (.int .i64 s.h):=by have:=h'.reg hs (j:=0) rfl;simpa using this
 have c1:W.cell? ⟨g,14+i*8+1,none⟩=some (.int .i64 s.v.k):=by have:=h'.reg hs (j:=1) rfl;rwa [←Nat.add_assoc]at this
 have c2:W.cell? ⟨g,14+i*8+2,none⟩=some (.int .i64 s.v.n):=by have:=h'.reg hs (j:=2) rfl;rwa [←Nat.add_assoc]at this
 have c3:W.cell? ⟨g,14+i*8+3,none⟩=some (.float .f64 s.v.f):=by have:=h'.reg hs (j:=3) rfl;rwa [←Nat.add_assoc]at this
 have c4:W.cell? ⟨g,14+i*8+4,none⟩=some (.string s.v.s):=by have:=h'.reg hs (j:=4) rfl;rwa [←Nat.add_assoc]at this
 have c5:W.cell? ⟨g,14+i*8+5,none⟩=some (.int .i64 s.v.r):=by have:=h'.reg hs (j:=5) rfl;rwa [←Nat.add_assoc]at this
 have c6:W.cell? ⟨g,14+i*8+6,none⟩=some s.b:=by have:=h'.reg hs (j:=6) rfl;rwa [←Nat.add_assoc]at this
 have c7:W.cell? ⟨g,14+i*8+7,none⟩=some s.l:=by have:=h'.reg hs (j:=7) rfl;rwa [←Nat.add_assoc]at this
 have z:=blk_frozen h'
 have d0:W.cell? ⟨w.heap.size,0,none⟩=some (.int .i64 v.k):=by rw[blk_cell bn];rfl
 have d1:W.cell? ⟨w.heap.size,1,none⟩=some (.int .i64 v.n):=by rw[blk_cell bn];rfl
 have d2:W.cell? ⟨w.heap.size,2,none⟩=some (.float .f64 v.f):=by rw[blk_cell bn];rfl
 have d3:W.cell? ⟨w.heap.size,3,none⟩=some (.string v.s):=by rw[blk_cell bn];rfl
 have d4:W.cell? ⟨w.heap.size,4,none⟩=some (.int .i64 v.r):=by rw[blk_cell bn];rfl
 have HC:Hid (CallAt W g c):=h'
 have HB:Hid (ButL [g] w W):=ButL.of_below hb
 clear h h' hb bn
 go_enter Tryz.func126,Tryz.ntmps126
 go_wp2_with fail
 clear hW
 go_region
 go_wp2_with fail
 exact bodyPost_end (v:=.tuple #[]) (by simp[results,Tryz.results126,go_sem]) rfl ⟨rfl,(HC.out.set8 (by omega) (sdV v)).drew,(but8 HB.out (.inl (by simp)) (sdV v)).drew⟩
theorem operand_neg (g i:Nat) (x:Int) (h0:Int) (v:VD) (pb la:Option Addr) (ln lc:Nat) (c:CallD) (w:World) (h:CallAt w g c) (hr:c.regs.length=250) (hi:i<250) (hx:x<0) (hxi:-1-x=(i:Int)) (hs:c.regs[i]?=some ⟨h0,v,.pointer pb,.slice la ln lc⟩) :
  Calls Tryz.prog 162 #[.pointer (some ⟨g,0,none⟩),.int .i64 x] w fun e w'=>e=.returned (.agg #[.int .i64 h0,.int .i64 v.k,.int .i64 v.n,.float .f64 v.f,.string v.s,.int .i64 v.r,.pointer pb,.slice la ln lc])∧CallAt w' g { c with regs:=c.regs.set i sd0 }∧ButL [g] w w':=by
 have hlt:=blk_lt h
 have hx0:¬(0:Int)≤x:=by omega
 have c0:w.cell? ⟨g,14+i*8,none⟩=some (.int .i64 h0):=by have:=h.reg hs (j:=0) rfl;simpa using this
 have c1:w.cell? ⟨g,14+i*8+1,none⟩=some (.int .i64 v.k):=by have:=h.reg hs (j:=1) rfl;rwa [←Nat.add_assoc]at this
 have c2:w.cell? ⟨g,14+i*8+2,none⟩=some (.int .i64 v.n):=by have:=h.reg hs (j:=2) rfl;rwa [←Nat.add_assoc]at this
 have c3:w.cell? ⟨g,14+i*8+3,none⟩=some (.float .f64 v.f):=by have:=h.reg hs (j:=3) rfl;rwa [←Nat.add_assoc]at this
 have c4:w.cell? ⟨g,14+i*8+4,none⟩=some (.string v.s):=by have:=h.reg hs (j:=4) rfl;rwa [←Nat.add_assoc]at this
 have c5:w.cell? ⟨g,14+i*8+5,none⟩=some (.int .i64 v.r):=by have:=h.reg hs (j:=5) rfl;rwa [←Nat.add_assoc]at this
 have c6:w.cell? ⟨g,14+i*8+6,none⟩=some (.pointer pb):=by have:=h.reg hs (j:=6) rfl;rwa [←Nat.add_assoc]at this
 have c7:w.cell? ⟨g,14+i*8+7,none⟩=some (.slice la ln lc):=by have:=h.reg hs (j:=7) rfl;rwa [←Nat.add_assoc]at this
 have z:=blk_frozen h
 have HC:Hid (CallAt w g c):=h
 clear h
 go_enter Tryz.func162,Tryz.ntmps162
 go_wp2_with fail
 refine bodyPost_ret (v:=.agg #[.int .i64 h0,.int .i64 v.k,.int .i64 v.n,.float .f64 v.f,.string v.s,.int .i64 v.r,.pointer pb,.slice la ln lc]) (by simp[results,Tryz.results162,go_sem]) rfl ⟨rfl,(HC.out.set8 (by omega) sd0).later (bw2 _ _ _),((but8 (ButL.refl _ _) (.inl (by simp)) sd0).alloc _).alloc _⟩
theorem takeOff_any (g n cap:Nat) (a:Option Addr) (c:CallD) (w:World) (h:CallAt w g c) (hg:c.guards=.slice a (n+1) cap) (hcap:n+1≤cap) (hn:n≤1000) :
  Calls Tryz.prog 177 #[.pointer (some ⟨g,0,none⟩)] w fun e w'=>e=.returned (.tuple #[])∧CallAt w' g { c with guards:=.slice a n cap }∧ButL [g] w w':=by
 have c12:w.cell? ⟨g,12,none⟩=some (.slice a (n+1) cap):=by rw[h.cell 12 (by omega),←hg];rfl
 have z:=blk_frozen h
 have HC:Hid (CallAt w g c):=h
 clear h
 go_enter Tryz.func177,Tryz.ntmps177
 go_wp2_with fail
 go_region
 go_wp2_with fail
 refine bodyPost_end (v:=.tuple #[]) (by simp[results,Tryz.results177,go_sem]) rfl ⟨rfl,?_,((ButL.refl _ _).set (by simp) _ _).drew⟩
 have:=blk_set HC.out 12 (.slice a n cap)
 rw[CallD.set_guards]at this
 exact this
end Go.Proofs.YtjglgbepobmjhaaGreatDoor.M
