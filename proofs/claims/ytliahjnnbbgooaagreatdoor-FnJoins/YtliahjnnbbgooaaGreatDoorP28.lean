import Derived.Test.YtliahjnnbbgooaaGreatDoorP05
import Derived.Test.YtliahjnnbbgooaaGreatDoorP06
import Derived.BigRegion
import Derived.BigQuiet
import Derived.Deep.QuietTactic
import Derived.Test.YtliahjnnbbgooaaGreatDoorP08
set_option linter.unusedVariables false
set_option linter.unusedSimpArgs false
set_option maxRecDepth 20000
set_option maxHeartbeats 8000000
namespace Go.Proofs.YtliahjnnbbgooaaGreatDoor.M
open Go.RowKit
def vd0:VD:=⟨0,0,0,⟨#[]⟩,0⟩
structure SD where
 h:Int
 v:VD
 b:Value
 l:Value
def SD.cells (s:SD):List Value:=[.int .i64 s.h,.int .i64 s.v.k,.int .i64 s.v.n,.float .f64 s.v.f,.string s.v.s,.int .i64 s.v.r,s.b,s.l]
theorem sd_len (s:SD):s.cells.length=8:=rfl
def sd0:SD:=⟨0,vd0,.pointer none,.slice none 0 0⟩
def sdV (v:VD):SD:=⟨1,v,.pointer none,.slice none 0 0⟩
def sdL (l:Value):SD:=⟨3,vd0,.pointer none,l⟩
def setL (l:List Value) (o:Nat):List Value→List Value
 | []=>l
 | v :: vs=>setL (l.set o v) (o+1) vs
theorem putl_toArray:∀(vs:List Value) (l:List Value) (o:Nat),putl l.toArray o vs=(setL l o vs).toArray
 | [],_,_=>rfl
 | v :: vs,l,o=>by
  rw[putl,setL,List.setIfInBounds_toArray,putl_toArray vs]
theorem setL_mid:∀(vs A B C:List Value),B.length=vs.length→setL (A++(B++C)) A.length vs=A++(vs++C)
 | [],A,B,C,h=>by
  have:B=[]:=List.length_eq_zero_iff.1 h
  subst this;rfl
 | v :: vs,A,b :: B,C,h=>by
  have ih:=setL_mid vs (A++[v]) B C (by simpa using h)
  rw[setL,List.set_append_right _ _ (Nat.le_refl _),Nat.sub_self]
  simp only[List.cons_append,List.set_cons_zero]
  rw[List.length_append]at ih
  simpa using ih
 | v :: vs,A,[],C,h=>by simp at h
theorem setL_flat {α:Type} (cells:α→List Value) (k:Nat) (hk:∀y,(cells y).length=k) (P:List Value) (xs:List α) (i:Nat) (x:α) (hi:i<xs.length) :
  setL (P++xs.flatMap cells) (P.length+i*k) (cells x)=P++(xs.set i x).flatMap cells:=by
 have h1:xs=xs.take i++xs[i] :: xs.drop (i+1):=by
  conv=>lhs;rw[←List.take_append_drop i xs]
  rw[List.drop_eq_getElem_cons hi]
 have hl:((xs.take i).flatMap cells).length=i*k:=by
  rw[List.length_flatMap]
  have:(xs.take i).map (fun a=>(cells a).length)=List.replicate i k:=by
   apply List.ext_getElem?
   intro n
   rw[List.getElem?_map,List.getElem?_replicate,List.getElem?_take]
   by_cases hn:n<i
   ·rw[if_pos hn,if_pos hn,List.getElem?_eq_getElem (by omega)];simp[hk]
   ·rw[if_neg hn,if_neg hn];rfl
  rw[this,List.sum_replicate_nat]
 have h2:P++xs.flatMap cells=(P++(xs.take i).flatMap cells)++(cells xs[i]++(xs.drop (i+1)).flatMap cells):=by
  have h4:xs.flatMap cells=(xs.take i).flatMap cells++(cells xs[i]++(xs.drop (i+1)).flatMap cells):=by
   conv=>lhs;rw[h1]
   rw[List.flatMap_append,List.flatMap_cons]
  rw[h4,List.append_assoc]
 have h3:P++(xs.set i x).flatMap cells=(P++(xs.take i).flatMap cells)++(cells x++(xs.drop (i+1)).flatMap cells):=by
  rw[List.set_eq_take_append_cons_drop,if_pos hi]
  simp[List.flatMap_append,List.flatMap_cons]
 rw[h2,h3,show P.length+i*k=(P++(xs.take i).flatMap cells).length by rw[List.length_append,hl]]
 exact setL_mid (cells x) _ (cells xs[i]) _ (by rw[hk,hk])
structure CallD where
 fn:VD
 proto:Int
 ins:Value
 consts:Value
 ups:Value
 at':Int
 next:Int
 line:Int
 guards:Value
 way:Value
 regs:List SD
def CallD.hd (c:CallD):List Value:=[.int .i64 c.fn.k,.int .i64 c.fn.n,.float .f64 c.fn.f,.string c.fn.s,.int .i64 c.fn.r,.int .i64 c.proto,c.ins,c.consts,c.ups,.int .i64 c.at',.int .i64 c.next,.int .i64 c.line,c.guards,c.way]
def CallD.arr (c:CallD):Array Value:=(c.hd++c.regs.flatMap SD.cells).toArray
theorem CallD.get_hd (c:CallD) (i:Nat) (hi:i<14):c.arr[i]?=c.hd[i]?:=by
 unfold CallD.arr
 rw[List.getElem?_toArray,List.getElem?_append_left (by exact hi)]
theorem CallD.get_reg (c:CallD) {i j:Nat} {s:SD} {v:Value} (hs:c.regs[i]?=some s) (hv:s.cells[j]?=some v):c.arr[14+(i*8+j)]?=some v:=by
 unfold CallD.arr
 rw[List.getElem?_toArray,List.getElem?_append_right (by show (14:Nat)≤_;omega)]
 rw[show 14+(i*8+j)-c.hd.length=i*8+j by show 14+(i*8+j)-14=_;omega]
 exact flat_at SD.cells 8 c.regs i j s v (fun y _=>sd_len y) hs hv
theorem CallD.set_reg (c:CallD) {i:Nat} (s:SD) (hi:i<c.regs.length):putl c.arr (14+i*8) s.cells={ c with regs:=c.regs.set i s }.arr:=by
 unfold CallD.arr
 rw[putl_toArray]
 exact congrArg List.toArray (setL_flat SD.cells 8 sd_len c.hd c.regs i s hi)
theorem CallD.set_at (c:CallD) (z:Int):c.arr.setIfInBounds 9 (.int .i64 z)={ c with at':=z }.arr:=by
 unfold CallD.arr;rw[List.setIfInBounds_toArray];rfl
theorem CallD.set_next (c:CallD) (z:Int):c.arr.setIfInBounds 10 (.int .i64 z)={ c with next:=z }.arr:=by
 unfold CallD.arr;rw[List.setIfInBounds_toArray];rfl
theorem CallD.set_guards (c:CallD) (z:Value):c.arr.setIfInBounds 12 z={ c with guards:=z }.arr:=by
 unfold CallD.arr;rw[List.setIfInBounds_toArray];rfl
def CallAt (w:World) (g:Nat) (c:CallD):Prop:=w.heap[g]?=some (.cells c.arr 152)
theorem CallAt.cell {w:World} {g:Nat} {c:CallD} (h:CallAt w g c) (i:Nat) (hi:i<14):w.cell? ⟨g,i,none⟩=c.hd[i]?:=by
 rw[blk_cell h,c.get_hd i hi]
theorem CallAt.reg {w:World} {g:Nat} {c:CallD} (h:CallAt w g c) {i j:Nat} {s:SD} {v:Value} (hs:c.regs[i]?=some s) (hv:s.cells[j]?=some v):w.cell? ⟨g,14+(i*8+j),none⟩=some v:=by
 rw[blk_cell h];exact c.get_reg hs hv
theorem CallAt.later {w w':World} {g:Nat} {c:CallD} (h:CallAt w g c) (hb:Below w.heap.size w w'):CallAt w' g c:=blk_later hb h
theorem CallAt.but {S:List Nat} {w w':World} {g:Nat} {c:CallD} (h:CallAt w g c) (hb:ButL S w w') (hS:g∉S):CallAt w' g c:=hb.blk h hS
def instT:List Value:=[.nilFunc,.func (.func 51) #[] #[],.func (.func 52) #[] #[],.func (.func 53) #[] #[],.func (.func 54) #[] #[],.func (.func 54) #[] #[],.func (.func 55) #[] #[],.func (.func 54) #[] #[],.func (.func 56) #[] #[],.func (.func 54) #[] #[],.func (.func 57) #[] #[],.func (.func 58) #[] #[],.func (.func 59) #[] #[],.func (.func 60) #[] #[],.func (.func 61) #[] #[],.func (.func 62) #[] #[],.func (.func 63) #[] #[],.func (.func 64) #[] #[],.func (.func 65) #[] #[],.func (.func 66) #[] #[],.func (.func 66) #[] #[],.func (.func 66) #[] #[],.func (.func 67) #[] #[],.func (.func 68) #[] #[],.func (.func 68) #[] #[],.func (.func 54) #[] #[],.func (.func 54) #[] #[],.func (.func 69) #[] #[],.func (.func 70) #[] #[],.func (.func 71) #[] #[],.func (.func 72) #[] #[],.func (.func 73) #[] #[],.func (.func 74) #[] #[],.func (.func 75) #[] #[],.func (.func 76) #[] #[],.func (.func 77) #[] #[],.func (.func 78) #[] #[],.func (.func 79) #[] #[],.func (.func 66) #[] #[],.func (.func 80) #[] #[],.func (.func 81) #[] #[],.func (.func 82) #[] #[],.func (.func 83) #[] #[]]
def buiT:List Value:=[.func (.func 84) #[] #[],.func (.func 85) #[] #[],.func (.func 86) #[] #[],.func (.func 87) #[] #[],.func (.func 88) #[] #[],.func (.func 89) #[] #[],.func (.func 90) #[] #[],.func (.func 91) #[] #[],.func (.func 92) #[] #[],.func (.func 93) #[] #[],.func (.func 94) #[] #[],.func (.func 95) #[] #[],.func (.func 96) #[] #[],.func (.func 97) #[] #[],.func (.func 98) #[] #[]]
structure MachD where
 protos:Value
 ticks:Int
 depth:Int
 cells:Int
 watch:Value
 code:Int
 recs:Value
 vals:Value
 err:ByteArray
 trace:ByteArray
 rticks:Int
 made:Int
 tables:Value
 tasks:Value
 running:Value
 living:Int
 since:Int
def MachD.arr (m:MachD):Array Value:=([m.protos,.slice none 0 0,.slice none 0 0,.int .i64 m.ticks,.int .i64 m.depth,.int .i64 m.cells,m.watch,.int .i64 m.code,m.recs,m.vals,.string m.err,.string m.trace,.int .i64 m.rticks,.int .i64 m.made]++instT++buiT++[m.tables,.slice none 0 0,m.tasks,m.running,.slice none 0 0,.int .i64 0,.int .i64 0,.int .i64 m.living,.int .i64 m.since,.int .u64 0,.int .u32 0]).toArray
theorem MachD.size (m:MachD):m.arr.size=83:=rfl
theorem MachD.set_tables (m:MachD) (z:Value):m.arr.setIfInBounds 72 z={ m with tables:=z }.arr:=rfl
theorem MachD.set_tasks (m:MachD) (z:Value):m.arr.setIfInBounds 74 z={ m with tasks:=z }.arr:=rfl
theorem MachD.set_running (m:MachD) (z:Value):m.arr.setIfInBounds 75 z={ m with running:=z }.arr:=rfl
theorem MachD.set_code (m:MachD) (z:Int):m.arr.setIfInBounds 7 (.int .i64 z)={ m with code:=z }.arr:=rfl
theorem MachD.set_ticks (m:MachD) (z:Int):m.arr.setIfInBounds 12 (.int .i64 z)={ m with rticks:=z }.arr:=rfl
theorem MachD.set_recs (m:MachD) (z:Value):m.arr.setIfInBounds 8 z={ m with recs:=z }.arr:=rfl
def MachAt (w:World) (g:Nat) (m:MachD):Prop:=w.heap[g]?=some (.cells m.arr 97)
theorem MachAt.cell {w:World} {g:Nat} {m:MachD} (h:MachAt w g m) (i:Nat):w.cell? ⟨g,i,none⟩=m.arr[i]?:=blk_cell h i
theorem MachAt.later {w w':World} {g:Nat} {m:MachD} (h:MachAt w g m) (hb:Below w.heap.size w w'):MachAt w' g m:=blk_later hb h
theorem MachAt.but {S:List Nat} {w w':World} {g:Nat} {m:MachD} (h:MachAt w g m) (hb:ButL S w w') (hS:g∉S):MachAt w' g m:=hb.blk h hS
end Go.Proofs.YtliahjnnbbgooaaGreatDoor.M
namespace Go.Proofs.YtliahjnnbbgooaaGreatDoor.M
open Go.RowKit
attribute [local go_sem] run_store_float
theorem CallAt.set8 {w:World} {g i:Nat} {c:CallD} (h:CallAt w g c) (hi:i<c.regs.length) (s:SD):CallAt ((((((((w.setCell ⟨g,14+i*8,none⟩ (.int .i64 s.h)).setCell ⟨g,14+i*8+1,none⟩ (.int .i64 s.v.k)).setCell ⟨g,14+i*8+2,none⟩ (.int .i64 s.v.n)).setCell ⟨g,14+i*8+3,none⟩ (.float .f64 s.v.f)).setCell ⟨g,14+i*8+4,none⟩ (.string s.v.s)).setCell ⟨g,14+i*8+5,none⟩ (.int .i64 s.v.r)).setCell ⟨g,14+i*8+6,none⟩ s.b).setCell ⟨g,14+i*8+7,none⟩ s.l) g { c with regs:=c.regs.set i s }:=by
 have h8:=blk_set (blk_set (blk_set (blk_set (blk_set (blk_set (blk_set (blk_set h (14+i*8) (.int .i64 s.h)) (14+i*8+1) (.int .i64 s.v.k)) (14+i*8+2) (.int .i64 s.v.n)) (14+i*8+3) (.float .f64 s.v.f)) (14+i*8+4) (.string s.v.s)) (14+i*8+5) (.int .i64 s.v.r)) (14+i*8+6) s.b) (14+i*8+7) s.l
 have e:=CallD.set_reg c s hi
 unfold CallAt
 rw[←e]
 exact h8
theorem but8 {S:List Nat} {w0 w:World} {g i:Nat} (h:ButL S w0 w) (hg:g∈S∨w0.heap.size≤g) (s:SD):ButL S w0 ((((((((w.setCell ⟨g,14+i*8,none⟩ (.int .i64 s.h)).setCell ⟨g,14+i*8+1,none⟩ (.int .i64 s.v.k)).setCell ⟨g,14+i*8+2,none⟩ (.int .i64 s.v.n)).setCell ⟨g,14+i*8+3,none⟩ (.float .f64 s.v.f)).setCell ⟨g,14+i*8+4,none⟩ (.string s.v.s)).setCell ⟨g,14+i*8+5,none⟩ (.int .i64 s.v.r)).setCell ⟨g,14+i*8+6,none⟩ s.b).setCell ⟨g,14+i*8+7,none⟩ s.l) :=
 (((((((h.seto hg _ _).seto hg _ _).seto hg _ _).seto hg _ _).seto hg _ _).seto hg _ _).seto hg _ _).seto hg _ _
theorem CallAt.drewN {w:World} {g:Nat} {c:CallD} (h:CallAt w g c) (n:Nat):CallAt (w.drewN n) g c:=h
theorem CallAt.drew {w:World} {g:Nat} {c:CallD} (h:CallAt w g c):CallAt w.drew g c:=h
theorem putList_any (g i n cap:Nat) (a:Option Addr) (c:CallD) (w:World) (h:CallAt w g c) (hr:c.regs.length=250) (hi:i<250) :
  Calls Tryz.prog 101 #[.pointer (some ⟨g,0,none⟩),.int .i64 (i:Int),.slice a n cap] w fun e w'=>e=.returned (.tuple #[])∧CallAt w' g { c with regs:=c.regs.set i (sdL (.slice a n cap)) }∧ButL [g] w w':=by
 obtain⟨s,hs⟩:∃s,c.regs[i]?=some s:=⟨c.regs[i]'(by omega),by simp⟩
 have c0:w.cell? ⟨g,14+i*8,none⟩=some (.int .i64 s.h):=by have:=h.reg hs (j:=0) rfl;simpa using this
 have c1:w.cell? ⟨g,14+i*8+1,none⟩=some (.int .i64 s.v.k):=by have:=h.reg hs (j:=1) rfl;rwa [←Nat.add_assoc]at this
 have c2:w.cell? ⟨g,14+i*8+2,none⟩=some (.int .i64 s.v.n):=by have:=h.reg hs (j:=2) rfl;rwa [←Nat.add_assoc]at this
 have c3:w.cell? ⟨g,14+i*8+3,none⟩=some (.float .f64 s.v.f):=by have:=h.reg hs (j:=3) rfl;rwa [←Nat.add_assoc]at this
 have c4:w.cell? ⟨g,14+i*8+4,none⟩=some (.string s.v.s):=by have:=h.reg hs (j:=4) rfl;rwa [←Nat.add_assoc]at this
 have c5:w.cell? ⟨g,14+i*8+5,none⟩=some (.int .i64 s.v.r):=by have:=h.reg hs (j:=5) rfl;rwa [←Nat.add_assoc]at this
 have c6:w.cell? ⟨g,14+i*8+6,none⟩=some s.b:=by have:=h.reg hs (j:=6) rfl;rwa [←Nat.add_assoc]at this
 have c7:w.cell? ⟨g,14+i*8+7,none⟩=some s.l:=by have:=h.reg hs (j:=7) rfl;rwa [←Nat.add_assoc]at this
 have z:=blk_frozen h
 have HC:Hid (CallAt w g c):=h
 clear h
 go_enter Tryz.func101,Tryz.ntmps101
 go_wp2_with fail
 exact bodyPost_end (v:=.tuple #[]) (by simp[results,Tryz.results101,go_sem]) rfl ⟨rfl,HC.out.set8 (by omega) (sdL (.slice a n cap)),but8 (ButL.refl _ _) (.inl (by simp)) (sdL (.slice a n cap))⟩
theorem put_any (g i:Nat) (v:VD) (c:CallD) (w:World) (h:CallAt w g c) (hr:c.regs.length=250) (hi:i<250) :
  Calls Tryz.prog 99 #[.pointer (some ⟨g,0,none⟩),.int .i64 (i:Int),.agg #[.int .i64 v.k,.int .i64 v.n,.float .f64 v.f,.string v.s,.int .i64 v.r]] w fun e w'=>e=.returned (.tuple #[])∧CallAt w' g { c with regs:=c.regs.set i (sdV v) }∧ButL [g] w w':=by
 obtain⟨s,hs⟩:∃s,c.regs[i]?=some s:=⟨c.regs[i]'(by omega),by simp⟩
 have hlt:=blk_lt h
 obtain⟨W,hW⟩:∃W,w.alloc (.cells #[.int .i64 v.k,.int .i64 v.n,.float .f64 v.f,.string v.s,.int .i64 v.r] 49)=W:=⟨_,rfl⟩
 have hb:=bw1 w (.cells #[.int .i64 v.k,.int .i64 v.n,.float .f64 v.f,.string v.s,.int .i64 v.r] 49)
 have bn:=blk_new w (.cells #[.int .i64 v.k,.int .i64 v.n,.float .f64 v.f,.string v.s,.int .i64 v.r] 49)
 rw[hW]at hb bn
 have h':CallAt W g c:=h.later hb
 have c0:W.cell? ⟨g,14+i*8,none⟩=some (.int .i64 s.h):=by have:=h'.reg hs (j:=0) rfl;simpa using this
 have c1:W.cell? ⟨g,14+i*8+1,none⟩=some (.int .i64 s.v.k):=by have:=h'.reg hs (j:=1) rfl;rwa [←Nat.add_assoc]at this
 have c2:W.cell? ⟨g,14+i*8+2,none⟩=some (.int .i64 s.v.n):=by have:=h'.reg hs (j:=2) rfl;rwa [←Nat.add_assoc]at this
 have c3:W.cell? ⟨g,14+i*8+3,none⟩=some (.float .f64 s.v.f):=by have:=h'.reg hs (j:=3) rfl;rwa [←Nat.add_assoc]at this
 have c4:W.cell? ⟨g,14+i*8+4,none⟩=some (.string s.v.s):=by have:=h'.reg hs (j:=4) rfl;rwa [←Nat.add_assoc]at this
 have c5:W.cell? ⟨g,14+i*8+5,none⟩=some (.int .i64 s.v.r):=by have:=h'.reg hs (j:=5) rfl;rwa [←Nat.add_assoc]at this
 have c6:W.cell? ⟨g,14+i*8+6,none⟩=some s.b:=by have:=h'.reg hs (j:=6) rfl;rwa [←Nat.add_assoc]at this
 have c7:W.cell? ⟨g,14+i*8+7,none⟩=some s.l:=by have:=h'.reg hs (j:=7) rfl;rwa [←Nat.add_assoc]at this
 have z:=blk_frozen h'
 have d0:W.cell? ⟨w.heap.size,0,none⟩=some (.int .i64 v.k):=by rw[blk_cell bn];rfl
 have d1:W.cell? ⟨w.heap.size,1,none⟩=some (.int .i64 v.n):=by rw[blk_cell bn];rfl
 have d2:W.cell? ⟨w.heap.size,2,none⟩=some (.float .f64 v.f):=by rw[blk_cell bn];rfl
 have d3:W.cell? ⟨w.heap.size,3,none⟩=some (.string v.s):=by rw[blk_cell bn];rfl
 have d4:W.cell? ⟨w.heap.size,4,none⟩=some (.int .i64 v.r):=by rw[blk_cell bn];rfl
 have HC:Hid (CallAt W g c):=h'
 have HB:Hid (ButL [g] w W):=ButL.of_below hb
 clear h h' hb bn
 go_enter Tryz.func99,Tryz.ntmps99
 go_wp2_with fail
 clear hW
 go_region
 go_wp2_with fail
 exact bodyPost_end (v:=.tuple #[]) (by simp[results,Tryz.results99,go_sem]) rfl ⟨rfl,(HC.out.set8 (by omega) (sdV v)).drew,(but8 HB.out (.inl (by simp)) (sdV v)).drew⟩
theorem operand_neg (g i:Nat) (x:Int) (h0:Int) (v:VD) (pb la:Option Addr) (ln lc:Nat) (c:CallD) (w:World) (h:CallAt w g c) (hr:c.regs.length=250) (hi:i<250) (hx:x<0) (hxi:-1-x=(i:Int)) (hs:c.regs[i]?=some ⟨h0,v,.pointer pb,.slice la ln lc⟩) :
  Calls Tryz.prog 140 #[.pointer (some ⟨g,0,none⟩),.int .i64 x] w fun e w'=>e=.returned (.agg #[.int .i64 h0,.int .i64 v.k,.int .i64 v.n,.float .f64 v.f,.string v.s,.int .i64 v.r,.pointer pb,.slice la ln lc])∧CallAt w' g { c with regs:=c.regs.set i sd0 }∧ButL [g] w w':=by
 have hlt:=blk_lt h
 have hx0:¬(0:Int)≤x:=by omega
 have c0:w.cell? ⟨g,14+i*8,none⟩=some (.int .i64 h0):=by have:=h.reg hs (j:=0) rfl;simpa using this
 have c1:w.cell? ⟨g,14+i*8+1,none⟩=some (.int .i64 v.k):=by have:=h.reg hs (j:=1) rfl;rwa [←Nat.add_assoc]at this
 have c2:w.cell? ⟨g,14+i*8+2,none⟩=some (.int .i64 v.n):=by have:=h.reg hs (j:=2) rfl;rwa [←Nat.add_assoc]at this
 have c3:w.cell? ⟨g,14+i*8+3,none⟩=some (.float .f64 v.f):=by have:=h.reg hs (j:=3) rfl;rwa [←Nat.add_assoc]at this
 have c4:w.cell? ⟨g,14+i*8+4,none⟩=some (.string v.s):=by have:=h.reg hs (j:=4) rfl;rwa [←Nat.add_assoc]at this
 have c5:w.cell? ⟨g,14+i*8+5,none⟩=some (.int .i64 v.r):=by have:=h.reg hs (j:=5) rfl;rwa [←Nat.add_assoc]at this
 have c6:w.cell? ⟨g,14+i*8+6,none⟩=some (.pointer pb):=by have:=h.reg hs (j:=6) rfl;rwa [←Nat.add_assoc]at this
 have c7:w.cell? ⟨g,14+i*8+7,none⟩=some (.slice la ln lc):=by have:=h.reg hs (j:=7) rfl;rwa [←Nat.add_assoc]at this
 have z:=blk_frozen h
 have HC:Hid (CallAt w g c):=h
 clear h
 go_enter Tryz.func140,Tryz.ntmps140
 go_wp2_with fail
 refine bodyPost_ret (v:=.agg #[.int .i64 h0,.int .i64 v.k,.int .i64 v.n,.float .f64 v.f,.string v.s,.int .i64 v.r,.pointer pb,.slice la ln lc]) (by simp[results,Tryz.results140,go_sem]) rfl ⟨rfl,(HC.out.set8 (by omega) sd0).later (bw2 _ _ _),((but8 (ButL.refl _ _) (.inl (by simp)) sd0).alloc _).alloc _⟩
theorem takeOff_any (g n cap:Nat) (a:Option Addr) (c:CallD) (w:World) (h:CallAt w g c) (hg:c.guards=.slice a (n+1) cap) (hcap:n+1≤cap) (hn:n≤1000) :
  Calls Tryz.prog 155 #[.pointer (some ⟨g,0,none⟩)] w fun e w'=>e=.returned (.tuple #[])∧CallAt w' g { c with guards:=.slice a n cap }∧ButL [g] w w':=by
 have c12:w.cell? ⟨g,12,none⟩=some (.slice a (n+1) cap):=by rw[h.cell 12 (by omega),←hg];rfl
 have z:=blk_frozen h
 have HC:Hid (CallAt w g c):=h
 clear h
 go_enter Tryz.func155,Tryz.ntmps155
 go_wp2_with fail
 go_region
 go_wp2_with fail
 refine bodyPost_end (v:=.tuple #[]) (by simp[results,Tryz.results155,go_sem]) rfl ⟨rfl,?_,((ButL.refl _ _).set (by simp) _ _).drew⟩
 have:=blk_set HC.out 12 (.slice a n cap)
 rw[CallD.set_guards]at this
 exact this
end Go.Proofs.YtliahjnnbbgooaaGreatDoor.M
namespace Go.Proofs.YtliahjnnbbgooaaGreatDoor.M
open Go.RowKit
attribute [local go_sem] run_store_float
def insV (n:ID):Value:=.agg #[.int .i64 n.op,.int .i64 n.a,.int .i64 n.b,.int .i64 n.c,.int .i64 n.d]
abbrev InO (n:ID):Obj:=.cells #[.int .i64 n.op,.int .i64 n.a,.int .i64 n.b,.int .i64 n.c,.int .i64 n.d] 55
theorem doList_any (pm:Value) (g i:Nat) (n:ID) (c:CallD) (w:World) (h:CallAt w g c) (hr:c.regs.length=250) (hi:i<250) (ha:n.a=i) :
  Calls Tryz.prog 67 #[pm,.pointer (some ⟨g,0,none⟩),insV n] w fun e w'=>e=.returned .nilIface∧CallAt w' g { c with regs:=c.regs.set i (sdL (.slice none 0 0)) }∧ButL [g] w w':=by
 obtain⟨op,a,b,cc,d⟩:=n
 dsimp only[insV]at ha ⊢
 subst ha
 have HB:Hid _:=bw1 w (InO ⟨op,i,b,cc,d⟩)
 have HC:Hid (CallAt (w.alloc (InO ⟨op,i,b,cc,d⟩)) g c):=h.later HB.out
 clear h
 go_enter Tryz.func67,Tryz.ntmps67
 go_wp2_with fail
 refine (putList_any g i 0 0 none c _ HC.out hr hi).mono ?_
 rintro e w1 ⟨rfl,h1,hb1⟩
 have H1:Hid _:=h1
 have HB1:Hid _:=hb1
 clear h1 hb1
 go_wp2_with fail
 go_ret
 exact⟨rfl,H1.out,(ButL.of_below HB.out).trans HB1.out⟩
theorem doEndTry_any (pm:Value) (g m cap:Nat) (a0:Option Addr) (n:ID) (c:CallD) (w:World) (h:CallAt w g c) (hg:c.guards=.slice a0 (m+1) cap) (hcap:m+1≤cap) (hm:m≤1000) :
  Calls Tryz.prog 74 #[pm,.pointer (some ⟨g,0,none⟩),insV n] w fun e w'=>e=.returned .nilIface∧CallAt w' g { c with guards:=.slice a0 m cap }∧ButL [g] w w':=by
 obtain⟨op,a,b,cc,d⟩:=n
 dsimp only[insV]
 have HB:Hid _:=bw1 w (InO ⟨op,a,b,cc,d⟩)
 have HC:Hid (CallAt (w.alloc (InO ⟨op,a,b,cc,d⟩)) g c):=h.later HB.out
 clear h
 go_enter Tryz.func74,Tryz.ntmps74
 go_wp2_with fail
 refine (takeOff_any g m cap a0 c _ HC.out hg hcap hm).mono ?_
 rintro e w1 ⟨rfl,h1,hb1⟩
 have H1:Hid _:=h1
 have HB1:Hid _:=hb1
 clear h1 hb1
 go_wp2_with fail
 go_ret
 exact⟨rfl,H1.out,(ButL.of_below HB.out).trans HB1.out⟩
theorem doDrop_any (pm:Value) (g i:Nat) (n:ID) (c:CallD) (w:World) (h:CallAt w g c) (hr:c.regs.length=250) (hi:i<250) (ha:n.a=i) :
  Calls Tryz.prog 83 #[pm,.pointer (some ⟨g,0,none⟩),insV n] w fun e w'=>e=.returned .nilIface∧CallAt w' g { c with regs:=c.regs.set i sd0 }∧ButL [g] w w':=by
 obtain⟨op,a,b,cc,d⟩:=n
 dsimp only[insV]at ha ⊢
 subst ha
 obtain⟨W,hW⟩:∃W,w.alloc (InO ⟨op,i,b,cc,d⟩)=W:=⟨_,rfl⟩
 have hb:=bw1 w (InO ⟨op,i,b,cc,d⟩)
 have bn:=blk_new w (InO ⟨op,i,b,cc,d⟩)
 rw[hW]at hb bn
 have h':CallAt W g c:=h.later hb
 obtain⟨s,hs⟩:∃s,c.regs[i]?=some s:=⟨c.regs[i]'(by omega),by simp⟩
 have c0:W.cell? ⟨g,14+i*8,none⟩=some (.int .i64 s.h):=by have:=h'.reg hs (j:=0) rfl;simpa using this
 have c1:W.cell? ⟨g,14+i*8+1,none⟩=some (.int .i64 s.v.k):=by have:=h'.reg hs (j:=1) rfl;rwa [←Nat.add_assoc]at this
 have c2:W.cell? ⟨g,14+i*8+2,none⟩=some (.int .i64 s.v.n):=by have:=h'.reg hs (j:=2) rfl;rwa [←Nat.add_assoc]at this
 have c3:W.cell? ⟨g,14+i*8+3,none⟩=some (.float .f64 s.v.f):=by have:=h'.reg hs (j:=3) rfl;rwa [←Nat.add_assoc]at this
 have c4:W.cell? ⟨g,14+i*8+4,none⟩=some (.string s.v.s):=by have:=h'.reg hs (j:=4) rfl;rwa [←Nat.add_assoc]at this
 have c5:W.cell? ⟨g,14+i*8+5,none⟩=some (.int .i64 s.v.r):=by have:=h'.reg hs (j:=5) rfl;rwa [←Nat.add_assoc]at this
 have c6:W.cell? ⟨g,14+i*8+6,none⟩=some s.b:=by have:=h'.reg hs (j:=6) rfl;rwa [←Nat.add_assoc]at this
 have c7:W.cell? ⟨g,14+i*8+7,none⟩=some s.l:=by have:=h'.reg hs (j:=7) rfl;rwa [←Nat.add_assoc]at this
 have z:=blk_frozen h'
 have d1:W.cell? ⟨w.heap.size,1,none⟩=some (.int .i64 (i:Int)):=by rw[blk_cell bn];rfl
 have HC:Hid (CallAt W g c):=h'
 have HB:Hid (ButL [g] w W):=ButL.of_below hb
 clear h h' hb bn
 go_enter Tryz.func83,Tryz.ntmps83
 go_wp2_with fail
 clear hW
 go_region
 go_wp2_with fail
 go_ret
 exact⟨rfl,(HC.out.set8 (by omega) sd0).drew,(but8 HB.out (.inl (by simp)) sd0).drew⟩
theorem run_fldL (h0:Int) (v:VD) (pb la:Option Addr) (ln lc:Nat) (w:World):(Instr.field 149 (.agg #[.int .i64 h0,.int .i64 v.k,.int .i64 v.n,.float .f64 v.f,.string v.s,.int .i64 v.r,.pointer pb,.slice la ln lc]) 3).run Tryz.prog w=.ok (.slice la ln lc) w:=by kernel_rfl
theorem list_neg (g i:Nat) (x:Int) (h0:Int) (v:VD) (pb la:Option Addr) (ln lc:Nat) (c:CallD) (w:World) (h:CallAt w g c) (hr:c.regs.length=250) (hi:i<250) (hx:x<0) (hxi:-1-x=(i:Int)) (hs:c.regs[i]?=some ⟨h0,v,.pointer pb,.slice la ln lc⟩) :
  Calls Tryz.prog 146 #[.pointer (some ⟨g,0,none⟩),.int .i64 x] w fun e w'=>e=.returned (.slice la ln lc)∧CallAt w' g { c with regs:=c.regs.set i sd0 }∧ButL [g] w w':=by
 have hx0:¬(0:Int)≤x:=by omega
 have hF:=run_fldL h0 v pb la ln lc
 have HC:Hid (CallAt w g c):=h
 clear h
 go_enter Tryz.func146,Tryz.ntmps146
 go_wp2_with fail
 refine (operand_neg g i x h0 v pb la ln lc c _ HC.out hr hi hx hxi hs).mono ?_
 rintro e w1 ⟨rfl,h1,hb1⟩
 have H1:Hid _:=h1
 have HB1:Hid _:=hb1
 clear h1 hb1
 go_wp2_with fail
 go_ret
 exact⟨rfl,H1.out,HB1.out⟩
theorem doReturn_any (pm:Value) (g i:Nat) (n:ID) (h0:Int) (v:VD) (pb la:Option Addr) (ln lc:Nat) (c:CallD) (w:World) (h:CallAt w g c) (hr:c.regs.length=250) (hi:i<250) (hx:n.a<0) (hxi:-1-n.a=(i:Int)) (hs:c.regs[i]?=some ⟨h0,v,.pointer pb,.slice la ln lc⟩) :
  Calls Tryz.prog 71 #[pm,.pointer (some ⟨g,0,none⟩),insV n] w fun e w'=>∃gr,e=.returned (.iface 124 (.pointer (some ⟨gr,0,none⟩)))∧w.heap.size≤gr∧w'.heap[gr]?=some (.cells #[.slice la ln lc] 126)∧CallAt w' g { c with regs:=c.regs.set i sd0 }∧ButL [g] w w':=by
 obtain⟨op,a,b,cc,d⟩:=n
 dsimp only[insV]at hx hxi ⊢
 have HB:Hid _:=bw1 w (InO ⟨op,a,b,cc,d⟩)
 have HC:Hid (CallAt (w.alloc (InO ⟨op,a,b,cc,d⟩)) g c):=h.later HB.out
 clear h
 go_enter Tryz.func71,Tryz.ntmps71
 go_wp2_with fail
 refine (list_neg g i a h0 v pb la ln lc c _ HC.out hr hi hx hxi hs).mono ?_
 rintro e w1 ⟨rfl,h1,hb1⟩
 have H1:Hid _:=h1
 have HB1:Hid _:=(ButL.of_below HB.out).trans hb1
 clear h1 hb1
 go_wp2_with fail
 go_ret
 refine⟨w1.heap.size,rfl,HB1.out.size,blk_new _ _,CallAt.later H1.out (bw1 _ _),HB1.out.alloc _⟩
end Go.Proofs.YtliahjnnbbgooaaGreatDoor.M
namespace Go.Proofs.YtliahjnnbbgooaaGreatDoor.M
open Go.RowKit
attribute [local go_sem] run_store_float
def pC (g:Nat):List Value:=[.pointer (some ⟨g,0,none⟩)]
theorem pC_len (g:Nat):(pC g).length=1:=rfl
abbrev ShO:Obj:=.cells #[.int .i64 0,.pointer none,.int .i64 0,.int .i64 0,.float .f64 0,.string ⟨#[]⟩,.int .i64 0] 257
theorem blk5 {W:World} {g q:Nat} {o:Obj} (h:W.heap[g]?=some o) (hne:q≠g) (v0 v1 v2 v3 v4:Value):(((((W.setCell ⟨q,0,none⟩ v0).setCell ⟨q,1,none⟩ v1).setCell ⟨q,2,none⟩ v2).setCell ⟨q,3,none⟩ v3).setCell ⟨q,4,none⟩ v4).heap[g]?=some o :=
 blk_other (blk_other (blk_other (blk_other (blk_other h hne _ _) hne _ _) hne _ _) hne _ _) hne _ _
theorem row5 {α:Type} {W:World} {q B:Nat} {et:TypeId} {k:Nat} {cells:α→List Value} {sv:Value} {xs:List α} (h:ORow W B et k cells sv xs) (hne:sv.ownBlock≠some q) (v0 v1 v2 v3 v4:Value):ORow (((((W.setCell ⟨q,0,none⟩ v0).setCell ⟨q,1,none⟩ v1).setCell ⟨q,2,none⟩ v2).setCell ⟨q,3,none⟩ v3).setCell ⟨q,4,none⟩ v4) B et k cells sv xs :=
 ORow.set_own (ORow.set_own (ORow.set_own (ORow.set_own (ORow.set_own h hne _ _) hne _ _) hne _ _) hne _ _) hne _ _
theorem but5 {S:List Nat} {w0 W:World} {q:Nat} (h:ButL S w0 W) (hq:w0.heap.size≤q) (v0 v1 v2 v3 v4:Value):ButL S w0 (((((W.setCell ⟨q,0,none⟩ v0).setCell ⟨q,1,none⟩ v1).setCell ⟨q,2,none⟩ v2).setCell ⟨q,3,none⟩ v3).setCell ⟨q,4,none⟩ v4) :=
 ((((h.setn hq _ _).setn hq _ _).setn hq _ _).setn hq _ _).setn hq _ _
def tabV (n:Nat):VD:=⟨5,0,0,⟨#[]⟩,n⟩
theorem newTable_any (B g:Nat) (m:MachD) (gs:List Nat) (w:World) (h:MachAt w g m) (ho:ORow w B 249 1 pC m.tables gs) (hl:gs.length≤100000) (hB:B≤w.heap.size) :
  Calls Tryz.prog 143 #[.pointer (some ⟨g,0,none⟩)] w fun e w'=>e=.returned (.agg #[.int .i64 5,.int .i64 0,.float .f64 0,.string ⟨#[]⟩,.int .i64 (gs.length:Int)])∧∃tv gn,MachAt w' g { m with tables:=tv }∧ORow w' B 249 1 pC tv (gs++[gn])∧w.heap.size≤gn∧w'.heap[gn]?=some ShO∧ButL (g :: m.tables.ownBlock.toList) w w':=by
 obtain⟨ag,cg,hgv⟩:=ho.val
 obtain⟨W,hW⟩:∃W,w.alloc (.cells #[.int .i64 0,.int .i64 0,.float .f64 0,.string ⟨#[]⟩,.int .i64 0] 49)=W:=⟨_,rfl⟩
 have hb:=bw1 w (.cells #[.int .i64 0,.int .i64 0,.float .f64 0,.string ⟨#[]⟩,.int .i64 0] 49)
 have bn:=blk_new w (.cells #[.int .i64 0,.int .i64 0,.float .f64 0,.string ⟨#[]⟩,.int .i64 0] 49)
 have hsz:W.heap.size=w.heap.size+1:=by rw[←hW];simp
 rw[hW]at hb bn
 have h':MachAt W g m:=h.later hb
 have hgl:=blk_lt h
 have c72:W.cell? ⟨g,72,none⟩=some (.slice ag gs.length cg):=by rw[h'.cell,←hgv];rfl
 have hb2:=bw2 W ShO (.cells #[.pointer (some ⟨w.heap.size+1,0,none⟩)] 249)
 have ho2:=(ho.later hb).later hb2
 rw[hgv]at ho2
 obtain⟨g',cap',w2,hr,ho3,hg3⟩:=ho2.app 82 8 Tryz.underlying82 (by kernel_rfl) (by omega) (by omega) (w.heap.size+1) (w.heap.size+1+1) 82 (show ((W.alloc ShO).alloc (.cells #[.pointer (some ⟨w.heap.size+1,0,none⟩)] 249)).heap[w.heap.size+1+1]?=_ from blk_newn (by simp;omega) _) rfl (by intro u hu;simp[pC]at hu;subst hu;rfl) (by omega) (by simp;omega)
 have hown:∀q,(Value.slice ag gs.length cg).ownBlock=some q→q<w.heap.size∧q≠g:=by
  intro q e
  rw[hgv]at ho
  rcases ho.2 with ⟨e1,_⟩ | ⟨g0,c0,cur,e1,_,e3,_⟩
  ·rw[e1]at e;cases e
  ·rw[e1]at e
   have e':g0=q:=Option.some.inj e
   subst e'
   refine⟨blk_lt e3,?_⟩
   rintro rfl
   rw[show w.heap[g0]?=_ from h]at e3
   cases e3
 have hx:∀(q:Nat) o,((W.alloc ShO).alloc (.cells #[.pointer (some ⟨w.heap.size+1,0,none⟩)] 249)).heap[q]?=some o→(Value.slice ag gs.length cg).ownBlock≠some q→w2.heap[q]?=some o:=fun q o hq hn=>(hg3.block q (blk_lt hq) (fun e=>hn e.symm)).trans hq
 have h2:MachAt w2 g m:=hx g _ (blk_old (blk_old h' _) _) (fun e=>(hown g e).2 rfl)
 have p72:w2.cell? ⟨g,72,none⟩=some (.slice ag gs.length cg):=by rw[h2.cell,←hgv];rfl
 have z2:=blk_frozen h2
 have hn2:w2.heap[w.heap.size+1]?=some ShO:=hx _ _ (blk_old (blk_newn (by omega) _) _) (fun e=>by have:=(hown _ e).1;omega)
 have hr2:w2.heap[w.heap.size]?=some (.cells #[.int .i64 0,.int .i64 0,.float .f64 0,.string ⟨#[]⟩,.int .i64 0] 49):=hx _ _ (blk_old (blk_old bn _) _) (fun e=>by have:=(hown _ e).1;omega)
 obtain⟨W3,hW3⟩:∃W3,w2.setCell ⟨g,72,none⟩ (.slice (some ⟨g',0,none⟩) (gs.length+1) cap')=W3:=⟨_,rfl⟩
 have HE:Hid (MachAt W3 g { m with tables:=.slice (some ⟨g',0,none⟩) (gs.length+1) cap' }∧ORow W3 B 249 1 pC (.slice (some ⟨g',0,none⟩) (gs.length+1) cap') (gs++[w.heap.size+1])∧w.heap.size≤w.heap.size+1∧W3.heap[w.heap.size+1]?=some ShO∧ButL (g :: m.tables.ownBlock.toList) w W3):=by
  rw[←hW3]
  refine⟨?_,ORow.set_own ho3 (fun e=>?_) _ _,by omega,blk_other hn2 (by omega) _ _,?_⟩
  ·have:=blk_set h2 72 (.slice (some ⟨g',0,none⟩) (gs.length+1) cap')
   rw[MachD.set_tables]at this
   exact this
  ·have e':g'=g:=Option.some.inj e
   subst e'
   rcases ho3.2 with ⟨e1,_⟩ | ⟨g0,c0,cur,e1,_,e3,_⟩
   ·cases e1
   ·injection e1 with e1 _ _;injection e1 with e1;injection e1 with e1;subst e1;rw[show w2.heap[g']?=_ from h2]at e3;cases e3
  ·refine ButL.set ?_ (by simp) _ _
   rw[hgv]
   refine ButL.grown ((ButL.of_below hb).thenB hb2) hg3 (fun q e=>.inl (by rw[e];simp))
 have hr3:W3.heap[w.heap.size]?=some (.cells #[.int .i64 0,.int .i64 0,.float .f64 0,.string ⟨#[]⟩,.int .i64 0] 49):=by rw[←hW3];exact blk_other hr2 (by omega) _ _
 have q72:W3.cell? ⟨g,72,none⟩=some (.slice (some ⟨g',0,none⟩) (gs.length+1) cap'):=by rw[HE.out.1.cell];rfl
 have r0:W3.cell? ⟨w.heap.size,0,none⟩=some (.int .i64 0):=by rw[blk_cell hr3];rfl
 have r1:W3.cell? ⟨w.heap.size,1,none⟩=some (.int .i64 0):=by rw[blk_cell hr3];rfl
 have r2:W3.cell? ⟨w.heap.size,2,none⟩=some (.float .f64 0):=by rw[blk_cell hr3];rfl
 have r3:W3.cell? ⟨w.heap.size,3,none⟩=some (.string ⟨#[]⟩):=by rw[blk_cell hr3];rfl
 have r4:W3.cell? ⟨w.heap.size,4,none⟩=some (.int .i64 0):=by rw[blk_cell hr3];rfl
 have z3:=blk_frozen hr3
 have HR:Hid _:=hr
 have hr4:=hr3
 clear hr ho3 hg3 hx h2 hn2 ho2 hb2 ho h' h bn hb hr2 hr3 hown
 go_enter Tryz.func143,Tryz.ntmps143
 go_wp2_with (at_builtin;refine wpList_append_run rfl _ _ _ rfl _ _ _ _ rfl rfl HR.out ?_)
 refine bodyPost_ret (v:=.agg #[.int .i64 5,.int .i64 0,.float .f64 0,.string ⟨#[]⟩,.int .i64 (gs.length:Int)]) (by simp[results,Tryz.results143,go_sem,r0,r1,r2,r3,r4]) rfl ⟨rfl,.slice (some ⟨g',0,none⟩) (gs.length+1) cap',w.heap.size+1,?_⟩
 obtain⟨e1,e2,e3,e4,e5⟩:=HE.out
 refine⟨blk5 e1 (by omega) _ _ _ _ _,row5 e2 (fun e=>?_) _ _ _ _ _,e3,blk5 e4 (by omega) _ _ _ _ _,but5 e5 (Nat.le_refl _) _ _ _ _ _⟩
 have e':g'=w.heap.size:=Option.some.inj e
 subst e'
 rcases e2.2 with ⟨x1,_⟩ | ⟨g0,c0,cur,x1,_,x3,_⟩
 ·cases x1
 ·injection x1 with x1 _ _;injection x1 with x1;injection x1 with x1;subst x1;rw[hr4]at x3;cases x3
theorem run_fldV (c k n:Int) (f:Nat) (s:ByteArray) (r:Int) (w:World):(Instr.field 217 (.agg #[.int .i64 c,.int .i64 k,.int .i64 n,.float .f64 f,.string s,.int .i64 r]) 1).run Tryz.prog w=.ok (.agg #[.int .i64 k,.int .i64 n,.float .f64 f,.string s,.int .i64 r]) w:=by kernel_rfl
theorem gaveInt_any (n:Int) (w:World):Calls Tryz.prog 147 #[.int .i64 n] w fun e w'=>e=.returned (.agg #[.int .i64 0,.int .i64 2,.int .i64 n,.float .f64 0,.string ⟨#[]⟩,.int .i64 0])∧Below w.heap.size w w':=by
 go_enter Tryz.func147,Tryz.ntmps147
 go_wp2_with fail
 exact bodyPost_ret (v:=.agg #[.int .i64 0,.int .i64 2,.int .i64 n,.float .f64 0,.string ⟨#[]⟩,.int .i64 0]) (by simp[results,Tryz.results147,go_sem]) rfl ⟨rfl,bw1 _ _⟩
theorem intValue_any (n:Int) (w:World):Calls Tryz.prog 160 #[.int .i64 n] w fun e w'=>e=.returned (.agg #[.int .i64 2,.int .i64 n,.float .f64 0,.string ⟨#[]⟩,.int .i64 0])∧Below w.heap.size w w':=by
 have hF:=run_fldV 0 2 n 0 ⟨#[]⟩ 0
 go_enter Tryz.func160,Tryz.ntmps160
 go_wp2_with fail
 refine (gaveInt_any n _).mono ?_
 rintro e w1 ⟨rfl,hx⟩
 have hr3:=blk_later hx (blk_new w (.cells #[.int .i64 0,.int .i64 0,.float .f64 0,.string ⟨#[]⟩,.int .i64 0] 49))
 have r0:w1.cell? ⟨w.heap.size,0,none⟩=some (.int .i64 0):=by rw[blk_cell hr3];rfl
 have r1:w1.cell? ⟨w.heap.size,1,none⟩=some (.int .i64 0):=by rw[blk_cell hr3];rfl
 have r2:w1.cell? ⟨w.heap.size,2,none⟩=some (.float .f64 0):=by rw[blk_cell hr3];rfl
 have r3:w1.cell? ⟨w.heap.size,3,none⟩=some (.string ⟨#[]⟩):=by rw[blk_cell hr3];rfl
 have r4:w1.cell? ⟨w.heap.size,4,none⟩=some (.int .i64 0):=by rw[blk_cell hr3];rfl
 have z3:=blk_frozen hr3
 have HB:Hid (Below w.heap.size w w1):=(bw1 _ _).trans (hx.mono (by simp))
 clear hx hr3
 go_wp2_with fail
 refine bodyPost_ret (v:=.agg #[.int .i64 2,.int .i64 n,.float .f64 0,.string ⟨#[]⟩,.int .i64 0]) (by simp[results,Tryz.results160,go_sem,r0,r1,r2,r3,r4]) rfl ⟨rfl,?_⟩
 exact ButL.nil (but5 (ButL.of_below HB.out) (Nat.le_refl _) _ _ _ _ _)
end Go.Proofs.YtliahjnnbbgooaaGreatDoor.M
