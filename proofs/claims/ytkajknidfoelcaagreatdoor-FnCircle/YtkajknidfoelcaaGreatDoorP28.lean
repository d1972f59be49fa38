import Derived.Test.YtkajknidfoelcaaGreatDoorP05
import Derived.Test.YtkajknidfoelcaaGreatDoorP06
import Derived.BigRegion
import Derived.BigQuiet
import Derived.Deep.QuietTactic
import Derived.Test.YtkajknidfoelcaaGreatDoorP08
import Derived.Test.YtkajknidfoelcaaGreatDoorP01
set_option linter.unusedVariables false
set_option linter.unusedSimpArgs false
set_option maxRecDepth 20000
set_option maxHeartbeats 8000000
namespace Go.Proofs.YtkajknidfoelcaaGreatDoor.M
open Go.RowKit
def vd0:VD:=⟨0,0,0,⟨#[]⟩,0⟩
structure SD where
 h:Int
 v:VD
 b:Value
 l:Value
def SD.cells (s:SD):List Value:=[.int .i64 s.h,.int .i64 s.v.k,.int .i64 s.v.n,.float .f64 s.v.f,.string s.v.s,.int .i64 s.v.r,s.b,s.l]
theorem sd_len (s:SD):s.cells.length=8:=rfl
def sd0:SD:=⟨0,vd0,.pointer none,.slice none 0 0⟩
def sdV (v:VD):SD:=⟨1,v,.pointer none,.slice none 0 0⟩
def sdL (l:Value):SD:=⟨3,vd0,.pointer none,l⟩
def setL (l:List Value) (o:Nat):List Value→List Value
 | []=>l
 | v :: vs=>setL (l.set o v) (o+1) vs
theorem putl_toArray:∀(vs:List Value) (l:List Value) (o:Nat),putl l.toArray o vs=(setL l o vs).toArray
 | [],_,_=>rfl
 | v :: vs,l,o=>by
  rw[putl,setL,List.setIfInBounds_toArray,putl_toArray vs]
theorem setL_mid:∀(vs A B C:List Value),B.length=vs.length→setL (A++(B++C)) A.length vs=A++(vs++C)
 | [],A,B,C,h=>by
  have:B=[]:=List.length_eq_zero_iff.1 h
  subst this;rfl
 | v :: vs,A,b :: B,C,h=>by
  have ih:=setL_mid vs (A++[v]) B C (by simpa using h)
  rw[setL,List.set_append_right _ _ (Nat.le_refl _),Nat.sub_self]
  simp only[List.cons_append,List.set_cons_zero]
  rw[List.length_append]at ih
  simpa using ih
 | v :: vs,A,[],C,h=>by simp at h
theorem setL_flat {α:Type} (cells:α→List Value) (k:Nat) (hk:∀y,(cells y).length=k) (P:List Value) (xs:List α) (i:Nat) (x:α) (hi:i<xs.length) :
  setL (P++xs.flatMap cells) (P.length+i*k) (cells x)=P++(xs.set i x).flatMap cells:=by
 have h1:xs=xs.take i++xs[i] :: xs.drop (i+1):=by
  conv=>lhs;rw[←List.take_append_drop i xs]
  rw[List.drop_eq_getElem_cons hi]
 have hl:((xs.take i).flatMap cells).length=i*k:=by
  rw[List.length_flatMap]
  have:(xs.take i).map (fun a=>(cells a).length)=List.replicate i k:=by
   apply List.ext_getElem?
   intro n
   rw[List.getElem?_map,List.getElem?_replicate,List.getElem?_take]
   by_cases hn:n<i
   ·rw[if_pos hn,if_pos hn,List.getElem?_eq_getElem (by omega)];simp[hk]
   ·rw[if_neg hn,if_neg hn];rfl
  rw[this,List.sum_replicate_nat]
 have h2:P++xs.flatMap cells=(P++(xs.take i).flatMap cells)++(cells xs[i]++(xs.drop (i+1)).flatMap cells):=by
  have h4:xs.flatMap cells=(xs.take i).flatMap cells++(cells xs[i]++(xs.drop (i+1)).flatMap cells):=by
   conv=>lhs;rw[h1]
   rw[List.flatMap_append,List.flatMap_cons]
  rw[h4,List.append_assoc]
 have h3:P++(xs.set i x).flatMap cells=(P++(xs.take i).flatMap cells)++(cells x++(xs.drop (i+1)).flatMap cells):=by
  rw[List.set_eq_take_append_cons_drop,if_pos hi]
  simp[List.flatMap_append,List.flatMap_cons]
 rw[h2,h3,show P.length+i*k=(P++(xs.take i).flatMap cells).length by rw[List.length_append,hl]]
 exact setL_mid (cells x) _ (cells xs[i]) _ (by rw[hk,hk])
structure CallD where
 fn:VD
 proto:Int
 ins:Value
 consts:Value
 ups:Value
 at':Int
 next:Int
 line:Int
 guards:Value
 way:Value
 regs:List SD
def CallD.hd (c:CallD):List Value:=[.int .i64 c.fn.k,.int .i64 c.fn.n,.float .f64 c.fn.f,.string c.fn.s,.int .i64 c.fn.r,.int .i64 c.proto,c.ins,c.consts,c.ups,.int .i64 c.at',.int .i64 c.next,.int .i64 c.line,c.guards,c.way]
def CallD.arr (c:CallD):Array Value:=(c.hd++c.regs.flatMap SD.cells).toArray
theorem CallD.get_hd (c:CallD) (i:Nat) (hi:i<14):c.arr[i]?=c.hd[i]?:=by
 unfold CallD.arr
 rw[List.getElem?_toArray,List.getElem?_append_left (by exact hi)]
theorem CallD.get_reg (c:CallD) {i j:Nat} {s:SD} {v:Value} (hs:c.regs[i]?=some s) (hv:s.cells[j]?=some v):c.arr[14+(i*8+j)]?=some v:=by
 unfold CallD.arr
 rw[List.getElem?_toArray,List.getElem?_append_right (by show (14:Nat)≤_;omega)]
 rw[show 14+(i*8+j)-c.hd.length=i*8+j by show 14+(i*8+j)-14=_;omega]
 exact flat_at SD.cells 8 c.regs i j s v (fun y _=>sd_len y) hs hv
theorem CallD.set_reg (c:CallD) {i:Nat} (s:SD) (hi:i<c.regs.length):putl c.arr (14+i*8) s.cells={ c with regs:=c.regs.set i s }.arr:=by
 unfold CallD.arr
 rw[putl_toArray]
 exact congrArg List.toArray (setL_flat SD.cells 8 sd_len c.hd c.regs i s hi)
theorem CallD.set_at (c:CallD) (z:Int):c.arr.setIfInBounds 9 (.int .i64 z)={ c with at':=z }.arr:=by
 unfold CallD.arr;rw[List.setIfInBounds_toArray];rfl
theorem CallD.set_next (c:CallD) (z:Int):c.arr.setIfInBounds 10 (.int .i64 z)={ c with next:=z }.arr:=by
 unfold CallD.arr;rw[List.setIfInBounds_toArray];rfl
theorem CallD.set_guards (c:CallD) (z:Value):c.arr.setIfInBounds 12 z={ c with guards:=z }.arr:=by
 unfold CallD.arr;rw[List.setIfInBounds_toArray];rfl
def CallAt (w:World) (g:Nat) (c:CallD):Prop:=w.heap[g]?=some (.cells c.arr 214)
theorem CallAt.cell {w:World} {g:Nat} {c:CallD} (h:CallAt w g c) (i:Nat) (hi:i<14):w.cell? ⟨g,i,none⟩=c.hd[i]?:=by
 rw[blk_cell h,c.get_hd i hi]
theorem CallAt.reg {w:World} {g:Nat} {c:CallD} (h:CallAt w g c) {i j:Nat} {s:SD} {v:Value} (hs:c.regs[i]?=some s) (hv:s.cells[j]?=some v):w.cell? ⟨g,14+(i*8+j),none⟩=some v:=by
 rw[blk_cell h];exact c.get_reg hs hv
theorem CallAt.later {w w':World} {g:Nat} {c:CallD} (h:CallAt w g c) (hb:Below w.heap.size w w'):CallAt w' g c:=blk_later hb h
theorem CallAt.but {S:List Nat} {w w':World} {g:Nat} {c:CallD} (h:CallAt w g c) (hb:ButL S w w') (hS:g∉S):CallAt w' g c:=hb.blk h hS
def instT:List Value:=[.nilFunc,.func (.func 80) #[] #[],.func (.func 81) #[] #[],.func (.func 82) #[] #[],.func (.func 83) #[] #[],.func (.func 83) #[] #[],.func (.func 84) #[] #[],.func (.func 83) #[] #[],.func (.func 85) #[] #[],.func (.func 83) #[] #[],.func (.func 86) #[] #[],.func (.func 87) #[] #[],.func (.func 88) #[] #[],.func (.func 89) #[] #[],.func (.func 90) #[] #[],.func (.func 91) #[] #[],.func (.func 92) #[] #[],.func (.func 93) #[] #[],.func (.func 94) #[] #[],.func (.func 95) #[] #[],.func (.func 95) #[] #[],.func (.func 95) #[] #[],.func (.func 96) #[] #[],.func (.func 97) #[] #[],.func (.func 97) #[] #[],.func (.func 83) #[] #[],.func (.func 83) #[] #[],.func (.func 98) #[] #[],.func (.func 99) #[] #[],.func (.func 100) #[] #[],.func (.func 101) #[] #[],.func (.func 102) #[] #[],.func (.func 103) #[] #[],.func (.func 104) #[] #[],.func (.func 105) #[] #[],.func (.func 106) #[] #[],.func (.func 107) #[] #[],.func (.func 108) #[] #[],.func (.func 95) #[] #[],.func (.func 109) #[] #[],.func (.func 110) #[] #[],.func (.func 111) #[] #[],.func (.func 112) #[] #[]]
def buiT:List Value:=[.func (.func 113) #[] #[],.func (.func 114) #[] #[],.func (.func 115) #[] #[],.func (.func 116) #[] #[],.func (.func 117) #[] #[],.func (.func 118) #[] #[],.func (.func 119) #[] #[],.func (.func 120) #[] #[],.func (.func 121) #[] #[],.func (.func 122) #[] #[],.func (.func 123) #[] #[],.func (.func 124) #[] #[],.func (.func 125) #[] #[],.func (.func 126) #[] #[],.func (.func 127) #[] #[]]
structure MachD where
 protos:Value
 ticks:Int
 depth:Int
 cells:Int
 watch:Value
 code:Int
 recs:Value
 vals:Value
 err:ByteArray
 trace:ByteArray
 rticks:Int
 made:Int
 tables:Value
 tasks:Value
 running:Value
 living:Int
 since:Int
def MachD.arr (m:MachD):Array Value:=([m.protos,.slice none 0 0,.slice none 0 0,.int .i64 m.ticks,.int .i64 m.depth,.int .i64 m.cells,m.watch,.int .i64 m.code,m.recs,m.vals,.string m.err,.string m.trace,.int .i64 m.rticks,.int .i64 m.made]++instT++buiT++[m.tables,.slice none 0 0,m.tasks,m.running,.slice none 0 0,.int .i64 0,.int .i64 0,.int .i64 m.living,.int .i64 m.since,.int .u64 0,.int .u32 0]).toArray
theorem MachD.size (m:MachD):m.arr.size=83:=rfl
theorem MachD.set_tasks (m:MachD) (z:Value):m.arr.setIfInBounds 74 z={ m with tasks:=z }.arr:=rfl
theorem MachD.set_running (m:MachD) (z:Value):m.arr.setIfInBounds 75 z={ m with running:=z }.arr:=rfl
theorem MachD.set_code (m:MachD) (z:Int):m.arr.setIfInBounds 7 (.int .i64 z)={ m with code:=z }.arr:=rfl
theorem MachD.set_ticks (m:MachD) (z:Int):m.arr.setIfInBounds 12 (.int .i64 z)={ m with rticks:=z }.arr:=rfl
theorem MachD.set_recs (m:MachD) (z:Value):m.arr.setIfInBounds 8 z={ m with recs:=z }.arr:=rfl
def MachAt (w:World) (g:Nat) (m:MachD):Prop:=w.heap[g]?=some (.cells m.arr 111)
theorem MachAt.cell {w:World} {g:Nat} {m:MachD} (h:MachAt w g m) (i:Nat):w.cell? ⟨g,i,none⟩=m.arr[i]?:=blk_cell h i
theorem MachAt.later {w w':World} {g:Nat} {m:MachD} (h:MachAt w g m) (hb:Below w.heap.size w w'):MachAt w' g m:=blk_later hb h
theorem MachAt.but {S:List Nat} {w w':World} {g:Nat} {m:MachD} (h:MachAt w g m) (hb:ButL S w w') (hS:g∉S):MachAt w' g m:=hb.blk h hS
end Go.Proofs.YtkajknidfoelcaaGreatDoor.M
namespace Go.Proofs.YtkajknidfoelcaaGreatDoor.M
open Go.RowKit
attribute [local go_sem] run_store_float
theorem CallAt.set8 {w:World} {g i:Nat} {c:CallD} (h:CallAt w g c) (hi:i<c.regs.length) (s:SD):CallAt ((((((((w.setCell ⟨g,14+i*8,none⟩ (.int .i64 s.h)).setCell ⟨g,14+i*8+1,none⟩ (.int .i64 s.v.k)).setCell ⟨g,14+i*8+2,none⟩ (.int .i64 s.v.n)).setCell ⟨g,14+i*8+3,none⟩ (.float .f64 s.v.f)).setCell ⟨g,14+i*8+4,none⟩ (.string s.v.s)).setCell ⟨g,14+i*8+5,none⟩ (.int .i64 s.v.r)).setCell ⟨g,14+i*8+6,none⟩ s.b).setCell ⟨g,14+i*8+7,none⟩ s.l) g { c with regs:=c.regs.set i s }:=by
 have h8:=blk_set (blk_set (blk_set (blk_set (blk_set (blk_set (blk_set (blk_set h (14+i*8) (.int .i64 s.h)) (14+i*8+1) (.int .i64 s.v.k)) (14+i*8+2) (.int .i64 s.v.n)) (14+i*8+3) (.float .f64 s.v.f)) (14+i*8+4) (.string s.v.s)) (14+i*8+5) (.int .i64 s.v.r)) (14+i*8+6) s.b) (14+i*8+7) s.l
 have e:=CallD.set_reg c s hi
 unfold CallAt
 rw[←e]
 exact h8
theorem but8 {S:List Nat} {w0 w:World} {g i:Nat} (h:ButL S w0 w) (hg:g∈S∨w0.heap.size≤g) (s:SD):ButL S w0 ((((((((w.setCell ⟨g,14+i*8,none⟩ (.int .i64 s.h)).setCell ⟨g,14+i*8+1,none⟩ (.int .i64 s.v.k)).setCell ⟨g,14+i*8+2,none⟩ (.int .i64 s.v.n)).setCell ⟨g,14+i*8+3,none⟩ (.float .f64 s.v.f)).setCell ⟨g,14+i*8+4,none⟩ (.string s.v.s)).setCell ⟨g,14+i*8+5,none⟩ (.int .i64 s.v.r)).setCell ⟨g,14+i*8+6,none⟩ s.b).setCell ⟨g,14+i*8+7,none⟩ s.l) :=
 (((((((h.seto hg _ _).seto hg _ _).seto hg _ _).seto hg _ _).seto hg _ _).seto hg _ _).seto hg _ _).seto hg _ _
theorem CallAt.drewN {w:World} {g:Nat} {c:CallD} (h:CallAt w g c) (n:Nat):CallAt (w.drewN n) g c:=h
theorem CallAt.drew {w:World} {g:Nat} {c:CallD} (h:CallAt w g c):CallAt w.drew g c:=h
theorem putList_any (g i n cap:Nat) (a:Option Addr) (c:CallD) (w:World) (h:CallAt w g c) (hr:c.regs.length=250) (hi:i<250) :
  Calls Tryz.prog 130 #[.pointer (some ⟨g,0,none⟩),.int .i64 (i:Int),.slice a n cap] w fun e w'=>e=.returned (.tuple #[])∧CallAt w' g { c with regs:=c.regs.set i (sdL (.slice a n cap)) }∧ButL [g] w w':=by
 obtain⟨s,hs⟩:∃s,c.regs[i]?=some s:=⟨c.regs[i]'(by omega),by simp⟩
 have c0:w.cell? ⟨g,14+i*8,none⟩=some (.int .i64 s.h):=by have:=h.reg hs (j:=0) rfl;simpa using this
 have c1:w.cell? ⟨g,14+i*8+1,none⟩=some (.int .i64 s.v.k):=by have:=h.reg hs (j:=1) rfl;rwa [←Nat.add_assoc]at this
 have c2:w.cell? ⟨g,14+i*8+2,none⟩=some (.int .i64 s.v.n):=by have:=h.reg hs (j:=2) rfl;rwa [←Nat.add_assoc]at this
 have c3:w.cell? ⟨g,14+i*8+3,none⟩=some (.float .f64 s.v.f):=by have:=h.reg hs (j:=3) rfl;rwa [←Nat.add_assoc]at this
 have c4:w.cell? ⟨g,14+i*8+4,none⟩=some (.string s.v.s):=by have:=h.reg hs (j:=4) rfl;rwa [←Nat.add_assoc]at this
 have c5:w.cell? ⟨g,14+i*8+5,none⟩=some (.int .i64 s.v.r):=by have:=h.reg hs (j:=5) rfl;rwa [←Nat.add_assoc]at this
 have c6:w.cell? ⟨g,14+i*8+6,none⟩=some s.b:=by have:=h.reg hs (j:=6) rfl;rwa [←Nat.add_assoc]at this
 have c7:w.cell? ⟨g,14+i*8+7,none⟩=some s.l:=by have:=h.reg hs (j:=7) rfl;rwa [←Nat.add_assoc]at this
 have z:=blk_frozen h
 have HC:Hid (CallAt w g c):=h
 clear h
 go_enter Tryz.func130,Tryz.ntmps130
 go_wp2_with fail
 exact bodyPost_end (v:=.tuple #[]) (by simp[results,Tryz.results130,go_sem]) rfl ⟨rfl,HC.out.set8 (by omega) (sdL (.slice a n cap)),but8 (ButL.refl _ _) (.inl (by simp)) (sdL (.slice a n cap))⟩
theorem put_any (g i:Nat) (v:VD) (c:CallD) (w:World) (h:CallAt w g c) (hr:c.regs.length=250) (hi:i<250) :
  Calls Tryz.prog 128 #[.pointer (some ⟨g,0,none⟩),.int .i64 (i:Int),.agg #[.int .i64 v.k,.int .i64 v.n,.float .f64 v.f,.string v.s,.int .i64 v.r]] w fun e w'=>e=.returned (.tuple #[])∧CallAt w' g { c with regs:=c.regs.set i (sdV v) }∧ButL [g] w w':=by
 obtain⟨s,hs⟩:∃s,c.regs[i]?=some s:=⟨c.regs[i]'(by omega),by simp⟩
 have hlt:=blk_lt h
 obtain⟨W,hW⟩:∃W,w.alloc (.cells #[.int .i64 v.k,.int .i64 v.n,.float .f64 v.f,.string v.s,.int .i64 v.r] 47)=W:=⟨_,rfl⟩
 have hb:=bw1 w (.cells #[.int .i64 v.k,.int .i64 v.n,.float .f64 v.f,.string v.s,.int .i64 v.r] 47)
 have bn:=blk_new w (.cells #[.int .i64 v.k,.int .i64 v.n,.float .f64 v.f,.string v.s,.int .i64 v.r] 47)
 rw[hW]at hb bn
 have h':CallAt W g c:=h.later hb
 have c0:W.cell? ⟨g,14+i*8,none⟩=some (.int .i64 s.h):=by have:=h'.reg hs (j:=0) rfl;simpa using this
 have c1:W.cell? ⟨g,14+i*8+1,none⟩=some (.int .i64 s.v.k):=by have:=h'.reg hs (j:=1) rfl;rwa [←Nat.add_assoc]at this
 have c2:W.cell? ⟨g,14+i*8+2,none⟩=some (.int .i64 s.v.n):=by have:=h'.reg hs (j:=2) rfl;rwa [←Nat.add_assoc]at this
 have c3:W.cell? ⟨g,14+i*8+3,none⟩=some (.float .f64 s.v.f):=by have:=h'.reg hs (j:=3) rfl;rwa [←Nat.add_assoc]at this
 have c4:W.cell? ⟨g,14+i*8+4,none⟩=some (.string s.v.s):=by have:=h'.reg hs (j:=4) rfl;rwa [←Nat.add_assoc]at this
 have c5:W.cell? ⟨g,14+i*8+5,none⟩=some (.int .i64 s.v.r):=by have:=h'.reg hs (j:=5) rfl;rwa [←Nat.add_assoc]at this
 have c6:W.cell? ⟨g,14+i*8+6,none⟩=some s.b:=by have:=h'.reg hs (j:=6) rfl;rwa [←Nat.add_assoc]at this
 have c7:W.cell? ⟨g,14+i*8+7,none⟩=some s.l:=by have:=h'.reg hs (j:=7) rfl;rwa [←Nat.add_assoc]at this
 have z:=blk_frozen h'
 have d0:W.cell? ⟨w.heap.size,0,none⟩=some (.int .i64 v.k):=by rw[blk_cell bn];rfl
 have d1:W.cell? ⟨w.heap.size,1,none⟩=some (.int .i64 v.n):=by rw[blk_cell bn];rfl
 have d2:W.cell? ⟨w.heap.size,2,none⟩=some (.float .f64 v.f):=by rw[blk_cell bn];rfl
 have d3:W.cell? ⟨w.heap.size,3,none⟩=some (.string v.s):=by rw[blk_cell bn];rfl
 have d4:W.cell? ⟨w.heap.size,4,none⟩=some (.int .i64 v.r):=by rw[blk_cell bn];rfl
 have HC:Hid (CallAt W g c):=h'
 have HB:Hid (ButL [g] w W):=ButL.of_below hb
 clear h h' hb bn
 go_enter Tryz.func128,Tryz.ntmps128
 go_wp2_with fail
 clear hW
 go_region
 go_wp2_with fail
 exact bodyPost_end (v:=.tuple #[]) (by simp[results,Tryz.results128,go_sem]) rfl ⟨rfl,(HC.out.set8 (by omega) (sdV v)).drew,(but8 HB.out (.inl (by simp)) (sdV v)).drew⟩
theorem operand_neg (g i:Nat) (x:Int) (h0:Int) (v:VD) (pb la:Option Addr) (ln lc:Nat) (c:CallD) (w:World) (h:CallAt w g c) (hr:c.regs.length=250) (hi:i<250) (hx:x<0) (hxi:-1-x=(i:Int)) (hs:c.regs[i]?=some ⟨h0,v,.pointer pb,.slice la ln lc⟩) :
  Calls Tryz.prog 164 #[.pointer (some ⟨g,0,none⟩),.int .i64 x] w fun e w'=>e=.returned (.agg #[.int .i64 h0,.int .i64 v.k,.int .i64 v.n,.float .f64 v.f,.string v.s,.int .i64 v.r,.pointer pb,.slice la ln lc])∧CallAt w' g { c with regs:=c.regs.set i sd0 }∧ButL [g] w w':=by
 have hlt:=blk_lt h
 have hx0:¬(0:Int)≤x:=by omega
 have c0:w.cell? ⟨g,14+i*8,none⟩=some (.int .i64 h0):=by have:=h.reg hs (j:=0) rfl;simpa using this
 have c1:w.cell? ⟨g,14+i*8+1,none⟩=some (.int .i64 v.k):=by have:=h.reg hs (j:=1) rfl;rwa [←Nat.add_assoc]at this
 have c2:w.cell? ⟨g,14+i*8+2,none⟩=some (.int .i64 v.n):=by have:=h.reg hs (j:=2) rfl;rwa [←Nat.add_assoc]at this
 have c3:w.cell? ⟨g,14+i*8+3,none⟩=some (.float .f64 v.f):=by have:=h.reg hs (j:=3) rfl;rwa [←Nat.add_assoc]at this
 have c4:w.cell? ⟨g,14+i*8+4,none⟩=some (.string v.s):=by have:=h.reg hs (j:=4) rfl;rwa [←Nat.add_assoc]at this
 have c5:w.cell? ⟨g,14+i*8+5,none⟩=some (.int .i64 v.r):=by have:=h.reg hs (j:=5) rfl;rwa [←Nat.add_assoc]at this
 have c6:w.cell? ⟨g,14+i*8+6,none⟩=some (.pointer pb):=by have:=h.reg hs (j:=6) rfl;rwa [←Nat.add_assoc]at this
 have c7:w.cell? ⟨g,14+i*8+7,none⟩=some (.slice la ln lc):=by have:=h.reg hs (j:=7) rfl;rwa [←Nat.add_assoc]at this
 have z:=blk_frozen h
 have HC:Hid (CallAt w g c):=h
 clear h
 go_enter Tryz.func164,Tryz.ntmps164
 go_wp2_with fail
 refine bodyPost_ret (v:=.agg #[.int .i64 h0,.int .i64 v.k,.int .i64 v.n,.float .f64 v.f,.string v.s,.int .i64 v.r,.pointer pb,.slice la ln lc]) (by simp[results,Tryz.results164,go_sem]) rfl ⟨rfl,(HC.out.set8 (by omega) sd0).later (bw2 _ _ _),((but8 (ButL.refl _ _) (.inl (by simp)) sd0).alloc _).alloc _⟩
theorem takeOff_any (g n cap:Nat) (a:Option Addr) (c:CallD) (w:World) (h:CallAt w g c) (hg:c.guards=.slice a (n+1) cap) (hcap:n+1≤cap) (hn:n≤1000) :
  Calls Tryz.prog 179 #[.pointer (some ⟨g,0,none⟩)] w fun e w'=>e=.returned (.tuple #[])∧CallAt w' g { c with guards:=.slice a n cap }∧ButL [g] w w':=by
 have c12:w.cell? ⟨g,12,none⟩=some (.slice a (n+1) cap):=by rw[h.cell 12 (by omega),←hg];rfl
 have z:=blk_frozen h
 have HC:Hid (CallAt w g c):=h
 clear h
 go_enter Tryz.func179,Tryz.ntmps179
 go_wp2_with fail
 go_region
 go_wp2_with fail
 refine bodyPost_end (v:=.tuple #[]) (by simp[results,Tryz.results179,go_sem]) rfl ⟨rfl,?_,((ButL.refl _ _).set (by simp) _ _).drew⟩
 have:=blk_set HC.out 12 (.slice a n cap)
 rw[CallD.set_guards]at this
 exact this
end Go.Proofs.YtkajknidfoelcaaGreatDoor.M
namespace Go.Proofs.YtkajknidfoelcaaGreatDoor.M
open Go.RowKit
attribute [local go_sem] run_store_float
def insV (n:ID):Value:=.agg #[.int .i64 n.op,.int .i64 n.a,.int .i64 n.b,.int .i64 n.c,.int .i64 n.d]
abbrev InO (n:ID):Obj:=.cells #[.int .i64 n.op,.int .i64 n.a,.int .i64 n.b,.int .i64 n.c,.int .i64 n.d] 52
theorem doList_any (pm:Value) (g i:Nat) (n:ID) (c:CallD) (w:World) (h:CallAt w g c) (hr:c.regs.length=250) (hi:i<250) (ha:n.a=i) :
  Calls Tryz.prog 96 #[pm,.pointer (some ⟨g,0,none⟩),insV n] w fun e w'=>e=.returned .nilIface∧CallAt w' g { c with regs:=c.regs.set i (sdL (.slice none 0 0)) }∧ButL [g] w w':=by
 obtain⟨op,a,b,cc,d⟩:=n
 dsimp only[insV]at ha ⊢
 subst ha
 have HB:Hid _:=bw1 w (InO ⟨op,i,b,cc,d⟩)
 have HC:Hid (CallAt (w.alloc (InO ⟨op,i,b,cc,d⟩)) g c):=h.later HB.out
 clear h
 go_enter Tryz.func96,Tryz.ntmps96
 go_wp2_with fail
 refine (putList_any g i 0 0 none c _ HC.out hr hi).mono ?_
 rintro e w1 ⟨rfl,h1,hb1⟩
 have H1:Hid _:=h1
 have HB1:Hid _:=hb1
 clear h1 hb1
 go_wp2_with fail
 go_ret
 exact⟨rfl,H1.out,(ButL.of_below HB.out).trans HB1.out⟩
theorem doJump_any (pm:Value) (g:Nat) (n:ID) (c:CallD) (w:World) (h:CallAt w g c) (hop:n.op=19) :
  Calls Tryz.prog 95 #[pm,.pointer (some ⟨g,0,none⟩),insV n] w fun e w'=>e=.returned .nilIface∧CallAt w' g { c with next:=n.a }∧ButL [g] w w':=by
 obtain⟨op,a,b,cc,d⟩:=n
 dsimp only[insV]at hop ⊢
 subst hop
 obtain⟨W,hW⟩:∃W,w.alloc (InO ⟨19,a,b,cc,d⟩)=W:=⟨_,rfl⟩
 have hb:=bw1 w (InO ⟨19,a,b,cc,d⟩)
 have bn:=blk_new w (InO ⟨19,a,b,cc,d⟩)
 rw[hW]at hb bn
 have h':CallAt W g c:=h.later hb
 have c10:W.cell? ⟨g,10,none⟩=some (.int .i64 c.next):=by rw[h'.cell 10 (by omega)];rfl
 have z:=blk_frozen h'
 have d0:W.cell? ⟨w.heap.size,0,none⟩=some (.int .i64 19):=by rw[blk_cell bn];rfl
 have d1:W.cell? ⟨w.heap.size,1,none⟩=some (.int .i64 a):=by rw[blk_cell bn];rfl
 have HC:Hid (CallAt W g c):=h'
 have HB:Hid (ButL [g] w W):=ButL.of_below hb
 clear h h' hb bn
 go_enter Tryz.func95,Tryz.ntmps95
 go_wp2_with fail
 go_ret
 refine⟨rfl,?_,HB.out.set (by simp) _ _⟩
 have:=blk_set HC.out 10 (.int .i64 a)
 rw[CallD.set_next]at this
 exact this
theorem doDrop_any (pm:Value) (g i:Nat) (n:ID) (c:CallD) (w:World) (h:CallAt w g c) (hr:c.regs.length=250) (hi:i<250) (ha:n.a=i) :
  Calls Tryz.prog 112 #[pm,.pointer (some ⟨g,0,none⟩),insV n] w fun e w'=>e=.returned .nilIface∧CallAt w' g { c with regs:=c.regs.set i sd0 }∧ButL [g] w w':=by
 obtain⟨op,a,b,cc,d⟩:=n
 dsimp only[insV]at ha ⊢
 subst ha
 obtain⟨W,hW⟩:∃W,w.alloc (InO ⟨op,i,b,cc,d⟩)=W:=⟨_,rfl⟩
 have hb:=bw1 w (InO ⟨op,i,b,cc,d⟩)
 have bn:=blk_new w (InO ⟨op,i,b,cc,d⟩)
 rw[hW]at hb bn
 have h':CallAt W g c:=h.later hb
 obtain⟨s,hs⟩:∃s,c.regs[i]?=some s:=⟨c.regs[i]'(by omega),by simp⟩
 have c0:W.cell? ⟨g,14+i*8,none⟩=some (.int .i64 s.h):=by have:=h'.reg hs (j:=0) rfl;simpa using this
 have c1:W.cell? ⟨g,14+i*8+1,none⟩=some (.int .i64 s.v.k):=by have:=h'.reg hs (j:=1) rfl;rwa [←Nat.add_assoc]at this
 have c2:W.cell? ⟨g,14+i*8+2,none⟩=some (.int .i64 s.v.n):=by have:=h'.reg hs (j:=2) rfl;rwa [←Nat.add_assoc]at this
 have c3:W.cell? ⟨g,14+i*8+3,none⟩=some (.float .f64 s.v.f):=by have:=h'.reg hs (j:=3) rfl;rwa [←Nat.add_assoc]at this
 have c4:W.cell? ⟨g,14+i*8+4,none⟩=some (.string s.v.s):=by have:=h'.reg hs (j:=4) rfl;rwa [←Nat.add_assoc]at this
 have c5:W.cell? ⟨g,14+i*8+5,none⟩=some (.int .i64 s.v.r):=by have:=h'.reg hs (j:=5) rfl;rwa [←Nat.add_assoc]at this
 have c6:W.cell? ⟨g,14+i*8+6,none⟩=some s.b:=by have:=h'.reg hs (j:=6) rfl;rwa [←Nat.add_assoc]at this
 have c7:W.cell? ⟨g,14+i*8+7,none⟩=some s.l:=by have:=h'.reg hs (j:=7) rfl;rwa [←Nat.add_assoc]at this
 have z:=blk_frozen h'
 have d1:W.cell? ⟨w.heap.size,1,none⟩=some (.int .i64 (i:Int)):=by rw[blk_cell bn];rfl
 have HC:Hid (CallAt W g c):=h'
 have HB:Hid (ButL [g] w W):=ButL.of_below hb
 clear h h' hb bn
 go_enter Tryz.func112,Tryz.ntmps112
 go_wp2_with fail
 clear hW
 go_region
 go_wp2_with fail
 go_ret
 exact⟨rfl,(HC.out.set8 (by omega) sd0).drew,(but8 HB.out (.inl (by simp)) sd0).drew⟩
theorem run_fldL (h0:Int) (v:VD) (pb la:Option Addr) (ln lc:Nat) (w:World):(Instr.field 211 (.agg #[.int .i64 h0,.int .i64 v.k,.int .i64 v.n,.float .f64 v.f,.string v.s,.int .i64 v.r,.pointer pb,.slice la ln lc]) 3).run Tryz.prog w=.ok (.slice la ln lc) w:=by kernel_rfl
theorem list_neg (g i:Nat) (x:Int) (h0:Int) (v:VD) (pb la:Option Addr) (ln lc:Nat) (c:CallD) (w:World) (h:CallAt w g c) (hr:c.regs.length=250) (hi:i<250) (hx:x<0) (hxi:-1-x=(i:Int)) (hs:c.regs[i]?=some ⟨h0,v,.pointer pb,.slice la ln lc⟩) :
  Calls Tryz.prog 170 #[.pointer (some ⟨g,0,none⟩),.int .i64 x] w fun e w'=>e=.returned (.slice la ln lc)∧CallAt w' g { c with regs:=c.regs.set i sd0 }∧ButL [g] w w':=by
 have hx0:¬(0:Int)≤x:=by omega
 have hF:=run_fldL h0 v pb la ln lc
 have HC:Hid (CallAt w g c):=h
 clear h
 go_enter Tryz.func170,Tryz.ntmps170
 go_wp2_with fail
 refine (operand_neg g i x h0 v pb la ln lc c _ HC.out hr hi hx hxi hs).mono ?_
 rintro e w1 ⟨rfl,h1,hb1⟩
 have H1:Hid _:=h1
 have HB1:Hid _:=hb1
 clear h1 hb1
 go_wp2_with fail
 go_ret
 exact⟨rfl,H1.out,HB1.out⟩
end Go.Proofs.YtkajknidfoelcaaGreatDoor.M
namespace Go.Proofs.YtkajknidfoelcaaGreatDoor.M
open Go.RowKit
attribute [local go_sem] run_store_float
def pC (g:Nat):List Value:=[.pointer (some ⟨g,0,none⟩)]
theorem pC_len (g:Nat):(pC g).length=1:=rfl
abbrev ShO:Obj:=.cells #[.int .i64 0,.pointer none,.int .i64 0,.int .i64 0,.float .f64 0,.string ⟨#[]⟩,.int .i64 0] 303
theorem blk5 {W:World} {g q:Nat} {o:Obj} (h:W.heap[g]?=some o) (hne:q≠g) (v0 v1 v2 v3 v4:Value):(((((W.setCell ⟨q,0,none⟩ v0).setCell ⟨q,1,none⟩ v1).setCell ⟨q,2,none⟩ v2).setCell ⟨q,3,none⟩ v3).setCell ⟨q,4,none⟩ v4).heap[g]?=some o :=
 blk_other (blk_other (blk_other (blk_other (blk_other h hne _ _) hne _ _) hne _ _) hne _ _) hne _ _
theorem but5 {S:List Nat} {w0 W:World} {q:Nat} (h:ButL S w0 W) (hq:w0.heap.size≤q) (v0 v1 v2 v3 v4:Value):ButL S w0 (((((W.setCell ⟨q,0,none⟩ v0).setCell ⟨q,1,none⟩ v1).setCell ⟨q,2,none⟩ v2).setCell ⟨q,3,none⟩ v3).setCell ⟨q,4,none⟩ v4) :=
 ((((h.setn hq _ _).setn hq _ _).setn hq _ _).setn hq _ _).setn hq _ _
def tabV (n:Nat):VD:=⟨5,0,0,⟨#[]⟩,n⟩
theorem run_fldV (c k n:Int) (f:Nat) (s:ByteArray) (r:Int) (w:World):(Instr.field 263 (.agg #[.int .i64 c,.int .i64 k,.int .i64 n,.float .f64 f,.string s,.int .i64 r]) 1).run Tryz.prog w=.ok (.agg #[.int .i64 k,.int .i64 n,.float .f64 f,.string s,.int .i64 r]) w:=by kernel_rfl
end Go.Proofs.YtkajknidfoelcaaGreatDoor.M
namespace Go.Proofs.YtkajknidfoelcaaGreatDoor.T
open Go.RowKit M
attribute [local go_sem] run_store_float
theorem small0 (w:World):Calls Tryz.prog 341 #[.int .i64 0] w fun e w'=>e=.returned (.string ⟨#[48]⟩)∧w'=w:=by
 go_enter Tryz.func341,Tryz.ntmps341
 go_wp2_with fail
 go_ret
 exact⟨rfl,rfl⟩
theorem format0 (w:World):Calls Tryz.prog 333 #[.int .i64 0,.int .i64 10] w fun e w'=>e=.returned (.string ⟨#[48]⟩)∧w'=w:=by
 go_enter Tryz.func333,Tryz.ntmps333
 go_wp2_with fail
 refine (small0 _).mono ?_
 rintro e w1 ⟨rfl,rfl⟩
 go_wp2_with fail
 go_ret
 exact⟨rfl,rfl⟩
theorem iitoa0 (w:World):Calls Tryz.prog 316 #[.int .i64 0] w fun e w'=>e=.returned (.string ⟨#[48]⟩)∧w'=w:=by
 go_enter Tryz.func316,Tryz.ntmps316
 go_wp2_with fail
 refine (format0 _).mono ?_
 rintro e w1 ⟨rfl,rfl⟩
 go_wp2_with fail
 go_ret
 exact⟨rfl,rfl⟩
theorem itoa0 (w:World):Calls Tryz.prog 278 #[.int .i64 0] w fun e w'=>e=.returned (.string ⟨#[48]⟩)∧w'=w:=by
 go_enter Tryz.func278,Tryz.ntmps278
 go_wp2_with fail
 refine (iitoa0 _).mono ?_
 rintro e w1 ⟨rfl,rfl⟩
 go_wp2_with fail
 go_ret
 exact⟨rfl,rfl⟩
theorem m_int_text (d:Nat) (v:Value) (w:World):(method (d+1) 329 v "loop.example/punch/impl.text").run Tryz.prog w=.ok (405,v) w:=by kernel_rfl
attribute [local go_sem] m_int_text
end Go.Proofs.YtkajknidfoelcaaGreatDoor.T
namespace Go.Proofs.YtkajknidfoelcaaGreatDoor.T
open Go.RowKit M
attribute [local go_sem] run_store_float
def ovI (p:Option Addr):Value:=.iface 487 (.pointer p)
def OvV (w:World) (p:Option Addr):Prop:=w.cell? ⟨2,0,none⟩=some (ovI p)
theorem OvV.later {w w':World} {p:Option Addr} (h:OvV w p) (hb:Below w.heap.size w w'):OvV w' p:=cell_later hb h
theorem tick_over (g:Nat) (m:MachD) (p:Option Addr) (w:World) (h:MachAt w g m) (ho:OvV w p) (he:m.rticks=m.ticks) :
  Calls Tryz.prog 160 #[.pointer (some ⟨g,0,none⟩)] w fun e w'=>e=.returned (ovI p)∧Below w.heap.size w w':=by
 have c12:w.cell? ⟨g,12,none⟩=some (.int .i64 m.ticks):=by rw[h.cell,←he];rfl
 have c3:w.cell? ⟨g,3,none⟩=some (.int .i64 m.ticks):=by rw[h.cell];rfl
 have c0:w.cell? ⟨2,0,none⟩=some (.iface 487 (.pointer p)):=ho
 clear h he ho
 go_enter Tryz.func160,Tryz.ntmps160
 go_wp2_with fail
 go_region
 go_wp2_with fail
 go_ret
 exact⟨rfl,(Below.refl _ _).drew⟩
theorem tick_go (g:Nat) (m:MachD) (w:World) (h:MachAt w g m) (he:m.rticks<m.ticks) (h0:0≤m.rticks) (h1:m.ticks≤100000) :
  Calls Tryz.prog 160 #[.pointer (some ⟨g,0,none⟩)] w fun e w'=>e=.returned .nilIface∧MachAt w' g { m with rticks:=m.rticks+1 }∧ButL [g] w w':=by
 have c12:w.cell? ⟨g,12,none⟩=some (.int .i64 m.rticks):=by rw[h.cell];rfl
 have c3:w.cell? ⟨g,3,none⟩=some (.int .i64 m.ticks):=by rw[h.cell];rfl
 have hne:¬m.rticks=m.ticks:=by omega
 have z:=blk_frozen h
 have HM:Hid (MachAt w g m):=h
 clear h
 go_enter Tryz.func160,Tryz.ntmps160
 go_wp2_with fail
 go_region
 go_wp2_with fail
 go_ret
 refine⟨rfl,?_,((ButL.refl _ _).drew).set (by simp) _ _⟩
 have h9:=blk_set (w:=w.drew) HM.out 12 (.int .i64 (m.rticks+1))
 rw[MachD.set_ticks]at h9
 exact h9
theorem doTick_over (g gf:Nat) (n:ID) (m:MachD) (p:Option Addr) (w:World) (h:MachAt w g m) (ho:OvV w p) (he:m.rticks=m.ticks) :
  Calls Tryz.prog 82 #[.pointer (some ⟨g,0,none⟩),.pointer (some ⟨gf,0,none⟩),insV n] w fun e w'=>e=.returned (ovI p)∧Below w.heap.size w w':=by
 obtain⟨op,a,b,cc,d⟩:=n
 dsimp only[insV]
 have HB:Hid _:=bw1 w (InO ⟨op,a,b,cc,d⟩)
 have HC:Hid (MachAt (w.alloc (InO ⟨op,a,b,cc,d⟩)) g m):=h.later HB.out
 have HO:Hid (OvV (w.alloc (InO ⟨op,a,b,cc,d⟩)) p):=ho.later HB.out
 clear h ho
 go_enter Tryz.func82,Tryz.ntmps82
 go_wp2_with fail
 refine (tick_over g m p _ HC.out HO.out he).mono ?_
 rintro e w1 ⟨rfl,hb1⟩
 have HB1:Hid _:=hb1
 clear hb1
 go_wp2_with fail
 go_ret
 exact⟨rfl,HB.out.trans (HB1.out.mono (by simp))⟩
theorem doTick_go (g gf:Nat) (n:ID) (m:MachD) (w:World) (h:MachAt w g m) (he:m.rticks<m.ticks) (h0:0≤m.rticks) (h1:m.ticks≤100000) :
  Calls Tryz.prog 82 #[.pointer (some ⟨g,0,none⟩),.pointer (some ⟨gf,0,none⟩),insV n] w fun e w'=>e=.returned .nilIface∧MachAt w' g { m with rticks:=m.rticks+1 }∧ButL [g] w w':=by
 obtain⟨op,a,b,cc,d⟩:=n
 dsimp only[insV]
 have HB:Hid _:=bw1 w (InO ⟨op,a,b,cc,d⟩)
 have HC:Hid (MachAt (w.alloc (InO ⟨op,a,b,cc,d⟩)) g m):=h.later HB.out
 clear h
 go_enter Tryz.func82,Tryz.ntmps82
 go_wp2_with fail
 refine (tick_go g m _ HC.out he h0 h1).mono ?_
 rintro e w1 ⟨rfl,hm1,hb1⟩
 have HM1:Hid _:=hm1
 have HB1:Hid _:=hb1
 clear hb1 hm1
 go_wp2_with fail
 go_ret
 exact⟨rfl,HM1.out,(ButL.of_below HB.out).trans HB1.out⟩
structure TkAt (w:World) (gt gc gf:Nat):Prop where
 calls:∃cap,w.cell? ⟨gt,8,none⟩=some (.slice (some ⟨gc,0,none⟩) 1 cap)∧1≤cap
 num:w.cell? ⟨gt,1,none⟩=some (.int .i64 0)
 call:w.cell? ⟨gc,0,none⟩=some (.pointer (some ⟨gf,0,none⟩))
theorem topen_any (gt gc gf:Nat) (w:World) (h:TkAt w gt gc gf) :
  Calls Tryz.prog 220 #[.pointer (some ⟨gt,0,none⟩)] w fun e w'=>e=.returned (.pointer (some ⟨gf,0,none⟩))∧∃n,w'=w.drewN n:=by
 obtain⟨cap,c8,hcap⟩:=h.calls
 have c0:=h.call
 clear h
 go_enter Tryz.func220,Tryz.ntmps220
 go_wp2_with fail
 go_region
 go_wp2_with fail
 go_ret
 exact⟨rfl,1,rfl⟩
end Go.Proofs.YtkajknidfoelcaaGreatDoor.T
namespace Go.Proofs.YtkajknidfoelcaaGreatDoor.M
open Go.RowKit
attribute [local go_sem] run_store_float
theorem ne_ty {w:World} {g g':Nat} {a a':Array Value} {t t':TypeId} (h:w.heap[g]?=some (.cells a t)) (h':w.heap[g']?=some (.cells a' t')) (ht:t≠t'):g≠g':=by
 rintro rfl
 rw[h]at h'
 injection h' with h'
 injection h' with _ h'
 exact ht h'
theorem own_ne {α:Type} {w:World} {B:Nat} {et:TypeId} {k:Nat} {cells:α→List Value} {sv:Value} {xs:List α} (ho:ORow w B et k cells sv xs) {g:Nat} {a:Array Value} {t:TypeId} (h:w.heap[g]?=some (.cells a t)) (ht:t≠et):sv.ownBlock≠some g:=by
 intro e
 rcases ho.2 with ⟨e1,_⟩ | ⟨g0,c0,cur,e1,_,e3,_⟩
 ·rw[e1]at e;cases e
 ·rw[e1]at e
  have e':g0=g:=Option.some.inj e
  subst e'
  exact ne_ty h e3 ht rfl
theorem _root_.Go.Proofs.YtkajknidfoelcaaGreatDoor.ButL.undrew {S:List Nat} {w w':World} (h:ButL S w.drew w'):ButL S w w':=⟨h.os,h.tape,h.output,h.size,h.block⟩
theorem put_int (g i:Nat) (p:Int) (hp:p=(i:Int)) (v:VD) (c:CallD) (w:World) (h:CallAt w g c) (hr:c.regs.length=250) (hi:i<250) :
  Calls Tryz.prog 128 #[.pointer (some ⟨g,0,none⟩),.int .i64 p,.agg #[.int .i64 v.k,.int .i64 v.n,.float .f64 v.f,.string v.s,.int .i64 v.r]] w fun e w'=>e=.returned (.tuple #[])∧CallAt w' g { c with regs:=c.regs.set i (sdV v) }∧ButL [g] w w':=by
 subst hp
 exact put_any g i v c w h hr hi
def intD (n:Int):VD:=⟨2,n,0,⟨#[]⟩,0⟩
end Go.Proofs.YtkajknidfoelcaaGreatDoor.M
namespace Go.Proofs.YtkajknidfoelcaaGreatDoor.T
open Go.RowKit M
attribute [local go_sem] run_store_float
def rcC (k:Int):List Value:=[.int .i64 k,.int .i64 0,.int .i64 0,.int .i64 0,.string ⟨#[55]⟩]
theorem ORow.drew {α:Type} {w:World} {B:Nat} {et:TypeId} {k:Nat} {cells:α→List Value} {sv:Value} {xs:List α} (h:ORow w B et k cells sv xs):ORow w.drew B et k cells sv xs:=h
theorem watch_any (p i:Value) (w:World):Calls Tryz.prog 19 #[p,i] w fun e w'=>e=.returned .nilIface∧w'=w:=by
 go_enter Tryz.func19,Tryz.ntmps19
 go_wp2_with fail
 go_ret
 exact⟨rfl,rfl⟩
end Go.Proofs.YtkajknidfoelcaaGreatDoor.T
namespace Go.Proofs.YtkajknidfoelcaaGreatDoor.T
open Go.RowKit M
attribute [local go_sem] run_store_float
theorem TkAt.drewN {w:World} {gt gc gf:Nat} (h:TkAt w gt gc gf) (n:Nat):TkAt (w.drewN n) gt gc gf:=⟨h.calls,h.num,h.call⟩
theorem TkAt.later {w w':World} {gt gc gf:Nat} (h:TkAt w gt gc gf) (hb:Below w.heap.size w w'):TkAt w' gt gc gf:=by
 obtain⟨⟨cap,h1,h2⟩,h3,h4⟩:=h
 exact⟨⟨cap,cell_later hb h1,h2⟩,cell_later hb h3,cell_later hb h4⟩
theorem line_any (gt gc gf:Nat) (c:CallD) (w:World) (h:TkAt w gt gc gf) (hc:CallAt w gf c) :
  Calls Tryz.prog 193 #[.pointer (some ⟨gt,0,none⟩)] w fun e w'=>e=.returned (.int .i64 c.line)∧∃n,w'=w.drewN n:=by
 have HT:Hid (TkAt w gt gc gf):=h
 have HC:Hid (CallAt w gf c):=hc
 clear h hc
 go_enter Tryz.func193,Tryz.ntmps193
 go_wp2_with fail
 refine (topen_any gt gc gf _ HT.out).mono ?_
 rintro e w1 ⟨rfl,n,rfl⟩
 have c11:(w.drewN n).cell? ⟨gf,11,none⟩=some (.int .i64 c.line):=by rw[(HC.out.drewN n).cell 11 (by omega)];rfl
 go_wp2_with fail
 go_ret
 exact⟨rfl,n,rfl⟩
theorem join1 (ga cap:Nat) (s sep:ByteArray) (w:World) (h:w.cell? ⟨ga,0,none⟩=some (.string s)) :
  Calls Tryz.prog 192 #[.slice (some ⟨ga,0,none⟩) 1 cap,.string sep] w fun e w'=>e=.returned (.string s)∧w'=w:=by
 go_enter Tryz.func192,Tryz.ntmps192
 go_wp2_with fail
 go_ret
 exact⟨rfl,rfl⟩
end Go.Proofs.YtkajknidfoelcaaGreatDoor.T
