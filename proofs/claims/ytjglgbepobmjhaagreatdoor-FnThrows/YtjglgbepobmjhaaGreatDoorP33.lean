import Derived.Test.YtjglgbepobmjhaaGreatDoorP32
import Derived.Test.YtjglgbepobmjhaaGreatDoorP07
import Derived.BigRegion
import Derived.BigQuiet
import Derived.Deep.QuietTactic
import Derived.Test.YtjglgbepobmjhaaGreatDoorP11
import Derived.Test.YtjglgbepobmjhaaGreatDoorP01
set_option linter.unusedVariables false
set_option linter.unusedSimpArgs false
set_option maxRecDepth 20000
set_option maxHeartbeats 8000000
namespace Go.Proofs.YtjglgbepobmjhaaGreatDoor
open Go.RowKit
theorem VeP.split {xs:List FC} {len B:Nat} {e:Ending} {w':World} (h:VeP xs len B e w'):(∃r:F3,CkR (xs.map FC.d) r∧((shapeV (xs.map FC.d)).1≠0∧r=shapeV (xs.map FC.d)∨(shapeV (xs.map FC.d)).1=0∧∃p f,xs[p]?=some f∧WF (xs.map FC.d) p f.d (some r))∧e=.returned (.tuple #[.slice none 0 0,.iface 80 (FV r.1 r.2.1 r.2.2)])) ∨
 (CkR (xs.map FC.d) (0,0,0)∧∃gA,e=.returned (.tuple #[.slice (some ⟨gA,0,none⟩) len len,.nilIface])∧VeR xs B gA xs.length w'):=h
end Go.Proofs.YtjglgbepobmjhaaGreatDoor
namespace Go.Proofs.YtjglgbepobmjhaaGreatDoor.M
open Go.RowKit
def vd0:VD:=⟨0,0,0,⟨#[]⟩,0⟩
structure SD where
 h:Int
 v:VD
 b:Value
 l:Value
def SD.cells (s:SD):List Value:=[.int .i64 s.h,.int .i64 s.v.k,.int .i64 s.v.n,.float .f64 s.v.f,.string s.v.s,.int .i64 s.v.r,s.b,s.l]
theorem sd_len (s:SD):s.cells.length=8:=rfl
def sd0:SD:=⟨0,vd0,.pointer none,.slice none 0 0⟩
def sdV (v:VD):SD:=⟨1,v,.pointer none,.slice none 0 0⟩
def sdL (l:Value):SD:=⟨3,vd0,.pointer none,l⟩
def setL (l:List Value) (o:Nat):List Value→List Value
 | []=>l
 | v :: vs=>setL (l.set o v) (o+1) vs
theorem putl_toArray:∀(vs:List Value) (l:List Value) (o:Nat),putl l.toArray o vs=(setL l o vs).toArray
 | [],_,_=>rfl
 | v :: vs,l,o=>by
  rw[putl,setL,List.setIfInBounds_toArray,putl_toArray vs]
theorem setL_mid:∀(vs A B C:List Value),B.length=vs.length→setL (A++(B++C)) A.length vs=A++(vs++C)
 | [],A,B,C,h=>by
  have:B=[]:=List.length_eq_zero_iff.1 h
  subst this;rfl
 | v :: vs,A,b :: B,C,h=>by
  have ih:=setL_mid vs (A++[v]) B C (by simpa using h)
  rw[setL,List.set_append_right _ _ (Nat.le_refl _),Nat.sub_self]
  simp only[List.cons_append,List.set_cons_zero]
  rw[List.length_append]at ih
  simpa using ih
 | v :: vs,A,[],C,h=>by simp at h
theorem setL_flat {α:Type} (cells:α→List Value) (k:Nat) (hk:∀y,(cells y).length=k) (P:List Value) (xs:List α) (i:Nat) (x:α) (hi:i<xs.length) :
  setL (P++xs.flatMap cells) (P.length+i*k) (cells x)=P++(xs.set i x).flatMap cells:=by
 have h1:xs=xs.take i++xs[i] :: xs.drop (i+1):=by
  conv=>lhs;rw[←List.take_append_drop i xs]
  rw[List.drop_eq_getElem_cons hi]
 have hl:((xs.take i).flatMap cells).length=i*k:=by
  rw[List.length_flatMap]
  have:(xs.take i).map (fun a=>(cells a).length)=List.replicate i k:=by
   apply List.ext_getElem?
   intro n
   rw[List.getElem?_map,List.getElem?_replicate,List.getElem?_take]
   by_cases hn:n<i
   ·rw[if_pos hn,if_pos hn,List.getElem?_eq_getElem (by omega)];simp[hk]
   ·rw[if_neg hn,if_neg hn];rfl
  rw[this,List.sum_replicate_nat]
 have h2:P++xs.flatMap cells=(P++(xs.take i).flatMap cells)++(cells xs[i]++(xs.drop (i+1)).flatMap cells):=by
  have h4:xs.flatMap cells=(xs.take i).flatMap cells++(cells xs[i]++(xs.drop (i+1)).flatMap cells):=by
   conv=>lhs;rw[h1]
   rw[List.flatMap_append,List.flatMap_cons]
  rw[h4,List.append_assoc]
 have h3:P++(xs.set i x).flatMap cells=(P++(xs.take i).flatMap cells)++(cells x++(xs.drop (i+1)).flatMap cells):=by
  rw[List.set_eq_take_append_cons_drop,if_pos hi]
  simp[List.flatMap_append,List.flatMap_cons]
 rw[h2,h3,show P.length+i*k=(P++(xs.take i).flatMap cells).length by rw[List.length_append,hl]]
 exact setL_mid (cells x) _ (cells xs[i]) _ (by rw[hk,hk])
structure CallD where
 fn:VD
 proto:Int
 ins:Value
 consts:Value
 ups:Value
 at':Int
 next:Int
 line:Int
 guards:Value
 way:Value
 regs:List SD
def CallD.hd (c:CallD):List Value:=[.int .i64 c.fn.k,.int .i64 c.fn.n,.float .f64 c.fn.f,.string c.fn.s,.int .i64 c.fn.r,.int .i64 c.proto,c.ins,c.consts,c.ups,.int .i64 c.at',.int .i64 c.next,.int .i64 c.line,c.guards,c.way]
def CallD.arr (c:CallD):Array Value:=(c.hd++c.regs.flatMap SD.cells).toArray
theorem CallD.get_hd (c:CallD) (i:Nat) (hi:i<14):c.arr[i]?=c.hd[i]?:=by
 unfold CallD.arr
 rw[List.getElem?_toArray,List.getElem?_append_left (by exact hi)]
theorem CallD.get_reg (c:CallD) {i j:Nat} {s:SD} {v:Value} (hs:c.regs[i]?=some s) (hv:s.cells[j]?=some v):c.arr[14+(i*8+j)]?=some v:=by
 unfold CallD.arr
 rw[List.getElem?_toArray,List.getElem?_append_right (by show (14:Nat)≤_;omega)]
 rw[show 14+(i*8+j)-c.hd.length=i*8+j by show 14+(i*8+j)-14=_;omega]
 exact flat_at SD.cells 8 c.regs i j s v (fun y _=>sd_len y) hs hv
theorem CallD.set_reg (c:CallD) {i:Nat} (s:SD) (hi:i<c.regs.length):putl c.arr (14+i*8) s.cells={ c with regs:=c.regs.set i s }.arr:=by
 unfold CallD.arr
 rw[putl_toArray]
 exact congrArg List.toArray (setL_flat SD.cells 8 sd_len c.hd c.regs i s hi)
theorem CallD.set_at (c:CallD) (z:Int):c.arr.setIfInBounds 9 (.int .i64 z)={ c with at':=z }.arr:=by
 unfold CallD.arr;rw[List.setIfInBounds_toArray];rfl
theorem CallD.set_next (c:CallD) (z:Int):c.arr.setIfInBounds 10 (.int .i64 z)={ c with next:=z }.arr:=by
 unfold CallD.arr;rw[List.setIfInBounds_toArray];rfl
theorem CallD.set_guards (c:CallD) (z:Value):c.arr.setIfInBounds 12 z={ c with guards:=z }.arr:=by
 unfold CallD.arr;rw[List.setIfInBounds_toArray];rfl
def CallAt (w:World) (g:Nat) (c:CallD):Prop:=w.heap[g]?=some (.cells c.arr 210)
theorem CallAt.cell {w:World} {g:Nat} {c:CallD} (h:CallAt w g c) (i:Nat) (hi:i<14):w.cell? ⟨g,i,none⟩=c.hd[i]?:=by
 rw[blk_cell h,c.get_hd i hi]
theorem CallAt.reg {w:World} {g:Nat} {c:CallD} (h:CallAt w g c) {i j:Nat} {s:SD} {v:Value} (hs:c.regs[i]?=some s) (hv:s.cells[j]?=some v):w.cell? ⟨g,14+(i*8+j),none⟩=some v:=by
 rw[blk_cell h];exact c.get_reg hs hv
theorem CallAt.later {w w':World} {g:Nat} {c:CallD} (h:CallAt w g c) (hb:Below w.heap.size w w'):CallAt w' g c:=blk_later hb h
theorem CallAt.but {S:List Nat} {w w':World} {g:Nat} {c:CallD} (h:CallAt w g c) (hb:ButL S w w') (hS:g∉S):CallAt w' g c:=hb.blk h hS
def instT:List Value:=[.nilFunc,.func (.func 78) #[] #[],.func (.func 79) #[] #[],.func (.func 80) #[] #[],.func (.func 81) #[] #[],.func (.func 81) #[] #[],.func (.func 82) #[] #[],.func (.func 81) #[] #[],.func (.func 83) #[] #[],.func (.func 81) #[] #[],.func (.func 84) #[] #[],.func (.func 85) #[] #[],.func (.func 86) #[] #[],.func (.func 87) #[] #[],.func (.func 88) #[] #[],.func (.func 89) #[] #[],.func (.func 90) #[] #[],.func (.func 91) #[] #[],.func (.func 92) #[] #[],.func (.func 93) #[] #[],.func (.func 93) #[] #[],.func (.func 93) #[] #[],.func (.func 94) #[] #[],.func (.func 95) #[] #[],.func (.func 95) #[] #[],.func (.func 81) #[] #[],.func (.func 81) #[] #[],.func (.func 96) #[] #[],.func (.func 97) #[] #[],.func (.func 98) #[] #[],.func (.func 99) #[] #[],.func (.func 100) #[] #[],.func (.func 101) #[] #[],.func (.func 102) #[] #[],.func (.func 103) #[] #[],.func (.func 104) #[] #[],.func (.func 105) #[] #[],.func (.func 106) #[] #[],.func (.func 93) #[] #[],.func (.func 107) #[] #[],.func (.func 108) #[] #[],.func (.func 109) #[] #[],.func (.func 110) #[] #[]]
def buiT:List Value:=[.func (.func 111) #[] #[],.func (.func 112) #[] #[],.func (.func 113) #[] #[],.func (.func 114) #[] #[],.func (.func 115) #[] #[],.func (.func 116) #[] #[],.func (.func 117) #[] #[],.func (.func 118) #[] #[],.func (.func 119) #[] #[],.func (.func 120) #[] #[],.func (.func 121) #[] #[],.func (.func 122) #[] #[],.func (.func 123) #[] #[],.func (.func 124) #[] #[],.func (.func 125) #[] #[]]
structure MachD where
 protos:Value
 ticks:Int
 depth:Int
 cells:Int
 watch:Value
 code:Int
 recs:Value
 vals:Value
 err:ByteArray
 trace:ByteArray
 rticks:Int
 made:Int
 tables:Value
 tasks:Value
 running:Value
 living:Int
 since:Int
def MachD.arr (m:MachD):Array Value:=([m.protos,.slice none 0 0,.slice none 0 0,.int .i64 m.ticks,.int .i64 m.depth,.int .i64 m.cells,m.watch,.int .i64 m.code,m.recs,m.vals,.string m.err,.string m.trace,.int .i64 m.rticks,.int .i64 m.made]++instT++buiT++[m.tables,.slice none 0 0,m.tasks,m.running,.slice none 0 0,.int .i64 0,.int .i64 0,.int .i64 m.living,.int .i64 m.since,.int .u64 0,.int .u32 0]).toArray
theorem MachD.size (m:MachD):m.arr.size=83:=rfl
theorem MachD.set_tasks (m:MachD) (z:Value):m.arr.setIfInBounds 74 z={ m with tasks:=z }.arr:=rfl
theorem MachD.set_running (m:MachD) (z:Value):m.arr.setIfInBounds 75 z={ m with running:=z }.arr:=rfl
theorem MachD.set_code (m:MachD) (z:Int):m.arr.setIfInBounds 7 (.int .i64 z)={ m with code:=z }.arr:=rfl
theorem MachD.set_ticks (m:MachD) (z:Int):m.arr.setIfInBounds 12 (.int .i64 z)={ m with rticks:=z }.arr:=rfl
theorem MachD.set_recs (m:MachD) (z:Value):m.arr.setIfInBounds 8 z={ m with recs:=z }.arr:=rfl
def MachAt (w:World) (g:Nat) (m:MachD):Prop:=w.heap[g]?=some (.cells m.arr 109)
theorem MachAt.cell {w:World} {g:Nat} {m:MachD} (h:MachAt w g m) (i:Nat):w.cell? ⟨g,i,none⟩=m.arr[i]?:=blk_cell h i
theorem MachAt.later {w w':World} {g:Nat} {m:MachD} (h:MachAt w g m) (hb:Below w.heap.size w w'):MachAt w' g m:=blk_later hb h
theorem MachAt.but {S:List Nat} {w w':World} {g:Nat} {m:MachD} (h:MachAt w g m) (hb:ButL S w w') (hS:g∉S):MachAt w' g m:=hb.blk h hS
end Go.Proofs.YtjglgbepobmjhaaGreatDoor.M
namespace Go.Proofs.YtjglgbepobmjhaaGreatDoor.M
open Go.RowKit
attribute [local go_sem] run_store_float
theorem CallAt.set8 {w:World} {g i:Nat} {c:CallD} (h:CallAt w g c) (hi:i<c.regs.length) (s:SD):CallAt ((((((((w.setCell ⟨g,14+i*8,none⟩ (.int .i64 s.h)).setCell ⟨g,14+i*8+1,none⟩ (.int .i64 s.v.k)).setCell ⟨g,14+i*8+2,none⟩ (.int .i64 s.v.n)).setCell ⟨g,14+i*8+3,none⟩ (.float .f64 s.v.f)).setCell ⟨g,14+i*8+4,none⟩ (.string s.v.s)).setCell ⟨g,14+i*8+5,none⟩ (.int .i64 s.v.r)).setCell ⟨g,14+i*8+6,none⟩ s.b).setCell ⟨g,14+i*8+7,none⟩ s.l) g { c with regs:=c.regs.set i s }:=by
 have h8:=blk_set (blk_set (blk_set (blk_set (blk_set (blk_set (blk_set (blk_set h (14+i*8) (.int .i64 s.h)) (14+i*8+1) (.int .i64 s.v.k)) (14+i*8+2) (.int .i64 s.v.n)) (14+i*8+3) (.float .f64 s.v.f)) (14+i*8+4) (.string s.v.s)) (14+i*8+5) (.int .i64 s.v.r)) (14+i*8+6) s.b) (14+i*8+7) s.l
 have e:=CallD.set_reg c s hi
 unfold CallAt
 rw[←e]
 exact h8
theorem but8 {S:List Nat} {w0 w:World} {g i:Nat} (h:ButL S w0 w) (hg:g∈S∨w0.heap.size≤g) (s:SD):ButL S w0 ((((((((w.setCell ⟨g,14+i*8,none⟩ (.int .i64 s.h)).setCell ⟨g,14+i*8+1,none⟩ (.int .i64 s.v.k)).setCell ⟨g,14+i*8+2,none⟩ (.int .i64 s.v.n)).setCell ⟨g,14+i*8+3,none⟩ (.float .f64 s.v.f)).setCell ⟨g,14+i*8+4,none⟩ (.string s.v.s)).setCell ⟨g,14+i*8+5,none⟩ (.int .i64 s.v.r)).setCell ⟨g,14+i*8+6,none⟩ s.b).setCell ⟨g,14+i*8+7,none⟩ s.l) :=
 (((((((h.seto hg _ _).seto hg _ _).seto hg _ _).seto hg _ _).seto hg _ _).seto hg _ _).seto hg _ _).seto hg _ _
theorem CallAt.drewN {w:World} {g:Nat} {c:CallD} (h:CallAt w g c) (n:Nat):CallAt (w.drewN n) g c:=h
theorem CallAt.drew {w:World} {g:Nat} {c:CallD} (h:CallAt w g c):CallAt w.drew g c:=h
theorem put_any (g i:Nat) (v:VD) (c:CallD) (w:World) (h:CallAt w g c) (hr:c.regs.length=250) (hi:i<250) :
  Calls Tryz.prog 126 #[.pointer (some ⟨g,0,none⟩),.int .i64 (i:Int),.agg #[.int .i64 v.k,.int .i64 v.n,.float .f64 v.f,.string v.s,.int .i64 v.r]] w fun e w'=>e=.returned (.tuple #[])∧CallAt w' g { c with regs:=c.regs.set i (sdV v) }∧ButL [g] w w':=by
 obtain⟨s,hs⟩:∃s,c.regs[i]?=some s:=⟨c.regs[i]'(by omega),by simp⟩
 have hlt:=blk_lt h
 obtain⟨W,hW⟩:∃W,w.alloc (.cells #[.int .i64 v.k,.int .i64 v.n,.float .f64 v.f,.string v.s,.int .i64 v.r] 70)=W:=⟨_,rfl⟩
 have hb:=bw1 w (.cells #[.int .i64 v.k,.int .i64 v.n,.float .f64 v.f,.string v.s,.int .i64 v.r] 70)
 have bn:=blk_new w (.cells #[.int .i64 v.k,.int .i64 v.n,.float .f64 v.f,.string v.s,.int .i64 v.r] 70)
 rw[hW]at hb bn
 have h':CallAt W g c:=h.later hb
 have c0:W.cell? ⟨g,14+i*8,none⟩=some (.int .i64 s.h):=by have:=h'.reg hs (j:=0) rfl;simpa using this
 have c1:W.cell? ⟨g,14+i*8+1,none⟩=some (.int .i64 s.v.k):=by have:=h'.reg hs (j:=1) rfl;rwa [←Nat.add_assoc]at this
 have c2:W.cell? ⟨g,14+i*8+2,none⟩=some (.int .i64 s.v.n):=by have:=h'.reg hs (j:=2) rfl;rwa [←Nat.add_assoc]at this
 have c3:W.cell? ⟨g,14+i*8+3,none⟩=some (.float .f64 s.v.f):=by have:=h'.reg hs (j:=3) rfl;rwa [←Nat.add_assoc]at this
 have c4:W.cell? ⟨g,14+i*8+4,none⟩=some (.string s.v.s):=by have:=h'.reg hs (j:=4) rfl;rwa [←Nat.add_assoc]at this
 have c5:W.cell? ⟨g,14+i*8+5,none⟩=some (.int .i64 s.v.r):=by have:=h'.reg hs (j:=5) rfl;rwa [←Nat.add_assoc]at this
 have c6:W.cell? ⟨g,14+i*8+6,none⟩=some s.b:=by have:=h'.reg hs (j:=6) rfl;rwa [←Nat.add_assoc]at this
 have c7:W.cell? ⟨g,14+i*8+7,none⟩=some s.l:=by have:=h'.reg hs (j:=7) rfl;rwa [←Nat.add_assoc]at this
 have z:=blk_frozen h'
 have d0:W.cell? ⟨w.heap.size,0,none⟩=some (.int .i64 v.k):=by rw[blk_cell bn];rfl
 have d1:W.cell? ⟨w.heap.size,1,none⟩=some (.int .i64 v.n):=by rw[blk_cell bn];rfl
 have d2:W.cell? ⟨w.heap.size,2,none⟩=some (.float .f64 v.f):=by rw[blk_cell bn];rfl
 have d3:W.cell? ⟨w.heap.size,3,none⟩=some (.string v.s):=by rw[blk_cell bn];rfl
 have d4:W.cell? ⟨w.heap.size,4,none⟩=some (.int .i64 v.r):=by rw[blk_cell bn];rfl
 have HC:Hid (CallAt W g c):=h'
 have HB:Hid (ButL [g] w W):=ButL.of_below hb
 clear h h' hb bn
 go_enter Tryz.func126,Tryz.ntmps126
 go_wp2_with fail
 clear hW
 go_region
 go_wp2_with fail
 exact bodyPost_end (v:=.tuple #[]) (by simp[results,Tryz.results126,go_sem]) rfl ⟨rfl,(HC.out.set8 (by omega) (sdV v)).drew,(but8 HB.out (.inl (by simp)) (sdV v)).drew⟩
theorem takeOff_any (g n cap:Nat) (a:Option Addr) (c:CallD) (w:World) (h:CallAt w g c) (hg:c.guards=.slice a (n+1) cap) (hcap:n+1≤cap) (hn:n≤1000) :
  Calls Tryz.prog 177 #[.pointer (some ⟨g,0,none⟩)] w fun e w'=>e=.returned (.tuple #[])∧CallAt w' g { c with guards:=.slice a n cap }∧ButL [g] w w':=by
 have c12:w.cell? ⟨g,12,none⟩=some (.slice a (n+1) cap):=by rw[h.cell 12 (by omega),←hg];rfl
 have z:=blk_frozen h
 have HC:Hid (CallAt w g c):=h
 clear h
 go_enter Tryz.func177,Tryz.ntmps177
 go_wp2_with fail
 go_region
 go_wp2_with fail
 refine bodyPost_end (v:=.tuple #[]) (by simp[results,Tryz.results177,go_sem]) rfl ⟨rfl,?_,((ButL.refl _ _).set (by simp) _ _).drew⟩
 have:=blk_set HC.out 12 (.slice a n cap)
 rw[CallD.set_guards]at this
 exact this
end Go.Proofs.YtjglgbepobmjhaaGreatDoor.M
namespace Go.Proofs.YtjglgbepobmjhaaGreatDoor.M
open Go.RowKit
attribute [local go_sem] run_store_float
def insV (n:ID):Value:=.agg #[.int .i64 n.op,.int .i64 n.a,.int .i64 n.b,.int .i64 n.c,.int .i64 n.d]
abbrev InO (n:ID):Obj:=.cells #[.int .i64 n.op,.int .i64 n.a,.int .i64 n.b,.int .i64 n.c,.int .i64 n.d] 47
theorem doJump_any (pm:Value) (g:Nat) (n:ID) (c:CallD) (w:World) (h:CallAt w g c) (hop:n.op=19) :
  Calls Tryz.prog 93 #[pm,.pointer (some ⟨g,0,none⟩),insV n] w fun e w'=>e=.returned .nilIface∧CallAt w' g { c with next:=n.a }∧ButL [g] w w':=by
 obtain⟨op,a,b,cc,d⟩:=n
 dsimp only[insV]at hop ⊢
 subst hop
 obtain⟨W,hW⟩:∃W,w.alloc (InO ⟨19,a,b,cc,d⟩)=W:=⟨_,rfl⟩
 have hb:=bw1 w (InO ⟨19,a,b,cc,d⟩)
 have bn:=blk_new w (InO ⟨19,a,b,cc,d⟩)
 rw[hW]at hb bn
 have h':CallAt W g c:=h.later hb
 have c10:W.cell? ⟨g,10,none⟩=some (.int .i64 c.next):=by rw[h'.cell 10 (by omega)];rfl
 have z:=blk_frozen h'
 have d0:W.cell? ⟨w.heap.size,0,none⟩=some (.int .i64 19):=by rw[blk_cell bn];rfl
 have d1:W.cell? ⟨w.heap.size,1,none⟩=some (.int .i64 a):=by rw[blk_cell bn];rfl
 have HC:Hid (CallAt W g c):=h'
 have HB:Hid (ButL [g] w W):=ButL.of_below hb
 clear h h' hb bn
 go_enter Tryz.func93,Tryz.ntmps93
 go_wp2_with fail
 go_ret
 refine⟨rfl,?_,HB.out.set (by simp) _ _⟩
 have:=blk_set HC.out 10 (.int .i64 a)
 rw[CallD.set_next]at this
 exact this
theorem doDrop_any (pm:Value) (g i:Nat) (n:ID) (c:CallD) (w:World) (h:CallAt w g c) (hr:c.regs.length=250) (hi:i<250) (ha:n.a=i) :
  Calls Tryz.prog 110 #[pm,.pointer (some ⟨g,0,none⟩),insV n] w fun e w'=>e=.returned .nilIface∧CallAt w' g { c with regs:=c.regs.set i sd0 }∧ButL [g] w w':=by
 obtain⟨op,a,b,cc,d⟩:=n
 dsimp only[insV]at ha ⊢
 subst ha
 obtain⟨W,hW⟩:∃W,w.alloc (InO ⟨op,i,b,cc,d⟩)=W:=⟨_,rfl⟩
 have hb:=bw1 w (InO ⟨op,i,b,cc,d⟩)
 have bn:=blk_new w (InO ⟨op,i,b,cc,d⟩)
 rw[hW]at hb bn
 have h':CallAt W g c:=h.later hb
 obtain⟨s,hs⟩:∃s,c.regs[i]?=some s:=⟨c.regs[i]'(by omega),by simp⟩
 have c0:W.cell? ⟨g,14+i*8,none⟩=some (.int .i64 s.h):=by have:=h'.reg hs (j:=0) rfl;simpa using this
 have c1:W.cell? ⟨g,14+i*8+1,none⟩=some (.int .i64 s.v.k):=by have:=h'.reg hs (j:=1) rfl;rwa [←Nat.add_assoc]at this
 have c2:W.cell? ⟨g,14+i*8+2,none⟩=some (.int .i64 s.v.n):=by have:=h'.reg hs (j:=2) rfl;rwa [←Nat.add_assoc]at this
 have c3:W.cell? ⟨g,14+i*8+3,none⟩=some (.float .f64 s.v.f):=by have:=h'.reg hs (j:=3) rfl;rwa [←Nat.add_assoc]at this
 have c4:W.cell? ⟨g,14+i*8+4,none⟩=some (.string s.v.s):=by have:=h'.reg hs (j:=4) rfl;rwa [←Nat.add_assoc]at this
 have c5:W.cell? ⟨g,14+i*8+5,none⟩=some (.int .i64 s.v.r):=by have:=h'.reg hs (j:=5) rfl;rwa [←Nat.add_assoc]at this
 have c6:W.cell? ⟨g,14+i*8+6,none⟩=some s.b:=by have:=h'.reg hs (j:=6) rfl;rwa [←Nat.add_assoc]at this
 have c7:W.cell? ⟨g,14+i*8+7,none⟩=some s.l:=by have:=h'.reg hs (j:=7) rfl;rwa [←Nat.add_assoc]at this
 have z:=blk_frozen h'
 have d1:W.cell? ⟨w.heap.size,1,none⟩=some (.int .i64 (i:Int)):=by rw[blk_cell bn];rfl
 have HC:Hid (CallAt W g c):=h'
 have HB:Hid (ButL [g] w W):=ButL.of_below hb
 clear h h' hb bn
 go_enter Tryz.func110,Tryz.ntmps110
 go_wp2_with fail
 clear hW
 go_region
 go_wp2_with fail
 go_ret
 exact⟨rfl,(HC.out.set8 (by omega) sd0).drew,(but8 HB.out (.inl (by simp)) sd0).drew⟩
end Go.Proofs.YtjglgbepobmjhaaGreatDoor.M
namespace Go.Proofs.YtjglgbepobmjhaaGreatDoor.M
open Go.RowKit
attribute [local go_sem] run_store_float
def pC (g:Nat):List Value:=[.pointer (some ⟨g,0,none⟩)]
theorem pC_len (g:Nat):(pC g).length=1:=rfl
abbrev ShO:Obj:=.cells #[.int .i64 0,.pointer none,.int .i64 0,.int .i64 0,.float .f64 0,.string ⟨#[]⟩,.int .i64 0] 300
theorem blk5 {W:World} {g q:Nat} {o:Obj} (h:W.heap[g]?=some o) (hne:q≠g) (v0 v1 v2 v3 v4:Value):(((((W.setCell ⟨q,0,none⟩ v0).setCell ⟨q,1,none⟩ v1).setCell ⟨q,2,none⟩ v2).setCell ⟨q,3,none⟩ v3).setCell ⟨q,4,none⟩ v4).heap[g]?=some o :=
 blk_other (blk_other (blk_other (blk_other (blk_other h hne _ _) hne _ _) hne _ _) hne _ _) hne _ _
theorem but5 {S:List Nat} {w0 W:World} {q:Nat} (h:ButL S w0 W) (hq:w0.heap.size≤q) (v0 v1 v2 v3 v4:Value):ButL S w0 (((((W.setCell ⟨q,0,none⟩ v0).setCell ⟨q,1,none⟩ v1).setCell ⟨q,2,none⟩ v2).setCell ⟨q,3,none⟩ v3).setCell ⟨q,4,none⟩ v4) :=
 ((((h.setn hq _ _).setn hq _ _).setn hq _ _).setn hq _ _).setn hq _ _
def tabV (n:Nat):VD:=⟨5,0,0,⟨#[]⟩,n⟩
theorem run_fldV (c k n:Int) (f:Nat) (s:ByteArray) (r:Int) (w:World):(Instr.field 260 (.agg #[.int .i64 c,.int .i64 k,.int .i64 n,.float .f64 f,.string s,.int .i64 r]) 1).run Tryz.prog w=.ok (.agg #[.int .i64 k,.int .i64 n,.float .f64 f,.string s,.int .i64 r]) w:=by kernel_rfl
end Go.Proofs.YtjglgbepobmjhaaGreatDoor.M
namespace Go.Proofs.YtjglgbepobmjhaaGreatDoor.T
open Go.RowKit M
attribute [local go_sem] run_store_float
theorem small7 (w:World):Calls Tryz.prog 339 #[.int .i64 7] w fun e w'=>e=.returned (.string ⟨#[55]⟩)∧w'=w:=by
 go_enter Tryz.func339,Tryz.ntmps339
 go_wp2_with fail
 go_ret
 exact⟨rfl,rfl⟩
theorem small0 (w:World):Calls Tryz.prog 339 #[.int .i64 0] w fun e w'=>e=.returned (.string ⟨#[48]⟩)∧w'=w:=by
 go_enter Tryz.func339,Tryz.ntmps339
 go_wp2_with fail
 go_ret
 exact⟨rfl,rfl⟩
theorem format7 (w:World):Calls Tryz.prog 331 #[.int .i64 7,.int .i64 10] w fun e w'=>e=.returned (.string ⟨#[55]⟩)∧w'=w:=by
 go_enter Tryz.func331,Tryz.ntmps331
 go_wp2_with fail
 refine (small7 _).mono ?_
 rintro e w1 ⟨rfl,rfl⟩
 go_wp2_with fail
 go_ret
 exact⟨rfl,rfl⟩
theorem format0 (w:World):Calls Tryz.prog 331 #[.int .i64 0,.int .i64 10] w fun e w'=>e=.returned (.string ⟨#[48]⟩)∧w'=w:=by
 go_enter Tryz.func331,Tryz.ntmps331
 go_wp2_with fail
 refine (small0 _).mono ?_
 rintro e w1 ⟨rfl,rfl⟩
 go_wp2_with fail
 go_ret
 exact⟨rfl,rfl⟩
theorem iitoa0 (w:World):Calls Tryz.prog 314 #[.int .i64 0] w fun e w'=>e=.returned (.string ⟨#[48]⟩)∧w'=w:=by
 go_enter Tryz.func314,Tryz.ntmps314
 go_wp2_with fail
 refine (format0 _).mono ?_
 rintro e w1 ⟨rfl,rfl⟩
 go_wp2_with fail
 go_ret
 exact⟨rfl,rfl⟩
theorem itoa0 (w:World):Calls Tryz.prog 276 #[.int .i64 0] w fun e w'=>e=.returned (.string ⟨#[48]⟩)∧w'=w:=by
 go_enter Tryz.func276,Tryz.ntmps276
 go_wp2_with fail
 refine (iitoa0 _).mono ?_
 rintro e w1 ⟨rfl,rfl⟩
 go_wp2_with fail
 go_ret
 exact⟨rfl,rfl⟩
theorem sformat7 (w:World):Calls Tryz.prog 405 #[.int .i64 7,.int .i64 10] w fun e w'=>e=.returned (.string ⟨#[55]⟩)∧w'=w:=by
 go_enter Tryz.func405,Tryz.ntmps405
 go_wp2_with fail
 refine (format7 _).mono ?_
 rintro e w1 ⟨rfl,rfl⟩
 go_wp2_with fail
 go_ret
 exact⟨rfl,rfl⟩
theorem text7 (w:World):Calls Tryz.prog 403 #[.int .i64 7] w fun e w'=>e=.returned (.string ⟨#[55]⟩)∧w'=w:=by
 go_enter Tryz.func403,Tryz.ntmps403
 go_wp2_with fail
 refine (sformat7 _).mono ?_
 rintro e w1 ⟨rfl,rfl⟩
 go_wp2_with fail
 go_ret
 exact⟨rfl,rfl⟩
theorem m_int_text (d:Nat) (v:Value) (w:World):(method (d+1) 326 v "loop.example/punch/impl.text").run Tryz.prog w=.ok (403,v) w:=by kernel_rfl
theorem tm7:tmV 2 7 0 ⟨#[]⟩ 0=.iface 326 (.int .i64 7):=by
 have h:vok 2 7 0 ⟨#[]⟩ 0=true:=by simp[vok,zr,fz];first | done | rfl | decide
 unfold tmV
 rw[if_neg (by simp[h])]
 simp
attribute [local go_sem] m_int_text
theorem Text7 (w:World):Calls Tryz.prog 51 #[.agg #[.int .i64 2,.int .i64 7,.float .f64 0,.string ⟨#[]⟩,.int .i64 0]] w fun e w'=>e=.returned (.string ⟨#[55]⟩)∧Below w.heap.size w w':=by
 go_enter Tryz.func51,Tryz.ntmps51
 go_wp2_with fail
 refine (term_any 2 7 0 ⟨#[]⟩ 0 _).mono ?_
 rintro e w1 ⟨rfl,hx⟩
 rw[tm7]
 go_wp2_with (go_at_call 403;refine (text7 _).mono ?_;rintro e w2 ⟨rfl,rfl⟩)
 go_ret
 exact⟨rfl,(bw1 _ _).trans (hx.mono (by simp))⟩
theorem entry7 (pm:Value) (name:ByteArray) (w:World):Calls Tryz.prog 132 #[pm,.agg #[.int .i64 2,.int .i64 7,.float .f64 0,.string ⟨#[]⟩,.int .i64 0],.string name] w fun e w'=>e=.returned (.agg #[.int .i64 0,.int .i64 0,.float .f64 0,.string ⟨#[]⟩,.int .i64 0])∧Below w.heap.size w w':=by
 go_enter Tryz.func132,Tryz.ntmps132
 go_wp2_with fail
 exact bodyPost_ret (v:=.agg #[.int .i64 0,.int .i64 0,.float .f64 0,.string ⟨#[]⟩,.int .i64 0]) (by simp[results,Tryz.results132,go_sem]) rfl ⟨rfl,bw2 _ _ _⟩
theorem told7 (pm:Value) (w:World):Calls Tryz.prog 52 #[pm,.agg #[.int .i64 2,.int .i64 7,.float .f64 0,.string ⟨#[]⟩,.int .i64 0]] w fun e w'=>e=.returned (.string ⟨#[55]⟩)∧Below w.heap.size w w':=by
 obtain⟨W,hW⟩:∃W,w.alloc (.cells #[.int .i64 2,.int .i64 7,.float .f64 0,.string ⟨#[]⟩,.int .i64 0] 70)=W:=⟨_,rfl⟩
 have hb:Below w.heap.size w W:=by rw[←hW];exact bw1 _ _
 have bn:W.heap[w.heap.size]?=some (.cells #[.int .i64 2,.int .i64 7,.float .f64 0,.string ⟨#[]⟩,.int .i64 0] 70):=by rw[←hW];exact blk_new _ _
 have d0:W.cell? ⟨w.heap.size,0,none⟩=some (.int .i64 2):=by rw[blk_cell bn];rfl
 have d1:W.cell? ⟨w.heap.size,1,none⟩=some (.int .i64 7):=by rw[blk_cell bn];rfl
 have d2:W.cell? ⟨w.heap.size,2,none⟩=some (.float .f64 0):=by rw[blk_cell bn];rfl
 have d3:W.cell? ⟨w.heap.size,3,none⟩=some (.string ⟨#[]⟩):=by rw[blk_cell bn];rfl
 have d4:W.cell? ⟨w.heap.size,4,none⟩=some (.int .i64 0):=by rw[blk_cell bn];rfl
 have HB:Hid (Below w.heap.size w W):=hb
 have HN:Hid (W.heap[w.heap.size]?=some (.cells #[.int .i64 2,.int .i64 7,.float .f64 0,.string ⟨#[]⟩,.int .i64 0] 70)):=bn
 clear hb bn
 go_enter Tryz.func52,Tryz.ntmps52
 go_wp2_with fail
 refine (entry7 _ _ _).mono ?_
 rintro e w1 ⟨rfl,hx⟩
 have hb2:Below W.heap.size W (w1.alloc (.cells #[.int .i64 0,.int .i64 0,.float .f64 0,.string ⟨#[]⟩,.int .i64 0] 70)):=hx.trans ((bw1 _ _).mono hx.size)
 have bn2:=blk_later hb2 HN.out
 have f0:(w1.alloc (.cells #[.int .i64 0,.int .i64 0,.float .f64 0,.string ⟨#[]⟩,.int .i64 0] 70)).cell? ⟨w.heap.size,0,none⟩=some (.int .i64 2):=by rw[blk_cell bn2];rfl
 have f1:(w1.alloc (.cells #[.int .i64 0,.int .i64 0,.float .f64 0,.string ⟨#[]⟩,.int .i64 0] 70)).cell? ⟨w.heap.size,1,none⟩=some (.int .i64 7):=by rw[blk_cell bn2];rfl
 have f2:(w1.alloc (.cells #[.int .i64 0,.int .i64 0,.float .f64 0,.string ⟨#[]⟩,.int .i64 0] 70)).cell? ⟨w.heap.size,2,none⟩=some (.float .f64 0):=by rw[blk_cell bn2];rfl
 have f3:(w1.alloc (.cells #[.int .i64 0,.int .i64 0,.float .f64 0,.string ⟨#[]⟩,.int .i64 0] 70)).cell? ⟨w.heap.size,3,none⟩=some (.string ⟨#[]⟩):=by rw[blk_cell bn2];rfl
 have f4:(w1.alloc (.cells #[.int .i64 0,.int .i64 0,.float .f64 0,.string ⟨#[]⟩,.int .i64 0] 70)).cell? ⟨w.heap.size,4,none⟩=some (.int .i64 0):=by rw[blk_cell bn2];rfl
 have HX:Hid (Below w.heap.size w (w1.alloc (.cells #[.int .i64 0,.int .i64 0,.float .f64 0,.string ⟨#[]⟩,.int .i64 0] 70))):=HB.out.trans (hb2.mono HB.out.size)
 clear hx hb2 bn2 d0 d1 d2 d3 d4 hW
 go_wp2_with fail
 refine (Text7 _).mono ?_
 rintro e w2 ⟨rfl,hx2⟩
 have HX2:Hid (Below w.heap.size w w2):=HX.out.trans (hx2.mono HX.out.size)
 clear hx2
 go_wp2_with fail
 go_ret
 exact⟨rfl,HX2.out⟩
end Go.Proofs.YtjglgbepobmjhaaGreatDoor.T
