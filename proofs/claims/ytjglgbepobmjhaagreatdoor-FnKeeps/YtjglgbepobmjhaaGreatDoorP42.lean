import Derived.Test.YtjglgbepobmjhaaGreatDoorP38
import Derived.Test.YtjglgbepobmjhaaGreatDoorP11
import Derived.Test.YtjglgbepobmjhaaGreatDoorP13
import Derived.Test.YtjglgbepobmjhaaGreatDoorP39
set_option linter.unusedVariables false
set_option linter.unusedSimpArgs false
set_option maxRecDepth 20000
set_option maxHeartbeats 8000000
namespace Go.Proofs.YtjglgbepobmjhaaGreatDoor.M
open Go.RowKit
attribute [local go_sem] run_store_float
def vC (v:Value):List Value:=[v]
theorem vC_len (v:Value):(vC v).length=1:=rfl
abbrev CaO (n:ID) (l:Int):Obj:=.cells #[.int .i64 n.b,.int .i64 n.a,.int .i64 l] 273
def caV (gn:Nat):Value:=.iface 269 (.pointer (some ⟨gn,0,none⟩))
theorem ORow.drew {α:Type} {w:World} {B:Nat} {et:TypeId} {k:Nat} {cells:α→List Value} {sv:Value} {xs:List α} (h:ORow w B et k cells sv xs):ORow w.drew B et k cells sv xs:=h
theorem doTry_any (pm:Value) (B g:Nat) (n:ID) (c:CallD) (vs:List Value) (w:World) (h:CallAt w g c) (ho:ORow w B 319 1 vC c.guards vs) (hl:vs.length≤1000) (hB:B≤w.heap.size) :
  Calls Tryz.prog 100 #[pm,.pointer (some ⟨g,0,none⟩),insV n] w fun e w'=>e=.returned .nilIface∧∃gv gn,CallAt w' g { c with guards:=gv }∧ORow w' B 319 1 vC gv (vs++[caV gn])∧w.heap.size≤gn∧w'.heap[gn]?=some (CaO n c.line)∧ButL (g :: c.guards.ownBlock.toList) w w':=by
 obtain⟨op,a,b,cc,d⟩:=n
 dsimp only[insV]
 obtain⟨ag,cg,hgv⟩:=ho.val
 obtain⟨W,hW⟩:∃W,w.alloc (InO ⟨op,a,b,cc,d⟩)=W:=⟨_,rfl⟩
 have hb:=bw1 w (InO ⟨op,a,b,cc,d⟩)
 have bn:=blk_new w (InO ⟨op,a,b,cc,d⟩)
 have hsz:W.heap.size=w.heap.size+1:=by rw[←hW];simp
 rw[hW]at hb bn
 have h':CallAt W g c:=h.later hb
 have hgl:=blk_lt h
 have c12:W.cell? ⟨g,12,none⟩=some (.slice ag vs.length cg):=by rw[h'.cell 12 (by omega),←hgv];rfl
 have c11:W.cell? ⟨g,11,none⟩=some (.int .i64 c.line):=by rw[h'.cell 11 (by omega)];rfl
 have d1:W.cell? ⟨w.heap.size,1,none⟩=some (.int .i64 a):=by rw[blk_cell bn];rfl
 have d2:W.cell? ⟨w.heap.size,2,none⟩=some (.int .i64 b):=by rw[blk_cell bn];rfl
 have hb2:=bw2 W (CaO ⟨op,a,b,cc,d⟩ c.line) (.cells #[caV (w.heap.size+1)] 319)
 have ho2:=ORow.drew ((ho.later hb).later hb2)
 rw[hgv]at ho2
 obtain⟨g',cap',w2,hr,ho3,hg3⟩:=ho2.app 204 16 Tryz.underlying204 (by kernel_rfl) (by omega) (by omega) (caV (w.heap.size+1)) (w.heap.size+1+1) 204 (show ((W.alloc (CaO ⟨op,a,b,cc,d⟩ c.line)).alloc (.cells #[caV (w.heap.size+1)] 319)).heap[w.heap.size+1+1]?=_ from blk_newn (by simp;omega) _) rfl (by intro u hu;simp[vC]at hu;subst hu;rfl) (by omega) (by simp;omega)
 have hne:(Value.slice ag vs.length cg).ownBlock≠some g:=by
  intro e
  rw[hgv]at ho
  rcases ho.2 with ⟨e1,_⟩ | ⟨g0,c0,cur,e1,_,e3,_⟩
  ·rw[e1]at e;cases e
  ·rw[e1]at e;have e':g0=g:=Option.some.inj e;subst e';rw[show w.heap[g0]?=_ from h]at e3;cases e3
 have hx:∀(q:Nat) o,((W.alloc (CaO ⟨op,a,b,cc,d⟩ c.line)).alloc (.cells #[caV (w.heap.size+1)] 319)).heap[q]?=some o→(Value.slice ag vs.length cg).ownBlock≠some q→w2.heap[q]?=some o:=fun q o hq hn=>(hg3.block q (blk_lt hq) (fun e=>hn e.symm)).trans hq
 have h2:CallAt w2 g c:=hx g _ (blk_old (blk_old h' _) _) hne
 have p12:w2.cell? ⟨g,12,none⟩=some (.slice ag vs.length cg):=by rw[h2.cell 12 (by omega),←hgv];rfl
 have z2:=blk_frozen h2
 have hn2:w2.heap[w.heap.size+1]?=some (CaO ⟨op,a,b,cc,d⟩ c.line):=hx _ _ (blk_old (blk_newn (by omega) _) _) (fun e=>by
  rw[hgv]at ho
  rcases ho.2 with ⟨e1,_⟩ | ⟨g0,c0,cur,e1,_,e3,_⟩
  ·rw[e1]at e;cases e
  ·rw[e1]at e;have e':g0=w.heap.size+1:=Option.some.inj e;have:=blk_lt e3;omega)
 have HE:Hid (CallAt (w2.setCell ⟨g,12,none⟩ (.slice (some ⟨g',0,none⟩) (vs.length+1) cap')) g { c with guards:=.slice (some ⟨g',0,none⟩) (vs.length+1) cap' }∧ORow (w2.setCell ⟨g,12,none⟩ (.slice (some ⟨g',0,none⟩) (vs.length+1) cap')) B 319 1 vC (.slice (some ⟨g',0,none⟩) (vs.length+1) cap') (vs++[caV (w.heap.size+1)])∧w.heap.size≤w.heap.size+1∧(w2.setCell ⟨g,12,none⟩ (.slice (some ⟨g',0,none⟩) (vs.length+1) cap')).heap[w.heap.size+1]?=some (CaO ⟨op,a,b,cc,d⟩ c.line)∧ButL (g :: c.guards.ownBlock.toList) w (w2.setCell ⟨g,12,none⟩ (.slice (some ⟨g',0,none⟩) (vs.length+1) cap'))):=by
  refine⟨?_,ORow.set_own ho3 (fun e=>?_) _ _,by omega,blk_other hn2 (by omega) _ _,?_⟩
  ·have:=blk_set h2 12 (.slice (some ⟨g',0,none⟩) (vs.length+1) cap')
   rw[CallD.set_guards]at this
   exact this
  ·have e':g'=g:=Option.some.inj e
   subst e'
   rcases ho3.2 with ⟨e1,_⟩ | ⟨g0,c0,cur,e1,_,e3,_⟩
   ·cases e1
   ·injection e1 with e1 _ _;injection e1 with e1;injection e1 with e1;subst e1;rw[show w2.heap[g']?=_ from h2]at e3;cases e3
  ·refine ButL.set ?_ (by simp) _ _
   rw[hgv]
   refine ButL.grown (((ButL.of_below hb).thenB hb2).drew) hg3 (fun q e=>.inl (by rw[e];simp))
 have c12a:(W.alloc (CaO ⟨op,a,b,cc,d⟩ c.line)).cell? ⟨g,12,none⟩=some (.slice ag vs.length cg):=cell_later (bw1 _ _) c12
 have c12b:((W.alloc (CaO ⟨op,a,b,cc,d⟩ c.line)).alloc (.cells #[.iface 269 (.pointer (some ⟨w.heap.size+1,0,none⟩))] 319)).cell? ⟨g,12,none⟩=some (.slice ag vs.length cg):=cell_later (bw1 _ _) c12a
 have HR:Hid _:=hr
 clear hr ho3 hg3 hx h2 hn2 ho2 hb2 ho h' h bn hb
 go_enter Tryz.func100,Tryz.ntmps100
 go_wp2_with fail
 clear hW
 go_region_law (refine step_append_run rfl _ _ _ rfl _ _ _ _ rfl rfl HR.out ?_)
 all_goals
  go_wp2_with fail
  go_ret
  exact⟨rfl,_,w.heap.size+1,HE.out⟩
end Go.Proofs.YtjglgbepobmjhaaGreatDoor.M
namespace Go.Proofs.YtjglgbepobmjhaaGreatDoor
open Go.RowKit
def leastD:List Bool→Option Nat
 | []=>none
 | true :: _=>some 0
 | false :: r=>(leastD r).map (·+1)
theorem leastD_none:∀ {l:List Bool},leastD l=none→AllOff l
 | [],_=>fun b=>by simp
 | true :: r,h=>by cases h
 | false :: r,h=>by
  have h':leastD r=none:=by simpa [leastD] using h
  intro b
  cases b with
  | zero=>simp
  | succ b=>simpa using leastD_none h' b
theorem leastD_some:∀ {l:List Bool} {a:Nat},leastD l=some a→IsLeast l a
 | [],_,h=>by cases h
 | true :: r,a,h=>by
  cases h
  exact⟨rfl,fun b hb=>by omega⟩
 | false :: r,a,h=>by
  obtain⟨a',h1,rfl⟩:=Option.map_eq_some_iff.1 (show (leastD r).map (·+1)=some a from h)
  obtain⟨h2,h3⟩:=leastD_some h1
  refine⟨by simpa using h2,fun b hb=>?_⟩
  cases b with
  | zero=>simp
  | succ b=>simpa using h3 b (by omega)
def runF (c:List FD) (ins:List ID):Nat→WkS→Option (Except (Nat × Nat) WkS)
 | 0,_=>none
 | k+1,s=>match leastD s.due with
  | none=>some (.ok s)
  | some a=>match passW c ins a s with
   | .error e=>some (.error e)
   | .ok s'=>runF c ins k s'
theorem runF_runs {c:List FD} {ins:List ID}:∀ {k:Nat} {s:WkS} {r:Except (Nat × Nat) WkS},runF c ins k s=some r→∃k',Runs c ins k' s r
 | 0,s,r,h=>by cases h
 | k+1,s,r,h=>by
  unfold runF at h
  split at h
  ·rename_i hl
   cases h
   exact⟨0,.inl ⟨leastD_none hl,rfl⟩⟩
  ·rename_i a hl
   split at h
   ·rename_i e he
    cases h
    exact⟨0,.inr ⟨a,e,leastD_some hl,he,rfl⟩⟩
   ·rename_i s' hs
    obtain⟨k',hk⟩:=runF_runs h
    exact⟨k'+1,a,s',leastD_some hl,hs,hk⟩
theorem fwd_rn {E:Nat→List Nat} (h:∀x,∀y∈E x,x<y):∀ {n x y:Nat},TJ.RN E n x y→x≤y
 | 0,x,y,hr=>Nat.le_of_eq hr
 | n+1,x,y,hr=>by
  obtain⟨z,h1,h2⟩:=hr
  have:=h x z h1
  have:=fwd_rn h h2
  omega
theorem fwd_r {E:Nat→List Nat} (h:∀x,∀y∈E x,x<y) {x y:Nat} (hr:TJ.R E x y):x≤y:=by
 obtain⟨n,hn⟩:=hr
 exact fwd_rn h hn
theorem fwd_cyc {E:Nat→List Nat} (h:∀x,∀y∈E x,x<y) (x:Nat):¬TJ.Cyc E x:=by
 rintro ⟨y,h1,h2⟩
 have:=h x y h1
 have:=fwd_r h h2
 omega
def fwdB:List ID→Nat→Bool
 | [],_=>true
 | n :: r,i=>(silS n i).all (fun y=>decide (i<y)) && fwdB r (i+1)
theorem fwdB_at:∀ {ins:List ID} {i:Nat},fwdB ins i=true→∀(j:Nat) n,ins[j]?=some n→∀y∈silS n (i+j),i+j<y
 | [],i,_,j,n,hj=>by simp at hj
 | m :: r,i,h,j,n,hj=>by
  unfold fwdB at h
  simp only[Bool.and_eq_true,List.all_eq_true,decide_eq_true_eq]at h
  cases j with
  | zero=>simp at hj;subst hj;exact h.1
  | succ j =>
   have:=fwdB_at h.2 j n (by simpa using hj)
   rw[show i+1+j=i+(j+1) by omega]at this
   exact this
theorem fwd_ee {d:FD} (h:fwdB d.ins 0=true) (hid:∀x,d.ins.length≤x→∀y∈silS id0 x,x<y):∀x,∀y∈EE d x,x<y:=by
 intro x y hy
 unfold EE at hy
 rw[List.getD_eq_getElem?_getD]at hy
 cases hx:d.ins[x]? with
 | none =>
  rw[hx]at hy
  exact hid x (List.getElem?_eq_none_iff.1 hx) y hy
 | some n =>
  rw[hx]at hy
  have:=fwdB_at h x n hx
  rw[Nat.zero_add]at this
  exact this y hy
theorem one_good {d:FD} {k:Nat} {s:WkS} (hs:(shapeV [d]).1=0) (hr:runF [d] d.ins k (startS d)=some (.ok s)) (hf:fwdB d.ins 0=true):CkR [d] (0,0,0):=by
 have hE:=fwd_ee hf (fun x _ y hy=>by
  have:y=x+1:=by simpa [silS,id0] using hy
  omega)
 obtain⟨k',hk⟩:=runF_runs hr
 unfold CkR
 rw[if_pos hs]
 exact .inr ⟨⟨k',_,hk,.inr ⟨fun i _=>fwd_cyc hE i,rfl⟩⟩,rfl⟩
theorem one_bad {d:FD} {k:Nat} {e:Nat × Nat} (hs:(shapeV [d]).1=0) (hr:runF [d] d.ins k (startS d)=some (.error e)):CkR [d] ((e.1:Int),0,(e.2:Int)):=by
 obtain⟨k',hk⟩:=runF_runs hr
 unfold CkR
 rw[if_pos hs]
 exact .inl ⟨k',_,hk,rfl⟩
def keepsI (j k:Nat):Bool→List ID
 | false=>[⟨31,7,j,0,0⟩,⟨31,6,k,0,0⟩,⟨32,0,0,0,0⟩,⟨32,0,0,0,0⟩,⟨22,11,0,0,0⟩,⟨29,-12,0,0,0⟩,⟨30,k,0,0,0⟩,⟨22,j,0,0,0⟩,⟨29,-1-(j:Int),0,0,0⟩]
 | true=>[⟨12,k,0,0,0⟩,⟨31,7,j,0,0⟩,⟨40,k,0,0,0⟩,⟨42,k,0,0,0⟩,⟨42,(k:Int)+1,0,0,0⟩,⟨32,0,0,0,0⟩,⟨19,9,0,0,0⟩,⟨42,j,0,0,0⟩,⟨42,(j:Int)+1,0,0,0⟩,⟨22,11,0,0,0⟩,⟨29,-12,0,0,0⟩]
def keepsD (j k:Nat) (each:Bool):FD:=⟨⟨#[109,97,105,110]⟩,0,0,false,12,[],[],keepsI j k each,[]⟩
def keepsF (j k:Nat) (each:Bool):F3:=if j≤k then (0,0,0) else if each then (12,0,2) else (11,0,1)
def keepsOk (j k:Nat) (each:Bool):Bool :=
 decide ((shapeV [keepsD j k each]).1=0) && (match runF [keepsD j k each] (keepsI j k each) 40 (startS (keepsD j k each)) with
  | none=>false
  | some (.ok _)=>decide (j≤k) && fwdB (keepsI j k each) 0
  | some (.error e)=>decide (¬j≤k) && decide (((e.1:Int),(0:Int),(e.2:Int))=keepsF j k each))
set_option maxRecDepth 100000 in
theorem keeps_all:((List.range 11).all fun j=>(List.range 11).all fun k=>keepsOk j k true && keepsOk j k false)=true:=by kernel_rfl
theorem keeps_ck {j k:Nat} (hj:j<11) (hk:k<11) (each:Bool):CkR [keepsD j k each] (keepsF j k each):=by
 have h:=keeps_all
 simp only[List.all_eq_true,List.mem_range,Bool.and_eq_true]at h
 have h0:keepsOk j k each=true:=by
  have:=h j hj k hk
  cases each
  ·exact this.2
  ·exact this.1
 unfold keepsOk at h0
 simp only[Bool.and_eq_true,decide_eq_true_eq]at h0
 obtain⟨hs,h1⟩:=h0
 cases hr:runF [keepsD j k each] (keepsI j k each) 40 (startS (keepsD j k each)) with
 | none=>rw[hr]at h1;cases h1
 | some r =>
  rw[hr]at h1
  cases r with
  | ok s =>
   simp only[Bool.and_eq_true,decide_eq_true_eq]at h1
   have:=one_good hs hr h1.2
   unfold keepsF
   rw[if_pos h1.1]
   exact this
  | error e =>
   simp only[Bool.and_eq_true,decide_eq_true_eq]at h1
   rw[←h1.2]
   exact one_bad hs hr
end Go.Proofs.YtjglgbepobmjhaaGreatDoor
namespace Go.Proofs.YtjglgbepobmjhaaGreatDoor.M
open Go.RowKit
abbrev RD:Type:=Nat ⊕ (Int ⊕ Bool)
abbrev RD.no:RD:=.inr (.inr false)
abbrev RD.tab (r:Nat):RD:=.inl r
abbrev RD.num (n:Int):RD:=.inr (.inl n)
abbrev RD.lst:RD:=.inr (.inr true)
def RD.sd:RD→SD
 | .inr (.inr false)=>sd0
 | .inl r=>sdV (tabV r)
 | .inr (.inl n)=>sdV (intD n)
 | .inr (.inr true)=>sdL (.slice none 0 0)
structure PS where
 at':Nat
 regs:List RD
 nt:Nat
 ng:Nat
def isTab (nt:Nat):Option RD→Bool
 | some (.inl r)=>decide (r<nt)
 | _=>false
def stepN (n:ID) (s:PS):Option PS :=
 if n.op=12 then if 0≤n.a∧n.a<250∧s.nt<9 then some ⟨s.at'+1,s.regs.set n.a.toNat (.tab s.nt),s.nt+1,s.ng⟩ else none
 else if n.op=31 then if s.ng<50 then some ⟨s.at'+1,s.regs,s.nt,s.ng+1⟩ else none
 else if n.op=40 then if 0≤n.a∧n.a+1<250∧isTab s.nt (s.regs[n.a.toNat]?)=true then some ⟨s.at'+1,s.regs.set (n.a.toNat+1) (.num 0),s.nt,s.ng⟩ else none
 else if n.op=42 then if 0≤n.a∧n.a<250 then some ⟨s.at'+1,s.regs.set n.a.toNat .no,s.nt,s.ng⟩ else none
 else if n.op=32 then if 0<s.ng then some ⟨s.at'+1,s.regs,s.nt,s.ng-1⟩ else none
 else if n.op=19 then if (s.at':Int)<n.a∧n.a<100 then some ⟨n.a.toNat,s.regs,s.nt,s.ng⟩ else none
 else if n.op=22 then if 0≤n.a∧n.a<250 then some ⟨s.at'+1,s.regs.set n.a.toNat .lst,s.nt,s.ng⟩ else none
 else none
def retN (n:ID) (s:PS):Bool:=decide (n.op=29) && decide (n.a<0) && decide (-250≤n.a) && decide (s.regs[(-1-n.a).toNat]?=some .lst) && decide (s.ng=0)
def runP (ins:List ID):Nat→PS→Bool
 | 0,_=>false
 | k+1,s=>match ins[s.at']? with
  | none=>false
  | some n=>retN n s || match stepN n s with
   | none=>false
   | some s'=>runP ins k s'
def ps0:PS:=⟨0,List.replicate 250 .no,0,0⟩
set_option maxRecDepth 100000 in
theorem keeps_runs:((List.range 11).all fun j=>(List.range 11).all fun k=>!decide (j≤k) || (runP (keepsI j k true) 12 ps0 && runP (keepsI j k false) 12 ps0))=true:=by kernel_rfl
theorem keeps_run {j k:Nat} (hj:j<11) (hk:k<11) (h:j≤k) (each:Bool):runP (keepsI j k each) 12 ps0=true:=by
 have h0:=keeps_runs
 simp only[List.all_eq_true,List.mem_range,Bool.or_eq_true,Bool.and_eq_true,Bool.not_eq_true',decide_eq_false_iff_not]at h0
 rcases h0 j hj k hk with h1 | h1
 ·exact absurd h h1
 ·cases each
  ·exact h1.2
  ·exact h1.1
structure MK where
 gm:Nat
 gf:Nat
 gt:Nat
 gk:Nat
 gch:Nat
 ta:Array Value
 ka:Array Value
 m0:MachD
 c0:CallD
def MK.m (K:MK) (z:Int) (tv:Value):MachD:={ K.m0 with since:=z,made:=z,tables:=tv }
def MK.c (K:MK) (at' next:Int) (gv:Value) (rs:List SD):CallD:={ K.c0 with at':=at',next:=next,guards:=gv,regs:=rs }
structure MX (w0:World) (K:MK) (w:World) (nt:Nat) (at' next:Int) (regs:List RD) (vs:List Value) (gs:List Nat) (tv gv:Value):Prop where
 bel:Below w0.heap.size w0 w
 geM:w0.heap.size≤K.gm
 geF:w0.heap.size≤K.gf
 mac:MachAt w K.gm (K.m nt tv)
 cal:CallAt w K.gf (K.c at' next gv (regs.map RD.sd))
 tsk:w.heap[K.gt]?=some (.cells K.ta 145)
 row:w.heap[K.gk]?=some (.cells K.ka 97)
 cha:w.heap[K.gch]?=some (.chan 0 #[] false 0 0 false)
 gu:ORow w w0.heap.size 319 1 vC gv vs
 tb:ORow w w0.heap.size 292 1 pC tv gs
 sh:∀g∈gs,w.heap[g]?=some ShO
 lg:gs.length=nt
 lr:regs.length=250
structure MKok (K:MK):Prop where
 cells:K.m0.cells=9
 living:K.m0.living=0
def wr (K:MK) (tv gv:Value):List Nat:=K.gm :: K.gf :: (gv.ownBlock.toList++tv.ownBlock.toList)
theorem ne_chan {w:World} {g g':Nat} {a:Array Value} {t:TypeId} {c:Nat} {b:Array Value} {x:Bool} {s r:Nat} {y:Bool} (h:w.heap[g]?=some (.cells a t)) (h':w.heap[g']?=some (.chan c b x s r y)):g'≠g:=by
 rintro rfl
 rw[h]at h'
 cases h'
theorem own_blk {α:Type} {w:World} {B:Nat} {et:TypeId} {k:Nat} {cells:α→List Value} {sv:Value} {xs:List α} (ho:ORow w B et k cells sv xs) {g:Nat} (h:sv.ownBlock=some g):B≤g∧∃cur,w.heap[g]?=some (.cells cur et):=by
 rcases ho.2 with ⟨e1,_⟩ | ⟨g0,c0,cur,e1,e2,e3,_⟩
 ·rw[e1]at h;cases h
 ·rw[e1]at h
  have e':g0=g:=Option.some.inj h
  subst e'
  exact⟨e2,cur,e3⟩
theorem MX.wrTy {w0:World} {K:MK} {w:World} {nt:Nat} {at' next:Int} {regs:List RD} {vs:List Value} {gs:List Nat} {tv gv:Value} (h:MX w0 K w nt at' next regs vs gs tv gv):∀g∈wr K tv gv,w0.heap.size≤g∧∃a t,w.heap[g]?=some (.cells a t)∧(t=109∨t=210∨t=319∨t=292):=by
 intro g hg
 simp only[wr,List.mem_cons,List.mem_append,Option.mem_toList]at hg
 rcases hg with rfl | rfl | hg | hg
 ·exact⟨h.geM,_,_,h.mac,.inl rfl⟩
 ·exact⟨h.geF,_,_,h.cal,.inr (.inl rfl)⟩
 ·obtain⟨h1,cur,h2⟩:=own_blk h.gu hg
  exact⟨h1,_,_,h2,.inr (.inr (.inl rfl))⟩
 ·obtain⟨h1,cur,h2⟩:=own_blk h.tb hg
  exact⟨h1,_,_,h2,.inr (.inr (.inr rfl))⟩
theorem MX.stay {w0:World} {K:MK} {w w':World} {nt:Nat} {at' next:Int} {regs:List RD} {vs:List Value} {gs:List Nat} {tv gv:Value} (h:MX w0 K w nt at' next regs vs gs tv gv) (hb:ButL (wr K tv gv) w w') :
  Below w0.heap.size w0 w'∧w'.heap[K.gt]?=some (.cells K.ta 145)∧w'.heap[K.gk]?=some (.cells K.ka 97)∧w'.heap[K.gch]?=some (.chan 0 #[] false 0 0 false)∧∀g∈gs,w'.heap[g]?=some ShO:=by
 have hS:=h.wrTy
 have hty:∀(q:Nat) (b:Array Value) (u:TypeId),w.heap[q]?=some (.cells b u)→u≠109→u≠210→u≠319→u≠292→w'.heap[q]?=some (.cells b u):=by
  intro q b u hq n1 n2 n3 n4
  refine hb.blk hq (fun hm=>?_)
  obtain⟨_,a,t,ht,hc⟩:=hS q hm
  rw[hq]at ht
  injection ht with ht
  injection ht with _ ht
  subst ht
  rcases hc with e | e | e | e
  ·exact n1 e
  ·exact n2 e
  ·exact n3 e
  ·exact n4 e
 refine⟨hb.below h.bel (fun g hg=>(hS g hg).1) h.bel.size,hty _ _ _ h.tsk (by decide) (by decide) (by decide) (by decide),hty _ _ _ h.row (by decide) (by decide) (by decide) (by decide),hb.blk h.cha (fun hm=>?_),fun g hg=>hty _ _ _ (h.sh g hg) (by decide) (by decide) (by decide) (by decide)⟩
 obtain⟨_,a,t,ht,_⟩:=hS _ hm
 exact ne_chan ht h.cha rfl
end Go.Proofs.YtjglgbepobmjhaaGreatDoor.M
