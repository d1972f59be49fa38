import Derived.Test.YtkajknidfoelcaaGreatDoorP28
import Derived.Test.YtkajknidfoelcaaGreatDoorP32
import Derived.LaidEql
import Derived.Test.YtkajknidfoelcaaGreatDoorP31
import Derived.Test.YtkajknidfoelcaaGreatDoorP09
import Derived.Deep.CutRange
import Derived.Deep.WholeRow
import Derived.Test.YtkajknidfoelcaaGreatDoorP29
set_option linter.unusedVariables false
set_option linter.unusedSimpArgs false
set_option maxRecDepth 20000
set_option maxHeartbeats 8000000
namespace Go.Proofs.YtkajknidfoelcaaGreatDoor.T
open Go.RowKit M
attribute [local go_sem] run_store_float
theorem neq_to (p:Option Addr) (v:Value) (w:World):(binOp BinOp.neq 65 (.iface 146 (.pointer p)) (.iface 487 v)).run Tryz.prog w=.ok (.bool true) w:=by kernel_rfl
theorem info_of {P:Program} {t:TypeId} (h:(P.info? t).map (·.comparable)=some true):∃i,P.info? t=some i∧i.comparable=true:=by
 cases hq:P.info? t with
 | none=>rw[hq]at h;cases h
 | some i=>rw[hq]at h;exact⟨i,rfl,by simpa using h⟩
theorem neq_oo (a:Addr) (w:World):(binOp BinOp.neq 65 (.iface 487 (.pointer (some a))) (.iface 487 (.pointer (some a)))).run Tryz.prog w=.ok (.bool false) w:=by
 obtain⟨i,hi,hc⟩:=info_of (P:=Tryz.prog) (t:=487) (by kernel_rfl)
 obtain⟨j,hj,_⟩:=info_of (P:=Tryz.prog) (t:=509) (by kernel_rfl)
 have h:=run_equalIn_iface_ptr_same (P:=Tryz.prog) (w:=w) 9998 a Tryz.underlying65 Tryz.underlying487 hi hc hj
 simp only[binOp]
 simp[Op.equal,Op.maxDepth,h]
theorem ta_scope (v:Value) (w:World):(Instr.typeAssert (.iface 272 v) 322 277 true).run Tryz.prog w=.ok (.tuple #[.pointer none,.bool false]) w:=by kernel_rfl
theorem ta_catch (v:Value) (w:World):(Instr.typeAssert (.iface 272 v) 322 272 true).run Tryz.prog w=.ok (.tuple #[v,.bool true]) w:=by kernel_rfl
theorem ta_thrown (v:Value) (w:World):(Instr.typeAssert (.iface 146 v) 65 146 true).run Tryz.prog w=.ok (.tuple #[v,.bool true]) w:=by kernel_rfl
theorem innermost_any (gf ga cap gn:Nat) (c:CallD) (w:World) (h:CallAt w gf c) (hg:c.guards=.slice (some ⟨ga,0,none⟩) 1 cap) (hcap:1≤cap) (h0:w.cell? ⟨ga,0,none⟩=some (caV gn)) :
  Calls Tryz.prog 208 #[.pointer (some ⟨gf,0,none⟩)] w fun e w'=>e=.returned (caV gn)∧w'=w.drew:=by
 have c12:w.cell? ⟨gf,12,none⟩=some (.slice (some ⟨ga,0,none⟩) 1 cap):=by rw[h.cell 12 (by omega),←hg];rfl
 unfold caV at h0 ⊢
 clear h
 go_enter Tryz.func208,Tryz.ntmps208
 go_wp2_with fail
 go_region
 go_wp2_with fail
 go_ret
 exact⟨rfl,rfl⟩
theorem leave_over (pm:Value) (gf:Nat) (a:Addr) (w:World) (ho:OvV w (some a)) :
  Calls Tryz.prog 132 #[pm,.pointer (some ⟨gf,0,none⟩),ovI (some a)] w fun e w'=>e=.returned (ovI (some a))∧w'=w:=by
 have hv:w.cell? ⟨2,0,none⟩=some (.iface 487 (.pointer (some a))):=ho
 have hne:=neq_oo a
 unfold ovI
 clear ho
 go_enter Tryz.func132,Tryz.ntmps132
 go_wp2_with fail
 go_loopw [2] (fun s wr=>s=.iface 487 (.pointer (some a))∧wr=w) (fun _ _=>0)
 case atStart=>exact⟨rfl,rfl⟩
 case round =>
  obtain⟨rfl,rfl⟩:=hrel
  go_wp2_with fail
  go_ret
  exact⟨rfl,rfl⟩
theorem leave_catch (gm gf gn gr ga cap:Nat) (p:Option Addr) (c:CallD) (R:Value) (Q:World→World→Prop) (w:World) (h:CallAt w gf c) (hg:c.guards=.slice (some ⟨ga,0,none⟩) 1 cap) (hcap:1≤cap) (h0:w.cell? ⟨ga,0,none⟩=some (caV gn)) (ho:OvV w p)
  (HH:∀w2,ButL [gf] w w2→CallAt w2 gf { c with guards:=.slice (some ⟨ga,0,none⟩) 0 cap }→Calls Tryz.prog 210 #[.pointer (some ⟨gm,0,none⟩),.pointer (some ⟨gf,0,none⟩),.pointer (some ⟨gn,0,none⟩),.pointer (some ⟨gr,0,none⟩)] w2 fun e w'=>e=.returned R∧Q w2 w') :
  Calls Tryz.prog 132 #[.pointer (some ⟨gm,0,none⟩),.pointer (some ⟨gf,0,none⟩),.iface 146 (.pointer (some ⟨gr,0,none⟩))] w fun e w'=>e=.returned R∧∃w2,ButL [gf] w w2∧CallAt w2 gf { c with guards:=.slice (some ⟨ga,0,none⟩) 0 cap }∧Q w2 w':=by
 have hv:w.cell? ⟨2,0,none⟩=some (.iface 487 (.pointer p)):=ho
 have hne:=fun W=>neq_to (some ⟨gr,0,none⟩) (.pointer p) W
 have c12:w.cell? ⟨gf,12,none⟩=some (.slice (some ⟨ga,0,none⟩) 1 cap):=by rw[h.cell 12 (by omega),←hg];rfl
 have hts:=fun W=>ta_scope (.pointer (some ⟨gn,0,none⟩)) W
 have htc:=fun W=>ta_catch (.pointer (some ⟨gn,0,none⟩)) W
 have htt:=fun W=>ta_thrown (.pointer (some ⟨gr,0,none⟩)) W
 have HC:Hid (CallAt w gf c):=h
 have H0:Hid (w.cell? ⟨ga,0,none⟩=some (caV gn)):=h0
 have HH':Hid (∀w2,ButL [gf] w w2→CallAt w2 gf { c with guards:=.slice (some ⟨ga,0,none⟩) 0 cap }→Calls Tryz.prog 210 #[.pointer (some ⟨gm,0,none⟩),.pointer (some ⟨gf,0,none⟩),.pointer (some ⟨gn,0,none⟩),.pointer (some ⟨gr,0,none⟩)] w2 fun e w'=>e=.returned R∧Q w2 w'):=HH
 clear h h0 ho HH
 go_enter Tryz.func132,Tryz.ntmps132
 go_wp2_with fail
 go_loopw [2] (fun s wr=>s=.iface 146 (.pointer (some ⟨gr,0,none⟩))∧wr=w) (fun _ _=>0)
 case atStart=>exact⟨rfl,rfl⟩
 case round =>
  obtain⟨rfl,rfl⟩:=hrel
  go_wp2_with fail
  refine (innermost_any gf ga cap gn c _ HC.out hg hcap H0.out).mono ?_
  rintro e w1 ⟨rfl,rfl⟩
  unfold caV
  go_wp2_with fail
  refine (takeOff_any gf 0 cap (some ⟨ga,0,none⟩) c wr.drew HC.out hg (by omega) (by omega)).mono ?_
  rintro e w2 ⟨rfl,hc2,hb2⟩
  have HB2:Hid (ButL [gf] wr w2):=⟨hb2.os,hb2.tape,hb2.output,hb2.size,hb2.block⟩
  have HC2:Hid (CallAt w2 gf { c with guards:=.slice (some ⟨ga,0,none⟩) 0 cap }):=hc2
  clear hc2 hb2
  go_wp2_with fail
  refine (HH'.out w2 HB2.out HC2.out).mono ?_
  rintro e w3 ⟨rfl,hq⟩
  have HQ3:Hid (Q w2 w3):=hq
  clear hq
  go_wp2_with fail
  go_ret
  exact⟨rfl,w2,HB2.out,HC2.out,HQ3.out⟩
end Go.Proofs.YtkajknidfoelcaaGreatDoor.T
namespace Go.Proofs.YtkajknidfoelcaaGreatDoor.T
open Go.RowKit M
attribute [local go_sem] run_store_float
end Go.Proofs.YtkajknidfoelcaaGreatDoor.T
namespace Go.Proofs.YtkajknidfoelcaaGreatDoor
open Go.RowKit
def leastD:List Bool→Option Nat
 | []=>none
 | true :: _=>some 0
 | false :: r=>(leastD r).map (·+1)
theorem leastD_none:∀ {l:List Bool},leastD l=none→AllOff l
 | [],_=>fun b=>by simp
 | true :: r,h=>by cases h
 | false :: r,h=>by
  have h':leastD r=none:=by simpa [leastD] using h
  intro b
  cases b with
  | zero=>simp
  | succ b=>simpa using leastD_none h' b
theorem leastD_some:∀ {l:List Bool} {a:Nat},leastD l=some a→IsLeast l a
 | [],_,h=>by cases h
 | true :: r,a,h=>by
  cases h
  exact⟨rfl,fun b hb=>by omega⟩
 | false :: r,a,h=>by
  obtain⟨a',h1,rfl⟩:=Option.map_eq_some_iff.1 (show (leastD r).map (·+1)=some a from h)
  obtain⟨h2,h3⟩:=leastD_some h1
  refine⟨by simpa using h2,fun b hb=>?_⟩
  cases b with
  | zero=>simp
  | succ b=>simpa using h3 b (by omega)
def runF (c:List FD) (ins:List ID):Nat→WkS→Option (Except (Nat × Nat) WkS)
 | 0,_=>none
 | k+1,s=>match leastD s.due with
  | none=>some (.ok s)
  | some a=>match passW c ins a s with
   | .error e=>some (.error e)
   | .ok s'=>runF c ins k s'
theorem runF_runs {c:List FD} {ins:List ID}:∀ {k:Nat} {s:WkS} {r:Except (Nat × Nat) WkS},runF c ins k s=some r→∃k',Runs c ins k' s r
 | 0,s,r,h=>by cases h
 | k+1,s,r,h=>by
  unfold runF at h
  split at h
  ·rename_i hl
   cases h
   exact⟨0,.inl ⟨leastD_none hl,rfl⟩⟩
  ·rename_i a hl
   split at h
   ·rename_i e he
    cases h
    exact⟨0,.inr ⟨a,e,leastD_some hl,he,rfl⟩⟩
   ·rename_i s' hs
    obtain⟨k',hk⟩:=runF_runs h
    exact⟨k'+1,a,s',leastD_some hl,hs,hk⟩
def due1 (m:Nat) (j:Nat):Bool:=decide (j=m)
theorem rank_rn {E:Nat→List Nat} {rk:Nat→Nat} (h:∀x,∀y∈E x,rk x<rk y):∀ {n x y:Nat},TJ.RN E n x y→rk x≤rk y
 | 0,x,y,hr=>by cases (show x=y from hr);exact Nat.le_refl _
 | n+1,x,y,hr=>by
  obtain⟨z,h1,h2⟩:=hr
  have:=h x z h1
  have:=rank_rn h h2
  omega
theorem rank_cyc {E:Nat→List Nat} {rk:Nat→Nat} (h:∀x,∀y∈E x,rk x<rk y) (x:Nat):¬TJ.Cyc E x:=by
 rintro ⟨y,h1,n,hn⟩
 have:=h x y h1
 have:=rank_rn h hn
 omega
end Go.Proofs.YtkajknidfoelcaaGreatDoor
namespace Go.Proofs.YtkajknidfoelcaaGreatDoor.M
open Go.RowKit
attribute [local go_sem] run_store_float
def instA:Array Value:=instT.toArray
def buiA:Array Value:=buiT.toArray
theorem wpList_store_new {P:Program} {w:World} {ops:Array Oper} {rest:List Oper} {o:Oper} {a:Act} {Q:Exit→Act→World→Prop} (hgd:o.guard=none) (t:TypeId) (x y:Operand) (ho:o.op=.store t x y) (c c':Array Value)
  (hx:a.eval x=.pointer (some ⟨w.heap.size,0,none⟩)) (hy:a.eval y=.agg c') (hi:(P.info? t).map (·.size)=some c'.size) (hs:c.size=c'.size) (h1:c'.all (·.oneCell')=true)
  (h:wpList P ops Q rest (a.put o.dst undef) (w.alloc (.cells c' t))):wpList P ops Q (o :: rest) a (w.alloc (.cells c t)) :=
 wpList_plain hgd fun _ hK=>by
  unfold Oper.wp
  simp only[execOp,ho,hx,hy,Sem.run_bind,run_storeAt_new w t c c' hi hs h1,Result.andThen_ok,Sem.run_pure,Oper.upon_skip]
  exact hK _ _ h
theorem results_new {P:Program} {fn:Func} {w:World} {tmps:Array Value} (k:Nat) (t:TypeId) (c:Array Value) (n:Nat) (e:TypeId) (hres:fn.results=#[.cell k t]) (hk:tmps.getD k undef=.pointer (some ⟨w.heap.size,0,none⟩)) (hu:P.underlying t=some (.array n e)) (hi:(P.info? t).map (·.size)=some c.size) :
  (results fn tmps).run P (w.alloc (.cells c t))=.ok (.agg c) (w.alloc (.cells c t)):=by
 have hl:=run_loadVar_new (P:=P) w t c n e hu hi
 have hk':tmps[k]?.getD undef=.pointer (some ⟨w.heap.size,0,none⟩):=by rw[←hk];simp[Array.getD_eq_getD_getElem?]
 simp[results,hres,hk',asAddr,hl,Result.andThen]
theorem built_any (w:World):Calls Tryz.prog 48 #[] w fun e w'=>e=.returned (.agg buiA)∧Below w.heap.size w w':=by
 go_enter Tryz.func48,Tryz.ntmps48
 go_wp2_with (refine wpList_store_new rfl 95 _ _ rfl _ _ rfl rfl (by kernel_rfl) (by kernel_rfl) (by kernel_rfl) ?_)
 exact bodyPost_ret (v:=.agg buiA) (results_new 0 95 _ 15 94 Tryz.results48 rfl Tryz.underlying95 (by kernel_rfl)) rfl ⟨rfl,bw1 _ _⟩
theorem instr_any (w:World):Calls Tryz.prog 47 #[] w fun e w'=>e=.returned (.agg instA)∧Below w.heap.size w w':=by
 go_enter Tryz.func47,Tryz.ntmps47
 go_wp2_with (refine wpList_store_new rfl 91 _ _ rfl _ _ rfl rfl (by kernel_rfl) (by kernel_rfl) (by kernel_rfl) ?_)
 exact bodyPost_ret (v:=.agg instA) (results_new 0 91 _ 43 90 Tryz.results47 rfl Tryz.underlying91 (by kernel_rfl)) rfl ⟨rfl,bw1 _ _⟩
end Go.Proofs.YtkajknidfoelcaaGreatDoor.M
namespace Go.Proofs.YtkajknidfoelcaaGreatDoor.M
open Go.RowKit
attribute [local go_sem] run_store_float
theorem mk_chan (W:World):(Instr.makeChan 145 (.int .i64 0)).run Tryz.prog W=.ok (.chan (some W.heap.size)) (W.alloc (.chan 0 #[] false 0 0 false)):=by kernel_rfl
def taskA (calls:Value) (gch:Nat) (st:Int):Array Value:=#[.int .i64 0,.int .i64 0,.int .i64 st,.int .i64 0,.int .i64 0,.float .f64 0,.string ⟨#[]⟩,.int .i64 0,calls,.chan (some gch),.pointer none,.bool false,.pointer none,.slice none 0 0]
theorem newTask_any (g:Nat) (m:MachD) (w:World) (h:MachAt w g m) (ht:m.tasks=.slice none 0 0) :
  Calls Tryz.prog 49 #[.pointer (some ⟨g,0,none⟩),.agg #[.int .i64 0,.int .i64 0,.float .f64 0,.string ⟨#[]⟩,.int .i64 0]] w fun e w'=>∃gt gk gch cap,e=.returned (.pointer (some ⟨gt,0,none⟩))∧MachAt w' g { m with tasks:=.slice (some ⟨gk,0,none⟩) 1 cap }∧w'.heap[gt]?=some (.cells (taskA (.slice none 0 0) gch 0) 149)∧w'.heap[gch]?=some (.chan 0 #[] false 0 0 false)∧w.heap.size≤gt∧w.heap.size≤gch∧ORow w' w.heap.size 99 1 pC (.slice (some ⟨gk,0,none⟩) 1 cap) [gt]∧ButL [g] w w':=by
 have hmk:=mk_chan
 have hgl:=blk_lt h
 obtain⟨W,hW⟩:∃W,w.alloc (.cells #[.int .i64 0,.int .i64 0,.float .f64 0,.string ⟨#[]⟩,.int .i64 0] 47)=W:=⟨_,rfl⟩
 have hb:=bw1 w (.cells #[.int .i64 0,.int .i64 0,.float .f64 0,.string ⟨#[]⟩,.int .i64 0] 47)
 have bn:=blk_new w (.cells #[.int .i64 0,.int .i64 0,.float .f64 0,.string ⟨#[]⟩,.int .i64 0] 47)
 have hsz:W.heap.size=w.heap.size+1:=by rw[←hW];simp
 rw[hW]at hb bn
 have hm:=h.later hb
 have c74:W.cell? ⟨g,74,none⟩=some (.slice none 0 0):=by rw[hm.cell,←ht];rfl
 have d0:W.cell? ⟨w.heap.size,0,none⟩=some (.int .i64 0):=by rw[blk_cell bn];rfl
 have d1:W.cell? ⟨w.heap.size,1,none⟩=some (.int .i64 0):=by rw[blk_cell bn];rfl
 have d2:W.cell? ⟨w.heap.size,2,none⟩=some (.float .f64 0):=by rw[blk_cell bn];rfl
 have d3:W.cell? ⟨w.heap.size,3,none⟩=some (.string ⟨#[]⟩):=by rw[blk_cell bn];rfl
 have d4:W.cell? ⟨w.heap.size,4,none⟩=some (.int .i64 0):=by rw[blk_cell bn];rfl
 have hc1:=bw1 W (.chan 0 #[] false 0 0 false)
 have e0:=cell_later hc1 d0
 have e1:=cell_later hc1 d1
 have e2:=cell_later hc1 d2
 have e3:=cell_later hc1 d3
 have e4:=cell_later hc1 d4
 have e5:=cell_later hc1 c74
 clear hc1
 obtain⟨W1,hW1⟩:∃W1,((W.alloc (.chan 0 #[] false 0 0 false)).alloc (.cells #[.int .i64 0,.int .i64 0,.int .i64 0,.int .i64 0,.int .i64 0,.float .f64 0,.string ⟨#[]⟩,.int .i64 0,.slice none 0 0,.chan (some (w.heap.size+1)),.pointer none,.bool false,.pointer none,.slice none 0 0] 149)).drew=W1:=⟨_,rfl⟩
 have hb1:Below W.heap.size W W1:=by rw[←hW1];exact (bw2 W (.chan 0 #[] false 0 0 false) (.cells #[.int .i64 0,.int .i64 0,.int .i64 0,.int .i64 0,.int .i64 0,.float .f64 0,.string ⟨#[]⟩,.int .i64 0,.slice none 0 0,.chan (some (w.heap.size+1)),.pointer none,.bool false,.pointer none,.slice none 0 0] 149)).drew
 have hsz1:W1.heap.size=w.heap.size+1+1+1:=by rw[←hW1];simp[hsz]
 have hm1:MachAt W1 g m:=hm.later hb1
 have ht1:W1.heap[w.heap.size+1+1]?=some (.cells (taskA (.slice none 0 0) (w.heap.size+1) 0) 149):=by rw[←hW1];exact blk_newn (by simp[hsz]) _
 have hc1:W1.heap[w.heap.size+1]?=some (.chan 0 #[] false 0 0 false):=by rw[←hW1];exact blk_old (blk_newn (by omega) _) _
 have f74:W1.cell? ⟨g,74,none⟩=some (.slice none 0 0):=by rw[hm1.cell,←ht];rfl
 have hy:=bw1 W1 (.cells #[.pointer (some ⟨w.heap.size+1+1,0,none⟩)] 99)
 obtain⟨g',cap',w2,hr,ho2,hg2⟩:=(ORow.nil (W1.alloc (.cells #[.pointer (some ⟨w.heap.size+1+1,0,none⟩)] 99)) w.heap.size 99 1 pC).app 98 8 Tryz.underlying98 (by kernel_rfl) (by omega) (by omega) (w.heap.size+1+1) (w.heap.size+1+1+1) 98 (show (W1.alloc (.cells #[.pointer (some ⟨w.heap.size+1+1,0,none⟩)] 99)).heap[w.heap.size+1+1+1]?=_ from blk_newn (by omega) _) rfl (by intro u hu;simp[pC]at hu;subst hu;rfl) (by simp) (by simp;omega)
 have hb2:Below W1.heap.size W1 w2:=ButL.nil (ButL.grown (S:=[]) ((ButL.refl [] W1).alloc _) hg2 (fun b e=>by cases e))
 have hm2:MachAt w2 g m:=hm1.later hb2
 have g74:w2.cell? ⟨g,74,none⟩=some (.slice none 0 0):=by rw[hm2.cell,←ht];rfl
 have z2:=blk_frozen hm2
 have HE:Hid (MachAt (w2.setCell ⟨g,74,none⟩ (.slice (some ⟨g',0,none⟩) 1 cap')) g { m with tasks:=.slice (some ⟨g',0,none⟩) 1 cap' }∧(w2.setCell ⟨g,74,none⟩ (.slice (some ⟨g',0,none⟩) 1 cap')).heap[w.heap.size+1+1]?=some (.cells (taskA (.slice none 0 0) (w.heap.size+1) 0) 149)∧(w2.setCell ⟨g,74,none⟩ (.slice (some ⟨g',0,none⟩) 1 cap')).heap[w.heap.size+1]?=some (.chan 0 #[] false 0 0 false)∧w.heap.size≤w.heap.size+1+1∧w.heap.size≤w.heap.size+1∧ORow (w2.setCell ⟨g,74,none⟩ (.slice (some ⟨g',0,none⟩) 1 cap')) w.heap.size 99 1 pC (.slice (some ⟨g',0,none⟩) 1 cap') [w.heap.size+1+1]∧ButL [g] w (w2.setCell ⟨g,74,none⟩ (.slice (some ⟨g',0,none⟩) 1 cap'))):=by
  refine⟨?_,blk_other (blk_later hb2 ht1) (by omega) _ _,blk_other (blk_later hb2 hc1) (by omega) _ _,by omega,by omega,ORow.set_own ho2 (own_ne ho2 hm2 (by decide)) _ _,?_⟩
  ·have:=blk_set hm2 74 (.slice (some ⟨g',0,none⟩) 1 cap')
   rw[MachD.set_tasks]at this
   exact this
  ·exact ((((ButL.of_below hb).thenB hb1).thenB hb2)).set (by simp) _ _
 have HR:Hid _:=hr
 clear h hm hb bn hb1 hm1 ht1 hc1 hy ho2 hg2 hb2 hm2 hr
 go_enter Tryz.func49,Tryz.ntmps49
 go_wp2_with fail
 clear hW
 go_region
 go_wp2_with (at_builtin;refine wpList_append_run rfl _ _ _ rfl _ _ _ _ rfl rfl HR.out ?_)
 go_ret
 exact⟨_,_,_,_,rfl,HE.out⟩
end Go.Proofs.YtkajknidfoelcaaGreatDoor.M
namespace Go.Proofs.YtkajknidfoelcaaGreatDoor.T
open Go.RowKit M
def kindN (i:Nat):Int:=if i % 2=0 then 4 else 5
def recL (n:Nat):List Int:=(List.range n).map kindN
def R0:List M.SD:=List.replicate 250 sd0
theorem R0_len:R0.length=250:=by unfold R0;exact List.length_replicate
structure TK where
 gm:Nat
 gf:Nat
 gt:Nat
 gc:Nat
 gk:Nat
 gch:Nat
 cc:Nat
 ca:Array Value
 ka:Array Value
 bp:Nat
 op:Nat
 capP:Nat
 ov:Addr
 m0:MachD
 c0:CallD
def TK.m (K:TK) (z:Int) (rv:Value):MachD:={ K.m0 with rticks:=z,recs:=rv }
def TK.c (K:TK) (at' next:Int) (gv:Value) (rs:List M.SD):CallD:={ K.c0 with at':=at',next:=next,guards:=gv,regs:=rs }
structure TKok (w0:World) (K:TK):Prop where
 geM:w0.heap.size≤K.gm
 geF:w0.heap.size≤K.gf
 run:K.m0.running=.pointer (some ⟨K.gt,0,none⟩)
 wat:K.m0.watch=.func (.func 19) #[] #[]
 prs:K.m0.protos=.slice (some ⟨K.bp,K.op,none⟩) 1 K.capP
 nam:w0.cell? ⟨K.bp,K.op,none⟩=some (.string ⟨#[109,97,105,110]⟩)
 pro:K.c0.proto=0
 lin:K.c0.line=0
 ovr:OvV w0 (some K.ov)
 tic:0≤K.m0.ticks∧K.m0.ticks≤5000
 ca0:K.ca[0]?=some (.pointer (some ⟨K.gf,0,none⟩))
 cc1:1≤K.cc
structure TX (w0:World) (K:TK) (w:World) (tk nr:Nat) (at' next:Int) (rs:List M.SD) (gl:List (Nat × Int)) (rv gv:Value):Prop where
 bel:Below w0.heap.size w0 w
 mac:MachAt w K.gm (K.m tk rv)
 cal:CallAt w K.gf (K.c at' next gv rs)
 tsk:w.heap[K.gt]?=some (.cells (taskA (.slice (some ⟨K.gc,0,none⟩) 1 K.cc) K.gch 2) 149)
 cro:w.heap[K.gc]?=some (.cells K.ca 150)
 row:w.heap[K.gk]?=some (.cells K.ka 99)
 cha:w.heap[K.gch]?=some (.chan 0 #[] false 0 0 false)
 gu:ORow w w0.heap.size 322 1 vC gv (gl.map fun g=>caV g.1)
 gb:∀g∈gl,w.heap[g.1]?=some (CtO g.2 0)
 rc:ORow w w0.heap.size 113 5 rcC rv (recL nr)
 lr:rs.length=250
section
variable {w0:World} {K:TK} {w w':World} {tk nr:Nat} {at' next:Int} {rs:List M.SD} {gl:List (Nat × Int)} {rv gv:Value}
def twr (K:TK) (rv gv:Value):List Nat:=K.gm :: K.gf :: (gv.ownBlock.toList++rv.ownBlock.toList)
theorem TX.wrTy (ok:TKok w0 K) (h:TX w0 K w tk nr at' next rs gl rv gv):∀g∈twr K rv gv,w0.heap.size≤g∧∃a t,w.heap[g]?=some (.cells a t)∧(t=111∨t=214∨t=322∨t=113):=by
 intro g hg
 simp only[twr,List.mem_cons,List.mem_append,Option.mem_toList]at hg
 rcases hg with rfl | rfl | hg | hg
 ·exact⟨ok.geM,_,_,h.mac,.inl rfl⟩
 ·exact⟨ok.geF,_,_,h.cal,.inr (.inl rfl)⟩
 ·obtain⟨h1,cur,h2⟩:=own_blk h.gu hg
  exact⟨h1,_,_,h2,.inr (.inr (.inl rfl))⟩
 ·obtain⟨h1,cur,h2⟩:=own_blk h.rc hg
  exact⟨h1,_,_,h2,.inr (.inr (.inr rfl))⟩
theorem TX.keep (ok:TKok w0 K) (h:TX w0 K w tk nr at' next rs gl rv gv) (hb:ButL (twr K rv gv) w w') {q:Nat} {b:Array Value} {u:TypeId} (hq:w.heap[q]?=some (.cells b u)) (n1:u≠111) (n2:u≠214) (n3:u≠322) (n4:u≠113):w'.heap[q]?=some (.cells b u):=by
 refine hb.blk hq (fun hm=>?_)
 obtain⟨_,a,t,ht,hc⟩:=h.wrTy ok q hm
 rw[hq]at ht
 injection ht with ht
 injection ht with _ ht
 subst ht
 rcases hc with e | e | e | e
 ·exact n1 e
 ·exact n2 e
 ·exact n3 e
 ·exact n4 e
theorem TX.step (ok:TKok w0 K) (h:TX w0 K w tk nr at' next rs gl rv gv) (hb:ButL (twr K rv gv) w w') {tk2 nr2:Nat} {at2 next2:Int} {rs2:List M.SD} {gl2:List (Nat × Int)} {rv2 gv2:Value}
  (mac:MachAt w' K.gm (K.m tk2 rv2)) (cal:CallAt w' K.gf (K.c at2 next2 gv2 rs2)) (gu:ORow w' w0.heap.size 322 1 vC gv2 (gl2.map fun g=>caV g.1)) (gb:∀g∈gl2,g∈gl∨w'.heap[g.1]?=some (CtO g.2 0)) (rc:ORow w' w0.heap.size 113 5 rcC rv2 (recL nr2)) (lr:rs2.length=250):TX w0 K w' tk2 nr2 at2 next2 rs2 gl2 rv2 gv2:=by
 refine⟨hb.below h.bel (fun g hg=>(h.wrTy ok g hg).1) h.bel.size,mac,cal,h.keep ok hb h.tsk (by decide) (by decide) (by decide) (by decide),h.keep ok hb h.cro (by decide) (by decide) (by decide) (by decide),h.keep ok hb h.row (by decide) (by decide) (by decide) (by decide),hb.blk h.cha (fun hm=>?_),gu,fun g hg=>?_,rc,lr⟩
 ·obtain⟨_,a,t,ht,_⟩:=h.wrTy ok _ hm
  rw[h.cha]at ht;cases ht
 ·rcases gb g hg with e | e
  ·exact h.keep ok hb (h.gb g e) (by decide) (by decide) (by decide) (by decide)
  ·exact e
theorem TX.mf (h:TX w0 K w tk nr at' next rs gl rv gv):K.gm≠K.gf:=ne_ty h.mac h.cal (by decide)
theorem TX.sub (h:TX w0 K w tk nr at' next rs gl rv gv) {S:List Nat} (hb:ButL S w w') (hS:∀g∈S,g∈twr K rv gv):ButL (twr K rv gv) w w':=hb.mono (fun g hg=>.inl (hS g hg))
theorem TX.call (ok:TKok w0 K) (h:TX w0 K w tk nr at' next rs gl rv gv) {at2 next2:Int} {rs2:List M.SD} (hb:ButL [K.gf] w w') (hc:CallAt w' K.gf (K.c at2 next2 gv rs2)) (hl:rs2.length=250):TX w0 K w' tk nr at2 next2 rs2 gl rv gv :=
 h.step ok (h.sub hb (fun g hg=>by simp at hg;subst hg;simp[twr])) (h.mac.but hb (by simp;exact h.mf)) hc (ORow.butn h.gu hb (fun g e hg=>by simp at hg;subst hg;exact own_ne h.gu h.cal (by decide) e)) (fun g hg=>.inl hg) (ORow.butn h.rc hb (fun g e hg=>by simp at hg;subst hg;exact own_ne h.rc h.cal (by decide) e)) hl
theorem TX.later (ok:TKok w0 K) (h:TX w0 K w tk nr at' next rs gl rv gv) (hb:Below w.heap.size w w'):TX w0 K w' tk nr at' next rs gl rv gv :=
 h.call ok (ButL.of_below hb) (h.cal.later hb) h.lr
theorem TX.ov (ok:TKok w0 K) (h:TX w0 K w tk nr at' next rs gl rv gv):OvV w (some K.ov):=ok.ovr.later h.bel
end
end Go.Proofs.YtkajknidfoelcaaGreatDoor.T
namespace Go.Proofs.YtkajknidfoelcaaGreatDoor.U
open Go.RowKit M T
structure UK where
 gm:Nat
 gf:Nat
 gt:Nat
 gc:Nat
 gk:Nat
 gch:Nat
 cc:Nat
 ca:Array Value
 ka:Array Value
 bp:Nat
 op:Nat
 capP:Nat
 ov:Addr
 m0:MachD
 c0:CallD
def UK.m (K:UK) (z:Int) (rv:Value):MachD:={ K.m0 with rticks:=z,recs:=rv }
def UK.c (K:UK) (ln at' next:Int) (gv:Value) (rs:List M.SD):CallD:={ K.c0 with line:=ln,at':=at',next:=next,guards:=gv,regs:=rs }
structure UKok (w0:World) (K:UK):Prop where
 geM:w0.heap.size≤K.gm
 geF:w0.heap.size≤K.gf
 run:K.m0.running=.pointer (some ⟨K.gt,0,none⟩)
 wat:K.m0.watch=.func (.func 19) #[] #[]
 prs:K.m0.protos=.slice (some ⟨K.bp,K.op,none⟩) 1 K.capP
 nam:w0.cell? ⟨K.bp,K.op,none⟩=some (.string ⟨#[109,97,105,110]⟩)
 pro:K.c0.proto=0
 ovr:OvV w0 (some K.ov)
 tic:0≤K.m0.ticks∧K.m0.ticks≤5000
 ca0:K.ca[0]?=some (.pointer (some ⟨K.gf,0,none⟩))
 cc1:1≤K.cc
structure UX (w0:World) (K:UK) (w:World) (tk:Nat) (xs:List RcD) (ln at' next:Int) (rs:List M.SD) (gl:List (Nat × Int)) (rv gv:Value):Prop where
 bel:Below w0.heap.size w0 w
 mac:MachAt w K.gm (K.m tk rv)
 cal:CallAt w K.gf (K.c ln at' next gv rs)
 tsk:w.heap[K.gt]?=some (.cells (taskA (.slice (some ⟨K.gc,0,none⟩) 1 K.cc) K.gch 2) 149)
 cro:w.heap[K.gc]?=some (.cells K.ca 150)
 row:w.heap[K.gk]?=some (.cells K.ka 99)
 cha:w.heap[K.gch]?=some (.chan 0 #[] false 0 0 false)
 gu:ORow w w0.heap.size 322 1 vC gv (gl.map fun g=>caV g.1)
 gb:∀g∈gl,w.heap[g.1]?=some (CtO g.2 0)
 rc:ORow w w0.heap.size 113 5 rgC rv xs
 lr:rs.length=250
section
variable {w0:World} {K:UK} {w w':World} {tk:Nat} {xs:List RcD} {ln at' next:Int} {rs:List M.SD} {gl:List (Nat × Int)} {rv gv:Value}
def twr (K:UK) (rv gv:Value):List Nat:=K.gm :: K.gf :: (gv.ownBlock.toList++rv.ownBlock.toList)
theorem UX.wrTy (ok:UKok w0 K) (h:UX w0 K w tk xs ln at' next rs gl rv gv):∀g∈twr K rv gv,w0.heap.size≤g∧∃a t,w.heap[g]?=some (.cells a t)∧(t=111∨t=214∨t=322∨t=113):=by
 intro g hg
 simp only[twr,List.mem_cons,List.mem_append,Option.mem_toList]at hg
 rcases hg with rfl | rfl | hg | hg
 ·exact⟨ok.geM,_,_,h.mac,.inl rfl⟩
 ·exact⟨ok.geF,_,_,h.cal,.inr (.inl rfl)⟩
 ·obtain⟨h1,cur,h2⟩:=own_blk h.gu hg
  exact⟨h1,_,_,h2,.inr (.inr (.inl rfl))⟩
 ·obtain⟨h1,cur,h2⟩:=own_blk h.rc hg
  exact⟨h1,_,_,h2,.inr (.inr (.inr rfl))⟩
theorem UX.keep (ok:UKok w0 K) (h:UX w0 K w tk xs ln at' next rs gl rv gv) (hb:ButL (twr K rv gv) w w') {q:Nat} {b:Array Value} {u:TypeId} (hq:w.heap[q]?=some (.cells b u)) (n1:u≠111) (n2:u≠214) (n3:u≠322) (n4:u≠113):w'.heap[q]?=some (.cells b u):=by
 refine hb.blk hq (fun hm=>?_)
 obtain⟨_,a,t,ht,hc⟩:=h.wrTy ok q hm
 rw[hq]at ht
 injection ht with ht
 injection ht with _ ht
 subst ht
 rcases hc with e | e | e | e
 ·exact n1 e
 ·exact n2 e
 ·exact n3 e
 ·exact n4 e
theorem UX.step (ok:UKok w0 K) (h:UX w0 K w tk xs ln at' next rs gl rv gv) (hb:ButL (twr K rv gv) w w') {tk2:Nat} {xs2:List RcD} {ln2 at2 next2:Int} {rs2:List M.SD} {gl2:List (Nat × Int)} {rv2 gv2:Value}
  (mac:MachAt w' K.gm (K.m tk2 rv2)) (cal:CallAt w' K.gf (K.c ln2 at2 next2 gv2 rs2)) (gu:ORow w' w0.heap.size 322 1 vC gv2 (gl2.map fun g=>caV g.1)) (gb:∀g∈gl2,g∈gl∨w'.heap[g.1]?=some (CtO g.2 0)) (rc:ORow w' w0.heap.size 113 5 rgC rv2 xs2) (lr:rs2.length=250):UX w0 K w' tk2 xs2 ln2 at2 next2 rs2 gl2 rv2 gv2:=by
 refine⟨hb.below h.bel (fun g hg=>(h.wrTy ok g hg).1) h.bel.size,mac,cal,h.keep ok hb h.tsk (by decide) (by decide) (by decide) (by decide),h.keep ok hb h.cro (by decide) (by decide) (by decide) (by decide),h.keep ok hb h.row (by decide) (by decide) (by decide) (by decide),hb.blk h.cha (fun hm=>?_),gu,fun g hg=>?_,rc,lr⟩
 ·obtain⟨_,a,t,ht,_⟩:=h.wrTy ok _ hm
  rw[h.cha]at ht;cases ht
 ·rcases gb g hg with e | e
  ·exact h.keep ok hb (h.gb g e) (by decide) (by decide) (by decide) (by decide)
  ·exact e
theorem UX.mf (h:UX w0 K w tk xs ln at' next rs gl rv gv):K.gm≠K.gf:=ne_ty h.mac h.cal (by decide)
theorem UX.sub (h:UX w0 K w tk xs ln at' next rs gl rv gv) {S:List Nat} (hb:ButL S w w') (hS:∀g∈S,g∈twr K rv gv):ButL (twr K rv gv) w w':=hb.mono (fun g hg=>.inl (hS g hg))
theorem UX.call (ok:UKok w0 K) (h:UX w0 K w tk xs ln at' next rs gl rv gv) {ln2 at2 next2:Int} {rs2:List M.SD} (hb:ButL [K.gf] w w') (hc:CallAt w' K.gf (K.c ln2 at2 next2 gv rs2)) (hl:rs2.length=250):UX w0 K w' tk xs ln2 at2 next2 rs2 gl rv gv :=
 h.step ok (h.sub hb (fun g hg=>by simp at hg;subst hg;simp[twr])) (h.mac.but hb (by simp;exact h.mf)) hc (ORow.butn h.gu hb (fun g e hg=>by simp at hg;subst hg;exact own_ne h.gu h.cal (by decide) e)) (fun g hg=>.inl hg) (ORow.butn h.rc hb (fun g e hg=>by simp at hg;subst hg;exact own_ne h.rc h.cal (by decide) e)) hl
theorem UX.mach (ok:UKok w0 K) (h:UX w0 K w tk xs ln at' next rs gl rv gv) {tk2:Nat} (hb:ButL [K.gm] w w') (hm:MachAt w' K.gm (K.m tk2 rv)):UX w0 K w' tk2 xs ln at' next rs gl rv gv :=
 h.step ok (h.sub hb (fun g hg=>by simp at hg;subst hg;simp[twr])) hm (h.cal.but hb (by simp;exact h.mf.symm)) (ORow.butn h.gu hb (fun g e hg=>by simp at hg;subst hg;exact own_ne h.gu h.mac (by decide) e)) (fun g hg=>.inl hg) (ORow.butn h.rc hb (fun g e hg=>by simp at hg;subst hg;exact own_ne h.rc h.mac (by decide) e)) h.lr
theorem UX.later (ok:UKok w0 K) (h:UX w0 K w tk xs ln at' next rs gl rv gv) (hb:Below w.heap.size w w'):UX w0 K w' tk xs ln at' next rs gl rv gv :=
 h.call ok (ButL.of_below hb) (h.cal.later hb) h.lr
theorem UX.recd (ok:UKok w0 K) (h:UX w0 K w tk xs ln at' next rs gl rv gv) {rv2:Value} {x:RcD} (hb:ButL (K.gm :: rv.ownBlock.toList) w w') (hm:MachAt w' K.gm (K.m tk rv2)) (hr:ORow w' w0.heap.size 113 5 rgC rv2 (xs++[x])):UX w0 K w' tk (xs++[x]) ln at' next rs gl rv2 gv:=by
 refine h.step ok (h.sub hb (fun g hg=>?_)) hm (h.cal.but hb ?_) (ORow.butn h.gu hb (fun g e hg=>?_)) (fun g hg=>.inl hg) hr h.lr
 ·simp only[List.mem_cons,Option.mem_toList]at hg
  simp only[twr,List.mem_cons,List.mem_append,Option.mem_toList]
  rcases hg with e | e
  ·exact .inl e
  ·exact .inr (.inr (.inr e))
 ·simp only[List.mem_cons,Option.mem_toList,not_or]
  exact⟨h.mf.symm,own_ne h.rc h.cal (by decide)⟩
 ·simp only[List.mem_cons,Option.mem_toList]at hg
  rcases hg with rfl | hg
  ·exact own_ne h.gu h.mac (by decide) e
  ·obtain⟨_,cur,h2⟩:=own_blk h.rc hg
   exact own_ne h.gu h2 (by decide) e
theorem UX.guard (ok:UKok w0 K) (h:UX w0 K w tk xs ln at' next rs gl rv gv) {gv2:Value} {gl2:List (Nat × Int)} (hb:ButL (K.gf :: gv.ownBlock.toList) w w') (hc:CallAt w' K.gf (K.c ln at' next gv2 rs)) (hg2:ORow w' w0.heap.size 322 1 vC gv2 (gl2.map fun g=>caV g.1)) (gb:∀g∈gl2,g∈gl∨w'.heap[g.1]?=some (CtO g.2 0)):UX w0 K w' tk xs ln at' next rs gl2 rv gv2:=by
 refine h.step ok (h.sub hb (fun g hg=>?_)) (h.mac.but hb ?_) hc hg2 gb (ORow.butn h.rc hb (fun g e hg=>?_)) h.lr
 ·simp only[List.mem_cons,Option.mem_toList]at hg
  simp only[twr,List.mem_cons,List.mem_append,Option.mem_toList]
  rcases hg with e | e
  ·exact .inr (.inl e)
  ·exact .inr (.inr (.inl e))
 ·simp only[List.mem_cons,Option.mem_toList,not_or]
  exact⟨h.mf,own_ne h.gu h.mac (by decide)⟩
 ·simp only[List.mem_cons,Option.mem_toList]at hg
  rcases hg with rfl | hg
  ·exact own_ne h.rc h.cal (by decide) e
  ·obtain⟨_,cur,h2⟩:=own_blk h.gu hg
   exact own_ne h.rc h2 (by decide) e
theorem UX.tka (ok:UKok w0 K) (h:UX w0 K w tk xs ln at' next rs gl rv gv):TkAt w K.gt K.gc K.gf :=
 ⟨⟨K.cc,by rw[blk_cell h.tsk];rfl,ok.cc1⟩,by rw[blk_cell h.tsk];rfl,by rw[blk_cell h.cro];exact ok.ca0⟩
theorem UX.thr (ok:UKok w0 K) (h:UX w0 K w tk xs ln at' next rs gl rv gv) (h0:ln=0):ThR w K.gm K.gt K.gc K.gf K.bp K.op K.capP (K.m tk rv) (K.c ln at' next gv rs) :=
 ⟨h.mac,ok.run,h.tka ok,h.cal,ok.pro,h0,ok.prs,cell_later h.bel ok.nam⟩
theorem UX.ov (ok:UKok w0 K) (h:UX w0 K w tk xs ln at' next rs gl rv gv):OvV w (some K.ov):=ok.ovr.later h.bel
theorem UX.both (ok:UKok w0 K) (h:UX w0 K w tk xs ln at' next rs gl rv gv) {tk2:Nat} {ln2 at2 next2:Int} {rs2:List M.SD} (hb:ButL [K.gm,K.gf] w w') (hm:MachAt w' K.gm (K.m tk2 rv)) (hc:CallAt w' K.gf (K.c ln2 at2 next2 gv rs2)) (hl:rs2.length=250):UX w0 K w' tk2 xs ln2 at2 next2 rs2 gl rv gv:=by
 refine h.step ok (h.sub hb (fun g hg=>?_)) hm hc (ORow.butn h.gu hb (fun g e hg=>?_)) (fun g hg=>.inl hg) (ORow.butn h.rc hb (fun g e hg=>?_)) hl
 ·simp only[List.mem_cons,List.not_mem_nil,or_false]at hg
  simp only[twr,List.mem_cons]
  rcases hg with e | e
  ·exact .inl e
  ·exact .inr (.inl e)
 ·simp only[List.mem_cons,List.not_mem_nil,or_false]at hg
  rcases hg with rfl | rfl
  ·exact own_ne h.gu h.mac (by decide) e
  ·exact own_ne h.gu h.cal (by decide) e
 ·simp only[List.mem_cons,List.not_mem_nil,or_false]at hg
  rcases hg with rfl | rfl
  ·exact own_ne h.rc h.mac (by decide) e
  ·exact own_ne h.rc h.cal (by decide) e
end
end Go.Proofs.YtkajknidfoelcaaGreatDoor.U
