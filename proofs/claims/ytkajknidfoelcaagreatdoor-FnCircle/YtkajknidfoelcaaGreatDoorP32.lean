import Derived.Test.YtkajknidfoelcaaGreatDoorP28
import Derived.Test.YtkajknidfoelcaaGreatDoorP08
set_option linter.unusedVariables false
set_option linter.unusedSimpArgs false
set_option maxRecDepth 20000
set_option maxHeartbeats 8000000
namespace Go.Proofs.YtkajknidfoelcaaGreatDoor.M
open Go.RowKit
attribute [local go_sem] run_store_float
def vC (v:Value):List Value:=[v]
theorem vC_len (v:Value):(vC v).length=1:=rfl
abbrev CaO (n:ID) (l:Int):Obj:=.cells #[.int .i64 n.b,.int .i64 n.a,.int .i64 l] 276
def caV (gn:Nat):Value:=.iface 272 (.pointer (some ⟨gn,0,none⟩))
theorem ORow.drew {α:Type} {w:World} {B:Nat} {et:TypeId} {k:Nat} {cells:α→List Value} {sv:Value} {xs:List α} (h:ORow w B et k cells sv xs):ORow w.drew B et k cells sv xs:=h
theorem doTry_any (pm:Value) (B g:Nat) (n:ID) (c:CallD) (vs:List Value) (w:World) (h:CallAt w g c) (ho:ORow w B 322 1 vC c.guards vs) (hl:vs.length≤1000) (hB:B≤w.heap.size) :
  Calls Tryz.prog 102 #[pm,.pointer (some ⟨g,0,none⟩),insV n] w fun e w'=>e=.returned .nilIface∧∃gv gn,CallAt w' g { c with guards:=gv }∧ORow w' B 322 1 vC gv (vs++[caV gn])∧w.heap.size≤gn∧w'.heap[gn]?=some (CaO n c.line)∧ButL (g :: c.guards.ownBlock.toList) w w':=by
 obtain⟨op,a,b,cc,d⟩:=n
 dsimp only[insV]
 obtain⟨ag,cg,hgv⟩:=ho.val
 obtain⟨W,hW⟩:∃W,w.alloc (InO ⟨op,a,b,cc,d⟩)=W:=⟨_,rfl⟩
 have hb:=bw1 w (InO ⟨op,a,b,cc,d⟩)
 have bn:=blk_new w (InO ⟨op,a,b,cc,d⟩)
 have hsz:W.heap.size=w.heap.size+1:=by rw[←hW];simp
 rw[hW]at hb bn
 have h':CallAt W g c:=h.later hb
 have hgl:=blk_lt h
 have c12:W.cell? ⟨g,12,none⟩=some (.slice ag vs.length cg):=by rw[h'.cell 12 (by omega),←hgv];rfl
 have c11:W.cell? ⟨g,11,none⟩=some (.int .i64 c.line):=by rw[h'.cell 11 (by omega)];rfl
 have d1:W.cell? ⟨w.heap.size,1,none⟩=some (.int .i64 a):=by rw[blk_cell bn];rfl
 have d2:W.cell? ⟨w.heap.size,2,none⟩=some (.int .i64 b):=by rw[blk_cell bn];rfl
 have hb2:=bw2 W (CaO ⟨op,a,b,cc,d⟩ c.line) (.cells #[caV (w.heap.size+1)] 322)
 have ho2:=ORow.drew ((ho.later hb).later hb2)
 rw[hgv]at ho2
 obtain⟨g',cap',w2,hr,ho3,hg3⟩:=ho2.app 208 16 Tryz.underlying208 (by kernel_rfl) (by omega) (by omega) (caV (w.heap.size+1)) (w.heap.size+1+1) 208 (show ((W.alloc (CaO ⟨op,a,b,cc,d⟩ c.line)).alloc (.cells #[caV (w.heap.size+1)] 322)).heap[w.heap.size+1+1]?=_ from blk_newn (by simp;omega) _) rfl (by intro u hu;simp[vC]at hu;subst hu;rfl) (by omega) (by simp;omega)
 have hne:(Value.slice ag vs.length cg).ownBlock≠some g:=by
  intro e
  rw[hgv]at ho
  rcases ho.2 with ⟨e1,_⟩ | ⟨g0,c0,cur,e1,_,e3,_⟩
  ·rw[e1]at e;cases e
  ·rw[e1]at e;have e':g0=g:=Option.some.inj e;subst e';rw[show w.heap[g0]?=_ from h]at e3;cases e3
 have hx:∀(q:Nat) o,((W.alloc (CaO ⟨op,a,b,cc,d⟩ c.line)).alloc (.cells #[caV (w.heap.size+1)] 322)).heap[q]?=some o→(Value.slice ag vs.length cg).ownBlock≠some q→w2.heap[q]?=some o:=fun q o hq hn=>(hg3.block q (blk_lt hq) (fun e=>hn e.symm)).trans hq
 have h2:CallAt w2 g c:=hx g _ (blk_old (blk_old h' _) _) hne
 have p12:w2.cell? ⟨g,12,none⟩=some (.slice ag vs.length cg):=by rw[h2.cell 12 (by omega),←hgv];rfl
 have z2:=blk_frozen h2
 have hn2:w2.heap[w.heap.size+1]?=some (CaO ⟨op,a,b,cc,d⟩ c.line):=hx _ _ (blk_old (blk_newn (by omega) _) _) (fun e=>by
  rw[hgv]at ho
  rcases ho.2 with ⟨e1,_⟩ | ⟨g0,c0,cur,e1,_,e3,_⟩
  ·rw[e1]at e;cases e
  ·rw[e1]at e;have e':g0=w.heap.size+1:=Option.some.inj e;have:=blk_lt e3;omega)
 have HE:Hid (CallAt (w2.setCell ⟨g,12,none⟩ (.slice (some ⟨g',0,none⟩) (vs.length+1) cap')) g { c with guards:=.slice (some ⟨g',0,none⟩) (vs.length+1) cap' }∧ORow (w2.setCell ⟨g,12,none⟩ (.slice (some ⟨g',0,none⟩) (vs.length+1) cap')) B 322 1 vC (.slice (some ⟨g',0,none⟩) (vs.length+1) cap') (vs++[caV (w.heap.size+1)])∧w.heap.size≤w.heap.size+1∧(w2.setCell ⟨g,12,none⟩ (.slice (some ⟨g',0,none⟩) (vs.length+1) cap')).heap[w.heap.size+1]?=some (CaO ⟨op,a,b,cc,d⟩ c.line)∧ButL (g :: c.guards.ownBlock.toList) w (w2.setCell ⟨g,12,none⟩ (.slice (some ⟨g',0,none⟩) (vs.length+1) cap'))):=by
  refine⟨?_,ORow.set_own ho3 (fun e=>?_) _ _,by omega,blk_other hn2 (by omega) _ _,?_⟩
  ·have:=blk_set h2 12 (.slice (some ⟨g',0,none⟩) (vs.length+1) cap')
   rw[CallD.set_guards]at this
   exact this
  ·have e':g'=g:=Option.some.inj e
   subst e'
   rcases ho3.2 with ⟨e1,_⟩ | ⟨g0,c0,cur,e1,_,e3,_⟩
   ·cases e1
   ·injection e1 with e1 _ _;injection e1 with e1;injection e1 with e1;subst e1;rw[show w2.heap[g']?=_ from h2]at e3;cases e3
  ·refine ButL.set ?_ (by simp) _ _
   rw[hgv]
   refine ButL.grown (((ButL.of_below hb).thenB hb2).drew) hg3 (fun q e=>.inl (by rw[e];simp))
 have c12a:(W.alloc (CaO ⟨op,a,b,cc,d⟩ c.line)).cell? ⟨g,12,none⟩=some (.slice ag vs.length cg):=cell_later (bw1 _ _) c12
 have c12b:((W.alloc (CaO ⟨op,a,b,cc,d⟩ c.line)).alloc (.cells #[.iface 272 (.pointer (some ⟨w.heap.size+1,0,none⟩))] 322)).cell? ⟨g,12,none⟩=some (.slice ag vs.length cg):=cell_later (bw1 _ _) c12a
 have HR:Hid _:=hr
 clear hr ho3 hg3 hx h2 hn2 ho2 hb2 ho h' h bn hb
 go_enter Tryz.func102,Tryz.ntmps102
 go_wp2_with fail
 clear hW
 go_region_law (refine step_append_run rfl _ _ _ rfl _ _ _ _ rfl rfl HR.out ?_)
 all_goals
  go_wp2_with fail
  go_ret
  exact⟨rfl,_,w.heap.size+1,HE.out⟩
end Go.Proofs.YtkajknidfoelcaaGreatDoor.M
