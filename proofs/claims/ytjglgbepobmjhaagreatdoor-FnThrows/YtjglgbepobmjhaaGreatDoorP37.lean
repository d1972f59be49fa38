import Derived.Test.YtjglgbepobmjhaaGreatDoorP36
import Derived.Test.YtjglgbepobmjhaaGreatDoorP33
import Derived.Test.YtjglgbepobmjhaaGreatDoorP11
import Derived.Test.YtjglgbepobmjhaaGreatDoorP34
import Derived.LaidEql
import Derived.Test.YtjglgbepobmjhaaGreatDoorP12
set_option linter.unusedVariables false
set_option linter.unusedSimpArgs false
set_option maxRecDepth 20000
set_option maxHeartbeats 8000000
namespace Go.Proofs.YtjglgbepobmjhaaGreatDoor.T
open Go.RowKit M
attribute [local go_sem] run_store_float
theorem CallD.set_line (c:CallD) (z:Int):c.arr.setIfInBounds 11 (.int .i64 z)={ c with line:=z }.arr:=by
 unfold CallD.arr;rw[List.setIfInBounds_toArray];rfl
abbrev CtO (h l:Int):Obj:=.cells #[.int .i64 4,.int .i64 h,.int .i64 l] 273
theorem tk_but {w w':World} {S:List Nat} {gt gc gf:Nat} {ta ca:Array Value} {ut uc:TypeId} (h:TkAt w gt gc gf) (ht:w.heap[gt]?=some (.cells ta ut)) (hc:w.heap[gc]?=some (.cells ca uc)) (hb:ButL S w w') (n1:gt∉S) (n2:gc∉S):TkAt w' gt gc gf:=by
 have ht':=hb.blk ht n1
 have hc':=hb.blk hc n2
 obtain⟨⟨cap,h1,h2⟩,h3,h4⟩:=h
 refine⟨⟨cap,?_,h2⟩,?_,?_⟩
 ·rw[blk_cell ht'] ;rw[blk_cell ht]at h1;exact h1
 ·rw[blk_cell ht'] ;rw[blk_cell ht]at h3;exact h3
 ·rw[blk_cell hc'] ;rw[blk_cell hc]at h4;exact h4
def hcD (c:CallD) (hd:Int):CallD:={ c with line:=0,at':=hd,next:=hd }
theorem handle_go (gm gt gc gf gn gr:Nat) (hd:Int) (s:ByteArray) (m:MachD) (c:CallD) (ta ca:Array Value) (S:List Nat) (Q:World→World→Prop) (w:World) (hm:MachAt w gm m) (hrn:m.running=.pointer (some ⟨gt,0,none⟩)) (htk:TkAt w gt gc gf) (ht:w.heap[gt]?=some (.cells ta 145)) (hcr:w.heap[gc]?=some (.cells ca 146))
  (hc:CallAt w gf c) (hlow:Low c) (hp:c.proto=0) (hn:w.heap[gn]?=some (CtO hd 0)) (hr:w.heap[gr]?=some (ThO s)) (s1:gf∉S) (s2:gn∉S) (s3:gr∉S)
  (HQ:∀wk,ButL [gf] w wk→CallAt wk gf (hcD c hd)→Calls Tryz.prog 219 #[.pointer (some ⟨gm,0,none⟩),.agg #[.int .i64 5,.int .i64 0,.int .i64 0,.int .i64 0,.string ⟨#[55]⟩]] wk fun e w'=>e=.returned .nilIface∧ButL S wk w'∧Q wk w') :
  Calls Tryz.prog 208 #[.pointer (some ⟨gm,0,none⟩),.pointer (some ⟨gf,0,none⟩),.pointer (some ⟨gn,0,none⟩),.pointer (some ⟨gr,0,none⟩)] w fun e w'=>e=.returned .nilIface∧∃wk w5,ButL [gf] w wk∧CallAt wk gf (hcD c hd)∧ButL S wk w5∧Q wk w5∧CallAt w' gf { hcD c hd with regs:=(c.regs.set 4 (sdV (intD 7))).set 5 (sdV (strD s)) }∧ButL [gf] w5 w':=by
 have k0:w.cell? ⟨gn,0,none⟩=some (.int .i64 4):=by rw[blk_cell hn];rfl
 have HC:Hid (CallAt w gf c):=hc
 have HM:Hid (MachAt w gm m):=hm
 have HT:Hid (TkAt w gt gc gf):=htk
 have HN:Hid (w.heap[gn]?=some (CtO hd 0)):=hn
 have HR:Hid (w.heap[gr]?=some (ThO s)):=hr
 have HTa:Hid (w.heap[gt]?=some (.cells ta 145)):=ht
 have HCa:Hid (w.heap[gc]?=some (.cells ca 146)):=hcr
 have HQ':Hid (∀wk,ButL [gf] w wk→CallAt wk gf (hcD c hd)→Calls Tryz.prog 219 #[.pointer (some ⟨gm,0,none⟩),.agg #[.int .i64 5,.int .i64 0,.int .i64 0,.int .i64 0,.string ⟨#[55]⟩]] wk fun e w'=>e=.returned .nilIface∧ButL S wk w'∧Q wk w'):=HQ
 clear hc hn hr hm htk ht hcr HQ
 go_enter Tryz.func208,Tryz.ntmps208
 go_wp2_with fail
 refine (empty_any gn gf c _ k0 HC.out hlow).mono ?_
 rintro e w1 ⟨rfl,hc1,hb1⟩
 have hn1:w1.heap[gn]?=some (CtO hd 0):=hb1.blk HN.out (by simp;exact ne_ty HN.out HC.out (by decide))
 have n0:w1.cell? ⟨gn,0,none⟩=some (.int .i64 4):=by rw[blk_cell hn1];rfl
 have n1:w1.cell? ⟨gn,1,none⟩=some (.int .i64 hd):=by rw[blk_cell hn1];rfl
 have n2:w1.cell? ⟨gn,2,none⟩=some (.int .i64 0):=by rw[blk_cell hn1];rfl
 have c9:w1.cell? ⟨gf,9,none⟩=some (.int .i64 c.at'):=by rw[hc1.cell 9 (by omega)];rfl
 have c10:w1.cell? ⟨gf,10,none⟩=some (.int .i64 c.next):=by rw[hc1.cell 10 (by omega)];rfl
 have c11:w1.cell? ⟨gf,11,none⟩=some (.int .i64 c.line):=by rw[hc1.cell 11 (by omega)];rfl
 have z:=blk_frozen hc1
 obtain⟨W3,hW3⟩:∃W3,((w1.setCell ⟨gf,11,none⟩ (.int .i64 0)).setCell ⟨gf,9,none⟩ (.int .i64 hd)).setCell ⟨gf,10,none⟩ (.int .i64 hd)=W3:=⟨_,rfl⟩
 have hc3:CallAt W3 gf (hcD c hd):=by
  rw[←hW3]
  have h9:=blk_set (blk_set (blk_set hc1 11 (.int .i64 0)) 9 (.int .i64 hd)) 10 (.int .i64 hd)
  rw[CallD.set_line,CallD.set_at,CallD.set_next]at h9
  exact h9
 have hb3:ButL [gf] w W3:=by rw[←hW3];exact ((hb1.set (by simp) _ _).set (by simp) _ _).set (by simp) _ _
 have HC3:Hid (CallAt W3 gf (hcD c hd)):=hc3
 have HB3:Hid (ButL [gf] w W3):=hb3
 have HR3:Hid (W3.heap[gr]?=some (ThO s)):=hb3.blk HR.out (by simp;exact ne_ty HR.out HC.out (by decide))
 have HM3:Hid (MachAt W3 gm m):=HM.out.but hb3 (by simp;exact ne_ty HM.out HC.out (by decide))
 have HT3:Hid (TkAt W3 gt gc gf):=tk_but HT.out HTa.out HCa.out hb3 (by simp;exact ne_ty HTa.out HC.out (by decide)) (by simp;exact ne_ty HCa.out HC.out (by decide))
 clear hc1 hb1 k0 hn1 hc3 hb3
 go_wp2_with fail
 go_region
 clear hW3 n0 n1 n2 c9 c10 c11 z
 have r0:W3.cell? ⟨gr,0,none⟩=some (.int .i64 2):=by rw[blk_cell HR3.out];rfl
 have r1:W3.cell? ⟨gr,1,none⟩=some (.int .i64 7):=by rw[blk_cell HR3.out];rfl
 have r2:W3.cell? ⟨gr,2,none⟩=some (.float .f64 0):=by rw[blk_cell HR3.out];rfl
 have r3:W3.cell? ⟨gr,3,none⟩=some (.string ⟨#[]⟩):=by rw[blk_cell HR3.out];rfl
 have r4:W3.cell? ⟨gr,4,none⟩=some (.int .i64 0):=by rw[blk_cell HR3.out];rfl
 have c11:W3.cell? ⟨gf,11,none⟩=some (.int .i64 0):=by rw[HC3.out.cell 11 (by omega)];rfl
 go_wp2_with fail
 go_cut [9] from 36 to 47 (fun s9 wx=>∃wk,s9=.nilIface∧Hid (ButL [gf] w wk∧CallAt wk gf (hcD c hd)∧ButL S wk wx∧Q wk wx))
 case first =>
  go_region_with (first | (go_at_call 52;refine (told7 _ _).mono ?_;rintro e w4 ⟨rfl,hx4⟩;have HX4:Hid (Below W3.heap.size W3 w4):=⟨hx4.os,hx4.tape,hx4.output,hx4.size,hx4.block⟩;have d11:w4.cell? ⟨gf,11,none⟩=some (.int .i64 0):=cell_later HX4.out c11;clear hx4) | (go_at_call 159;refine (tell_any gm gt gc gf 5 m (hcD c hd) .nilIface (fun w'=>∃n,ButL S (w4.drewN n) w'∧Q (w4.drewN n) w') w4 (HM3.out.later HX4.out) hrn (HT3.out.later HX4.out) (HC3.out.later HX4.out) hp (fun n=>(HQ'.out (w4.drewN n) ((HB3.out.thenB HX4.out).drewN n) ((HC3.out.later HX4.out).drewN n)).mono (fun e w' h=>⟨h.1,n,h.2⟩))).mono ?_;rintro e w5 ⟨rfl,n5,hq⟩;have HQ5:Hid (ButL S (w4.drewN n5) w5∧Q (w4.drewN n5) w5):=hq;clear hq))
  all_goals
   skip
   go_wp2_with fail
   go_meet
   exact⟨w4.drewN n5,rfl,(HB3.out.thenB HX4.out).drewN n5,(HC3.out.later HX4.out).drewN n5,HQ5.out⟩
 case rest =>
  obtain⟨wk,rfl,HK⟩:=hcut
  clear r0 r1 r2 r3 r4 c11
  obtain⟨w5v,rfl⟩:∃w5v,w5v=wc:=⟨_,rfl⟩
  have hb5:=HK.out.2.2.1
  have hr5:w5v.heap[gr]?=some (ThO s):=hb5.blk (HK.out.1.blk HR.out (by simp;exact ne_ty HR.out HC.out (by decide))) s3
  have hn5:w5v.heap[gn]?=some (CtO hd 0):=hb5.blk (HK.out.1.blk HN.out (by simp;exact ne_ty HN.out HC.out (by decide))) s2
  have hc5:CallAt w5v gf (hcD c hd):=HK.out.2.1.but hb5 s1
  have HR5:Hid (w5v.heap[gr]?=some (ThO s)):=hr5
  have HN5:Hid (w5v.heap[gn]?=some (CtO hd 0)):=hn5
  have HC5:Hid (CallAt w5v gf (hcD c hd)):=hc5
  have r0:w5v.cell? ⟨gr,0,none⟩=some (.int .i64 2):=by rw[blk_cell hr5];rfl
  have r1:w5v.cell? ⟨gr,1,none⟩=some (.int .i64 7):=by rw[blk_cell hr5];rfl
  have r2:w5v.cell? ⟨gr,2,none⟩=some (.float .f64 0):=by rw[blk_cell hr5];rfl
  have r3:w5v.cell? ⟨gr,3,none⟩=some (.string ⟨#[]⟩):=by rw[blk_cell hr5];rfl
  have r4:w5v.cell? ⟨gr,4,none⟩=some (.int .i64 0):=by rw[blk_cell hr5];rfl
  have n0:w5v.cell? ⟨gn,0,none⟩=some (.int .i64 4):=by rw[blk_cell hn5];rfl
  clear hb5 hr5 hn5 hc5
  go_wp2_with fail
  go_cut [] from 51 to 61 (fun wx=>Hid (CallAt wx gf { hcD c hd with regs:=c.regs.set 4 (sdV (intD 7)) }∧ButL [gf] w5v wx))
  case first =>
   go_region_with (go_at_call 126;refine (put_any gf 4 (intD 7) (hcD c hd) w5v.drew HC5.out hlow.1 (by omega)).mono ?_;rintro e w6 ⟨rfl,hc6,hb6⟩;have HC6:Hid (CallAt w6 gf { hcD c hd with regs:=c.regs.set 4 (sdV (intD 7)) }):=hc6;have HB6:Hid (ButL [gf] w5v w6):=hb6.undrew;clear hc6 hb6)
   all_goals
    go_wp2_with fail
    go_meet
    exact⟨HC6.out,HB6.out⟩
  case rest =>
   have HC6:Hid (CallAt wc gf { hcD c hd with regs:=c.regs.set 4 (sdV (intD 7)) }):=hcut.out.1
   have HB6:Hid (ButL [gf] w5v wc):=hcut.out.2
   have hr6:wc.heap[gr]?=some (ThO s):=HB6.out.blk HR5.out (by simp;exact ne_ty HR.out HC.out (by decide))
   have hn6:wc.heap[gn]?=some (CtO hd 0):=HB6.out.blk HN5.out (by simp;exact ne_ty HN.out HC.out (by decide))
   have q5:wc.cell? ⟨gr,5,none⟩=some (.string s):=by rw[blk_cell hr6];rfl
   have q0:wc.cell? ⟨gn,0,none⟩=some (.int .i64 4):=by rw[blk_cell hn6];rfl
   clear hr6 hn6 hcut r0 r1 r2 r3 r4 n0
   go_wp2_with fail
   go_region_with (first | (go_at_call 129;refine (strValue_any s _).mono ?_;rintro e w7 ⟨rfl,hx7⟩;have HX7:Hid (Below wc.heap.size wc w7):=und1' hx7;have t0:w7.cell? ⟨gn,0,none⟩=some (.int .i64 4):=cell_later HX7.out q0;clear hx7) | (go_at_call 126;refine (put_any gf 5 (strD s) { hcD c hd with regs:=c.regs.set 4 (sdV (intD 7)) } w7 (HC6.out.later HX7.out) (by show (c.regs.set 4 _).length=250;rw[List.length_set];exact hlow.1) (by omega)).mono ?_;rintro e w8 ⟨rfl,hc8,hb8⟩;have HC8:Hid (CallAt w8 gf { hcD c hd with regs:=(c.regs.set 4 (sdV (intD 7))).set 5 (sdV (strD s)) }):=hc8;have HB8:Hid (ButL [gf] w7 w8):=hb8;clear hc8 hb8))
   all_goals
    go_wp2_with fail
    go_ret
    exact⟨rfl,wk,w5v,HK.out.1,HK.out.2.1,HK.out.2.2.1,HK.out.2.2.2,HC8.out,(HB6.out.thenB HX7.out).trans HB8.out⟩
end Go.Proofs.YtjglgbepobmjhaaGreatDoor.T
namespace Go.Proofs.YtjglgbepobmjhaaGreatDoor.T
open Go.RowKit M
attribute [local go_sem] run_store_float
end Go.Proofs.YtjglgbepobmjhaaGreatDoor.T
namespace Go.Proofs.YtjglgbepobmjhaaGreatDoor.M
open Go.RowKit
attribute [local go_sem] run_store_float
def vC (v:Value):List Value:=[v]
theorem vC_len (v:Value):(vC v).length=1:=rfl
abbrev CaO (n:ID) (l:Int):Obj:=.cells #[.int .i64 n.b,.int .i64 n.a,.int .i64 l] 273
def caV (gn:Nat):Value:=.iface 269 (.pointer (some ⟨gn,0,none⟩))
theorem ORow.drew {α:Type} {w:World} {B:Nat} {et:TypeId} {k:Nat} {cells:α→List Value} {sv:Value} {xs:List α} (h:ORow w B et k cells sv xs):ORow w.drew B et k cells sv xs:=h
theorem doTry_any (pm:Value) (B g:Nat) (n:ID) (c:CallD) (vs:List Value) (w:World) (h:CallAt w g c) (ho:ORow w B 319 1 vC c.guards vs) (hl:vs.length≤1000) (hB:B≤w.heap.size) :
  Calls Tryz.prog 100 #[pm,.pointer (some ⟨g,0,none⟩),insV n] w fun e w'=>e=.returned .nilIface∧∃gv gn,CallAt w' g { c with guards:=gv }∧ORow w' B 319 1 vC gv (vs++[caV gn])∧w.heap.size≤gn∧w'.heap[gn]?=some (CaO n c.line)∧ButL (g :: c.guards.ownBlock.toList) w w':=by
 obtain⟨op,a,b,cc,d⟩:=n
 dsimp only[insV]
 obtain⟨ag,cg,hgv⟩:=ho.val
 obtain⟨W,hW⟩:∃W,w.alloc (InO ⟨op,a,b,cc,d⟩)=W:=⟨_,rfl⟩
 have hb:=bw1 w (InO ⟨op,a,b,cc,d⟩)
 have bn:=blk_new w (InO ⟨op,a,b,cc,d⟩)
 have hsz:W.heap.size=w.heap.size+1:=by rw[←hW];simp
 rw[hW]at hb bn
 have h':CallAt W g c:=h.later hb
 have hgl:=blk_lt h
 have c12:W.cell? ⟨g,12,none⟩=some (.slice ag vs.length cg):=by rw[h'.cell 12 (by omega),←hgv];rfl
 have c11:W.cell? ⟨g,11,none⟩=some (.int .i64 c.line):=by rw[h'.cell 11 (by omega)];rfl
 have d1:W.cell? ⟨w.heap.size,1,none⟩=some (.int .i64 a):=by rw[blk_cell bn];rfl
 have d2:W.cell? ⟨w.heap.size,2,none⟩=some (.int .i64 b):=by rw[blk_cell bn];rfl
 have hb2:=bw2 W (CaO ⟨op,a,b,cc,d⟩ c.line) (.cells #[caV (w.heap.size+1)] 319)
 have ho2:=ORow.drew ((ho.later hb).later hb2)
 rw[hgv]at ho2
 obtain⟨g',cap',w2,hr,ho3,hg3⟩:=ho2.app 204 16 Tryz.underlying204 (by kernel_rfl) (by omega) (by omega) (caV (w.heap.size+1)) (w.heap.size+1+1) 204 (show ((W.alloc (CaO ⟨op,a,b,cc,d⟩ c.line)).alloc (.cells #[caV (w.heap.size+1)] 319)).heap[w.heap.size+1+1]?=_ from blk_newn (by simp;omega) _) rfl (by intro u hu;simp[vC]at hu;subst hu;rfl) (by omega) (by simp;omega)
 have hne:(Value.slice ag vs.length cg).ownBlock≠some g:=by
  intro e
  rw[hgv]at ho
  rcases ho.2 with ⟨e1,_⟩ | ⟨g0,c0,cur,e1,_,e3,_⟩
  ·rw[e1]at e;cases e
  ·rw[e1]at e;have e':g0=g:=Option.some.inj e;subst e';rw[show w.heap[g0]?=_ from h]at e3;cases e3
 have hx:∀(q:Nat) o,((W.alloc (CaO ⟨op,a,b,cc,d⟩ c.line)).alloc (.cells #[caV (w.heap.size+1)] 319)).heap[q]?=some o→(Value.slice ag vs.length cg).ownBlock≠some q→w2.heap[q]?=some o:=fun q o hq hn=>(hg3.block q (blk_lt hq) (fun e=>hn e.symm)).trans hq
 have h2:CallAt w2 g c:=hx g _ (blk_old (blk_old h' _) _) hne
 have p12:w2.cell? ⟨g,12,none⟩=some (.slice ag vs.length cg):=by rw[h2.cell 12 (by omega),←hgv];rfl
 have z2:=blk_frozen h2
 have hn2:w2.heap[w.heap.size+1]?=some (CaO ⟨op,a,b,cc,d⟩ c.line):=hx _ _ (blk_old (blk_newn (by omega) _) _) (fun e=>by
  rw[hgv]at ho
  rcases ho.2 with ⟨e1,_⟩ | ⟨g0,c0,cur,e1,_,e3,_⟩
  ·rw[e1]at e;cases e
  ·rw[e1]at e;have e':g0=w.heap.size+1:=Option.some.inj e;have:=blk_lt e3;omega)
 have HE:Hid (CallAt (w2.setCell ⟨g,12,none⟩ (.slice (some ⟨g',0,none⟩) (vs.length+1) cap')) g { c with guards:=.slice (some ⟨g',0,none⟩) (vs.length+1) cap' }∧ORow (w2.setCell ⟨g,12,none⟩ (.slice (some ⟨g',0,none⟩) (vs.length+1) cap')) B 319 1 vC (.slice (some ⟨g',0,none⟩) (vs.length+1) cap') (vs++[caV (w.heap.size+1)])∧w.heap.size≤w.heap.size+1∧(w2.setCell ⟨g,12,none⟩ (.slice (some ⟨g',0,none⟩) (vs.length+1) cap')).heap[w.heap.size+1]?=some (CaO ⟨op,a,b,cc,d⟩ c.line)∧ButL (g :: c.guards.ownBlock.toList) w (w2.setCell ⟨g,12,none⟩ (.slice (some ⟨g',0,none⟩) (vs.length+1) cap'))):=by
  refine⟨?_,ORow.set_own ho3 (fun e=>?_) _ _,by omega,blk_other hn2 (by omega) _ _,?_⟩
  ·have:=blk_set h2 12 (.slice (some ⟨g',0,none⟩) (vs.length+1) cap')
   rw[CallD.set_guards]at this
   exact this
  ·have e':g'=g:=Option.some.inj e
   subst e'
   rcases ho3.2 with ⟨e1,_⟩ | ⟨g0,c0,cur,e1,_,e3,_⟩
   ·cases e1
   ·injection e1 with e1 _ _;injection e1 with e1;injection e1 with e1;subst e1;rw[show w2.heap[g']?=_ from h2]at e3;cases e3
  ·refine ButL.set ?_ (by simp) _ _
   rw[hgv]
   refine ButL.grown (((ButL.of_below hb).thenB hb2).drew) hg3 (fun q e=>.inl (by rw[e];simp))
 have c12a:(W.alloc (CaO ⟨op,a,b,cc,d⟩ c.line)).cell? ⟨g,12,none⟩=some (.slice ag vs.length cg):=cell_later (bw1 _ _) c12
 have c12b:((W.alloc (CaO ⟨op,a,b,cc,d⟩ c.line)).alloc (.cells #[.iface 269 (.pointer (some ⟨w.heap.size+1,0,none⟩))] 319)).cell? ⟨g,12,none⟩=some (.slice ag vs.length cg):=cell_later (bw1 _ _) c12a
 have HR:Hid _:=hr
 clear hr ho3 hg3 hx h2 hn2 ho2 hb2 ho h' h bn hb
 go_enter Tryz.func100,Tryz.ntmps100
 go_wp2_with fail
 clear hW
 go_region_law (refine step_append_run rfl _ _ _ rfl _ _ _ _ rfl rfl HR.out ?_)
 all_goals
  go_wp2_with fail
  go_ret
  exact⟨rfl,_,w.heap.size+1,HE.out⟩
end Go.Proofs.YtjglgbepobmjhaaGreatDoor.M
namespace Go.Proofs.YtjglgbepobmjhaaGreatDoor.T
open Go.RowKit M
attribute [local go_sem] run_store_float
theorem neq_to (p:Option Addr) (v:Value) (w:World):(binOp BinOp.neq 60 (.iface 142 (.pointer p)) (.iface 484 v)).run Tryz.prog w=.ok (.bool true) w:=by kernel_rfl
theorem info_of {P:Program} {t:TypeId} (h:(P.info? t).map (·.comparable)=some true):∃i,P.info? t=some i∧i.comparable=true:=by
 cases hq:P.info? t with
 | none=>rw[hq]at h;cases h
 | some i=>rw[hq]at h;exact⟨i,rfl,by simpa using h⟩
theorem neq_oo (a:Addr) (w:World):(binOp BinOp.neq 60 (.iface 484 (.pointer (some a))) (.iface 484 (.pointer (some a)))).run Tryz.prog w=.ok (.bool false) w:=by
 obtain⟨i,hi,hc⟩:=info_of (P:=Tryz.prog) (t:=484) (by kernel_rfl)
 obtain⟨j,hj,_⟩:=info_of (P:=Tryz.prog) (t:=506) (by kernel_rfl)
 have h:=run_equalIn_iface_ptr_same (P:=Tryz.prog) (w:=w) 9998 a Tryz.underlying60 Tryz.underlying484 hi hc hj
 simp only[binOp]
 simp[Op.equal,Op.maxDepth,h]
theorem ta_scope (v:Value) (w:World):(Instr.typeAssert (.iface 269 v) 319 274 true).run Tryz.prog w=.ok (.tuple #[.pointer none,.bool false]) w:=by kernel_rfl
theorem ta_catch (v:Value) (w:World):(Instr.typeAssert (.iface 269 v) 319 269 true).run Tryz.prog w=.ok (.tuple #[v,.bool true]) w:=by kernel_rfl
theorem ta_thrown (v:Value) (w:World):(Instr.typeAssert (.iface 142 v) 60 142 true).run Tryz.prog w=.ok (.tuple #[v,.bool true]) w:=by kernel_rfl
theorem innermost_any (gf ga cap gn:Nat) (c:CallD) (w:World) (h:CallAt w gf c) (hg:c.guards=.slice (some ⟨ga,0,none⟩) 1 cap) (hcap:1≤cap) (h0:w.cell? ⟨ga,0,none⟩=some (caV gn)) :
  Calls Tryz.prog 206 #[.pointer (some ⟨gf,0,none⟩)] w fun e w'=>e=.returned (caV gn)∧w'=w.drew:=by
 have c12:w.cell? ⟨gf,12,none⟩=some (.slice (some ⟨ga,0,none⟩) 1 cap):=by rw[h.cell 12 (by omega),←hg];rfl
 unfold caV at h0 ⊢
 clear h
 go_enter Tryz.func206,Tryz.ntmps206
 go_wp2_with fail
 go_region
 go_wp2_with fail
 go_ret
 exact⟨rfl,rfl⟩
theorem leave_over (pm:Value) (gf:Nat) (a:Addr) (w:World) (ho:OvV w (some a)) :
  Calls Tryz.prog 130 #[pm,.pointer (some ⟨gf,0,none⟩),ovI (some a)] w fun e w'=>e=.returned (ovI (some a))∧w'=w:=by
 have hv:w.cell? ⟨2,0,none⟩=some (.iface 484 (.pointer (some a))):=ho
 have hne:=neq_oo a
 unfold ovI
 clear ho
 go_enter Tryz.func130,Tryz.ntmps130
 go_wp2_with fail
 go_loopw [2] (fun s wr=>s=.iface 484 (.pointer (some a))∧wr=w) (fun _ _=>0)
 case atStart=>exact⟨rfl,rfl⟩
 case round =>
  obtain⟨rfl,rfl⟩:=hrel
  go_wp2_with fail
  go_ret
  exact⟨rfl,rfl⟩
theorem leave_catch (gm gf gn gr ga cap:Nat) (p:Option Addr) (c:CallD) (R:Value) (Q:World→World→Prop) (w:World) (h:CallAt w gf c) (hg:c.guards=.slice (some ⟨ga,0,none⟩) 1 cap) (hcap:1≤cap) (h0:w.cell? ⟨ga,0,none⟩=some (caV gn)) (ho:OvV w p)
  (HH:∀w2,ButL [gf] w w2→CallAt w2 gf { c with guards:=.slice (some ⟨ga,0,none⟩) 0 cap }→Calls Tryz.prog 208 #[.pointer (some ⟨gm,0,none⟩),.pointer (some ⟨gf,0,none⟩),.pointer (some ⟨gn,0,none⟩),.pointer (some ⟨gr,0,none⟩)] w2 fun e w'=>e=.returned R∧Q w2 w') :
  Calls Tryz.prog 130 #[.pointer (some ⟨gm,0,none⟩),.pointer (some ⟨gf,0,none⟩),.iface 142 (.pointer (some ⟨gr,0,none⟩))] w fun e w'=>e=.returned R∧∃w2,ButL [gf] w w2∧CallAt w2 gf { c with guards:=.slice (some ⟨ga,0,none⟩) 0 cap }∧Q w2 w':=by
 have hv:w.cell? ⟨2,0,none⟩=some (.iface 484 (.pointer p)):=ho
 have hne:=fun W=>neq_to (some ⟨gr,0,none⟩) (.pointer p) W
 have c12:w.cell? ⟨gf,12,none⟩=some (.slice (some ⟨ga,0,none⟩) 1 cap):=by rw[h.cell 12 (by omega),←hg];rfl
 have hts:=fun W=>ta_scope (.pointer (some ⟨gn,0,none⟩)) W
 have htc:=fun W=>ta_catch (.pointer (some ⟨gn,0,none⟩)) W
 have htt:=fun W=>ta_thrown (.pointer (some ⟨gr,0,none⟩)) W
 have HC:Hid (CallAt w gf c):=h
 have H0:Hid (w.cell? ⟨ga,0,none⟩=some (caV gn)):=h0
 have HH':Hid (∀w2,ButL [gf] w w2→CallAt w2 gf { c with guards:=.slice (some ⟨ga,0,none⟩) 0 cap }→Calls Tryz.prog 208 #[.pointer (some ⟨gm,0,none⟩),.pointer (some ⟨gf,0,none⟩),.pointer (some ⟨gn,0,none⟩),.pointer (some ⟨gr,0,none⟩)] w2 fun e w'=>e=.returned R∧Q w2 w'):=HH
 clear h h0 ho HH
 go_enter Tryz.func130,Tryz.ntmps130
 go_wp2_with fail
 go_loopw [2] (fun s wr=>s=.iface 142 (.pointer (some ⟨gr,0,none⟩))∧wr=w) (fun _ _=>0)
 case atStart=>exact⟨rfl,rfl⟩
 case round =>
  obtain⟨rfl,rfl⟩:=hrel
  go_wp2_with fail
  refine (innermost_any gf ga cap gn c _ HC.out hg hcap H0.out).mono ?_
  rintro e w1 ⟨rfl,rfl⟩
  unfold caV
  go_wp2_with fail
  refine (takeOff_any gf 0 cap (some ⟨ga,0,none⟩) c wr.drew HC.out hg (by omega) (by omega)).mono ?_
  rintro e w2 ⟨rfl,hc2,hb2⟩
  have HB2:Hid (ButL [gf] wr w2):=⟨hb2.os,hb2.tape,hb2.output,hb2.size,hb2.block⟩
  have HC2:Hid (CallAt w2 gf { c with guards:=.slice (some ⟨ga,0,none⟩) 0 cap }):=hc2
  clear hc2 hb2
  go_wp2_with fail
  refine (HH'.out w2 HB2.out HC2.out).mono ?_
  rintro e w3 ⟨rfl,hq⟩
  have HQ3:Hid (Q w2 w3):=hq
  clear hq
  go_wp2_with fail
  go_ret
  exact⟨rfl,w2,HB2.out,HC2.out,HQ3.out⟩
end Go.Proofs.YtjglgbepobmjhaaGreatDoor.T
namespace Go.Proofs.YtjglgbepobmjhaaGreatDoor.T
open Go.RowKit M
attribute [local go_sem] run_store_float
theorem doLoad_const (pm:Value) (g i cb co cn ccap:Nat) (v:VD) (n:ID) (c:CallD) (w:World) (h:CallAt w g c) (hr:c.regs.length=250) (hop:n.op=4) (ha:n.a=i) (hi:i<250) (hb0:n.b=0)
  (hcon:c.consts=.slice (some ⟨cb,co,none⟩) (cn+1) ccap) (hlt:cb<w.heap.size) (hcv:∀j u,v.cells[j]?=some u→w.cell? ⟨cb,co+j,none⟩=some u) :
  Calls Tryz.prog 81 #[pm,.pointer (some ⟨g,0,none⟩),insV n] w fun e w'=>e=.returned .nilIface∧CallAt w' g { c with regs:=c.regs.set i (sdV v) }∧ButL [g] w w':=by
 obtain⟨op,a,b,cc,d⟩:=n
 dsimp only[insV]at hop ha hb0 ⊢
 subst hop ha hb0
 obtain⟨W,hW⟩:∃W,(w.alloc (InO ⟨4,i,0,cc,d⟩)).alloc ZvO=W:=⟨_,rfl⟩
 have hb:Below w.heap.size w W:=by rw[←hW];exact bw2 _ _ _
 have b0:W.heap[w.heap.size]?=some (InO ⟨4,i,0,cc,d⟩):=by rw[←hW];exact blk_old (blk_new _ _) _
 have b1:W.heap[w.heap.size+1]?=some ZvO:=by rw[←hW];exact blk_newn (by simp) _
 have h':=h.later hb
 have hgl:=blk_lt h
 have c7:W.cell? ⟨g,7,none⟩=some (.slice (some ⟨cb,co,none⟩) (cn+1) ccap):=by rw[h'.cell 7 (by omega),←hcon];rfl
 have d0:W.cell? ⟨w.heap.size,0,none⟩=some (.int .i64 4):=by rw[blk_cell b0];rfl
 have d1:W.cell? ⟨w.heap.size,1,none⟩=some (.int .i64 (i:Int)):=by rw[blk_cell b0];rfl
 have d2:W.cell? ⟨w.heap.size,2,none⟩=some (.int .i64 0):=by rw[blk_cell b0];rfl
 have r0:W.cell? ⟨w.heap.size+1,0,none⟩=some (.int .i64 0):=by rw[blk_cell b1];rfl
 have r1:W.cell? ⟨w.heap.size+1,1,none⟩=some (.int .i64 0):=by rw[blk_cell b1];rfl
 have r2:W.cell? ⟨w.heap.size+1,2,none⟩=some (.float .f64 0):=by rw[blk_cell b1];rfl
 have r3:W.cell? ⟨w.heap.size+1,3,none⟩=some (.string ⟨#[]⟩):=by rw[blk_cell b1];rfl
 have r4:W.cell? ⟨w.heap.size+1,4,none⟩=some (.int .i64 0):=by rw[blk_cell b1];rfl
 have z1:=blk_frozen b1
 have k0:W.cell? ⟨cb,co,none⟩=some (.int .i64 v.k):=cell_later hb (hcv 0 _ rfl)
 have k1:W.cell? ⟨cb,co+1,none⟩=some (.int .i64 v.n):=cell_later hb (hcv 1 _ rfl)
 have k2:W.cell? ⟨cb,co+2,none⟩=some (.float .f64 v.f):=cell_later hb (hcv 2 _ rfl)
 have k3:W.cell? ⟨cb,co+3,none⟩=some (.string v.s):=cell_later hb (hcv 3 _ rfl)
 have k4:W.cell? ⟨cb,co+4,none⟩=some (.int .i64 v.r):=cell_later hb (hcv 4 _ rfl)
 have hne:w.heap.size+1≠g:=by omega
 obtain⟨W5,hW5⟩:∃W5,((((W.setCell ⟨w.heap.size+1,0,none⟩ (.int .i64 v.k)).setCell ⟨w.heap.size+1,1,none⟩ (.int .i64 v.n)).setCell ⟨w.heap.size+1,2,none⟩ (.float .f64 v.f)).setCell ⟨w.heap.size+1,3,none⟩ (.string v.s)).setCell ⟨w.heap.size+1,4,none⟩ (.int .i64 v.r)=W5:=⟨_,rfl⟩
 have hb5:W5.heap[w.heap.size+1]?=some (.cells #[.int .i64 v.k,.int .i64 v.n,.float .f64 v.f,.string v.s,.int .i64 v.r] 70):=by
  rw[←hW5]
  exact blk_set (blk_set (blk_set (blk_set (blk_set b1 0 _) 1 _) 2 _) 3 _) 4 _
 have hc5:CallAt W5 g c:=by rw[←hW5];exact blk5 h' hne _ _ _ _ _
 have hi5:W5.heap[w.heap.size]?=some (InO ⟨4,i,0,cc,d⟩):=by rw[←hW5];exact blk5 b0 (by omega) _ _ _ _ _
 have hx5:ButL [g] w W5:=by rw[←hW5];exact but5 (ButL.of_below hb) (by omega) _ _ _ _ _
 have e0:W5.cell? ⟨w.heap.size+1,0,none⟩=some (.int .i64 v.k):=by rw[blk_cell hb5];rfl
 have e1:W5.cell? ⟨w.heap.size+1,1,none⟩=some (.int .i64 v.n):=by rw[blk_cell hb5];rfl
 have e2:W5.cell? ⟨w.heap.size+1,2,none⟩=some (.float .f64 v.f):=by rw[blk_cell hb5];rfl
 have e3:W5.cell? ⟨w.heap.size+1,3,none⟩=some (.string v.s):=by rw[blk_cell hb5];rfl
 have e4:W5.cell? ⟨w.heap.size+1,4,none⟩=some (.int .i64 v.r):=by rw[blk_cell hb5];rfl
 have e5:W5.cell? ⟨w.heap.size,1,none⟩=some (.int .i64 (i:Int)):=by rw[blk_cell hi5];rfl
 have HC5:Hid (CallAt W5 g c):=hc5
 have HX5:Hid (ButL [g] w W5):=hx5
 have hcp:(0:Int)<(cn:Int)+1:=by omega
 clear h h' hb b0 b1 hb5 hc5 hi5 hx5 hcv
 go_enter Tryz.func81,Tryz.ntmps81
 go_wp2_with fail
 clear hW
 go_region
 clear r0 r1 r2 r3 r4 k0 k1 k2 k3 k4 d0 d1 d2 z1 c7
 go_wp2_with fail
 refine (put_any g i v c W5.drew HC5.out hr hi).mono ?_
 rintro e w6 ⟨rfl,hc6,hb6⟩
 have HC6:Hid _:=hc6
 have HB6:Hid _:=hb6
 clear hc6 hb6
 go_wp2_with fail
 go_ret
 exact⟨rfl,HC6.out,HX5.out.drew.trans HB6.out⟩
end Go.Proofs.YtjglgbepobmjhaaGreatDoor.T
namespace Go.Proofs.YtjglgbepobmjhaaGreatDoor
open Go.RowKit
end Go.Proofs.YtjglgbepobmjhaaGreatDoor
