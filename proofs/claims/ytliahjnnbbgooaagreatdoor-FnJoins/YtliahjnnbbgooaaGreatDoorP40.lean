import Derived.Test.YtliahjnnbbgooaaGreatDoorP39
import Derived.Test.YtliahjnnbbgooaaGreatDoorP31
import Derived.Test.YtliahjnnbbgooaaGreatDoorP32
import Derived.Test.YtliahjnnbbgooaaGreatDoorP36
import Derived.Test.YtliahjnnbbgooaaGreatDoorP13
import Derived.Deep.CutRange
set_option linter.unusedVariables false
set_option linter.unusedSimpArgs false
set_option maxRecDepth 20000
set_option maxHeartbeats 8000000
namespace Go.Proofs.YtliahjnnbbgooaaGreatDoor.J
open Go.RowKit M T U
theorem ErT.but {S:List Nat} {w w':World} {gn:Nat} (h:ErT w gn) (hb:ButL S w w') (hS:∀q∈S,∃a t,w.heap[q]?=some (.cells a t)∧(t=97∨t=152∨t=277∨t=67)):ErT w' gn:=by
 obtain⟨bk,B,mb,sv,h1,h2⟩:=h.ex
 have hn:∀(q:Nat) (b:Array Value) (u:TypeId),w.heap[q]?=some (.cells b u)→u≠97→u≠152→u≠277→u≠67→q∉S:=by
  intro q b u hq n1 n2 n3 n4 hm
  obtain⟨a,t,ht,hc⟩:=hS q hm
  rw[hq]at ht
  injection ht with ht
  injection ht with _ ht
  subst ht
  rcases hc with e | e | e | e
  ·exact n1 e
  ·exact n2 e
  ·exact n3 e
  ·exact n4 e
 refine⟨bk,B,mb,sv,hb.blk h1 (hn _ _ _ h1 (by decide) (by decide) (by decide) (by decide)),hb.blk h2.head (hn _ _ _ h2.head (by decide) (by decide) (by decide) (by decide)),ORow.butn h2.row hb (fun g e=>?_),MapAt.butl hb (fun hm=>?_) h2.map,h2.ge⟩
 ·obtain⟨cur,hc⟩:=ORow.ty h2.row e
  exact hn _ _ _ hc (by decide) (by decide) (by decide) (by decide)
 ·obtain⟨a,t,ht,_⟩:=hS mb hm
  exact map_ne ht h2.map rfl
section
variable {w0:World} {K:UK} {k a tk:Nat} {rs:List M.SD} {gl:List (Nat × Int)} {w w':World} {xs:List RcD} {ln ax nx:Int} {rv gv tv:Value} {ts:List Nat}
theorem JX.tabs (ok:UKok w0 K) (h:JX w0 K w tk xs ln ax nx rs gl rv gv tv ts) {tv2:Value} {ts2:List Nat} (hb:ButL [K.gm] w w') (hm:MachAt w' K.gm (mt K tk rv tv2)) (ht:ORow w' w0.heap.size 249 1 pC tv2 ts2) (hn:ts2=[]→tv2.ownBlock=none):JX w0 K w' tk xs ln ax nx rs gl rv gv tv2 ts2:=by
 have hx:∀(q:Nat) (b:Array Value) (u:TypeId),w.heap[q]?=some (.cells b u)→u≠97→w'.heap[q]?=some (.cells b u):=fun q b u hq hu=>hb.blk hq (by simp;exact blk_ne hq h.mac hu)
 refine⟨hb.below h.bel (fun g hg=>by simp at hg;subst hg;exact ok.geM) h.bel.size,hm,hx _ _ _ h.cal (by decide),hx _ _ _ h.tsk (by decide),hx _ _ _ h.cro (by decide),hx _ _ _ h.row (by decide),hb.blk h.cha (fun e=>?_),ORow.butn h.gu hb (fun g e hg=>by simp at hg;subst hg;exact own_ne h.gu h.mac (by decide) e),fun g hg=>hx _ _ _ (h.gb g hg) (by decide),ORow.butn h.rc hb (fun g e hg=>by simp at hg;subst hg;exact own_ne h.rc h.mac (by decide) e),h.lr,ht,hn⟩
 simp at e
 have h1:=h.cha
 rw[e,show w.heap[K.gm]?=_ from h.mac]at h1
 cases h1
theorem told_err {gn:Nat} {W:World} {m:MachD} {ts2:List Nat} (hm:MachAt W K.gm m) (ho:ORow W w0.heap.size 249 1 pC m.tables [gn]) (he:ErT W gn):Calls Tryz.prog 35 #[.pointer (some ⟨K.gm,0,none⟩),.agg #[.int .i64 errD.k,.int .i64 errD.n,.float .f64 errD.f,.string errD.s,.int .i64 errD.r]] W fun e w'=>e=.returned (.string err4)∧Below W.heap.size W w' :=
 told_tab (.pointer (some ⟨K.gm,0,none⟩)) 0 W (fun W2 hW2=>by
  obtain⟨bk,B,mb,sv,e1,e2⟩:=(he.later hW2).ex
  exact entry_tab w0.heap.size K.gm 0 gn bk B mb 0 sv errDs 2 ⟨strD codeS,intD 4,1⟩ m [gn] codeS W2 (hm.later hW2) (ORow.later ho hW2) rfl e1 (by simp) e2 eidx_code rfl (by decide))
theorem hc0_eq (K:UK) (l a n hd:Int) (g:Value) (r:List M.SD):hc0 (K.c l a n g r) hd=K.c 0 hd hd g (List.replicate 250 sd0):=rfl
theorem caught (ok:UKok w0 K) (gn gt gr hd:Nat) (tr:ByteArray) (h:JX w0 K w 0 [thR] 0 ax nx rs [(gn,(hd:Int))] rv gv tv [gt]) (he:ErT w gt) (hth:w.heap[gr]?=some (ThG errD tr)) (ha:a<hd) (hP:∀w1,JP k w1 hd 0 [thR,caR] (Hb tr) [] [gt]) :
  Calls Tryz.prog 103 #[.pointer (some ⟨K.gm,0,none⟩),.pointer (some ⟨K.gf,0,none⟩),.iface 112 (.pointer (some ⟨gr,0,none⟩))] w (GoJ w0 K k a):=by
 obtain⟨ga,cap,hgv,hga,_,hsl,_,hcap⟩:=h.gu.open vC_len (by simp)
 have hgc:w.cell? ⟨ga,0,none⟩=some (caV gn):=by
  obtain⟨b9,o9,e9,_,hc9⟩:=hsl 0 _ rfl
  have e3:ga=b9∧0=o9:=by injection e9 with e9;injection e9 with e9 e2;exact⟨e9,e2⟩
  obtain⟨rfl,rfl⟩:=e3
  exact hc9 0 _ rfl
 have hgv1:gv=.slice (some ⟨ga,0,none⟩) 1 cap:=hgv
 have hgu0:ORow w w0.heap.size 277 1 vC (.slice (some ⟨ga,0,none⟩) 0 cap) []:=by
  have hq:ORow w w0.heap.size 277 1 vC (.slice (some ⟨ga,0,none⟩) [caV gn].length cap) [caV gn]:=by have h9:=h.gu;rw[hgv1]at h9;exact h9
  exact vrow_shrink hq (m:=0) (by omega)
 have hcap1:1≤cap:=by
  have h9:=h.gu
  rw[hgv1]at h9
  rcases h9.2 with ⟨e9,_⟩ | ⟨g9,c9,cur,e9,_,_,hl9,_⟩
  ·cases e9
  ·have e8:cap=c9:=by injection e9 with _ _ e9
   have h8:1≤c9:=by simpa using hl9
   omega
 have hgnb:=h.gb (gn,(hd:Int)) (by simp)
 have hX2:∀w2,ButL [K.gf] w w2→CallAt w2 K.gf (K.c 0 ax nx (.slice (some ⟨ga,0,none⟩) 0 cap) rs)→JX w0 K w2 0 [thR] 0 ax nx rs [] rv (.slice (some ⟨ga,0,none⟩) 0 cap) tv [gt]:=fun w2 hb2 hc2 =>
  h.guard ok (hb2.mono (fun g hg=>.inl (by simp at hg;subst hg;simp))) hc2 (ORow.butn hgu0 hb2 (fun g e hg=>by simp at hg;subst hg;exact own_ne hgu0 h.cal (by decide) e)) (fun g hg=>by cases hg)
 refine (leave_catch K.gm K.gf gn gr ga cap (some K.ov) (K.c 0 ax nx gv rs) .nilIface (fun w2 w'=>∃wk w5,ButL [K.gf] w2 wk∧CallAt wk K.gf (K.c 0 hd hd (.slice (some ⟨ga,0,none⟩) 0 cap) (List.replicate 250 sd0))∧(∃rv2,MachAt w5 K.gm (mt K (0:Nat) rv2 tv)∧ORow w5 w0.heap.size 67 5 rgC rv2 ([thR]++[caR])∧ButL (K.gm :: rv.ownBlock.toList) wk w5)∧CallAt w' K.gf (K.c 0 hd hd (.slice (some ⟨ga,0,none⟩) 0 cap) (((List.replicate 250 sd0).set 0 (sdV errD)).set 1 (sdV (strD tr))))∧ButL [K.gf] w5 w') w h.cal hgv1 hcap1 hgc (ok.ovr.later h.bel) (fun w2 hb2 hc2=>?_)).mono ?_
 ·have hx2:=hX2 w2 hb2 hc2
  have hth2:w2.heap[gr]?=some (ThG errD tr):=hb2.blk hth (by simp;exact ne_ty hth h.cal (by decide))
  have hgn2:w2.heap[gn]?=some (Ct0 (hd:Int)):=hb2.blk hgnb (by simp;exact ne_ty hgnb h.cal (by decide))
  have he2:ErT w2 gt:=he.but hb2 (fun q hq=>by simp at hq;subst hq;exact⟨_,_,h.cal,.inr (.inl rfl)⟩)
  refine (handle0_go K.gm K.gt K.gc K.gf gn gr (hd:Int) errD err4 tr (mt K (0:Nat) rv tv) (K.c 0 ax nx (.slice (some ⟨ga,0,none⟩) 0 cap) rs) _ _ (K.gm :: rv.ownBlock.toList) (fun wk w5=>∃rv2,MachAt w5 K.gm (mt K (0:Nat) rv2 tv)∧ORow w5 w0.heap.size 67 5 rgC rv2 ([thR]++[caR])∧ButL (K.gm :: rv.ownBlock.toList) wk w5) w2 hx2.mac ok.run (hx2.tka ok) hx2.tsk hx2.cro hx2.cal hx2.lr ok.pro hgn2 hth2 ?_ ?_ ?_ (fun W hW=>?_) (fun wk hbk hck=>?_)).mono ?_
  ·simp only[List.mem_cons,Option.mem_toList,not_or]
   exact⟨hx2.mf.symm,own_ne hx2.rc hx2.cal (by decide)⟩
  ·simp only[List.mem_cons,Option.mem_toList,not_or]
   exact⟨ne_ty hgn2 hx2.mac (by decide),own_ne hx2.rc hgn2 (by decide)⟩
  ·simp only[List.mem_cons,Option.mem_toList,not_or]
   exact⟨ne_ty hth2 hx2.mac (by decide),own_ne hx2.rc hth2 (by decide)⟩
  ·exact told_err (w0:=w0) (ts2:=[]) (hx2.mac.but hW (by simp;exact hx2.mf)) (ORow.butn hx2.tb hW (fun g e hg=>by simp at hg;subst hg;exact own_ne hx2.tb hx2.cal (by decide) e)) (he2.but hW (fun q hq=>by simp at hq;subst hq;exact⟨_,_,hx2.cal,.inr (.inl rfl)⟩))
  ·rw[hc0_eq]at hck
   have hxk2:=hx2.call ok hbk hck List.length_replicate
   refine (recg_go w0.heap.size K.gm caR (mt K (0:Nat) rv tv) [thR] wk hxk2.mac ok.wat hxk2.rc (by simp) hxk2.bel.size).mono ?_
   rintro e w' ⟨rfl,rv',p1,p2,p3⟩
   exact⟨rfl,p3,rv',p1,p2,p3⟩
  ·rintro e w' ⟨rfl,wk2,w5,p1,p2,p3,p4,p5,p6⟩
   rw[hc0_eq]at p2 p5
   exact⟨rfl,wk2,w5,p1,p2,p4,p5,p6⟩
 ·rintro e w' ⟨rfl,w2,hb2,hc2,wk2,w5,p1,p2,⟨rv2,p3,p4,p5⟩,p6,p7⟩
  have hx2:=hX2 w2 hb2 hc2
  have hx3:=hx2.call ok p1 p2 List.length_replicate
  have hx4:JX w0 K w5 0 ([thR]++[caR]) 0 (hd:Int) (hd:Int) (List.replicate 250 sd0) [] rv2 (.slice (some ⟨ga,0,none⟩) 0 cap) tv [gt]:=hx3.recd ok p5 p3 p4
  have hx5:=hx4.call ok p7 p6 (by rw[List.length_set,List.length_set];exact List.length_replicate)
  refine⟨rfl,0,[thR,caR],hd,hd,Hb tr,[],rv2,.slice (some ⟨ga,0,none⟩) 0 cap,tv,[gt],?_,hP w',ha⟩
  have:Hb tr=((List.replicate 250 sd0).set 0 (sdV errD)).set 1 (sdV (strD tr)):=by unfold Hb R0;rfl
  rw[this]
  exact hx5
theorem g24x (ok:UKok w0 K) (gn hd q n cap:Nat) (h:JX w0 K w 0 [] 0 (a:Int) ((a:Int)+1) rs [(gn,(hd:Int))] rv gv tv []) (h4:rs[4]?=some (sdL (.slice (some ⟨q,0,none⟩) n cap))) (hc:n≤cap) (hn0:250<n+n) (hn:n≤1000) (ha:a<hd) (hP:∀w1 tr gt,JP k w1 hd 0 [thR,caR] (Hb tr) [] [gt]) :
  Calls Tryz.prog 68 (argj K ⟨24,4,4,0,0⟩) w (ThJ w0 K k a):=by
 refine doJoin_long K.gm K.gf q n cap ⟨24,4,4,0,0⟩ (K.c 0 a ((a:Int)+1) gv rs) _ w h.cal h.lr rfl rfl rfl h4 hc hn0 hn (fun wk hb hck=>?_)
 have hrl:(rs.set 4 (sdL (.slice (some ⟨q,0,none⟩) n n))).length=250:=by rw[List.length_set];exact h.lr
 have hk:=h.call ok hb (ln2:=0) (at2:=a) (next2:=(a:Int)+1) hck hrl
 have hS:∀W,ButL (K.gm :: (mt K (0:Nat) rv tv).tables.ownBlock.toList) wk W→ButL [K.gm] wk W:=fun W hW=>hW.mono (fun g hg=>.inl (by
  have e:(mt K (0:Nat) rv tv).tables.ownBlock=none:=h.tn rfl
  rw[e]at hg
  simpa using hg))
 refine (fail_any K.gm K.gt K.gc K.gf K.bp K.op K.capP w0.heap.size (mt K (0:Nat) rv tv) (K.c 0 a ((a:Int)+1) gv (rs.set 4 (sdL (.slice (some ⟨q,0,none⟩) n n)))) [] (fun wk2 w'=>∃tv2 gt rv1,JX w0 K wk2 0 [] 0 (a:Int) ((a:Int)+1) (rs.set 4 (sdL (.slice (some ⟨q,0,none⟩) n n))) [(gn,(hd:Int))] rv gv tv2 [gt]∧JX w0 K w' 0 [thR] 0 (a:Int) ((a:Int)+1) (rs.set 4 (sdL (.slice (some ⟨q,0,none⟩) n n))) [(gn,(hd:Int))] rv1 gv tv2 [gt]∧ErT w' gt∧ButL (K.gm :: rv.ownBlock.toList) wk2 w') wk hk.mac hk.tb (by simp) hk.bel.size (fun tv2 W hm hbW=>?_) (fun tv2 gt wk2 hm ho he hbW=>?_)).mono ?_
 ·have hbx:=hS W hbW
  have hx:∀(q:Nat) (b:Array Value) (u:TypeId),wk.heap[q]?=some (.cells b u)→u≠97→W.heap[q]?=some (.cells b u):=fun q b u hq hu=>hbx.blk hq (by simp;exact blk_ne hq hk.mac hu)
  have hts:=hx _ _ _ hk.tsk (by decide)
  have hcr:=hx _ _ _ hk.cro (by decide)
  exact⟨hm,ok.run,⟨⟨K.cc,by rw[blk_cell hts];rfl,ok.cc1⟩,by rw[blk_cell hts];rfl,by rw[blk_cell hcr];exact ok.ca0⟩,hx _ _ _ hk.cal (by decide),ok.pro,rfl,ok.prs,cell_later (hbx.below hk.bel (fun g hg=>by simp at hg;subst hg;exact ok.geM) hk.bel.size) ok.nam⟩
 ·have hx:=hk.tabs ok (hS wk2 hbW) hm ho (fun e=>by simp at e)
  refine (recg_go w0.heap.size K.gm thR (mt K (0:Nat) rv tv2) [] wk2 hx.mac ok.wat hx.rc (by simp) hx.bel.size).mono ?_
  rintro e w' ⟨rfl,rv1,p1,p2,p3⟩
  have hsub:=hx.sub p3 (fun g hg=>by
   simp only[List.mem_cons]at hg
   simp only[twr,List.mem_cons,List.mem_append]
   rcases hg with e | e
   ·exact .inl e
   ·exact .inr (.inr (.inr e)))
  exact⟨rfl,tv2,gt,rv1,hx,hx.recd ok p3 p1 p2,he.but hsub (fun q hq=>(hx.wrTy ok q hq).2),p3⟩
 ·rintro e w' ⟨gr,tr,wk2,_,_,rfl,hgr,hth,_,_,_,_,tv2,gt,rv1,hx,hx1,he,p3⟩
  have hsub:=hx.sub p3 (fun g hg=>by
   simp only[List.mem_cons]at hg
   simp only[twr,List.mem_cons,List.mem_append]
   rcases hg with e | e
   ·exact .inl e
   ·exact .inr (.inr (.inr e)))
  have hth1:w'.heap[gr]?=some (ThG errD tr):=hx.keep ok hsub hth (by decide) (by decide) (by decide) (by decide)
  exact⟨gr,rfl,gr,rfl,caught ok gn gt gr hd tr hx1 he hth1 ha (fun w1=>hP w1 tr gt)⟩
end
end Go.Proofs.YtliahjnnbbgooaaGreatDoor.J
namespace Go.Proofs.YtliahjnnbbgooaaGreatDoor.U
open Go.RowKit
def cirB (kind:Nat):Nat:=if kind=7∨kind=8 then 4 else if 10≤kind then 3 else 2
def cirP (kind:Nat):List ID:=⟨4,0,0,0,0⟩ :: ⟨4,1,1,0,0⟩ :: if kind=7∨kind=8 then [⟨5,2,1,0,0⟩,⟨40,2,0,0,0⟩] else if 10≤kind then [⟨12,2,0,0,0⟩] else []
def cirM (b:Nat):Nat→List ID
 | 0=>[]
 | 1=>[⟨1,3,0,0,0⟩]
 | 2=>[⟨3,0,0,0,0⟩]
 | 3=>[⟨22,4,0,0,0⟩,⟨28,4,1,-5,0⟩,⟨42,4,0,0,0⟩]
 | 4=>[⟨18,4,12,0,0⟩,⟨42,4,0,0,0⟩]
 | 5=>[⟨18,4,13,0,0⟩,⟨42,4,0,0,0⟩]
 | 6=>[⟨31,((b+2:Nat):Int),4,0,0⟩,⟨30,0,0,0,0⟩,⟨42,4,0,0,0⟩,⟨42,5,0,0,0⟩]
 | 7=>[⟨41,2,((b+3:Nat):Int),4,0⟩,⟨42,4,0,0,0⟩]
 | 8=>[⟨41,2,((b+2:Nat):Int),4,0⟩,⟨42,4,0,0,0⟩]
 | 9=>[⟨3,0,0,0,0⟩,⟨31,((b+3:Nat):Int),4,0,0⟩,⟨30,0,0,0,0⟩,⟨42,4,0,0,0⟩,⟨42,5,0,0,0⟩]
 | 10=>[⟨15,4,2,0,0⟩,⟨42,4,0,0,0⟩]
 | 11=>[⟨16,2,0,0,0⟩]
 | _=>[⟨17,4,22,0,0⟩,⟨42,4,0,0,0⟩]
def cirE (kind:Nat):List ID:=if kind=7 then [⟨22,4,0,0,0⟩,⟨29,-5,0,0,0⟩] else []
def cirI (kind n:Nat):List ID:=cirP kind++(List.replicate n ⟨5,0,0,0,0⟩++(cirM (cirB kind+n) kind++(⟨19,((cirB kind:Nat):Int),0,0,0⟩ :: cirE kind)))
def nothing:VD:=⟨4,0,0,⟨#[]⟩,0⟩
def texter:VD:=⟨8,3,0,⟨#[]⟩,0⟩
def cirT:Nat→Bool
 | 1=>true
 | 2=>true
 | 3=>true
 | 4=>true
 | 7=>true
 | 9=>true
 | _=>false
def cirX (kind n:Nat):Nat:=if kind=3 then cirB kind+n+1 else cirB kind+n
def cirJ (kind n:Nat):Nat:=cirB kind+n+(cirM (cirB kind+n) kind).length
def edgeB (E:Nat→List Nat) (p:Nat→Nat→Bool) (L:Nat):Bool:=(List.range L).all fun i=>(E i).all fun y=>p i y
theorem edge_at {E:Nat→List Nat} {p:Nat→Nat→Bool} {L:Nat} (h:edgeB E p L=true) {x:Nat} (hx:x<L) {y:Nat} (hy:y∈E x):p x y=true:=by
 unfold edgeB at h
 simp only[List.all_eq_true,List.mem_range]at h
 exact h x hx y hy
theorem edge_out {d:FD} {x:Nat} (hx:d.ins.length≤x) {y:Nat} (hy:y∈EE d x):y=x+1:=by
 unfold EE at hy
 rw[List.getD_eq_getElem?_getD,List.getElem?_eq_none_iff.2 hx]at hy
 simpa [silS,id0] using hy
end Go.Proofs.YtliahjnnbbgooaaGreatDoor.U
namespace Go.Proofs.YtliahjnnbbgooaaGreatDoor.U
open Go.RowKit M T
abbrev RD:Type:=Nat
abbrev RD.no:RD:=0
abbrev RD.emp:RD:=1
abbrev RD.bui:RD:=2
abbrev RD.nl:RD:=3
abbrev RD.l0:RD:=4
abbrev RD.ls:RD:=5
abbrev RD.st:RD:=6
structure AS where
 at':Nat
 rs:List RD
 ln:Bool
 gd:Option Nat
def absD (n:ID) (s:AS):Option (AS × Nat) :=
 if n.op=4 then
  if n.a=0∧n.b=0 then some (⟨s.at'+1,s.rs.set 0 .emp,s.ln,s.gd⟩,0)
  else if n.a=1∧n.b=1 then some (⟨s.at'+1,s.rs.set 1 .bui,s.ln,s.gd⟩,0) else none
 else if n.op=5 then
  if n.a=0∧n.b=0∧s.rs[0]?=some .emp then some (⟨s.at'+1,s.rs.set 0 .emp,s.ln,s.gd⟩,0)
  else if n.a=2∧n.b=1∧s.rs[1]?=some .bui then some (⟨s.at'+1,s.rs.set 2 .bui,s.ln,s.gd⟩,0) else none
 else if n.op=40 then
  if n.a=2∧s.rs[2]?=some .bui then some (⟨s.at'+1,s.rs.set 3 .nl,s.ln,s.gd⟩,0) else none
 else if n.op=1 then some (⟨s.at'+1,s.rs,false,s.gd⟩,1)
 else if n.op=3 then some (⟨s.at'+1,s.rs,s.ln,s.gd⟩,1)
 else if n.op=22 then if n.a=4 then some (⟨s.at'+1,s.rs.set 4 .l0,s.ln,s.gd⟩,0) else none
 else if n.op=28 then
  if n.a=4∧n.b=1∧n.c=-5∧s.rs[1]?=some .bui∧s.rs[4]?=some .l0 then some (⟨s.at'+1,s.rs.set 4 .ls,s.ln,s.gd⟩,1) else none
 else if n.op=42 then
  if n.a=4 then some (⟨s.at'+1,s.rs.set 4 .no,s.ln,s.gd⟩,0)
  else if n.a=5 then some (⟨s.at'+1,s.rs.set 5 .no,s.ln,s.gd⟩,0) else none
 else if n.op=18 then
  if n.a=4∧n.b=12∧n.c=0∧n.d=0∧s.rs[0]?=some .emp then some (⟨s.at'+1,s.rs.set 4 .emp,s.ln,s.gd⟩,1) else none
 else if n.op=31 then
  if n.b=4∧0≤n.a∧s.ln=true∧s.gd=none then some (⟨s.at'+1,s.rs,s.ln,some n.a.toNat⟩,0) else none
 else if n.op=30 then
  if n.a=0∧s.rs[0]?=some .emp∧s.rs[4]?=some .no∧s.rs[5]?=some .no∧s.ln=true then
   match s.gd with
   | some hd=>some (⟨hd,(s.rs.set 4 .emp).set 5 .st,true,none⟩,0)
   | none=>none
  else none
 else if n.op=41 then
  if n.a=2∧n.c=4∧s.rs[2]?=some .bui∧s.rs[3]?=some .nl then some (⟨s.at'+1,s.rs.set 4 .ls,s.ln,s.gd⟩,2) else none
 else if n.op=19 then if 0≤n.a then some (⟨n.a.toNat,s.rs,s.ln,s.gd⟩,0) else none
 else none
def trail (ins:List ID):Nat→AS→List AS
 | 0,_=>[]
 | k+1,s=>s :: match ins[s.at']? with
  | none=>[]
  | some n=>match absD n s with
   | none=>[]
   | some (s',_)=>trail ins k s'
def as0 (kind:Nat):AS:=⟨0,[.no,.no,.no,.no,.no,.no],decide (kind≠1),none⟩
def cirS (kind n:Nat):List AS:=trail (cirI kind n) (cirJ kind n+1) (as0 kind)
def cirN (kind n a:Nat):Nat:=if a=cirJ kind n then cirB kind else a+1
def cirW (kind n a:Nat):Nat:=if a≤cirX kind n then cirX kind n-a else cirJ kind n+1-a+(cirX kind n-cirB kind)
structure Tab (kind n:Nat):Prop where
 step:∀a,a≤cirJ kind n→∃s i s' k,(cirS kind n)[a]?=some s∧(cirI kind n)[a]?=some i∧s.at'=a∧absD i s=some (s',k)∧(cirS kind n)[cirN kind n a]?=some s'∧(a≠cirX kind n∨0<k)
 st0:(cirS kind n)[0]?=some (as0 kind)
 jl:cirJ kind n≤60
theorem cirX_le (kind n:Nat) (ht:cirT kind=true):cirB kind≤cirX kind n∧cirX kind n<cirJ kind n:=by
 unfold cirT at ht
 unfold cirX cirJ
 split at ht
 case h_7=>cases ht
 all_goals
  simp only[cirM,List.length_cons,List.length_nil]
  first
  | rw[if_neg (by omega)];omega
  | simp only[if_true];omega
theorem cirN_le (kind n a:Nat) (ht:cirT kind=true) (ha:a≤cirJ kind n):cirN kind n a≤cirJ kind n:=by
 have:=cirX_le kind n ht
 unfold cirN
 split<;>omega
theorem cirW_lt (kind n a:Nat) (ht:cirT kind=true) (ha:a≤cirJ kind n) (hx:a≠cirX kind n):cirW kind n (cirN kind n a)<cirW kind n a:=by
 have:=cirX_le kind n ht
 unfold cirN cirW
 split
 ·rename_i h
  subst h
  rw[if_pos (by omega),if_neg (by omega)]
  omega
 ·split<;>split<;>omega
theorem cirW_le (kind n a:Nat) (ht:cirT kind=true):cirW kind n a≤2*cirJ kind n+1:=by
 have:=cirX_le kind n ht
 unfold cirW
 split<;>omega
def mu (kind n t tk a:Nat):Nat:=(t+1-tk)*128+cirW kind n a
def rep:RD→M.SD→Prop
 | 0,s=>s=sd0
 | 1,s=>s=sdV nothing
 | 2,s=>s=sdV texter
 | 3,s=>s=sdV vd0
 | 4,s=>s=sdL (.slice none 0 0)
 | 5,s=>∃g:Nat,s=sdL (.slice (some ⟨g,0,none⟩) 1 1)
 | _,s=>∃t,s=sdV (strD t)
structure Reps (al:List RD) (rs:List M.SD):Prop where
 la:al.length=6
 lr:rs.length=250
 at_:∀(i:Nat) r,al[i]?=some r→∃s,rs[i]?=some s∧rep r s
 hi:∀i:Nat,6≤i→i<250→rs[i]?=some sd0
theorem Reps.set {al:List RD} {rs:List M.SD} (h:Reps al rs) {i:Nat} (hi:i<6) {r:RD} {s:M.SD} (hr:rep r s):Reps (al.set i r) (rs.set i s):=by
 refine⟨by rw[List.length_set];exact h.la,by rw[List.length_set];exact h.lr,fun j q hj=>?_,fun j h6 h250=>?_⟩
 ·by_cases e:i=j
  ·subst e
   rw[List.getElem?_set_self (by rw[h.la];exact hi)]at hj
   cases hj
   exact⟨s,List.getElem?_set_self (by rw[h.lr];omega),hr⟩
  ·rw[List.getElem?_set_ne e]at hj
   rw[List.getElem?_set_ne e]
   exact h.at_ j q hj
 ·rw[List.getElem?_set_ne (by omega)]
  exact h.hi j h6 h250
theorem Reps.low {al:List RD} {rs:List M.SD} (h:Reps al rs) (h4:al[4]?=some .no) (h5:al[5]?=some .no):rs.drop 4=List.replicate 246 sd0:=by
 apply List.ext_getElem?
 intro i
 rw[List.getElem?_drop,List.getElem?_replicate]
 by_cases hi:i<246
 ·rw[if_pos hi]
  by_cases h6:2≤i
  ·exact h.hi (4+i) (by omega) (by omega)
  ·have:i=0∨i=1:=by omega
   rcases this with rfl | rfl
   ·obtain⟨s,h1,h2⟩:=h.at_ 4 _ h4
    rw[h1];exact congrArg some h2
   ·obtain⟨s,h1,h2⟩:=h.at_ 5 _ h5
    rw[h1];exact congrArg some h2
 ·rw[if_neg hi,List.getElem?_eq_none_iff,h.lr]
  omega
end Go.Proofs.YtliahjnnbbgooaaGreatDoor.U
namespace Go.Proofs.YtliahjnnbbgooaaGreatDoor.U
open Go.RowKit M T
attribute [local go_sem] run_store_float
theorem doCall_over (p:Option Addr) (gm gf:Nat) (n:ID) (m:MachD) (c:CallD) (w:World) (hm:MachAt w gm m) (hc:CallAt w gf c) (hr:c.regs.length=250) (ha:n.a=4) (hb:n.b=1) (hcc:n.c=-5) (h1:c.regs[1]?=some (sdV ⟨8,3,0,⟨#[]⟩,0⟩)) (h4:c.regs[4]?=some (sdL (.slice none 0 0))) (he:m.rticks=m.ticks) (ho:OvV w p) (hog:1≠gf) :
  Calls Tryz.prog 70 #[.pointer (some ⟨gm,0,none⟩),.pointer (some ⟨gf,0,none⟩),insV n] w fun e w'=>e=.returned (ovI p)∧CallAt w' gf { c with regs:=c.regs.set 4 sd0 }∧ButL [gf] w w':=by
 obtain⟨op,a,b,cc,d⟩:=n
 dsimp only[insV]at ha hb hcc ⊢
 subst ha hb hcc
 obtain⟨W,hW⟩:∃W,w.alloc (InO ⟨op,4,1,-5,d⟩)=W:=⟨_,rfl⟩
 have hbw:Below w.heap.size w W:=by rw[←hW];exact bw1 _ _
 have bn:W.heap[w.heap.size]?=some (InO ⟨op,4,1,-5,d⟩):=by rw[←hW];exact blk_new _ _
 have hmf:gm≠gf:=ne_ty hm hc (by decide)
 have HM:Hid (MachAt W gm m):=hm.later hbw
 have HC:Hid (CallAt W gf c):=hc.later hbw
 have HB:Hid (Below w.heap.size w W):=hbw
 have HO:Hid (OvV W p):=ho.later hbw
 have d1:W.cell? ⟨w.heap.size,1,none⟩=some (.int .i64 4):=by rw[blk_cell bn];rfl
 have d2:W.cell? ⟨w.heap.size,2,none⟩=some (.int .i64 1):=by rw[blk_cell bn];rfl
 have d3:W.cell? ⟨w.heap.size,3,none⟩=some (.int .i64 (-5)):=by rw[blk_cell bn];rfl
 clear hm hc hbw bn ho
 go_enter Tryz.func70,Tryz.ntmps70
 go_wp2_with fail
 clear hW
 go_region_with (first | (go_at_call 138;refine (value_pos gf 1 1 ⟨8,3,0,⟨#[]⟩,0⟩ none none 0 0 c _ (CallAt.drew HC.out) hr (by omega) h1).mono ?_;rintro e w1 ⟨rfl,hx⟩;replace hx:=und1' hx;have HX1:Hid (Below W.heap.size W w1):=hx;have HC1:Hid (CallAt w1 gf c):=HC.out.later hx;have f3:w1.cell? ⟨w.heap.size,3,none⟩=some (.int .i64 (-5)):=cell_later hx d3;clear hx) | (go_at_call 146;refine (list_neg gf 4 (-5) 3 vd0 none none 0 0 c _ HC1.out hr (by omega) (by omega) (by omega) h4).mono ?_;rintro e w2 ⟨rfl,hc2,hb2⟩;have HC2:Hid (CallAt w2 gf { c with regs:=c.regs.set 4 sd0 }):=hc2;have HB2:Hid (ButL [gf] W w2):=(ButL.of_below HX1.out).trans hb2;have HM2:Hid (MachAt w2 gm m):=HM.out.but HB2.out (by simp;exact hmf);have HO2:Hid (OvV w2 p):=OvV.but HO.out HB2.out (by simp;exact hog);clear hc2 hb2) | (go_at_call 153;refine (callt_over gm m p .nilIface _ HM2.out HO2.out he).mono ?_;rintro e w3 ⟨rfl,hx3⟩;have HC3:Hid (CallAt w3 gf { c with regs:=c.regs.set 4 sd0 }):=CallAt.later HC2.out hx3;have HB3:Hid (ButL [gf] w w3):=((ButL.of_below HB.out).trans HB2.out).thenB hx3;clear hx3;unfold ovI))
 all_goals
  clear d1 d2 d3 f3
  go_wp2_with fail
  go_ret
  exact⟨rfl,HC3.out,HB3.out⟩
theorem doLine_over (p:Option Addr) (gm gf:Nat) (n:ID) (m:MachD) (w:World) (hm:MachAt w gm m) (he:m.rticks=m.ticks) (ho:OvV w p) :
  Calls Tryz.prog 51 #[.pointer (some ⟨gm,0,none⟩),.pointer (some ⟨gf,0,none⟩),insV n] w fun e w'=>e=.returned (ovI p)∧Below w.heap.size w w':=by
 obtain⟨op,a,b,cc,d⟩:=n
 dsimp only[insV]
 have HB:Hid _:=bw1 w (InO ⟨op,a,b,cc,d⟩)
 have HC:Hid (MachAt (w.alloc (InO ⟨op,a,b,cc,d⟩)) gm m):=hm.later HB.out
 have HO:Hid (OvV (w.alloc (InO ⟨op,a,b,cc,d⟩)) p):=ho.later HB.out
 clear hm ho
 go_enter Tryz.func51,Tryz.ntmps51
 go_wp2_with fail
 refine (tick_over gm m p _ HC.out HO.out he).mono ?_
 rintro e w1 ⟨rfl,hb1⟩
 have HB1:Hid (Below w.heap.size w w1):=HB.out.trans (hb1.mono (by simp))
 clear hb1
 unfold ovI
 go_wp2_with fail
 go_ret
 exact⟨rfl,HB1.out⟩
theorem doLine_go (gm gt gc gf:Nat) (n:ID) (m:MachD) (c:CallD) (ta ca:Array Value) (Q:World→World→Prop) (w:World) (hm:MachAt w gm m) (hrn:m.running=.pointer (some ⟨gt,0,none⟩)) (htk:TkAt w gt gc gf) (ht:w.heap[gt]?=some (.cells ta 115)) (hcr:w.heap[gc]?=some (.cells ca 116))
  (hc:CallAt w gf c) (hp:c.proto=0) (he:m.rticks<m.ticks) (h0:0≤m.rticks) (h1:m.ticks≤100000)
  (HQ:∀wk,ButL [gm,gf] w wk→MachAt wk gm { m with rticks:=m.rticks+1 }→CallAt wk gf { c with line:=n.a }→Calls Tryz.prog 206 #[.pointer (some ⟨gm,0,none⟩),.agg #[.int .i64 1,.int .i64 0,.int .i64 0,.int .i64 n.a,.string ⟨#[]⟩]] wk fun e w'=>e=.returned .nilIface∧Q wk w') :
  Calls Tryz.prog 51 #[.pointer (some ⟨gm,0,none⟩),.pointer (some ⟨gf,0,none⟩),insV n] w fun e w'=>e=.returned .nilIface∧∃wk,ButL [gm,gf] w wk∧MachAt wk gm { m with rticks:=m.rticks+1 }∧CallAt wk gf { c with line:=n.a }∧Q wk w':=by
 obtain⟨op,a,b,cc,d⟩:=n
 dsimp only[insV]at HQ ⊢
 have hmf:gm≠gf:=ne_ty hm hc (by decide)
 obtain⟨W,hW⟩:∃W,w.alloc (InO ⟨op,a,b,cc,d⟩)=W:=⟨_,rfl⟩
 have hbw:Below w.heap.size w W:=by rw[←hW];exact bw1 _ _
 have bn:W.heap[w.heap.size]?=some (InO ⟨op,a,b,cc,d⟩):=by rw[←hW];exact blk_new _ _
 have hne:w.heap.size≠gm:=by have:=blk_lt hm;omega
 have HB:Hid (Below w.heap.size w W):=hbw
 have HM:Hid (MachAt W gm m):=hm.later hbw
 have HI:Hid (W.heap[w.heap.size]?=some (InO ⟨op,a,b,cc,d⟩)):=bn
 have HC:Hid (CallAt w gf c):=hc
 have HT:Hid (TkAt w gt gc gf):=htk
 have HTa:Hid (w.heap[gt]?=some (.cells ta 115)):=ht
 have HCa:Hid (w.heap[gc]?=some (.cells ca 116)):=hcr
 have HMm:Hid (MachAt w gm m):=hm
 have HQ':Hid (∀wk,ButL [gm,gf] w wk→MachAt wk gm { m with rticks:=m.rticks+1 }→CallAt wk gf { c with line:=a }→Calls Tryz.prog 206 #[.pointer (some ⟨gm,0,none⟩),.agg #[.int .i64 1,.int .i64 0,.int .i64 0,.int .i64 a,.string ⟨#[]⟩]] wk fun e w'=>e=.returned .nilIface∧Q wk w'):=HQ
 clear hm hc htk ht hcr HQ hbw bn
 go_enter Tryz.func51,Tryz.ntmps51
 go_wp2_with fail
 clear hW
 refine (tick_go gm m _ HM.out he h0 h1).mono ?_
 rintro e w1 ⟨rfl,hm1,hb1⟩
 have d1:w1.cell? ⟨w.heap.size,1,none⟩=some (.int .i64 a):=by rw[blk_cell (hb1.blk HI.out (by simp;exact hne))];rfl
 have hb1':ButL [gm,gf] w w1:=(ButL.of_below HB.out).trans (hb1.mono (fun q hq=>.inl (by simp at hq;subst hq;simp)))
 have hc1:CallAt w1 gf c:=(HC.out.later HB.out).but hb1 (by simp;exact fun e=>hmf e.symm)
 have c11:w1.cell? ⟨gf,11,none⟩=some (.int .i64 c.line):=by rw[hc1.cell 11 (by omega)];rfl
 have z:=blk_frozen hc1
 obtain⟨W3,hW3⟩:∃W3,w1.setCell ⟨gf,11,none⟩ (.int .i64 a)=W3:=⟨_,rfl⟩
 have hc3:CallAt W3 gf { c with line:=a }:=by
  rw[←hW3]
  have h9:=blk_set hc1 11 (.int .i64 a)
  rw[T.CallD.set_line]at h9
  exact h9
 have hb3:ButL [gm,gf] w W3:=by rw[←hW3];exact hb1'.set (by simp) _ _
 have hm3:MachAt W3 gm { m with rticks:=m.rticks+1 }:=by rw[←hW3];exact blk_other hm1 (fun e=>hmf e.symm) _ _
 have HC3:Hid (CallAt W3 gf { c with line:=a }):=hc3
 have HB3:Hid (ButL [gm,gf] w W3):=hb3
 have HM3:Hid (MachAt W3 gm { m with rticks:=m.rticks+1 }):=hm3
 have HT3:Hid (TkAt W3 gt gc gf):=tk_but HT.out HTa.out HCa.out hb3 (by simp;exact⟨ne_ty HTa.out HMm.out (by decide),ne_ty HTa.out HC.out (by decide)⟩) (by simp;exact⟨ne_ty HCa.out HMm.out (by decide),ne_ty HCa.out HC.out (by decide)⟩)
 have e11:W3.cell? ⟨gf,11,none⟩=some (.int .i64 a):=by rw[hc3.cell 11 (by omega)];rfl
 clear hm1 hb1 hb1' hc1 hc3 hb3 hm3
 go_wp2_with fail
 refine (tell_g gm gt gc gf ⟨1,a,⟨#[]⟩⟩ { m with rticks:=m.rticks+1 } { c with line:=a } .nilIface (fun w'=>∃n,Q (W3.drewN n) w') W3 HM3.out hrn HT3.out HC3.out hp (fun n=>(HQ'.out (W3.drewN n) (HB3.out.drewN n) HM3.out HC3.out).mono (fun e w' h=>⟨h.1,n,h.2⟩))).mono ?_
 rintro e w5 ⟨rfl,n5,hq⟩
 have HQ5:Hid (Q (W3.drewN n5) w5):=hq
 clear hq
 go_wp2_with fail
 go_ret
 exact⟨rfl,W3.drewN n5,HB3.out.drewN n5,HM3.out,HC3.out,HQ5.out⟩
end Go.Proofs.YtliahjnnbbgooaaGreatDoor.U
namespace Go.Proofs.YtliahjnnbbgooaaGreatDoor.U
open Go.RowKit M T
attribute [local go_sem] run_store_float
end Go.Proofs.YtliahjnnbbgooaaGreatDoor.U
namespace Go.Proofs.YtliahjnnbbgooaaGreatDoor.U
open Go.RowKit M T
attribute [local go_sem] run_store_float
attribute [local go_sem] m_str_text
end Go.Proofs.YtliahjnnbbgooaaGreatDoor.U
namespace Go.Proofs.YtliahjnnbbgooaaGreatDoor.U
open Go.RowKit M T
attribute [local go_sem] run_store_float
end Go.Proofs.YtliahjnnbbgooaaGreatDoor.U
namespace Go.Proofs.YtliahjnnbbgooaaGreatDoor.U
open Go.RowKit M T
attribute [local go_sem] run_store_float
end Go.Proofs.YtliahjnnbbgooaaGreatDoor.U
