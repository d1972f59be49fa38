import Derived.Test.YtkajknidfoelcaaGreatDoorP05
import Derived.Test.YtkajknidfoelcaaGreatDoorP09
import Derived.BigRegion
import Derived.BigQuiet
import Derived.Deep.QuietTactic
import Derived.Test.YtkajknidfoelcaaGreatDoorP33
import Derived.Deep.CutRange
import Derived.Test.YtkajknidfoelcaaGreatDoorP08
import Derived.Test.YtkajknidfoelcaaGreatDoorP34
import Derived.Test.YtkajknidfoelcaaGreatDoorP39
set_option linter.unusedVariables false
set_option linter.unusedSimpArgs false
set_option maxRecDepth 20000
set_option maxHeartbeats 8000000
namespace Go.Proofs.YtkajknidfoelcaaGreatDoor
open Go.RowKit
def penC (r:Nat) (iv tv:Value):Array Value:=#[.string ⟨#[109,97,105,110]⟩,.int .i64 0,.int .i64 0,.bool false,.int .i64 r,.slice none 0 0,.slice none 0 0,iv,.slice none 0 0,tv,.int .i64 0,.int .i64 0]
structure Pen (w0 w:World) (g r:Nat) (l:List ID):Prop where
 bel:Below w0.heap.size w0 w
 ge:w0.heap.size≤g
 row:∃iv tv,w.heap[g]?=some (.cells (penC r iv tv) 61)∧ORow w w0.heap.size 52 5 ID.cells iv l
theorem idC_len (n:ID):n.cells.length=5:=rfl
theorem Pen.at {w0 w:World} {g r:Nat} {l:List ID} (h:Pen w0 w g r l):∃a cap,w.cell? ⟨g,7,none⟩=some (.slice a l.length cap):=by
 obtain⟨h1,h2,iv,tv,h3,h4⟩:=h
 obtain⟨a,c,rfl⟩:=h4.val
 exact⟨a,c,by rw[blk_cell h3];rfl⟩
theorem flat_setc {α:Type} (cells:α→List Value) (k:Nat):∀(xs:List α) (i j:Nat) (x x':α) (v:Value),(∀y∈xs,(cells y).length=k)→xs[i]?=some x→j<k→cells x'=(cells x).set j v→(xs.flatMap cells).set (i*k+j) v=(xs.set i x').flatMap cells
 | [],i,j,x,x',v,_,hx,_,_=>by simp at hx
 | y :: ys,0,j,x,x',v,hk,hx,hj,hc=>by
  obtain rfl:y=x:=by simpa using hx
  have hy:=hk y (by simp)
  rw[Nat.zero_mul,Nat.zero_add,List.flatMap_cons,List.set_append_left _ _ (by omega),List.set_cons_zero,List.flatMap_cons,hc]
 | y :: ys,i+1,j,x,x',v,hk,hx,hj,hc=>by
  have hy:=hk y (by simp)
  rw[List.flatMap_cons,List.set_append_right _ _ (by rw[hy,Nat.add_mul,Nat.one_mul];omega),hy,show (i+1)*k+j-k=i*k+j by rw[Nat.add_mul,Nat.one_mul];omega,List.set_cons_succ,List.flatMap_cons]
  rw[flat_setc cells k ys i j x x' v (fun z hz=>hk z (by simp[hz])) (by simpa using hx) hj hc]
theorem ORow.setc {α:Type} {w:World} {B:Nat} {et:TypeId} {k:Nat} {cells:α→List Value} {g n cap:Nat} {xs:List α} (h:ORow w B et k cells (.slice (some ⟨g,0,none⟩) n cap) xs) (hk:∀y,(cells y).length=k) {i j:Nat} {x x':α} {v:Value} (hx:xs[i]?=some x) (hj:j<k) (hc:cells x'=(cells x).set j v):ORow (w.setCell ⟨g,i*k+j,none⟩ v) B et k cells (.slice (some ⟨g,0,none⟩) n cap) (xs.set i x'):=by
 obtain⟨h1,h2⟩:=h
 have hf:=flat_setc cells k xs i j x x' v (fun y _=>hk y) hx hj hc
 refine⟨by rw[←hf,List.length_set,List.length_set];exact h1,?_⟩
 rcases h2 with ⟨e,_⟩ | ⟨g',c',cur,e,hb,hg,hl,hm,hs,ht⟩
 ·cases e
 ·injection e with e1 e2 e3
  injection e1 with e1
  injection e1 with e1
  subst e1 e2 e3
  rw[List.length_set]
  refine .inr ⟨g,_,cur.setIfInBounds (i*k+j) v,rfl,hb,blk_set hg _ _,hl,hm,by simpa using hs,?_⟩
  rw[Array.toList_setIfInBounds,List.take_set,ht,hf]
def setA (l:List ID) (i:Nat) (z:Int):List ID:=match l[i]? with | some n=>l.set i ⟨n.op,z,n.b,n.c,n.d⟩ | none=>l
theorem Pen.open {w0 w:World} {g r:Nat} {l:List ID} (h:Pen w0 w g r l) {i:Nat} {n:ID} (hi:l[i]?=some n):∃gi cap,w.cell? ⟨g,7,none⟩=some (.slice (some ⟨gi,0,none⟩) l.length cap)∧w.cell? ⟨gi,i*5+1,none⟩=some (.int .i64 n.a)∧(∀q,w.frozen? ⟨gi,q,none⟩=false)∧∀z:Int,Pen w0 (w.setCell ⟨gi,i*5+1,none⟩ (.int .i64 z)) g r (setA l i z):=by
 obtain⟨h1,h2,iv,tv,h3,h4⟩:=h
 have hlt:=(List.getElem?_eq_some_iff.1 hi).1
 obtain⟨gi,cap,rfl,hge,_,hs,hfz,_⟩:=h4.open idC_len (by omega)
 obtain⟨b,off,e,_,hc⟩:=hs i n hi
 have e':gi=b∧0=off:=by injection e with e;injection e with e1 e2;exact⟨e1,e2⟩
 obtain⟨rfl,rfl⟩:=e'
 have hne:gi≠g:=by
  rintro rfl
  rcases h4.2 with ⟨e1,_⟩ | ⟨g0,c0,cur,e1,_,e3,_⟩
  ·cases e1
  ·injection e1 with e1 _ _;injection e1 with e1;injection e1 with e1;subst e1;rw[h3]at e3;cases e3
 refine⟨gi,cap,by rw[blk_cell h3];rfl,by have:=hc 1 _ rfl;simpa using this,hfz,fun z=>⟨h1.setCell (p:=⟨gi,i*5+1,none⟩) hge _,h2,_,tv,blk_other h3 hne _ _,?_⟩⟩
 unfold setA
 rw[hi]
 exact ORow.setc h4 idC_len hi (by omega) rfl
theorem Pen.code {w0 w:World} {g r:Nat} {l:List ID} (h:Pen w0 w g r l):∃(f:FC),f.d=⟨⟨#[109,97,105,110]⟩,0,0,false,r,[],[],l,[]⟩∧(∃tv,w.heap[g]?=some (.cells (f.cells++[tv,Value.int .i64 0,Value.int .i64 0]).toArray 61))∧∀q j v,q<w0.heap.size→f.lie (w.setCell ⟨q,j,none⟩ v):=by
 obtain⟨h1,h2,iv,tv,h3,h4⟩:=h
 obtain⟨a,cap,rfl,hs⟩:=h4.lies idC_len
 refine⟨⟨⟨⟨#[109,97,105,110]⟩,0,0,false,r,[],[],l,[]⟩,none,0,none,0,a,cap,none,0⟩,rfl,⟨tv,h3⟩,fun q j v hq=>⟨SlA.nil _ _ _ _,SlA.nil _ _ _ _,?_,SlA.nil _ _ _ _⟩⟩
 have h5:=ORow.set_own h4 (g:=q) (fun e=>by have:=owns_ge h4 e;omega) j v
 obtain⟨a',cap',e,hs'⟩:=h5.lies idC_len
 injection e with e1 e2 e3
 subst e1
 exact hs'
theorem code_one {w:World} {g:Nat} {f:FC} (hb:w.heap[g]?=some (.cells f.cells.toArray 58)) (hl:f.lie w) (hok:f.d.ok):CodeAt w (some ⟨g,0,none⟩) [f]:=by
 refine⟨fun i x hx=>?_,fun x hx=>by rw[List.mem_singleton.1 hx];exact hl,fun x hx=>by rw[List.mem_singleton.1 hx];exact hok,by simp,by simpa using hok.li⟩
 have hi:i=0∧f=x:=by
  cases i with
  | zero=>exact⟨rfl,by simpa using hx⟩
  | succ i=>simp at hx
 obtain⟨rfl,rfl⟩:=hi
 refine⟨g,0,rfl,blk_lt hb,fun j v hv=>?_⟩
 rw[blk_cell hb]
 simpa using hv
end Go.Proofs.YtkajknidfoelcaaGreatDoor
namespace Go.Proofs.YtkajknidfoelcaaGreatDoor.T
open Go.RowKit
theorem vdC_len (v:VD):v.cells.length=5:=rfl
theorem orow_ty {α:Type} {w:World} {B:Nat} {et:TypeId} {k:Nat} {cells:α→List Value} {sv:Value} {xs:List α} (h:ORow w B et k cells sv xs) {g:Nat} (hg:sv.ownBlock=some g):∃cur,w.heap[g]?=some (.cells cur et):=by
 rcases h.2 with ⟨e,_⟩ | ⟨g',c',cur,e,_,hb,_⟩
 ·rw[e]at hg;cases hg
 ·rw[e]at hg;cases hg;exact⟨cur,hb⟩
def penC (r:Nat) (cv iv tv:Value):Array Value:=#[.string ⟨#[109,97,105,110]⟩,.int .i64 0,.int .i64 0,.bool false,.int .i64 r,.slice none 0 0,cv,iv,.slice none 0 0,tv,.int .i64 0,.int .i64 0]
structure Pen (w0 w:World) (g r:Nat) (cs:List VD) (l:List ID):Prop where
 bel:Below w0.heap.size w0 w
 ge:w0.heap.size≤g
 row:∃iv cv tv,w.heap[g]?=some (.cells (penC r cv iv tv) 61)∧ORow w w0.heap.size 52 5 ID.cells iv l∧ORow w w0.heap.size 47 5 VD.cells cv cs
theorem Pen.drew {w0 w:World} {g r:Nat} {cs:List VD} {l:List ID} (h:Pen w0 w g r cs l):Pen w0 w.drew g r cs l:=by
 obtain⟨h1,h2,iv,cv,tv,h3,h4,h6⟩:=h
 exact⟨⟨h1.os,h1.tape,h1.output,h1.size,h1.block⟩,h2,iv,cv,tv,h3,h4,h6⟩
theorem Pen.at {w0 w:World} {g r:Nat} {cs:List VD} {l:List ID} (h:Pen w0 w g r cs l):∃a cap,w.cell? ⟨g,7,none⟩=some (.slice a l.length cap):=by
 obtain⟨h1,h2,iv,cv,tv,h3,h4,h6⟩:=h
 obtain⟨a,c,rfl⟩:=h4.val
 exact⟨a,c,by rw[blk_cell h3];rfl⟩
theorem pen_any (r:Nat) (hr:r≤250) (w:World):Calls Tryz.prog 9 #[.int .i64 (r:Int)] w fun e w'=>∃g,e=.returned (.pointer (some ⟨g,0,none⟩))∧Pen w w' g r [] []:=by
 have hmI:=fun W=>make_int r (by omega) W
 go_enter Tryz.func9,Tryz.ntmps9
 go_wp2_with fail
 go_ret
 refine⟨w.heap.size+1,rfl,bw2 _ _ _,by omega,_,_,_,blk_newn (by simp) _,ORow.nil _ _ _ _ _,ORow.nil _ _ _ _ _⟩
theorem Pen.open {w0 w:World} {g r:Nat} {cs:List VD} {l:List ID} (h:Pen w0 w g r cs l) {i:Nat} {n:ID} (hi:l[i]?=some n):∃gi cap,w.cell? ⟨g,7,none⟩=some (.slice (some ⟨gi,0,none⟩) l.length cap)∧w.cell? ⟨gi,i*5+1,none⟩=some (.int .i64 n.a)∧(∀q,w.frozen? ⟨gi,q,none⟩=false)∧∀z:Int,Pen w0 (w.setCell ⟨gi,i*5+1,none⟩ (.int .i64 z)) g r cs (setA l i z):=by
 obtain⟨h1,h2,iv,cv,tv,h3,h4,h6⟩:=h
 have hlt:=(List.getElem?_eq_some_iff.1 hi).1
 obtain⟨gi,cap,rfl,hge,_,hs,hfz,_⟩:=h4.open idC_len (by omega)
 obtain⟨b,off,e,_,hc⟩:=hs i n hi
 have e':gi=b∧0=off:=by injection e with e;injection e with e1 e2;exact⟨e1,e2⟩
 obtain⟨rfl,rfl⟩:=e'
 have hne:gi≠g:=by
  rintro rfl
  rcases h4.2 with ⟨e1,_⟩ | ⟨g0,c0,cur,e1,_,e3,_⟩
  ·cases e1
  ·injection e1 with e1 _ _;injection e1 with e1;injection e1 with e1;subst e1;rw[h3]at e3;cases e3
 have hnc:cv.ownBlock≠some gi:=by
  intro e
  obtain⟨c1,k1⟩:=orow_ty h6 e
  obtain⟨c2,k2⟩:=orow_ty h4 rfl
  rw[k1]at k2;cases k2
 refine⟨gi,cap,by rw[blk_cell h3];rfl,by have:=hc 1 _ rfl;simpa using this,hfz,fun z=>⟨h1.setCell (p:=⟨gi,i*5+1,none⟩) hge _,h2,_,cv,tv,blk_other h3 hne _ _,?_,ORow.set_own h6 (fun e=>hnc e) _ _⟩⟩
 unfold setA
 rw[hi]
 exact ORow.setc h4 idC_len hi (by omega) rfl
theorem pput_any {w0 w:World} {g r:Nat} {cs:List VD} {l:List ID} (op a b c d:Int) (H:Pen w0 w g r cs l) (hl:l.length≤100000) :
  Calls Tryz.prog 10 #[.pointer (some ⟨g,0,none⟩),.int .i64 op,.int .i64 a,.int .i64 b,.int .i64 c,.int .i64 d] w fun e w'=>e=.returned (.int .i64 (l.length:Int))∧Pen w0 w' g r cs (l++[⟨op,a,b,c,d⟩]):=by
 obtain⟨hB,hge,iv,cv,tv,hb,ho,hcs⟩:=H
 obtain⟨aa,cc,rfl⟩:=ho.val
 have hy:=bw1 w (.cells #[.int .i64 op,.int .i64 a,.int .i64 b,.int .i64 c,.int .i64 d] 52)
 have ho1:=ORow.later ho hy
 have hsz:w0.heap.size≤w.heap.size:=hB.size
 obtain⟨g',cap',w2,hr,ho2,hgr⟩:=ho1.app 55 40 Tryz.underlying55 (by kernel_rfl) (by omega) (by omega) (⟨op,a,b,c,d⟩:ID) w.heap.size 55 (blk_new _ _) rfl (by intro u hu;simp[ID.cells]at hu;rcases hu with rfl | rfl | rfl | rfl | rfl<;>rfl) (by omega) (by simp;omega)
 have hgne:(Value.slice aa l.length cc).ownBlock≠some g:=by
  intro e
  rcases ho.2 with ⟨e1,_⟩ | ⟨g0,c0,cur,e1,_,e3,_⟩
  ·rw[e1]at e;cases e
  ·rw[e1]at e;cases e;rw[hb]at e3;cases e3
 have hgl:=blk_lt hb
 have hb2:w2.heap[g]?=some (.cells (penC r cv (.slice aa l.length cc) tv) 61):=(hgr.block g (by simp;omega) (fun e=>hgne e.symm)).trans (blk_old hb _)
 have p1:w.cell? ⟨g,7,none⟩=some (.slice aa l.length cc):=by rw[blk_cell hb];rfl
 have p0:(w.alloc (.cells #[.int .i64 op,.int .i64 a,.int .i64 b,.int .i64 c,.int .i64 d] 52)).cell? ⟨g,7,none⟩=some (.slice aa l.length cc):=by rw[blk_cell (blk_old hb _)];rfl
 have p2:w2.cell? ⟨g,7,none⟩=some (.slice aa l.length cc):=by rw[blk_cell hb2];rfl
 have z2:=blk_frozen hb2
 have hcs1:=ORow.later hcs hy
 have hcs2:ORow w2 w0.heap.size 47 5 VD.cells cv cs:=ORow.keep hcs1 fun j arr _ hj=>hgr.block j (blk_lt hj) fun e=>by
  obtain⟨c2,k2⟩:=orow_ty ho1 e.symm
  rw[hj]at k2;cases k2
 have hcg:cv.ownBlock≠some g:=by
  intro e
  obtain⟨c1,k1⟩:=orow_ty hcs e
  rw[hb]at k1;cases k1
 have HE:Hid (Pen w0 (w2.setCell ⟨g,7,none⟩ (.slice (some ⟨g',0,none⟩) (l.length+1) cap')) g r cs (l++[⟨op,a,b,c,d⟩])):=by
  refine⟨?_,hge,_,cv,tv,blk_set hb2 7 _,?_,ORow.set_own hcs2 hcg 7 _⟩
  ·have:=below_grown (hB.trans (hy.mono hB.size)) (by simp;omega) ho1 (Nat.le_refl _) hgr
   exact this.setCell (p:=⟨g,7,none⟩) hge _
  ·refine ORow.set_own ho2 (fun e=>?_) 7 _
   have e':g'=g:=Option.some.inj e
   subst e'
   rcases ho2.2 with ⟨e1,_⟩ | ⟨g0,c0,cur,e1,_,e3,_⟩
   ·cases e1
   ·injection e1 with e1 _ _;injection e1 with e1;injection e1 with e1;subst e1;rw[hb2]at e3;cases e3
 obtain⟨W3,hW3⟩:∃W,w2.setCell ⟨g,7,none⟩ (.slice (some ⟨g',0,none⟩) (l.length+1) cap')=W:=⟨_,rfl⟩
 rw[hW3]at HE
 have p3:W3.cell? ⟨g,7,none⟩=some (.slice (some ⟨g',0,none⟩) (l.length+1) cap'):=by rw[←hW3,blk_cell (blk_set hb2 7 _)];rfl
 clear ho ho1 ho2 hgr hb2 hb hB hy hcs hcs1 hcs2 hcg
 go_enter Tryz.func10,Tryz.ntmps10
 go_wp2_with (at_builtin;refine wpList_append_run rfl _ _ _ rfl _ _ _ _ rfl rfl hr ?_;clear hr)
 go_ret
 exact⟨rfl,HE.out⟩
theorem pat_any {w0 w:World} {g r:Nat} {cs:List VD} {l:List ID} (H:Pen w0 w g r cs l) :
  Calls Tryz.prog 14 #[.pointer (some ⟨g,0,none⟩)] w fun e w'=>e=.returned (.int .i64 (l.length:Int))∧w'=w:=by
 obtain⟨a,cap,hc⟩:=H.at
 go_enter Tryz.func14,Tryz.ntmps14
 go_wp2_with fail
 go_ret
 exact⟨rfl,rfl⟩
theorem Pen.code {w0 w:World} {g r:Nat} {cs:List VD} {l:List ID} (h:Pen w0 w g r cs l):∃(f:FC),f.d=⟨⟨#[109,97,105,110]⟩,0,0,false,r,[],cs,l,[]⟩∧(∃tv,w.heap[g]?=some (.cells (f.cells++[tv,Value.int .i64 0,Value.int .i64 0]).toArray 61))∧∀q j v,q<w0.heap.size→f.lie (w.setCell ⟨q,j,none⟩ v):=by
 obtain⟨h1,h2,iv,cv,tv,h3,h4,h6⟩:=h
 obtain⟨a,cap,rfl,hs⟩:=h4.lies idC_len
 obtain⟨ac,ccap,rfl,hsc⟩:=h6.lies vdC_len
 refine⟨⟨⟨⟨#[109,97,105,110]⟩,0,0,false,r,[],cs,l,[]⟩,none,0,ac,ccap,a,cap,none,0⟩,rfl,⟨tv,h3⟩,fun q j v hq=>⟨SlA.nil _ _ _ _,?_,?_,SlA.nil _ _ _ _⟩⟩
 ·have h5:=ORow.set_own h6 (g:=q) (fun e=>by have:=owns_ge h6 e;omega) j v
  obtain⟨a',cap',e,hs'⟩:=h5.lies vdC_len
  injection e with e1 e2 e3
  subst e1
  exact hs'
 have h5:=ORow.set_own h4 (g:=q) (fun e=>by have:=owns_ge h4 e;omega) j v
 obtain⟨a',cap',e,hs'⟩:=h5.lies idC_len
 injection e with e1 e2 e3
 subst e1
 exact hs'
end Go.Proofs.YtkajknidfoelcaaGreatDoor.T
namespace Go.Proofs.YtkajknidfoelcaaGreatDoor.T
open Go.RowKit
attribute [local go_sem] run_store_float
theorem pkonst_any {w0 w:World} {g r:Nat} {l:List ID} (k n:Int) (f:Nat) (s:ByteArray) (q:Int) (H:Pen w0 w g r [] l) :
  Calls Tryz.prog 11 #[.pointer (some ⟨g,0,none⟩),VV k n f s q] w fun e w'=>e=.returned (.int .i64 0)∧Pen w0 w' g r [⟨k,n,f,s,q⟩] l:=by
 obtain⟨hB,hge,iv,cv,tv,hb,hi,ho⟩:=H
 obtain⟨aa,cc,rfl⟩:=ho.val
 have hy:=bw2 w (VO k n f s q) (.cells #[.int .i64 k,.int .i64 n,.float .f64 f,.string s,.int .i64 q] 47)
 have ho1:=ORow.later ho hy
 have hi1:=ORow.later hi hy
 have hsz:w0.heap.size≤w.heap.size:=hB.size
 obtain⟨g',cap',w2,hr,ho2,hgr⟩:=(show ORow ((w.alloc (VO k n f s q)).alloc (.cells #[.int .i64 k,.int .i64 n,.float .f64 f,.string s,.int .i64 q] 47)).drew w0.heap.size 47 5 VD.cells (.slice aa 0 cc) [] from ho1).app 54 48 Tryz.underlying54 (by kernel_rfl) (by omega) (by omega) (⟨k,n,f,s,q⟩:VD) (w.heap.size+1) 54 (blk_newn (by simp) _) rfl (by intro u hu;simp[VD.cells]at hu;rcases hu with rfl | rfl | rfl | rfl | rfl<;>rfl) (by simp) (by simp;omega)
 replace hgr:((w.alloc (VO k n f s q)).alloc (.cells #[.int .i64 k,.int .i64 n,.float .f64 f,.string s,.int .i64 q] 47)).grownBy w2 (Value.slice aa 0 cc).ownBlock:=⟨hgr.os,hgr.tape,hgr.output,hgr.size,hgr.block⟩
 have hgl:=blk_lt hb
 have hgne:(Value.slice aa ([]:List VD).length cc).ownBlock≠some g:=by
  intro e
  obtain⟨c1,k1⟩:=orow_ty ho e
  rw[hb]at k1;cases k1
 have hb2:w2.heap[g]?=some (.cells (penC r (.slice aa 0 cc) iv tv) 61):=(hgr.block g (by simp;omega) (fun e=>hgne e.symm)).trans (blk_old (blk_old hb _) _)
 have p1:w.cell? ⟨g,6,none⟩=some (.slice aa 0 cc):=by rw[blk_cell hb];rfl
 have p0:((w.alloc (VO k n f s q)).alloc (.cells #[.int .i64 k,.int .i64 n,.float .f64 f,.string s,.int .i64 q] 47)).cell? ⟨g,6,none⟩=some (.slice aa 0 cc):=by rw[blk_cell (blk_old (blk_old hb _) _)];rfl
 have p00:(w.alloc (VO k n f s q)).cell? ⟨g,6,none⟩=some (.slice aa 0 cc):=by rw[blk_cell (blk_old hb _)];rfl
 have p2:w2.cell? ⟨g,6,none⟩=some (.slice aa 0 cc):=by rw[blk_cell hb2];rfl
 have z2:=blk_frozen hb2
 have hi2:ORow w2 w0.heap.size 52 5 ID.cells iv l:=ORow.keep hi1 fun j arr _ hj=>hgr.block j (blk_lt hj) fun e=>by
  obtain⟨c2,k2⟩:=orow_ty ho1 e.symm
  rw[hj]at k2;cases k2
 have hig:iv.ownBlock≠some g:=by
  intro e
  obtain⟨c1,k1⟩:=orow_ty hi e
  rw[hb]at k1;cases k1
 have HE:Hid (Pen w0 (w2.setCell ⟨g,6,none⟩ (.slice (some ⟨g',0,none⟩) 1 cap')) g r [⟨k,n,f,s,q⟩] l):=by
  refine⟨?_,hge,iv,_,tv,blk_set hb2 6 _,ORow.set_own hi2 hig 6 _,?_⟩
  ·have:=below_grown (hB.trans (hy.mono hB.size)) (by simp;omega) ho1 (Nat.le_refl _) hgr
   exact this.setCell (p:=⟨g,6,none⟩) hge _
  ·refine ORow.set_own ho2 (fun e=>?_) 6 _
   obtain⟨c2,k2⟩:=orow_ty ho2 e
   rw[hb2]at k2;cases k2
 obtain⟨W3,hW3⟩:∃W,w2.setCell ⟨g,6,none⟩ (.slice (some ⟨g',0,none⟩) 1 cap')=W:=⟨_,rfl⟩
 rw[hW3]at HE
 have p3:W3.cell? ⟨g,6,none⟩=some (.slice (some ⟨g',0,none⟩) 1 cap'):=by rw[←hW3,blk_cell (blk_set hb2 6 _)];rfl
 have HR:Hid _:=hr
 clear hr
 clear ho ho1 ho2 hgr hb2 hb hB hy hi hi1 hi2 hig
 go_enter Tryz.func11,Tryz.ntmps11
 go_wp2_with fail
 go_loopw [13] (fun i wr=>i=.int .i64 0∧wr=w.alloc (VO k n f s q)) (fun i _=>0)
 case atStart=>exact⟨rfl,rfl⟩
 case round =>
  obtain⟨rfl,rfl⟩:=hrel
  go_wp2_with fail
  go_region_law (refine step_append_run rfl _ _ _ rfl _ _ _ _ rfl rfl HR.out ?_)
  all_goals
   go_wp2_with fail
   go_ret
   exact⟨rfl,HE.out⟩
end Go.Proofs.YtkajknidfoelcaaGreatDoor.T
namespace Go.Proofs.YtkajknidfoelcaaGreatDoor.U
open Go.RowKit T
attribute [local go_sem] run_store_float
theorem mk_str (s:ByteArray) (w:World):Calls Tryz.prog 12 #[.string s] w fun e w'=>e=.returned (VV 4 0 0 s 0)∧Below w.heap.size w w':=by
 go_enter Tryz.func12,Tryz.ntmps12
 go_wp2
 exact bodyPost_ret (v:=VV 4 0 0 s 0) (by simp[results,Tryz.results12,go_sem]) rfl ⟨rfl,by first | exact Below.refl _ _ | exact bw1 _ _ | exact bw2 _ _ _⟩
theorem Pen.later {w0 w w':World} {g r:Nat} {cs:List VD} {l:List ID} (h:T.Pen w0 w g r cs l) (hb:Below w.heap.size w w'):T.Pen w0 w' g r cs l:=by
 obtain⟨h1,h2,iv,cv,tv,h3,h4,h6⟩:=h
 exact⟨h1.trans (hb.mono h1.size),h2,iv,cv,tv,blk_later hb h3,ORow.later h4 hb,ORow.later h6 hb⟩
def setB (l:List ID) (i:Nat) (z:Int):List ID:=match l[i]? with | some n=>l.set i ⟨n.op,n.a,z,n.c,n.d⟩ | none=>l
theorem Pen.openB {w0 w:World} {g r:Nat} {cs:List VD} {l:List ID} (h:T.Pen w0 w g r cs l) {i:Nat} {n:ID} (hi:l[i]?=some n):∃gi cap,w.cell? ⟨g,7,none⟩=some (.slice (some ⟨gi,0,none⟩) l.length cap)∧w.cell? ⟨gi,i*5+2,none⟩=some (.int .i64 n.b)∧(∀q,w.frozen? ⟨gi,q,none⟩=false)∧∀z:Int,T.Pen w0 (w.setCell ⟨gi,i*5+2,none⟩ (.int .i64 z)) g r cs (setB l i z):=by
 obtain⟨h1,h2,iv,cv,tv,h3,h4,h6⟩:=h
 have hlt:=(List.getElem?_eq_some_iff.1 hi).1
 obtain⟨gi,cap,rfl,hge,_,hs,hfz,_⟩:=h4.open idC_len (by omega)
 obtain⟨b,off,e,_,hc⟩:=hs i n hi
 have e':gi=b∧0=off:=by injection e with e;injection e with e1 e2;exact⟨e1,e2⟩
 obtain⟨rfl,rfl⟩:=e'
 have hne:gi≠g:=by
  rintro rfl
  rcases h4.2 with ⟨e1,_⟩ | ⟨g0,c0,cur,e1,_,e3,_⟩
  ·cases e1
  ·injection e1 with e1 _ _;injection e1 with e1;injection e1 with e1;subst e1;rw[h3]at e3;cases e3
 have hnc:cv.ownBlock≠some gi:=by
  intro e
  obtain⟨c1,k1⟩:=orow_ty h6 e
  obtain⟨c2,k2⟩:=orow_ty h4 rfl
  rw[k1]at k2;cases k2
 refine⟨gi,cap,by rw[blk_cell h3];rfl,by have:=hc 2 _ rfl;simpa using this,hfz,fun z=>⟨h1.setCell (p:=⟨gi,i*5+2,none⟩) hge _,h2,_,cv,tv,blk_other h3 hne _ _,?_,ORow.set_own h6 (fun e=>hnc e) _ _⟩⟩
 unfold setB
 rw[hi]
 exact ORow.setc h4 idC_len hi (by omega) rfl
theorem pback_any {w0 w:World} {g r:Nat} {cs:List VD} {l:List ID} (x:Int) (H:T.Pen w0 w g r cs l) (hl:l.length≤1000) (hx:0≤x∧x≤1000) :
  Calls Tryz.prog 15 #[.pointer (some ⟨g,0,none⟩),.int .i64 x] w fun e w'=>e=.returned (.tuple #[])∧T.Pen w0 w' g r cs (l++[⟨22,x,0,0,0⟩,⟨29,-1-x,0,0,0⟩]):=by
 have HP:Hid (T.Pen w0 w g r cs l):=H
 clear H
 go_enter Tryz.func15,Tryz.ntmps15
 go_wp2_with fail
 refine (T.pput_any _ _ _ _ _ HP.out (by omega)).mono ?_
 rintro e w1 ⟨rfl,H1⟩
 have HP1:Hid _:=H1
 clear H1 HP
 go_wp2_with fail
 refine (T.pput_any _ _ _ _ _ HP1.out (by simp;omega)).mono ?_
 rintro e w2 ⟨rfl,H2⟩
 have HP2:Hid _:=H2
 clear H2 HP1
 go_wp2_with fail
 refine bodyPost_end (v:=.tuple #[]) (by simp[results,Tryz.results15,go_sem]) rfl ⟨rfl,?_⟩
 have:=HP2.out
 rwa [List.append_assoc]at this
theorem eq_nt (w:World):(binOp BinOp.eql 47 (.agg #[.int .i64 4,.int .i64 0,.float .f64 0,.string ⟨#[]⟩,.int .i64 0]) (.agg #[.int .i64 8,.int .i64 3,.float .f64 0,.string ⟨#[]⟩,.int .i64 0])).run Tryz.prog w=.ok (.bool false) w:=by kernel_rfl
theorem pkonst2 {w0 w:World} {g r:Nat} {l:List ID} (H:T.Pen w0 w g r [nothing] l) :
  Calls Tryz.prog 11 #[.pointer (some ⟨g,0,none⟩),VV 8 3 0 ⟨#[]⟩ 0] w fun e w'=>e=.returned (.int .i64 1)∧T.Pen w0 w' g r [nothing,texter] l:=by
 obtain⟨hB,hge,iv,cv,tv,hb,hi,ho⟩:=H
 obtain⟨ga,cc,rfl,hga,_,hs,_,_⟩:=ho.open T.vdC_len (by simp)
 obtain⟨b0,o0,e0,_,hc0⟩:=hs 0 nothing rfl
 have e1:ga=b0∧0=o0:=by injection e0 with e0;injection e0 with e0 e2;exact⟨e0,e2⟩
 obtain⟨rfl,rfl⟩:=e1
 obtain⟨W,hW⟩:∃W,w.alloc (VO 8 3 0 ⟨#[]⟩ 0)=W:=⟨_,rfl⟩
 have hbW:Below w.heap.size w W:=by rw[←hW];exact bw1 _ _
 have bv:W.heap[w.heap.size]?=some (VO 8 3 0 ⟨#[]⟩ 0):=by rw[←hW];exact blk_new _ _
 have k0:W.cell? ⟨ga,0,none⟩=some (.int .i64 4):=cell_later hbW (hc0 0 _ rfl)
 have k1:W.cell? ⟨ga,1,none⟩=some (.int .i64 0):=cell_later hbW (hc0 1 _ rfl)
 have k2:W.cell? ⟨ga,2,none⟩=some (.float .f64 0):=cell_later hbW (hc0 2 _ rfl)
 have k3:W.cell? ⟨ga,3,none⟩=some (.string ⟨#[]⟩):=cell_later hbW (hc0 3 _ rfl)
 have k4:W.cell? ⟨ga,4,none⟩=some (.int .i64 0):=cell_later hbW (hc0 4 _ rfl)
 have p6:W.cell? ⟨g,6,none⟩=some (.slice (some ⟨ga,0,none⟩) 1 cc):=by rw[blk_cell (blk_later hbW hb)];rfl
 have p60:w.cell? ⟨g,6,none⟩=some (.slice (some ⟨ga,0,none⟩) 1 cc):=by rw[blk_cell hb];rfl
 have HS:Hid (T.Pen w0 W g r [nothing] l∧W.heap[g]?=some (.cells (T.penC r (.slice (some ⟨ga,0,none⟩) 1 cc) iv tv) 61)∧ORow W w0.heap.size 52 5 ID.cells iv l∧ORow W w0.heap.size 47 5 VD.cells (.slice (some ⟨ga,0,none⟩) 1 cc) [nothing]∧Below w0.heap.size w0 W):=⟨Pen.later ⟨hB,hge,iv,_,tv,hb,hi,ho⟩ hbW,blk_later hbW hb,ORow.later hi hbW,ORow.later ho hbW,hB.trans (hbW.mono hB.size)⟩
 have HV:Hid (W.heap[w.heap.size]?=some (VO 8 3 0 ⟨#[]⟩ 0)):=bv
 obtain⟨v0,v1,v2,v3,v4⟩:W.cell? ⟨w.heap.size,0,none⟩=some (.int .i64 8)∧W.cell? ⟨w.heap.size,1,none⟩=some (.int .i64 3)∧W.cell? ⟨w.heap.size,2,none⟩=some (.float .f64 0)∧W.cell? ⟨w.heap.size,3,none⟩=some (.string ⟨#[]⟩)∧W.cell? ⟨w.heap.size,4,none⟩=some (.int .i64 0):=by refine⟨?_,?_,?_,?_,?_⟩<;>(rw[blk_cell bv];rfl)
 have yy0:=cell_later (bw1 W (VO 4 0 0 ⟨#[]⟩ 0)) v0
 have yy1:=cell_later (bw1 W (VO 4 0 0 ⟨#[]⟩ 0)) v1
 have yy2:=cell_later (bw1 W (VO 4 0 0 ⟨#[]⟩ 0)) v2
 have yy3:=cell_later (bw1 W (VO 4 0 0 ⟨#[]⟩ 0)) v3
 have yy4:=cell_later (bw1 W (VO 4 0 0 ⟨#[]⟩ 0)) v4
 have hq:=eq_nt
 have hgW:ga<W.heap.size:=World.block_lt_of_cell? _ _ k0
 clear hB hb hi ho hs e0 hc0 bv hbW
 go_enter Tryz.func11,Tryz.ntmps11
 go_wp2_with fail
 go_loopw [13] (fun i wr=>(i=.int .i64 0∧wr=W)∨(i=.int .i64 1∧Hid (Below W.heap.size W wr))) (fun i _=>1-(intOf i).toNat)
 case atStart=>exact .inl ⟨rfl,rfl⟩
 case round =>
  rcases hrel with ⟨rfl,rfl⟩ | ⟨rfl,HX⟩
  ·clear hW
   go_wp2_with fail
   go_roundw
   case rel=>exact .inr ⟨by go_num,bw1 _ _⟩
   case measure=>simp[intOf]
  ·clear k0 k1 k2 k3 k4 yy0 yy1 yy2 yy3 yy4
   obtain⟨hP,hb,hi,ho,hB⟩:=HS.out
   have hyr:=HX.out
   obtain⟨v0',v1',v2',v3',v4'⟩:wr.cell? ⟨w.heap.size,0,none⟩=some (.int .i64 8)∧wr.cell? ⟨w.heap.size,1,none⟩=some (.int .i64 3)∧wr.cell? ⟨w.heap.size,2,none⟩=some (.float .f64 0)∧wr.cell? ⟨w.heap.size,3,none⟩=some (.string ⟨#[]⟩)∧wr.cell? ⟨w.heap.size,4,none⟩=some (.int .i64 0):=by refine⟨?_,?_,?_,?_,?_⟩<;>(rw[blk_cell (blk_later hyr HV.out)];rfl)
   have hb1:=blk_later hyr hb
   have hy:=hyr.trans ((bw1 wr (.cells #[.int .i64 8,.int .i64 3,.float .f64 0,.string ⟨#[]⟩,.int .i64 0] 47)).mono hyr.size)
   have ho1:=ORow.later ho hy
   have hi1:=ORow.later hi hy
   have hBr:Below w0.heap.size w0 (wr.alloc (.cells #[.int .i64 8,.int .i64 3,.float .f64 0,.string ⟨#[]⟩,.int .i64 0] 47)):=hB.trans (hy.mono hB.size)
   have hsz:w0.heap.size≤wr.heap.size:=Nat.le_trans hB.size hyr.size
   obtain⟨g',cap',w2,hr,ho2,hgr⟩:=(show ORow (wr.alloc (.cells #[.int .i64 8,.int .i64 3,.float .f64 0,.string ⟨#[]⟩,.int .i64 0] 47)).drew w0.heap.size 47 5 VD.cells (.slice (some ⟨ga,0,none⟩) 1 cc) [nothing] from ho1).app 54 48 Tryz.underlying54 (by kernel_rfl) (by omega) (by omega) texter wr.heap.size 54 (blk_new _ _) rfl (by intro u hu;simp[VD.cells,texter]at hu;rcases hu with rfl | rfl | rfl | rfl | rfl<;>rfl) (by simp) (by simp;omega)
   replace hgr:(wr.alloc (.cells #[.int .i64 8,.int .i64 3,.float .f64 0,.string ⟨#[]⟩,.int .i64 0] 47)).grownBy w2 (Value.slice (some ⟨ga,0,none⟩) 1 cc).ownBlock:=⟨hgr.os,hgr.tape,hgr.output,hgr.size,hgr.block⟩
   have hgl:=blk_lt hb1
   have hgne:(Value.slice (some ⟨ga,0,none⟩) [nothing].length cc).ownBlock≠some g:=by
    intro e
    obtain⟨c1,q1⟩:=orow_ty ho e
    rw[hb]at q1;cases q1
   have hb2:w2.heap[g]?=some (.cells (T.penC r (.slice (some ⟨ga,0,none⟩) 1 cc) iv tv) 61):=(hgr.block g (by simp;omega) (fun e=>hgne e.symm)).trans (blk_old hb1 _)
   have q6:wr.cell? ⟨g,6,none⟩=some (.slice (some ⟨ga,0,none⟩) 1 cc):=by rw[blk_cell hb1];rfl
   have q60:(wr.alloc (.cells #[.int .i64 8,.int .i64 3,.float .f64 0,.string ⟨#[]⟩,.int .i64 0] 47)).cell? ⟨g,6,none⟩=some (.slice (some ⟨ga,0,none⟩) 1 cc):=by rw[blk_cell (blk_old hb1 _)];rfl
   have p2:w2.cell? ⟨g,6,none⟩=some (.slice (some ⟨ga,0,none⟩) 1 cc):=by rw[blk_cell hb2];rfl
   have z2:=blk_frozen hb2
   have hi2:ORow w2 w0.heap.size 52 5 ID.cells iv l:=ORow.keep hi1 fun j arr _ hj=>hgr.block j (blk_lt hj) fun e=>by
    obtain⟨c2,q2⟩:=orow_ty ho1 e.symm
    rw[hj]at q2;cases q2
   have hig:iv.ownBlock≠some g:=by
    intro e
    obtain⟨c1,q1⟩:=orow_ty hi e
    rw[hb]at q1;cases q1
   have HE:Hid (T.Pen w0 (w2.setCell ⟨g,6,none⟩ (.slice (some ⟨g',0,none⟩) 2 cap')) g r [nothing,texter] l):=by
    refine⟨?_,hge,iv,_,tv,blk_set hb2 6 _,ORow.set_own hi2 hig 6 _,?_⟩
    ·have:=below_grown hBr (by simp;omega) ho1 (Nat.le_refl _) hgr
     exact this.setCell (p:=⟨g,6,none⟩) hge _
    ·refine ORow.set_own ho2 (fun e=>?_) 6 _
     obtain⟨c2,q2⟩:=orow_ty ho2 e
     rw[hb2]at q2;cases q2
   obtain⟨W3,hW3⟩:∃W,w2.setCell ⟨g,6,none⟩ (.slice (some ⟨g',0,none⟩) 2 cap')=W:=⟨_,rfl⟩
   rw[hW3]at HE
   have p3:W3.cell? ⟨g,6,none⟩=some (.slice (some ⟨g',0,none⟩) 2 cap'):=by rw[←hW3,blk_cell (blk_set hb2 6 _)];rfl
   have HR:Hid _:=hr
   clear hr v0 v1 v2 v3 v4
   clear ho ho1 ho2 hgr hb2 hb hb1 hB hBr hy hyr hi hi1 hi2 hig hP HS
   go_wp2_with fail
   go_region_law (refine step_append_run rfl _ _ _ rfl _ _ _ _ rfl rfl HR.out ?_)
   all_goals
    go_wp2_with fail
    go_ret
    exact⟨rfl,HE.out⟩
end Go.Proofs.YtkajknidfoelcaaGreatDoor.U
namespace Go.Proofs.YtkajknidfoelcaaGreatDoor
open Go.RowKit
end Go.Proofs.YtkajknidfoelcaaGreatDoor
namespace Go.Proofs.YtkajknidfoelcaaGreatDoor.U
open Go.RowKit T
attribute [local go_sem] run_store_float
theorem pat_z {w0 w:World} {g r:Nat} {cs:List VD} {l:List ID} (z:Int) (H:T.Pen w0 w g r cs l) (hz:(l.length:Int)=z) :
  Calls Tryz.prog 14 #[.pointer (some ⟨g,0,none⟩)] w fun e w'=>e=.returned (.int .i64 z)∧w'=w:=by
 subst hz;exact T.pat_any H
theorem pput_z {w0 w:World} {g r:Nat} {cs:List VD} {l:List ID} (z:Int) (op a b c d:Int) (H:T.Pen w0 w g r cs l) (hl:l.length≤100000) (hz:(l.length:Int)=z) :
  Calls Tryz.prog 10 #[.pointer (some ⟨g,0,none⟩),.int .i64 op,.int .i64 a,.int .i64 b,.int .i64 c,.int .i64 d] w fun e w'=>e=.returned (.int .i64 z)∧T.Pen w0 w' g r cs (l++[⟨op,a,b,c,d⟩]):=by
 subst hz;exact T.pput_any op a b c d H hl
theorem pbui {w0 w:World} {g r:Nat} {l:List ID} (H:T.Pen w0 w g r [nothing] l) (hl:l.length≤1000) :
  Calls Tryz.prog 13 #[.pointer (some ⟨g,0,none⟩),.int .i64 1,.int .i64 3] w fun e w'=>e=.returned (.tuple #[])∧T.Pen w0 w' g r [nothing,texter] (l++[⟨4,1,1,0,0⟩]):=by
 have HP:Hid (T.Pen w0 w g r [nothing] l):=H
 clear H
 go_enter Tryz.func13,Tryz.ntmps13
 go_wp2_with fail
 refine (pkonst2 HP.out).mono ?_
 rintro e w1 ⟨rfl,H1⟩
 have HP1:Hid (T.Pen w0 w1 g r [nothing,texter] l):=H1
 clear H1 HP
 go_wp2_with fail
 refine (T.pput_any _ _ _ _ _ HP1.out (by omega)).mono ?_
 rintro e w2 ⟨rfl,H2⟩
 have HP2:Hid _:=H2
 clear H2 HP1
 go_wp2_with fail
 exact bodyPost_end (v:=.tuple #[]) (by simp[results,Tryz.results13,go_sem]) rfl ⟨rfl,HP2.out⟩
theorem setA_app (A C:List ID) (x:ID) (z:Int):setA (A++x :: C) A.length z=A++⟨x.op,z,x.b,x.c,x.d⟩ :: C:=by
 unfold setA
 simp
theorem setB_app (A C:List ID) (x:ID) (z:Int):setB (A++x :: C) A.length z=A++⟨x.op,x.a,z,x.c,x.d⟩ :: C:=by
 unfold setB
 simp
theorem at_app (A C:List ID) (x:ID):(A++x :: C)[A.length]?=some x:=by simp
theorem nothing_ok:nothing.ok:=⟨by decide,by show (0:Nat)≤maxLen;unfold maxLen;omega⟩
theorem texter_ok:texter.ok:=⟨by decide,by show (0:Nat)≤maxLen;unfold maxLen;omega⟩
theorem cirI_le (kind n:Nat) (hn:n≤20):(cirI kind n).length≤1048576:=by
 have h1:(cirP kind).length≤4:=by
  unfold cirP
  split
  ·exact Nat.le_refl _
  ·split<;>exact Nat.le_of_ble_eq_true rfl
 have h2:(cirM (cirB kind+n) kind).length≤5:=by
  unfold cirM
  split<;>exact Nat.le_of_ble_eq_true rfl
 have h3:(cirE kind).length≤2:=by
  unfold cirE
  split
  ·exact Nat.le_refl _
  ·exact Nat.zero_le _
 unfold cirI
 simp only[List.length_append,List.length_replicate,List.length_cons]
 omega
end Go.Proofs.YtkajknidfoelcaaGreatDoor.U
