import Derived.Test.YtjglgbepobmjhaaGreatDoorP43
import Derived.Test.YtjglgbepobmjhaaGreatDoorP07
import Derived.Test.YtjglgbepobmjhaaGreatDoorP12
import Derived.BigRegion
import Derived.BigQuiet
import Derived.Deep.QuietTactic
import Derived.Test.YtjglgbepobmjhaaGreatDoorP38
import Derived.Deep.CutRange
import Derived.Test.YtjglgbepobmjhaaGreatDoorP11
import Derived.Test.YtjglgbepobmjhaaGreatDoorP39
set_option linter.unusedVariables false
set_option linter.unusedSimpArgs false
set_option maxRecDepth 20000
set_option maxHeartbeats 8000000
namespace Go.Proofs.YtjglgbepobmjhaaGreatDoor.T
open Go.RowKit M
attribute [local go_sem] run_store_float
theorem runCode_t (bp k t:Nat) (f:FC) (ov:Addr) (hd:f.d=throwsD k) (hk1:1≤k) (hk2:k≤250) (ht5:t≤5000) (w:World) (H0:CodeAt w (some ⟨bp,0,none⟩) [f]) (hlay:LayAt w) (hov:OvV w (some ov)) :
  Calls Tryz.prog 8 #[.agg #[.slice (some ⟨bp,0,none⟩) 1 1],.agg #[.slice none 0 0,.slice none 0 0,.int .i64 (t:Int),.int .i64 1,.int .i64 0]] w fun e w'=>RepP k t w e w':=by
 obtain⟨W,hW⟩:∃W,((w.alloc (.cells #[.slice (some ⟨bp,0,none⟩) 1 1] 26)).alloc (.cells #[.slice none 0 0,.slice none 0 0,.int .i64 (t:Int),.int .i64 1,.int .i64 0] 37)).alloc RepZ=W:=⟨_,rfl⟩
 have hb:Below w.heap.size w W:=by rw[←hW];exact bw3 _ _ _ _
 have b0:W.heap[w.heap.size]?=some (.cells #[.slice (some ⟨bp,0,none⟩) 1 1] 26):=by rw[←hW];exact blk_old (blk_old (blk_new _ _) _) _
 have b1:W.heap[w.heap.size+1]?=some (.cells #[.slice none 0 0,.slice none 0 0,.int .i64 (t:Int),.int .i64 1,.int .i64 0] 37):=by rw[←hW];exact blk_old (blk_newn (by simp) _) _
 have x0:W.cell? ⟨w.heap.size,0,none⟩=some (.slice (some ⟨bp,0,none⟩) 1 1):=by rw[blk_cell b0];rfl
 have x1:W.cell? ⟨w.heap.size+1,0,none⟩=some (.slice none 0 0):=by rw[blk_cell b1];rfl
 have x2:W.cell? ⟨w.heap.size+1,1,none⟩=some (.slice none 0 0):=by rw[blk_cell b1];rfl
 have x3:W.cell? ⟨w.heap.size+1,2,none⟩=some (.int .i64 (t:Int)):=by rw[blk_cell b1];rfl
 have x4:W.cell? ⟨w.heap.size+1,3,none⟩=some (.int .i64 1):=by rw[blk_cell b1];rfl
 have x5:W.cell? ⟨w.heap.size+1,4,none⟩=some (.int .i64 0):=by rw[blk_cell b1];rfl
 have HZ:Hid (W.heap[w.heap.size+1+1]?=some RepZ):=by show _=_;rw[←hW];exact blk_newn (by simp) _
 have HB:Hid (Below w.heap.size w W):=hb
 have HR:Hid (Calls Tryz.prog 16 #[.agg #[.slice (some ⟨bp,0,none⟩) 1 1],.agg #[.slice none 0 0,.slice none 0 0,.int .i64 (t:Int),.int .i64 1,.int .i64 0],.func (.func 17) #[] #[]] W fun e w'=>RepP k t W e w'):=runWatched_t bp k t f ov hd hk1 hk2 ht5 W (H0.later hb) (hlay.later hb) (hov.later hb)
 clear H0 hlay hov hb b0 b1
 go_enter Tryz.func8,Tryz.ntmps8
 have hWz:=hW
 go_wp2_with fail
 clear hW
 refine HR.out.mono ?_
 rintro e w5 ⟨ra,nr,rcap,s,tr,tk,mk,rfl,hfin,hsl,hge,hx⟩
 have HFI:Hid (Fin' k t tk nr):=hfin
 have HSL:Hid (SlA w5 5 rcC ra (recL nr)):=hsl
 have HGE:Hid (∀b o,(ra=some ⟨b,o,none⟩)→W.heap.size≤b):=hge
 have HWz:Hid (W.heap.size=w.heap.size+3):=by show _=_;rw[←hWz];simp
 clear hfin hsl hge
 have HX5:Hid (Below W.heap.size W w5):=hx
 have hz5:=blk_later hx HZ.out
 have d0:w5.cell? ⟨w.heap.size+1+1,0,none⟩=some (.int .i64 0):=by rw[blk_cell hz5];rfl
 have d1:w5.cell? ⟨w.heap.size+1+1,1,none⟩=some (.slice none 0 0):=by rw[blk_cell hz5];rfl
 have d2:w5.cell? ⟨w.heap.size+1+1,2,none⟩=some (.slice none 0 0):=by rw[blk_cell hz5];rfl
 have d3:w5.cell? ⟨w.heap.size+1+1,3,none⟩=some (.string ⟨#[]⟩):=by rw[blk_cell hz5];rfl
 have d4:w5.cell? ⟨w.heap.size+1+1,4,none⟩=some (.string ⟨#[]⟩):=by rw[blk_cell hz5];rfl
 have d5:w5.cell? ⟨w.heap.size+1+1,5,none⟩=some (.int .i64 0):=by rw[blk_cell hz5];rfl
 have d6:w5.cell? ⟨w.heap.size+1+1,6,none⟩=some (.int .i64 0):=by rw[blk_cell hz5];rfl
 have zz:=blk_frozen hz5
 unfold repU
 clear hx hz5 HR x0 x1 x2 x3 x4 x5 hWz
 go_wp2_with fail
 have hq:w.heap.size≤w.heap.size+1+1:=by omega
 refine bodyPost_ret (v:=repU ra nr rcap s tr tk mk) (by simp[results,Tryz.results8,go_sem,repU,d0,d1,d2,d3,d4,d5,d6]) rfl ⟨ra,nr,rcap,s,tr,tk,mk,rfl,HFI.out,?_,?_,?_⟩
 ·exact HSL.out.but' (S:=[w.heap.size+1+1]) (fun b9 o9 _ e9=>by simp;have h8:=HGE.out b9 o9 e9;have:=HWz.out;omega) ((((((((ButL.refl _ _).set (by simp) _ _).set (by simp) _ _).set (by simp) _ _).set (by simp) _ _).set (by simp) _ _).set (by simp) _ _).set (by simp) _ _)
 ·intro b9 o9 h9
  have:=HGE.out b9 o9 h9
  have:=HWz.out
  omega
 ·exact ButL.nil ((((((((ButL.of_below (HB.out.trans (HX5.out.mono HB.out.size))).setn hq _ _).setn hq _ _).setn hq _ _).setn hq _ _).setn hq _ _).setn hq _ _).setn hq _ _)
end Go.Proofs.YtjglgbepobmjhaaGreatDoor.T
namespace Go.Proofs.YtjglgbepobmjhaaGreatDoor
open Go.RowKit
def penC (r:Nat) (iv tv:Value):Array Value:=#[.string ⟨#[109,97,105,110]⟩,.int .i64 0,.int .i64 0,.bool false,.int .i64 r,.slice none 0 0,.slice none 0 0,iv,.slice none 0 0,tv,.int .i64 0,.int .i64 0]
structure Pen (w0 w:World) (g r:Nat) (l:List ID):Prop where
 bel:Below w0.heap.size w0 w
 ge:w0.heap.size≤g
 row:∃iv tv,w.heap[g]?=some (.cells (penC r iv tv) 56)∧ORow w w0.heap.size 47 5 ID.cells iv l
theorem idC_len (n:ID):n.cells.length=5:=rfl
theorem Pen.drewN {w0 w:World} {g r:Nat} {l:List ID} (h:Pen w0 w g r l) (n:Nat):Pen w0 (w.drewN n) g r l:=by
 obtain⟨h1,h2,iv,tv,h3,h4⟩:=h
 exact⟨⟨h1.os,h1.tape,h1.output,h1.size,h1.block⟩,h2,iv,tv,h3,h4⟩
theorem Pen.drew {w0 w:World} {g r:Nat} {l:List ID} (h:Pen w0 w g r l):Pen w0 w.drew g r l:=by
 obtain⟨h1,h2,iv,tv,h3,h4⟩:=h
 exact⟨⟨h1.os,h1.tape,h1.output,h1.size,h1.block⟩,h2,iv,tv,h3,h4⟩
theorem Pen.at {w0 w:World} {g r:Nat} {l:List ID} (h:Pen w0 w g r l):∃a cap,w.cell? ⟨g,7,none⟩=some (.slice a l.length cap):=by
 obtain⟨h1,h2,iv,tv,h3,h4⟩:=h
 obtain⟨a,c,rfl⟩:=h4.val
 exact⟨a,c,by rw[blk_cell h3];rfl⟩
theorem pen_any (r:Nat) (hr:r≤250) (w:World):Calls Tryz.prog 10 #[.int .i64 (r:Int)] w fun e w'=>∃g,e=.returned (.pointer (some ⟨g,0,none⟩))∧Pen w w' g r []:=by
 have hmI:=fun W=>make_int r (by omega) W
 go_enter Tryz.func10,Tryz.ntmps10
 go_wp2_with fail
 go_ret
 refine⟨w.heap.size+1,rfl,bw2 _ _ _,by omega,_,_,blk_newn (by simp) _,ORow.nil _ _ _ _ _⟩
theorem flat_setc {α:Type} (cells:α→List Value) (k:Nat):∀(xs:List α) (i j:Nat) (x x':α) (v:Value),(∀y∈xs,(cells y).length=k)→xs[i]?=some x→j<k→cells x'=(cells x).set j v→(xs.flatMap cells).set (i*k+j) v=(xs.set i x').flatMap cells
 | [],i,j,x,x',v,_,hx,_,_=>by simp at hx
 | y :: ys,0,j,x,x',v,hk,hx,hj,hc=>by
  obtain rfl:y=x:=by simpa using hx
  have hy:=hk y (by simp)
  rw[Nat.zero_mul,Nat.zero_add,List.flatMap_cons,List.set_append_left _ _ (by omega),List.set_cons_zero,List.flatMap_cons,hc]
 | y :: ys,i+1,j,x,x',v,hk,hx,hj,hc=>by
  have hy:=hk y (by simp)
  rw[List.flatMap_cons,List.set_append_right _ _ (by rw[hy,Nat.add_mul,Nat.one_mul];omega),hy,show (i+1)*k+j-k=i*k+j by rw[Nat.add_mul,Nat.one_mul];omega,List.set_cons_succ,List.flatMap_cons]
  rw[flat_setc cells k ys i j x x' v (fun z hz=>hk z (by simp[hz])) (by simpa using hx) hj hc]
theorem ORow.setc {α:Type} {w:World} {B:Nat} {et:TypeId} {k:Nat} {cells:α→List Value} {g n cap:Nat} {xs:List α} (h:ORow w B et k cells (.slice (some ⟨g,0,none⟩) n cap) xs) (hk:∀y,(cells y).length=k) {i j:Nat} {x x':α} {v:Value} (hx:xs[i]?=some x) (hj:j<k) (hc:cells x'=(cells x).set j v):ORow (w.setCell ⟨g,i*k+j,none⟩ v) B et k cells (.slice (some ⟨g,0,none⟩) n cap) (xs.set i x'):=by
 obtain⟨h1,h2⟩:=h
 have hf:=flat_setc cells k xs i j x x' v (fun y _=>hk y) hx hj hc
 refine⟨by rw[←hf,List.length_set,List.length_set];exact h1,?_⟩
 rcases h2 with ⟨e,_⟩ | ⟨g',c',cur,e,hb,hg,hl,hm,hs,ht⟩
 ·cases e
 ·injection e with e1 e2 e3
  injection e1 with e1
  injection e1 with e1
  subst e1 e2 e3
  rw[List.length_set]
  refine .inr ⟨g,_,cur.setIfInBounds (i*k+j) v,rfl,hb,blk_set hg _ _,hl,hm,by simpa using hs,?_⟩
  rw[Array.toList_setIfInBounds,List.take_set,ht,hf]
def setA (l:List ID) (i:Nat) (z:Int):List ID:=match l[i]? with | some n=>l.set i ⟨n.op,z,n.b,n.c,n.d⟩ | none=>l
theorem Pen.open {w0 w:World} {g r:Nat} {l:List ID} (h:Pen w0 w g r l) {i:Nat} {n:ID} (hi:l[i]?=some n):∃gi cap,w.cell? ⟨g,7,none⟩=some (.slice (some ⟨gi,0,none⟩) l.length cap)∧w.cell? ⟨gi,i*5+1,none⟩=some (.int .i64 n.a)∧(∀q,w.frozen? ⟨gi,q,none⟩=false)∧∀z:Int,Pen w0 (w.setCell ⟨gi,i*5+1,none⟩ (.int .i64 z)) g r (setA l i z):=by
 obtain⟨h1,h2,iv,tv,h3,h4⟩:=h
 have hlt:=(List.getElem?_eq_some_iff.1 hi).1
 obtain⟨gi,cap,rfl,hge,_,hs,hfz,_⟩:=h4.open idC_len (by omega)
 obtain⟨b,off,e,_,hc⟩:=hs i n hi
 have e':gi=b∧0=off:=by injection e with e;injection e with e1 e2;exact⟨e1,e2⟩
 obtain⟨rfl,rfl⟩:=e'
 have hne:gi≠g:=by
  rintro rfl
  rcases h4.2 with ⟨e1,_⟩ | ⟨g0,c0,cur,e1,_,e3,_⟩
  ·cases e1
  ·injection e1 with e1 _ _;injection e1 with e1;injection e1 with e1;subst e1;rw[h3]at e3;cases e3
 refine⟨gi,cap,by rw[blk_cell h3];rfl,by have:=hc 1 _ rfl;simpa using this,hfz,fun z=>⟨h1.setCell (p:=⟨gi,i*5+1,none⟩) hge _,h2,_,tv,blk_other h3 hne _ _,?_⟩⟩
 unfold setA
 rw[hi]
 exact ORow.setc h4 idC_len hi (by omega) rfl
theorem pput_any {w0 w:World} {g r:Nat} {l:List ID} (op a b c d:Int) (H:Pen w0 w g r l) (hl:l.length≤100000) :
  Calls Tryz.prog 11 #[.pointer (some ⟨g,0,none⟩),.int .i64 op,.int .i64 a,.int .i64 b,.int .i64 c,.int .i64 d] w fun e w'=>e=.returned (.int .i64 (l.length:Int))∧Pen w0 w' g r (l++[⟨op,a,b,c,d⟩]):=by
 obtain⟨hB,hge,iv,tv,hb,ho⟩:=H
 obtain⟨aa,cc,rfl⟩:=ho.val
 have hy:=bw1 w (.cells #[.int .i64 op,.int .i64 a,.int .i64 b,.int .i64 c,.int .i64 d] 47)
 have ho1:=ORow.later ho hy
 have hsz:w0.heap.size≤w.heap.size:=hB.size
 obtain⟨g',cap',w2,hr,ho2,hgr⟩:=ho1.app 50 40 Tryz.underlying50 (by kernel_rfl) (by omega) (by omega) (⟨op,a,b,c,d⟩:ID) w.heap.size 50 (blk_new _ _) rfl (by intro u hu;simp[ID.cells]at hu;rcases hu with rfl | rfl | rfl | rfl | rfl<;>rfl) (by omega) (by simp;omega)
 have hgne:(Value.slice aa l.length cc).ownBlock≠some g:=by
  intro e
  rcases ho.2 with ⟨e1,_⟩ | ⟨g0,c0,cur,e1,_,e3,_⟩
  ·rw[e1]at e;cases e
  ·rw[e1]at e;cases e;rw[hb]at e3;cases e3
 have hgl:=blk_lt hb
 have hb2:w2.heap[g]?=some (.cells (penC r (.slice aa l.length cc) tv) 56):=(hgr.block g (by simp;omega) (fun e=>hgne e.symm)).trans (blk_old hb _)
 have p1:w.cell? ⟨g,7,none⟩=some (.slice aa l.length cc):=by rw[blk_cell hb];rfl
 have p0:(w.alloc (.cells #[.int .i64 op,.int .i64 a,.int .i64 b,.int .i64 c,.int .i64 d] 47)).cell? ⟨g,7,none⟩=some (.slice aa l.length cc):=by rw[blk_cell (blk_old hb _)];rfl
 have p2:w2.cell? ⟨g,7,none⟩=some (.slice aa l.length cc):=by rw[blk_cell hb2];rfl
 have z2:=blk_frozen hb2
 have HE:Hid (Pen w0 (w2.setCell ⟨g,7,none⟩ (.slice (some ⟨g',0,none⟩) (l.length+1) cap')) g r (l++[⟨op,a,b,c,d⟩])):=by
  refine⟨?_,hge,_,tv,blk_set hb2 7 _,?_⟩
  ·have:=below_grown (hB.trans (hy.mono hB.size)) (by simp;omega) ho1 (Nat.le_refl _) hgr
   exact this.setCell (p:=⟨g,7,none⟩) hge _
  ·refine ORow.set_own ho2 (fun e=>?_) 7 _
   have e':g'=g:=Option.some.inj e
   subst e'
   rcases ho2.2 with ⟨e1,_⟩ | ⟨g0,c0,cur,e1,_,e3,_⟩
   ·cases e1
   ·injection e1 with e1 _ _;injection e1 with e1;injection e1 with e1;subst e1;rw[hb2]at e3;cases e3
 obtain⟨W3,hW3⟩:∃W,w2.setCell ⟨g,7,none⟩ (.slice (some ⟨g',0,none⟩) (l.length+1) cap')=W:=⟨_,rfl⟩
 rw[hW3]at HE
 have p3:W3.cell? ⟨g,7,none⟩=some (.slice (some ⟨g',0,none⟩) (l.length+1) cap'):=by rw[←hW3,blk_cell (blk_set hb2 7 _)];rfl
 clear ho ho1 ho2 hgr hb2 hb hB hy
 go_enter Tryz.func11,Tryz.ntmps11
 go_wp2_with (at_builtin;refine wpList_append_run rfl _ _ _ rfl _ _ _ _ rfl rfl hr ?_;clear hr)
 go_ret
 exact⟨rfl,HE.out⟩
theorem pat_any {w0 w:World} {g r:Nat} {l:List ID} (H:Pen w0 w g r l) :
  Calls Tryz.prog 12 #[.pointer (some ⟨g,0,none⟩)] w fun e w'=>e=.returned (.int .i64 (l.length:Int))∧w'=w:=by
 obtain⟨a,cap,hc⟩:=H.at
 go_enter Tryz.func12,Tryz.ntmps12
 go_wp2_with fail
 go_ret
 exact⟨rfl,rfl⟩
theorem Pen.code {w0 w:World} {g r:Nat} {l:List ID} (h:Pen w0 w g r l):∃(f:FC),f.d=⟨⟨#[109,97,105,110]⟩,0,0,false,r,[],[],l,[]⟩∧(∃tv,w.heap[g]?=some (.cells (f.cells++[tv,Value.int .i64 0,Value.int .i64 0]).toArray 56))∧∀q j v,q<w0.heap.size→f.lie (w.setCell ⟨q,j,none⟩ v):=by
 obtain⟨h1,h2,iv,tv,h3,h4⟩:=h
 obtain⟨a,cap,rfl,hs⟩:=h4.lies idC_len
 refine⟨⟨⟨⟨#[109,97,105,110]⟩,0,0,false,r,[],[],l,[]⟩,none,0,none,0,a,cap,none,0⟩,rfl,⟨tv,h3⟩,fun q j v hq=>⟨SlA.nil _ _ _ _,SlA.nil _ _ _ _,?_,SlA.nil _ _ _ _⟩⟩
 have h5:=ORow.set_own h4 (g:=q) (fun e=>by have:=owns_ge h4 e;omega) j v
 obtain⟨a',cap',e,hs'⟩:=h5.lies idC_len
 injection e with e1 e2 e3
 subst e1
 exact hs'
theorem code_one {w:World} {g:Nat} {f:FC} (hb:w.heap[g]?=some (.cells f.cells.toArray 53)) (hl:f.lie w) (hok:f.d.ok):CodeAt w (some ⟨g,0,none⟩) [f]:=by
 refine⟨fun i x hx=>?_,fun x hx=>by rw[List.mem_singleton.1 hx];exact hl,fun x hx=>by rw[List.mem_singleton.1 hx];exact hok,by simp,by simpa using hok.li⟩
 have hi:i=0∧f=x:=by
  cases i with
  | zero=>exact⟨rfl,by simpa using hx⟩
  | succ i=>simp at hx
 obtain⟨rfl,rfl⟩:=hi
 refine⟨g,0,rfl,blk_lt hb,fun j v hv=>?_⟩
 rw[blk_cell hb]
 simpa using hv
end Go.Proofs.YtjglgbepobmjhaaGreatDoor
namespace Go.Proofs.YtjglgbepobmjhaaGreatDoor.T
open Go.RowKit
theorem vdC_len (v:VD):v.cells.length=5:=rfl
theorem orow_ty {α:Type} {w:World} {B:Nat} {et:TypeId} {k:Nat} {cells:α→List Value} {sv:Value} {xs:List α} (h:ORow w B et k cells sv xs) {g:Nat} (hg:sv.ownBlock=some g):∃cur,w.heap[g]?=some (.cells cur et):=by
 rcases h.2 with ⟨e,_⟩ | ⟨g',c',cur,e,_,hb,_⟩
 ·rw[e]at hg;cases hg
 ·rw[e]at hg;cases hg;exact⟨cur,hb⟩
def penC (r:Nat) (cv iv tv:Value):Array Value:=#[.string ⟨#[109,97,105,110]⟩,.int .i64 0,.int .i64 0,.bool false,.int .i64 r,.slice none 0 0,cv,iv,.slice none 0 0,tv,.int .i64 0,.int .i64 0]
structure Pen (w0 w:World) (g r:Nat) (cs:List VD) (l:List ID):Prop where
 bel:Below w0.heap.size w0 w
 ge:w0.heap.size≤g
 row:∃iv cv tv,w.heap[g]?=some (.cells (penC r cv iv tv) 56)∧ORow w w0.heap.size 47 5 ID.cells iv l∧ORow w w0.heap.size 70 5 VD.cells cv cs
theorem Pen.drewN {w0 w:World} {g r:Nat} {cs:List VD} {l:List ID} (h:Pen w0 w g r cs l) (n:Nat):Pen w0 (w.drewN n) g r cs l:=by
 obtain⟨h1,h2,iv,cv,tv,h3,h4,h6⟩:=h
 exact⟨⟨h1.os,h1.tape,h1.output,h1.size,h1.block⟩,h2,iv,cv,tv,h3,h4,h6⟩
theorem Pen.drew {w0 w:World} {g r:Nat} {cs:List VD} {l:List ID} (h:Pen w0 w g r cs l):Pen w0 w.drew g r cs l:=by
 obtain⟨h1,h2,iv,cv,tv,h3,h4,h6⟩:=h
 exact⟨⟨h1.os,h1.tape,h1.output,h1.size,h1.block⟩,h2,iv,cv,tv,h3,h4,h6⟩
theorem Pen.at {w0 w:World} {g r:Nat} {cs:List VD} {l:List ID} (h:Pen w0 w g r cs l):∃a cap,w.cell? ⟨g,7,none⟩=some (.slice a l.length cap):=by
 obtain⟨h1,h2,iv,cv,tv,h3,h4,h6⟩:=h
 obtain⟨a,c,rfl⟩:=h4.val
 exact⟨a,c,by rw[blk_cell h3];rfl⟩
theorem pen_any (r:Nat) (hr:r≤250) (w:World):Calls Tryz.prog 10 #[.int .i64 (r:Int)] w fun e w'=>∃g,e=.returned (.pointer (some ⟨g,0,none⟩))∧Pen w w' g r [] []:=by
 have hmI:=fun W=>make_int r (by omega) W
 go_enter Tryz.func10,Tryz.ntmps10
 go_wp2_with fail
 go_ret
 refine⟨w.heap.size+1,rfl,bw2 _ _ _,by omega,_,_,_,blk_newn (by simp) _,ORow.nil _ _ _ _ _,ORow.nil _ _ _ _ _⟩
theorem Pen.open {w0 w:World} {g r:Nat} {cs:List VD} {l:List ID} (h:Pen w0 w g r cs l) {i:Nat} {n:ID} (hi:l[i]?=some n):∃gi cap,w.cell? ⟨g,7,none⟩=some (.slice (some ⟨gi,0,none⟩) l.length cap)∧w.cell? ⟨gi,i*5+1,none⟩=some (.int .i64 n.a)∧(∀q,w.frozen? ⟨gi,q,none⟩=false)∧∀z:Int,Pen w0 (w.setCell ⟨gi,i*5+1,none⟩ (.int .i64 z)) g r cs (setA l i z):=by
 obtain⟨h1,h2,iv,cv,tv,h3,h4,h6⟩:=h
 have hlt:=(List.getElem?_eq_some_iff.1 hi).1
 obtain⟨gi,cap,rfl,hge,_,hs,hfz,_⟩:=h4.open idC_len (by omega)
 obtain⟨b,off,e,_,hc⟩:=hs i n hi
 have e':gi=b∧0=off:=by injection e with e;injection e with e1 e2;exact⟨e1,e2⟩
 obtain⟨rfl,rfl⟩:=e'
 have hne:gi≠g:=by
  rintro rfl
  rcases h4.2 with ⟨e1,_⟩ | ⟨g0,c0,cur,e1,_,e3,_⟩
  ·cases e1
  ·injection e1 with e1 _ _;injection e1 with e1;injection e1 with e1;subst e1;rw[h3]at e3;cases e3
 have hnc:cv.ownBlock≠some gi:=by
  intro e
  obtain⟨c1,k1⟩:=orow_ty h6 e
  obtain⟨c2,k2⟩:=orow_ty h4 rfl
  rw[k1]at k2;cases k2
 refine⟨gi,cap,by rw[blk_cell h3];rfl,by have:=hc 1 _ rfl;simpa using this,hfz,fun z=>⟨h1.setCell (p:=⟨gi,i*5+1,none⟩) hge _,h2,_,cv,tv,blk_other h3 hne _ _,?_,ORow.set_own h6 (fun e=>hnc e) _ _⟩⟩
 unfold setA
 rw[hi]
 exact ORow.setc h4 idC_len hi (by omega) rfl
theorem pput_any {w0 w:World} {g r:Nat} {cs:List VD} {l:List ID} (op a b c d:Int) (H:Pen w0 w g r cs l) (hl:l.length≤100000) :
  Calls Tryz.prog 11 #[.pointer (some ⟨g,0,none⟩),.int .i64 op,.int .i64 a,.int .i64 b,.int .i64 c,.int .i64 d] w fun e w'=>e=.returned (.int .i64 (l.length:Int))∧Pen w0 w' g r cs (l++[⟨op,a,b,c,d⟩]):=by
 obtain⟨hB,hge,iv,cv,tv,hb,ho,hcs⟩:=H
 obtain⟨aa,cc,rfl⟩:=ho.val
 have hy:=bw1 w (.cells #[.int .i64 op,.int .i64 a,.int .i64 b,.int .i64 c,.int .i64 d] 47)
 have ho1:=ORow.later ho hy
 have hsz:w0.heap.size≤w.heap.size:=hB.size
 obtain⟨g',cap',w2,hr,ho2,hgr⟩:=ho1.app 50 40 Tryz.underlying50 (by kernel_rfl) (by omega) (by omega) (⟨op,a,b,c,d⟩:ID) w.heap.size 50 (blk_new _ _) rfl (by intro u hu;simp[ID.cells]at hu;rcases hu with rfl | rfl | rfl | rfl | rfl<;>rfl) (by omega) (by simp;omega)
 have hgne:(Value.slice aa l.length cc).ownBlock≠some g:=by
  intro e
  rcases ho.2 with ⟨e1,_⟩ | ⟨g0,c0,cur,e1,_,e3,_⟩
  ·rw[e1]at e;cases e
  ·rw[e1]at e;cases e;rw[hb]at e3;cases e3
 have hgl:=blk_lt hb
 have hb2:w2.heap[g]?=some (.cells (penC r cv (.slice aa l.length cc) tv) 56):=(hgr.block g (by simp;omega) (fun e=>hgne e.symm)).trans (blk_old hb _)
 have p1:w.cell? ⟨g,7,none⟩=some (.slice aa l.length cc):=by rw[blk_cell hb];rfl
 have p0:(w.alloc (.cells #[.int .i64 op,.int .i64 a,.int .i64 b,.int .i64 c,.int .i64 d] 47)).cell? ⟨g,7,none⟩=some (.slice aa l.length cc):=by rw[blk_cell (blk_old hb _)];rfl
 have p2:w2.cell? ⟨g,7,none⟩=some (.slice aa l.length cc):=by rw[blk_cell hb2];rfl
 have z2:=blk_frozen hb2
 have hcs1:=ORow.later hcs hy
 have hcs2:ORow w2 w0.heap.size 70 5 VD.cells cv cs:=ORow.keep hcs1 fun j arr _ hj=>hgr.block j (blk_lt hj) fun e=>by
  obtain⟨c2,k2⟩:=orow_ty ho1 e.symm
  rw[hj]at k2;cases k2
 have hcg:cv.ownBlock≠some g:=by
  intro e
  obtain⟨c1,k1⟩:=orow_ty hcs e
  rw[hb]at k1;cases k1
 have HE:Hid (Pen w0 (w2.setCell ⟨g,7,none⟩ (.slice (some ⟨g',0,none⟩) (l.length+1) cap')) g r cs (l++[⟨op,a,b,c,d⟩])):=by
  refine⟨?_,hge,_,cv,tv,blk_set hb2 7 _,?_,ORow.set_own hcs2 hcg 7 _⟩
  ·have:=below_grown (hB.trans (hy.mono hB.size)) (by simp;omega) ho1 (Nat.le_refl _) hgr
   exact this.setCell (p:=⟨g,7,none⟩) hge _
  ·refine ORow.set_own ho2 (fun e=>?_) 7 _
   have e':g'=g:=Option.some.inj e
   subst e'
   rcases ho2.2 with ⟨e1,_⟩ | ⟨g0,c0,cur,e1,_,e3,_⟩
   ·cases e1
   ·injection e1 with e1 _ _;injection e1 with e1;injection e1 with e1;subst e1;rw[hb2]at e3;cases e3
 obtain⟨W3,hW3⟩:∃W,w2.setCell ⟨g,7,none⟩ (.slice (some ⟨g',0,none⟩) (l.length+1) cap')=W:=⟨_,rfl⟩
 rw[hW3]at HE
 have p3:W3.cell? ⟨g,7,none⟩=some (.slice (some ⟨g',0,none⟩) (l.length+1) cap'):=by rw[←hW3,blk_cell (blk_set hb2 7 _)];rfl
 clear ho ho1 ho2 hgr hb2 hb hB hy hcs hcs1 hcs2 hcg
 go_enter Tryz.func11,Tryz.ntmps11
 go_wp2_with (at_builtin;refine wpList_append_run rfl _ _ _ rfl _ _ _ _ rfl rfl hr ?_;clear hr)
 go_ret
 exact⟨rfl,HE.out⟩
theorem pat_any {w0 w:World} {g r:Nat} {cs:List VD} {l:List ID} (H:Pen w0 w g r cs l) :
  Calls Tryz.prog 12 #[.pointer (some ⟨g,0,none⟩)] w fun e w'=>e=.returned (.int .i64 (l.length:Int))∧w'=w:=by
 obtain⟨a,cap,hc⟩:=H.at
 go_enter Tryz.func12,Tryz.ntmps12
 go_wp2_with fail
 go_ret
 exact⟨rfl,rfl⟩
theorem Pen.code {w0 w:World} {g r:Nat} {cs:List VD} {l:List ID} (h:Pen w0 w g r cs l):∃(f:FC),f.d=⟨⟨#[109,97,105,110]⟩,0,0,false,r,[],cs,l,[]⟩∧(∃tv,w.heap[g]?=some (.cells (f.cells++[tv,Value.int .i64 0,Value.int .i64 0]).toArray 56))∧∀q j v,q<w0.heap.size→f.lie (w.setCell ⟨q,j,none⟩ v):=by
 obtain⟨h1,h2,iv,cv,tv,h3,h4,h6⟩:=h
 obtain⟨a,cap,rfl,hs⟩:=h4.lies idC_len
 obtain⟨ac,ccap,rfl,hsc⟩:=h6.lies vdC_len
 refine⟨⟨⟨⟨#[109,97,105,110]⟩,0,0,false,r,[],cs,l,[]⟩,none,0,ac,ccap,a,cap,none,0⟩,rfl,⟨tv,h3⟩,fun q j v hq=>⟨SlA.nil _ _ _ _,?_,?_,SlA.nil _ _ _ _⟩⟩
 ·have h5:=ORow.set_own h6 (g:=q) (fun e=>by have:=owns_ge h6 e;omega) j v
  obtain⟨a',cap',e,hs'⟩:=h5.lies vdC_len
  injection e with e1 e2 e3
  subst e1
  exact hs'
 have h5:=ORow.set_own h4 (g:=q) (fun e=>by have:=owns_ge h4 e;omega) j v
 obtain⟨a',cap',e,hs'⟩:=h5.lies idC_len
 injection e with e1 e2 e3
 subst e1
 exact hs'
end Go.Proofs.YtjglgbepobmjhaaGreatDoor.T
namespace Go.Proofs.YtjglgbepobmjhaaGreatDoor.T
open Go.RowKit
attribute [local go_sem] run_store_float
theorem pkonst_any {w0 w:World} {g r:Nat} {l:List ID} (k n:Int) (f:Nat) (s:ByteArray) (q:Int) (H:Pen w0 w g r [] l) :
  Calls Tryz.prog 18 #[.pointer (some ⟨g,0,none⟩),VV k n f s q] w fun e w'=>e=.returned (.int .i64 0)∧Pen w0 w' g r [⟨k,n,f,s,q⟩] l:=by
 obtain⟨hB,hge,iv,cv,tv,hb,hi,ho⟩:=H
 obtain⟨aa,cc,rfl⟩:=ho.val
 have hy:=bw2 w (VO k n f s q) (.cells #[.int .i64 k,.int .i64 n,.float .f64 f,.string s,.int .i64 q] 70)
 have ho1:=ORow.later ho hy
 have hi1:=ORow.later hi hy
 have hsz:w0.heap.size≤w.heap.size:=hB.size
 obtain⟨g',cap',w2,hr,ho2,hgr⟩:=(show ORow ((w.alloc (VO k n f s q)).alloc (.cells #[.int .i64 k,.int .i64 n,.float .f64 f,.string s,.int .i64 q] 70)).drew w0.heap.size 70 5 VD.cells (.slice aa 0 cc) [] from ho1).app 49 48 Tryz.underlying49 (by kernel_rfl) (by omega) (by omega) (⟨k,n,f,s,q⟩:VD) (w.heap.size+1) 49 (blk_newn (by simp) _) rfl (by intro u hu;simp[VD.cells]at hu;rcases hu with rfl | rfl | rfl | rfl | rfl<;>rfl) (by simp) (by simp;omega)
 replace hgr:((w.alloc (VO k n f s q)).alloc (.cells #[.int .i64 k,.int .i64 n,.float .f64 f,.string s,.int .i64 q] 70)).grownBy w2 (Value.slice aa 0 cc).ownBlock:=⟨hgr.os,hgr.tape,hgr.output,hgr.size,hgr.block⟩
 have hgl:=blk_lt hb
 have hgne:(Value.slice aa ([]:List VD).length cc).ownBlock≠some g:=by
  intro e
  obtain⟨c1,k1⟩:=orow_ty ho e
  rw[hb]at k1;cases k1
 have hb2:w2.heap[g]?=some (.cells (penC r (.slice aa 0 cc) iv tv) 56):=(hgr.block g (by simp;omega) (fun e=>hgne e.symm)).trans (blk_old (blk_old hb _) _)
 have p1:w.cell? ⟨g,6,none⟩=some (.slice aa 0 cc):=by rw[blk_cell hb];rfl
 have p0:((w.alloc (VO k n f s q)).alloc (.cells #[.int .i64 k,.int .i64 n,.float .f64 f,.string s,.int .i64 q] 70)).cell? ⟨g,6,none⟩=some (.slice aa 0 cc):=by rw[blk_cell (blk_old (blk_old hb _) _)];rfl
 have p00:(w.alloc (VO k n f s q)).cell? ⟨g,6,none⟩=some (.slice aa 0 cc):=by rw[blk_cell (blk_old hb _)];rfl
 have p2:w2.cell? ⟨g,6,none⟩=some (.slice aa 0 cc):=by rw[blk_cell hb2];rfl
 have z2:=blk_frozen hb2
 have hi2:ORow w2 w0.heap.size 47 5 ID.cells iv l:=ORow.keep hi1 fun j arr _ hj=>hgr.block j (blk_lt hj) fun e=>by
  obtain⟨c2,k2⟩:=orow_ty ho1 e.symm
  rw[hj]at k2;cases k2
 have hig:iv.ownBlock≠some g:=by
  intro e
  obtain⟨c1,k1⟩:=orow_ty hi e
  rw[hb]at k1;cases k1
 have HE:Hid (Pen w0 (w2.setCell ⟨g,6,none⟩ (.slice (some ⟨g',0,none⟩) 1 cap')) g r [⟨k,n,f,s,q⟩] l):=by
  refine⟨?_,hge,iv,_,tv,blk_set hb2 6 _,ORow.set_own hi2 hig 6 _,?_⟩
  ·have:=below_grown (hB.trans (hy.mono hB.size)) (by simp;omega) ho1 (Nat.le_refl _) hgr
   exact this.setCell (p:=⟨g,6,none⟩) hge _
  ·refine ORow.set_own ho2 (fun e=>?_) 6 _
   obtain⟨c2,k2⟩:=orow_ty ho2 e
   rw[hb2]at k2;cases k2
 obtain⟨W3,hW3⟩:∃W,w2.setCell ⟨g,6,none⟩ (.slice (some ⟨g',0,none⟩) 1 cap')=W:=⟨_,rfl⟩
 rw[hW3]at HE
 have p3:W3.cell? ⟨g,6,none⟩=some (.slice (some ⟨g',0,none⟩) 1 cap'):=by rw[←hW3,blk_cell (blk_set hb2 6 _)];rfl
 have HR:Hid _:=hr
 clear hr
 clear ho ho1 ho2 hgr hb2 hb hB hy hi hi1 hi2 hig
 go_enter Tryz.func18,Tryz.ntmps18
 go_wp2_with fail
 go_loopw [13] (fun i wr=>i=.int .i64 0∧wr=w.alloc (VO k n f s q)) (fun i _=>0)
 case atStart=>exact⟨rfl,rfl⟩
 case round =>
  obtain⟨rfl,rfl⟩:=hrel
  go_wp2_with fail
  go_region_law (refine step_append_run rfl _ _ _ rfl _ _ _ _ rfl rfl HR.out ?_)
  all_goals
   go_wp2_with fail
   go_ret
   exact⟨rfl,HE.out⟩
end Go.Proofs.YtjglgbepobmjhaaGreatDoor.T
namespace Go.Proofs.YtjglgbepobmjhaaGreatDoor
open Go.RowKit
end Go.Proofs.YtjglgbepobmjhaaGreatDoor
