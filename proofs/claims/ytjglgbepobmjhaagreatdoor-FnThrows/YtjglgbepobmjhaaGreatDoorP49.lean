import Derived.Test.YtjglgbepobmjhaaGreatDoorP48
import Derived.Test.YtjglgbepobmjhaaGreatDoorP25
import Derived.Deep.CutRange
import Derived.Test.YtjglgbepobmjhaaGreatDoorP09
import Derived.Test.YtjglgbepobmjhaaGreatDoorP26
set_option linter.unusedVariables false
set_option linter.unusedSimpArgs false
set_option maxRecDepth 20000
set_option maxHeartbeats 8000000
namespace Go.Proofs.YtjglgbepobmjhaaGreatDoor.T
open Go.RowKit
theorem vdC_len (v : VD) : v.cells.length = 5:=rfl
theorem orow_ty {α : Type} {w : World} {B : Nat} {et : TypeId} {k : Nat} {cells : α→List Value} {sv : Value} {xs : List α} (h : ORow w B et k cells sv xs) {g : Nat} (hg : sv.ownBlock = some g) : ∃ cur,w.heap[g]? = some (.cells cur et):=by
 rcases h.2 with ⟨e,_⟩ | ⟨g',c',cur,e,_,hb,_⟩
 ·rw [e] at hg; cases hg
 ·rw [e] at hg; cases hg; exact ⟨cur,hb⟩
def penC (r : Nat) (cv iv tv : Value) : Array Value:=#[.string ⟨#[109,97,105,110]⟩,.int .i64 0,.int .i64 0,.bool false,.int .i64 r,.slice none 0 0,cv,iv,.slice none 0 0,tv,.int .i64 0,.int .i64 0]
structure Pen (w0 w : World) (g r : Nat) (cs : List VD) (l : List ID) : Prop where
 bel : Below w0.heap.size w0 w
 ge : w0.heap.size ≤ g
 row : ∃ iv cv tv,w.heap[g]? = some (.cells (penC r cv iv tv) 56)∧ORow w w0.heap.size 47 5 ID.cells iv l∧ORow w w0.heap.size 70 5 VD.cells cv cs
theorem Pen.drewN {w0 w : World} {g r : Nat} {cs : List VD} {l : List ID} (h : Pen w0 w g r cs l) (n : Nat) : Pen w0 (w.drewN n) g r cs l:=by
 obtain ⟨h1,h2,iv,cv,tv,h3,h4,h6⟩:=h
 exact ⟨⟨h1.os,h1.tape,h1.output,h1.size,h1.block⟩,h2,iv,cv,tv,h3,h4,h6⟩
theorem Pen.drew {w0 w : World} {g r : Nat} {cs : List VD} {l : List ID} (h : Pen w0 w g r cs l) : Pen w0 w.drew g r cs l:=by
 obtain ⟨h1,h2,iv,cv,tv,h3,h4,h6⟩:=h
 exact ⟨⟨h1.os,h1.tape,h1.output,h1.size,h1.block⟩,h2,iv,cv,tv,h3,h4,h6⟩
theorem Pen.at {w0 w : World} {g r : Nat} {cs : List VD} {l : List ID} (h : Pen w0 w g r cs l) : ∃ a cap,w.cell? ⟨g,7,none⟩ = some (.slice a l.length cap):=by
 obtain ⟨h1,h2,iv,cv,tv,h3,h4,h6⟩:=h
 obtain ⟨a,c,rfl⟩:=h4.val
 exact ⟨a,c,by rw [blk_cell h3]; rfl⟩
set_option maxHeartbeats 4000000 in
theorem pen_any (r : Nat) (hr : r ≤ 250) (w : World) : Calls Tryz.prog 10 #[.int .i64 (r : Int)] w fun e w'=>∃ g,e = .returned (.pointer (some ⟨g,0,none⟩))∧Pen w w' g r [] []:=by
 have hmI:=fun W=>make_int r (by omega) W
 go_enter Tryz.func10,Tryz.ntmps10
 go_wp2_with fail
 go_ret
 refine ⟨w.heap.size + 1,rfl,bw2 _ _ _,by omega,_,_,_,blk_newn (by simp) _,ORow.nil _ _ _ _ _,ORow.nil _ _ _ _ _⟩
theorem Pen.open {w0 w : World} {g r : Nat} {cs : List VD} {l : List ID} (h : Pen w0 w g r cs l) {i : Nat} {n : ID} (hi : l[i]? = some n) : ∃ gi cap,w.cell? ⟨g,7,none⟩ = some (.slice (some ⟨gi,0,none⟩) l.length cap)∧w.cell? ⟨gi,i * 5 + 1,none⟩ = some (.int .i64 n.a)∧(∀ q,w.frozen? ⟨gi,q,none⟩ = false)∧∀ z : Int,Pen w0 (w.setCell ⟨gi,i * 5 + 1,none⟩ (.int .i64 z)) g r cs (setA l i z):=by
 obtain ⟨h1,h2,iv,cv,tv,h3,h4,h6⟩:=h
 have hlt:=(List.getElem?_eq_some_iff.1 hi).1
 obtain ⟨gi,cap,rfl,hge,_,hs,hfz,_⟩:=h4.open idC_len (by omega)
 obtain ⟨b,off,e,_,hc⟩:=hs i n hi
 have e' : gi = b∧0 = off:=by injection e with e; injection e with e1 e2; exact ⟨e1,e2⟩
 obtain ⟨rfl,rfl⟩:=e'
 have hne : gi ≠ g:=by
  rintro rfl
  rcases h4.2 with ⟨e1,_⟩ | ⟨g0,c0,cur,e1,_,e3,_⟩
  ·cases e1
  ·injection e1 with e1 _ _; injection e1 with e1; injection e1 with e1; subst e1; rw [h3] at e3; cases e3
 have hnc : cv.ownBlock ≠ some gi:=by
  intro e
  obtain ⟨c1,k1⟩:=orow_ty h6 e
  obtain ⟨c2,k2⟩:=orow_ty h4 rfl
  rw [k1] at k2; cases k2
 refine ⟨gi,cap,by rw [blk_cell h3]; rfl,by have:=hc 1 _ rfl; simpa using this,hfz,fun z=>⟨h1.setCell (p:=⟨gi,i * 5 + 1,none⟩) hge _,h2,_,cv,tv,blk_other h3 hne _ _,?_,ORow.set_own h6 (fun e=>hnc e) _ _⟩⟩
 unfold setA
 rw [hi]
 exact ORow.setc h4 idC_len hi (by omega) rfl
set_option maxHeartbeats 4000000 in
theorem pput_any {w0 w : World} {g r : Nat} {cs : List VD} {l : List ID} (op a b c d : Int) (H : Pen w0 w g r cs l) (hl : l.length ≤ 100000) :
  Calls Tryz.prog 11 #[.pointer (some ⟨g,0,none⟩),.int .i64 op,.int .i64 a,.int .i64 b,.int .i64 c,.int .i64 d] w fun e w'=>e = .returned (.int .i64 (l.length : Int))∧Pen w0 w' g r cs (l ++ [⟨op,a,b,c,d⟩]):=by
 obtain ⟨hB,hge,iv,cv,tv,hb,ho,hcs⟩:=H
 obtain ⟨aa,cc,rfl⟩:=ho.val
 have hy:=bw1 w (.cells #[.int .i64 op,.int .i64 a,.int .i64 b,.int .i64 c,.int .i64 d] 47)
 have ho1:=ORow.later ho hy
 have hsz : w0.heap.size ≤ w.heap.size:=hB.size
 obtain ⟨g',cap',w2,hr,ho2,hgr⟩:=ho1.app 50 40 Tryz.underlying50 (by kernel_rfl) (by omega) (by omega) (⟨op,a,b,c,d⟩ : ID) w.heap.size 50 (blk_new _ _) rfl (by intro u hu; simp [ID.cells] at hu; rcases hu with rfl | rfl | rfl | rfl | rfl <;> rfl) (by omega) (by simp; omega)
 have hgne : (Value.slice aa l.length cc).ownBlock ≠ some g:=by
  intro e
  rcases ho.2 with ⟨e1,_⟩ | ⟨g0,c0,cur,e1,_,e3,_⟩
  ·rw [e1] at e; cases e
  ·rw [e1] at e; cases e; rw [hb] at e3; cases e3
 have hgl:=blk_lt hb
 have hb2 : w2.heap[g]? = some (.cells (penC r cv (.slice aa l.length cc) tv) 56):=(hgr.block g (by simp; omega) (fun e=>hgne e.symm)).trans (blk_old hb _)
 have p1 : w.cell? ⟨g,7,none⟩ = some (.slice aa l.length cc):=by rw [blk_cell hb]; rfl
 have p0 : (w.alloc (.cells #[.int .i64 op,.int .i64 a,.int .i64 b,.int .i64 c,.int .i64 d] 47)).cell? ⟨g,7,none⟩ = some (.slice aa l.length cc):=by rw [blk_cell (blk_old hb _)]; rfl
 have p2 : w2.cell? ⟨g,7,none⟩ = some (.slice aa l.length cc):=by rw [blk_cell hb2]; rfl
 have z2:=blk_frozen hb2
 have hcs1:=ORow.later hcs hy
 have hcs2 : ORow w2 w0.heap.size 70 5 VD.cells cv cs:=ORow.keep hcs1 fun j arr _ hj=>hgr.block j (blk_lt hj) fun e=>by
  obtain ⟨c2,k2⟩:=orow_ty ho1 e.symm
  rw [hj] at k2; cases k2
 have hcg : cv.ownBlock ≠ some g:=by
  intro e
  obtain ⟨c1,k1⟩:=orow_ty hcs e
  rw [hb] at k1; cases k1
 have HE : Hid (Pen w0 (w2.setCell ⟨g,7,none⟩ (.slice (some ⟨g',0,none⟩) (l.length + 1) cap')) g r cs (l ++ [⟨op,a,b,c,d⟩])):=by
  refine ⟨?_,hge,_,cv,tv,blk_set hb2 7 _,?_,ORow.set_own hcs2 hcg 7 _⟩
  ·have:=below_grown (hB.trans (hy.mono hB.size)) (by simp; omega) ho1 (Nat.le_refl _) hgr
   exact this.setCell (p:=⟨g,7,none⟩) hge _
  ·refine ORow.set_own ho2 (fun e=>?_) 7 _
   have e' : g' = g:=Option.some.inj e
   subst e'
   rcases ho2.2 with ⟨e1,_⟩ | ⟨g0,c0,cur,e1,_,e3,_⟩
   ·cases e1
   ·injection e1 with e1 _ _; injection e1 with e1; injection e1 with e1; subst e1; rw [hb2] at e3; cases e3
 obtain ⟨W3,hW3⟩ : ∃ W,w2.setCell ⟨g,7,none⟩ (.slice (some ⟨g',0,none⟩) (l.length + 1) cap') = W:=⟨_,rfl⟩
 rw [hW3] at HE
 have p3 : W3.cell? ⟨g,7,none⟩ = some (.slice (some ⟨g',0,none⟩) (l.length + 1) cap'):=by rw [← hW3,blk_cell (blk_set hb2 7 _)]; rfl
 clear ho ho1 ho2 hgr hb2 hb hB hy hcs hcs1 hcs2 hcg
 go_enter Tryz.func11,Tryz.ntmps11
 go_wp2_with (at_builtin; refine wpList_append_run rfl _ _ _ rfl _ _ _ _ rfl rfl hr ?_; clear hr)
 go_ret
 exact ⟨rfl,HE.out⟩
set_option maxHeartbeats 4000000 in
theorem pat_any {w0 w : World} {g r : Nat} {cs : List VD} {l : List ID} (H : Pen w0 w g r cs l) :
  Calls Tryz.prog 12 #[.pointer (some ⟨g,0,none⟩)] w fun e w'=>e = .returned (.int .i64 (l.length : Int))∧w' = w:=by
 obtain ⟨a,cap,hc⟩:=H.at
 go_enter Tryz.func12,Tryz.ntmps12
 go_wp2_with fail
 go_ret
 exact ⟨rfl,rfl⟩
theorem Pen.code {w0 w : World} {g r : Nat} {cs : List VD} {l : List ID} (h : Pen w0 w g r cs l) : ∃ (f : FC),f.d = ⟨⟨#[109,97,105,110]⟩,0,0,false,r,[],cs,l,[]⟩∧(∃ tv,w.heap[g]? = some (.cells (f.cells ++ [tv,Value.int .i64 0,Value.int .i64 0]).toArray 56))∧∀ q j v,q < w0.heap.size→f.lie (w.setCell ⟨q,j,none⟩ v):=by
 obtain ⟨h1,h2,iv,cv,tv,h3,h4,h6⟩:=h
 obtain ⟨a,cap,rfl,hs⟩:=h4.lies idC_len
 obtain ⟨ac,ccap,rfl,hsc⟩:=h6.lies vdC_len
 refine ⟨⟨⟨⟨#[109,97,105,110]⟩,0,0,false,r,[],cs,l,[]⟩,none,0,ac,ccap,a,cap,none,0⟩,rfl,⟨tv,h3⟩,fun q j v hq=>⟨SlA.nil _ _ _ _,?_,?_,SlA.nil _ _ _ _⟩⟩
 ·have h5:=ORow.set_own h6 (g:=q) (fun e=>by have:=owns_ge h6 e; omega) j v
  obtain ⟨a',cap',e,hs'⟩:=h5.lies vdC_len
  injection e with e1 e2 e3
  subst e1
  exact hs'
 have h5:=ORow.set_own h4 (g:=q) (fun e=>by have:=owns_ge h4 e; omega) j v
 obtain ⟨a',cap',e,hs'⟩:=h5.lies idC_len
 injection e with e1 e2 e3
 subst e1
 exact hs'
end Go.Proofs.YtjglgbepobmjhaaGreatDoor.T
namespace Go.Proofs.YtjglgbepobmjhaaGreatDoor.T
open Go.RowKit
attribute [local go_sem] run_store_float
set_option maxHeartbeats 4000000 in
theorem pkonst_any {w0 w : World} {g r : Nat} {l : List ID} (k n : Int) (f : Nat) (s : ByteArray) (q : Int) (H : Pen w0 w g r [] l) :
  Calls Tryz.prog 18 #[.pointer (some ⟨g,0,none⟩),VV k n f s q] w fun e w'=>e = .returned (.int .i64 0)∧Pen w0 w' g r [⟨k,n,f,s,q⟩] l:=by
 obtain ⟨hB,hge,iv,cv,tv,hb,hi,ho⟩:=H
 obtain ⟨aa,cc,rfl⟩:=ho.val
 have hy:=bw2 w (VO k n f s q) (.cells #[.int .i64 k,.int .i64 n,.float .f64 f,.string s,.int .i64 q] 70)
 have ho1:=ORow.later ho hy
 have hi1:=ORow.later hi hy
 have hsz : w0.heap.size ≤ w.heap.size:=hB.size
 obtain ⟨g',cap',w2,hr,ho2,hgr⟩:=(show ORow ((w.alloc (VO k n f s q)).alloc (.cells #[.int .i64 k,.int .i64 n,.float .f64 f,.string s,.int .i64 q] 70)).drew w0.heap.size 70 5 VD.cells (.slice aa 0 cc) [] from ho1).app 49 48 Tryz.underlying49 (by kernel_rfl) (by omega) (by omega) (⟨k,n,f,s,q⟩ : VD) (w.heap.size + 1) 49 (blk_newn (by simp) _) rfl (by intro u hu; simp [VD.cells] at hu; rcases hu with rfl | rfl | rfl | rfl | rfl <;> rfl) (by simp) (by simp; omega)
 replace hgr : ((w.alloc (VO k n f s q)).alloc (.cells #[.int .i64 k,.int .i64 n,.float .f64 f,.string s,.int .i64 q] 70)).grownBy w2 (Value.slice aa 0 cc).ownBlock:=⟨hgr.os,hgr.tape,hgr.output,hgr.size,hgr.block⟩
 have hgl:=blk_lt hb
 have hgne : (Value.slice aa ([] : List VD).length cc).ownBlock ≠ some g:=by
  intro e
  obtain ⟨c1,k1⟩:=orow_ty ho e
  rw [hb] at k1; cases k1
 have hb2 : w2.heap[g]? = some (.cells (penC r (.slice aa 0 cc) iv tv) 56):=(hgr.block g (by simp; omega) (fun e=>hgne e.symm)).trans (blk_old (blk_old hb _) _)
 have p1 : w.cell? ⟨g,6,none⟩ = some (.slice aa 0 cc):=by rw [blk_cell hb]; rfl
 have p0 : ((w.alloc (VO k n f s q)).alloc (.cells #[.int .i64 k,.int .i64 n,.float .f64 f,.string s,.int .i64 q] 70)).cell? ⟨g,6,none⟩ = some (.slice aa 0 cc):=by rw [blk_cell (blk_old (blk_old hb _) _)]; rfl
 have p00 : (w.alloc (VO k n f s q)).cell? ⟨g,6,none⟩ = some (.slice aa 0 cc):=by rw [blk_cell (blk_old hb _)]; rfl
 have p2 : w2.cell? ⟨g,6,none⟩ = some (.slice aa 0 cc):=by rw [blk_cell hb2]; rfl
 have z2:=blk_frozen hb2
 have hi2 : ORow w2 w0.heap.size 47 5 ID.cells iv l:=ORow.keep hi1 fun j arr _ hj=>hgr.block j (blk_lt hj) fun e=>by
  obtain ⟨c2,k2⟩:=orow_ty ho1 e.symm
  rw [hj] at k2; cases k2
 have hig : iv.ownBlock ≠ some g:=by
  intro e
  obtain ⟨c1,k1⟩:=orow_ty hi e
  rw [hb] at k1; cases k1
 have HE : Hid (Pen w0 (w2.setCell ⟨g,6,none⟩ (.slice (some ⟨g',0,none⟩) 1 cap')) g r [⟨k,n,f,s,q⟩] l):=by
  refine ⟨?_,hge,iv,_,tv,blk_set hb2 6 _,ORow.set_own hi2 hig 6 _,?_⟩
  ·have:=below_grown (hB.trans (hy.mono hB.size)) (by simp; omega) ho1 (Nat.le_refl _) hgr
   exact this.setCell (p:=⟨g,6,none⟩) hge _
  ·refine ORow.set_own ho2 (fun e=>?_) 6 _
   obtain ⟨c2,k2⟩:=orow_ty ho2 e
   rw [hb2] at k2; cases k2
 obtain ⟨W3,hW3⟩ : ∃ W,w2.setCell ⟨g,6,none⟩ (.slice (some ⟨g',0,none⟩) 1 cap') = W:=⟨_,rfl⟩
 rw [hW3] at HE
 have p3 : W3.cell? ⟨g,6,none⟩ = some (.slice (some ⟨g',0,none⟩) 1 cap'):=by rw [← hW3,blk_cell (blk_set hb2 6 _)]; rfl
 have HR : Hid _:=hr
 clear hr
 clear ho ho1 ho2 hgr hb2 hb hB hy hi hi1 hi2 hig
 go_enter Tryz.func18,Tryz.ntmps18
 go_wp2_with fail
 go_loopw [13] (fun i wr=>i = .int .i64 0∧wr = w.alloc (VO k n f s q)) (fun i _=>0)
 case atStart=>exact ⟨rfl,rfl⟩
 case round =>
  obtain ⟨rfl,rfl⟩:=hrel
  go_wp2_with fail
  go_region_law (refine step_append_run rfl _ _ _ rfl _ _ _ _ rfl rfl HR.out ?_)
  all_goals
   go_wp2_with fail
   go_ret
   exact ⟨rfl,HE.out⟩
end Go.Proofs.YtjglgbepobmjhaaGreatDoor.T
namespace Go.Proofs.YtjglgbepobmjhaaGreatDoor
open Go.RowKit
end Go.Proofs.YtjglgbepobmjhaaGreatDoor
namespace Go.Proofs.YtjglgbepobmjhaaGreatDoor.T
open Go.RowKit
theorem Pen.later {w0 w w' : World} {g r : Nat} {cs : List VD} {l : List ID} (h : Pen w0 w g r cs l) (hb : Below w.heap.size w w') : Pen w0 w' g r cs l:=by
 obtain ⟨h1,h2,iv,cv,tv,h3,h4,h6⟩:=h
 exact ⟨h1.trans (hb.mono h1.size),h2,iv,cv,tv,blk_later hb h3,ORow.later h4 hb,ORow.later h6 hb⟩
theorem setA_mid (l : List ID) (n m : ID) (z : Int) : setA (l ++ [n] ++ [m]) l.length z = l ++ [⟨n.op,z,n.b,n.c,n.d⟩] ++ [m]:=by
 unfold setA
 simp
theorem throws_four (b : Nat) : tabL (2 + 4 * (b + 1)) tin = tabL (2 + 4 * b) tin ++ [⟨31,((4 + 4 * b : Nat) : Int),4,0,0⟩] ++ [⟨30,0,0,0,0⟩] ++ [⟨42,4,0,0,0⟩] ++ [⟨42,5,0,0,0⟩]:=by
 have e2 : tin (2 + 4 * b) = ⟨31,((4 + 4 * b : Nat) : Int),4,0,0⟩:=by
  unfold tin; rw [if_neg (by omega),if_neg (by omega),if_pos (by omega)]; congr 1; omega
 have e3 : tin (2 + 4 * b + 1) = ⟨30,0,0,0,0⟩:=by
  unfold tin; rw [if_neg (by omega),if_neg (by omega),if_neg (by omega),if_pos (by omega)]
 have e4 : tin (2 + 4 * b + 1 + 1) = ⟨42,4,0,0,0⟩:=by
  unfold tin; rw [if_neg (by omega),if_neg (by omega),if_neg (by omega),if_neg (by omega),if_pos (by omega)]
 have e5 : tin (2 + 4 * b + 1 + 1 + 1) = ⟨42,5,0,0,0⟩:=by
  unfold tin; rw [if_neg (by omega),if_neg (by omega),if_neg (by omega),if_neg (by omega),if_neg (by omega)]
 rw [show 2 + 4 * (b + 1) = 2 + 4 * b + 1 + 1 + 1 + 1 by omega,tabL_succ,tabL_succ,tabL_succ,tabL_succ,e2,e3,e4,e5]
theorem throws_last (k : Nat) : throwsI k = tabL (2 + 4 * k) tin ++ [⟨19,1,0,0,0⟩]:=by
 unfold throwsI
 rw [show 3 + 4 * k = 2 + 4 * k + 1 by omega,tabL_succ]
 have h1 : tinK k (2 + 4 * k) = ⟨19,1,0,0,0⟩:=by unfold tinK; rw [if_pos rfl]
 rw [h1]
 congr 1
 exact tabL_ext (fun i hi=>by unfold tinK; rw [if_neg (by omega)])
theorem seven_ok : seven.ok:=⟨by decide,by show (0 : Nat) ≤ maxLen; unfold maxLen; omega⟩
theorem made_throws (k : Nat) (hk : k ≤ 250) (w : World) :
  Calls Tryz.prog 9 #[.int .i64 (k : Int)] w fun e w'=>(∃ g1 f,e = .returned (.agg #[.slice (some ⟨g1,0,none⟩) 1 1])∧CodeAt w' (some ⟨g1,0,none⟩) [f]∧f.d = throwsD k)∧Below w.heap.size w w':=by
 go_enter Tryz.func9,Tryz.ntmps9
 go_wp2_with fail
 obtain ⟨W1,hW1⟩ : ∃ W1,w.alloc (.cells #[.slice none 0 0] 26) = W1:=⟨_,rfl⟩
 rw [hW1]
 refine (pen_any 8 (by omega) _).mono ?_
 rintro e w2 ⟨g,rfl,H⟩
 have HP : Hid (Pen W1 w2 g 8 [] []):=H
 clear H
 go_wp2_with fail
 refine (mk_int 7 _).mono ?_
 rintro e w3 ⟨rfl,hx⟩
 replace HP : Hid (Pen W1 w3 g 8 [] []):=HP.out.later hx
 clear hx
 go_wp2_with fail
 refine (pkonst_any 2 7 0 ⟨#[]⟩ 0 HP.out).mono ?_
 rintro e w4 ⟨rfl,H⟩
 replace HP : Hid (Pen W1 w4 g 8 [seven] []):=H
 clear H
 go_wp2_with fail
 refine (pput_any _ _ _ _ _ HP.out (by simp)).mono ?_
 rintro e w5 ⟨rfl,H⟩
 replace HP : Hid (Pen W1 w5 g 8 [seven] [⟨4,0,0,0,0⟩]):=H
 clear H
 go_wp2_with fail
 refine (pput_any _ _ _ _ _ HP.out (by simp)).mono ?_
 rintro e w6 ⟨rfl,H⟩
 replace HP : Hid (Pen W1 w6 g 8 [seven] (tabL (2 + 4 * 0) tin)):=H
 clear H
 have HKK : Hid (k ≤ 250):=hk
 go_wp2_with fail
 go_loopw [5] (fun i wr=>∃ b : Nat,i = .int .i64 (b : Int)∧b ≤ k∧Hid (Pen W1 wr g 8 [seven] (tabL (2 + 4 * b) tin))) (fun i _=>k - (intOf i).toNat)
 case atStart=>exact ⟨0,rfl,by omega,HP⟩
 case round =>
  clear HP
  obtain ⟨b,rfl,hb,HP⟩:=hrel
  by_cases hbk : b < k
  ·have hbk' : (b : Int) < (k : Int):=by omega
   obtain ⟨i0,hi0⟩ : ∃ i0 : Nat,2 + 4 * b = i0:=⟨_,rfl⟩
   rw [hi0] at HP
   have HI0 : Hid (2 + 4 * b = i0):=hi0
   have hi2 : i0 ≤ 1002:=by omega
   have hTl : (tabL i0 tin).length = i0:=tabL_len _ _
   clear hi0
   go_wp2_with fail
   refine (pput_any _ _ _ _ _ HP.out (by omega)).mono ?_
   rintro e w7 ⟨rfl,H⟩
   rw [hTl]
   replace HP : Hid (Pen W1 w7 g 8 [seven] (tabL i0 tin ++ [⟨31,0,4,0,0⟩])):=H
   clear H
   go_wp2_with fail
   refine (pput_any _ _ _ _ _ HP.out (by rw [List.length_append,hTl]; simp; omega)).mono ?_
   rintro e w8 ⟨rfl,H⟩
   replace HP : Hid (Pen W1 w8 g 8 [seven] (tabL i0 tin ++ [⟨31,0,4,0,0⟩] ++ [⟨30,0,0,0,0⟩])):=H
   clear H
   obtain ⟨L,hL⟩ : ∃ L,L = tabL i0 tin ++ [⟨31,0,4,0,0⟩] ++ [⟨30,0,0,0,0⟩]:=⟨_,rfl⟩
   have hLl : L.length = i0 + 2:=by rw [hL,List.length_append,List.length_append,hTl]; rfl
   have hLi : L[i0]? = some ⟨31,0,4,0,0⟩:=by
    rw [hL,List.append_assoc,List.getElem?_append_right (by rw [hTl]; omega),hTl]
    simp
   have HLs : Hid (∀ z,setA L i0 z = tabL i0 tin ++ [⟨31,z,4,0,0⟩] ++ [⟨30,0,0,0,0⟩]):=by
    intro z
    have h9:=setA_mid (tabL i0 tin) ⟨31,0,4,0,0⟩ ⟨30,0,0,0,0⟩ z
    rw [hTl,← hL] at h9
    exact h9
   rw [← hL] at HP
   obtain ⟨gi,cap,q7,qa,qz,HS⟩:=HP.out.open hLi
   have HZ : Hid (Pen W1 (w8.setCell ⟨gi,i0 * 5 + 1,none⟩ (.int .i64 (L.length : Int))).drew g 8 [seven] (setA L i0 (L.length : Int))):=(HS _).drew
   have HLL : Hid (L.length = i0 + 2):=hLl
   have hi1 : i0 < L.length:=by omega
   have hi3 : (i0 : Int) < (L.length : Int):=by omega
   have hi4 : (0 : Int) ≤ (i0 : Int):=by omega
   clear HS hLi hLl hL hTl
   go_wp2_with fail
   go_cut [] from 24 to 33 (fun wx=>Hid (Pen W1 wx g 8 [seven] (setA L i0 (L.length : Int))))
   case first =>
    go_region_with (go_at_call 12; refine (pat_any HP.out.drew).mono ?_; rintro e w' ⟨rfl,rfl⟩)
    all_goals
     go_wp2_with fail
     go_meet
     exact HZ
   case rest =>
    have HP3 : Hid (Pen W1 wc g 8 [seven] (tabL i0 tin ++ [⟨31,((4 + 4 * b : Nat) : Int),4,0,0⟩] ++ [⟨30,0,0,0,0⟩])):=by
     have h9:=hcut.out
     rw [HLs.out,HLL.out,show ((i0 + 2 : Nat) : Int) = ((4 + 4 * b : Nat) : Int) by have:=HI0.out; omega] at h9
     exact h9
    clear hcut HZ q7 qa qz HP HLs HLL hi1 hi3
    go_wp2_with fail
    refine (pput_any _ _ _ _ _ HP3.out (by simp [tabL_len]; omega)).mono ?_
    rintro e w10 ⟨rfl,H⟩
    have HP4 : Hid _:=H
    clear H
    go_wp2_with fail
    refine (pput_any _ _ _ _ _ HP4.out (by simp [tabL_len]; omega)).mono ?_
    rintro e w11 ⟨rfl,H⟩
    have HP5 : Hid (Pen W1 w11 g 8 [seven] (tabL (2 + 4 * (b + 1)) tin)):=by
     show Pen _ _ _ _ _ _
     rw [throws_four,HI0.out]
     exact H
    clear H HP3 HP4
    go_wp2_with fail
    go_roundw
    case rel=>exact ⟨b + 1,by go_num,by omega,HP5⟩
    case measure=>simp [intOf]; omega
  ·obtain rfl : b = k:=by omega
   have hbk' : ¬ (b : Int) < (b : Int):=by omega
   have HK2 : Hid (b ≤ 250):=HKK.out
   go_wp2_with fail
   refine (pput_any _ _ _ _ _ HP.out (by rw [tabL_len]; omega)).mono ?_
   rintro e w12 ⟨rfl,H⟩
   replace HP : Hid (Pen W1 w12 g 8 [seven] (throwsI b)):=by show Pen _ _ _ _ _ _; rw [throws_last]; exact H
   clear H
   obtain ⟨f,hd,⟨tv,hbb⟩,hli⟩:=HP.out.code
   have hB : Below W1.heap.size W1 w12:=HP.out.bel
   have hBw : Below w.heap.size w w12:=by
    have h1 : Below w.heap.size w W1:=by rw [← hW1]; exact bw1 _ _
    exact h1.trans (hB.mono h1.size)
   have hc0 : w12.heap[w.heap.size]? = some (.cells #[.slice none 0 0] 26):=blk_later hB (by rw [← hW1]; exact blk_new _ _)
   have hgW : W1.heap.size ≤ g:=HP.out.ge
   have hsz : W1.heap.size = w.heap.size + 1:=by rw [← hW1]; simp
   have c0 : w12.cell? ⟨w.heap.size,0,none⟩ = some (.slice none 0 0):=by rw [blk_cell hc0]; rfl
   have hlt0:=blk_lt hc0
   have z0:=blk_frozen hc0
   have q0 : w12.cell? ⟨g,0,none⟩ = some (.string f.d.name):=by rw [blk_cell hbb]; rfl
   have q1 : w12.cell? ⟨g,1,none⟩ = some (.int .i64 f.d.line):=by rw [blk_cell hbb]; rfl
   have q2 : w12.cell? ⟨g,2,none⟩ = some (.int .i64 f.d.params):=by rw [blk_cell hbb]; rfl
   have q3 : w12.cell? ⟨g,3,none⟩ = some (.bool f.d.rest):=by rw [blk_cell hbb]; rfl
   have q4 : w12.cell? ⟨g,4,none⟩ = some (.int .i64 f.d.regs):=by rw [blk_cell hbb]; rfl
   have q5 : w12.cell? ⟨g,5,none⟩ = some (.slice f.au f.d.ups.length f.cu):=by rw [blk_cell hbb]; rfl
   have q6 : w12.cell? ⟨g,6,none⟩ = some (.slice f.ac f.d.consts.length f.cc):=by rw [blk_cell hbb]; rfl
   have q7 : w12.cell? ⟨g,7,none⟩ = some (.slice f.ai f.d.ins.length f.ci):=by rw [blk_cell hbb]; rfl
   have q8 : w12.cell? ⟨g,8,none⟩ = some (.slice f.an f.d.named.length f.cn):=by rw [blk_cell hbb]; rfl
   have HL : Hid (f.lie ((w12.setCell ⟨w.heap.size,0,none⟩ (.slice (some ⟨w12.heap.size,0,none⟩) 1 1)).alloc (.cells f.cells.toArray 53))):=(hli w.heap.size 0 _ (by omega)).later (bw1 _ _)
   have HO : Hid f.d.ok:=by show FD.ok f.d; rw [hd]; exact ⟨by show (4 : Nat) ≤ maxLen; unfold maxLen; omega,by simp,by simp,by show (throwsI b).length ≤ 1048576; unfold throwsI; rw [tabL_len]; have:=HK2.out; omega,by simp,by intro v hv; simp only [List.mem_singleton] at hv; subst hv; exact seven_ok,by simp⟩
   have HD : Hid (f.d = throwsD b):=hd
   have HBW : Hid (Below w.heap.size w w12):=hBw
   clear HP hbb hli hB hBw hd
   go_wp2_with fail
   refine bodyPost_ret (v:=.agg #[.slice (some ⟨w12.heap.size,0,none⟩) 1 1]) (by simp [results,Tryz.results9,go_sem,c0,hlt0]) rfl ⟨⟨_,f,rfl,code_one (blk_newn (by simp) _) HL.out HO.out,HD.out⟩,?_⟩
   exact (HBW.out.setCell (p:=⟨w.heap.size,0,none⟩) (by simp) _).trans ((bw1 _ _).mono (by have:=HBW.out.size; simp; omega))
end Go.Proofs.YtjglgbepobmjhaaGreatDoor.T
namespace Go.Proofs.YtjglgbepobmjhaaGreatDoor.M
open Go.RowKit
attribute [local go_sem] run_store_float
def byteU (u : UInt8) : List Value:=[.int .u8 (u.toNat : Int)]
theorem byteU_len (u : UInt8) : (byteU u).length = 1:=rfl
set_option maxHeartbeats 1000000 in
theorem wb_any (a : Option Addr) (len cap i : Nat) (xs : List UInt8) (w : World) (hl : xs.length = len) (hp : SlA w 1 byteU a xs) (hlen : len ≤ 1048576) (hi : i ≤ 2) :
  Calls Tryz.prog 5 #[.slice a len cap,.int .i64 (i : Int)] w fun e w'=>(∃ b : Nat,e = .returned (.int .i64 (b : Int))∧b < 256)∧w' = w:=by
 by_cases h0 : len = 0
 ·subst h0
  go_enter Tryz.func5,Tryz.ntmps5
  go_wp2_with fail
  go_ret
  exact ⟨⟨0,rfl,by omega⟩,rfl⟩
 ·have hm : i % len < len:=Nat.mod_lt _ (by omega)
  obtain ⟨x,hx⟩ : ∃ x,xs[i % len]? = some x:=⟨xs[i % len]'(by omega),by simp⟩
  obtain ⟨b,off,rfl,hb,hc⟩:=hp _ x hx
  have c0 : w.cell? ⟨b,off + i % len,none⟩ = some (.int .u8 (x.toNat : Int)):=by have:=hc 0 _ rfl; simpa using this
  have hr : (i : Int).tmod (len : Int) = ((i % len : Nat) : Int):=rfl
  have hx8 : x.toNat < 256:=x.toNat_lt
  have b1 : ¬ ((len : Int) = 0):=by omega
  have b2 : ((i % len : Nat) : Int) < (len : Int):=by omega
  obtain ⟨q,hq⟩ : ∃ q,i % len = q:=⟨_,rfl⟩
  rw [hq] at c0 hr b2
  clear hp hc hx hm hq
  go_enter Tryz.func5,Tryz.ntmps5
  go_wp2_with fail
  go_ret
  exact ⟨⟨x.toNat,rfl,hx8⟩,rfl⟩
end Go.Proofs.YtjglgbepobmjhaaGreatDoor.M
