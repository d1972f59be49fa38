import Derived.Test.YtjglgbepobmjhaaGreatDoorP07
import Derived.Test.YtjglgbepobmjhaaGreatDoorP15
import Derived.BigRegion
import Derived.BigQuiet
import Derived.Deep.QuietTactic
import Derived.Test.YtjglgbepobmjhaaGreatDoorP23
import Derived.Deep.CutRange
set_option linter.unusedVariables false
set_option linter.unusedSimpArgs false
set_option maxRecDepth 20000
set_option maxHeartbeats 8000000
namespace Go.Proofs.YtjglgbepobmjhaaGreatDoor
open Go.RowKit
def penC (r : Nat) (iv tv : Value) : Array Value:=#[.string ⟨#[109,97,105,110]⟩,.int .i64 0,.int .i64 0,.bool false,.int .i64 r,.slice none 0 0,.slice none 0 0,iv,.slice none 0 0,tv,.int .i64 0,.int .i64 0]
structure Pen (w0 w : World) (g r : Nat) (l : List ID) : Prop where
 bel : Below w0.heap.size w0 w
 ge : w0.heap.size ≤ g
 row : ∃ iv tv,w.heap[g]? = some (.cells (penC r iv tv) 56)∧ORow w w0.heap.size 47 5 ID.cells iv l
theorem idC_len (n : ID) : n.cells.length = 5:=rfl
theorem Pen.drewN {w0 w : World} {g r : Nat} {l : List ID} (h : Pen w0 w g r l) (n : Nat) : Pen w0 (w.drewN n) g r l:=by
 obtain ⟨h1,h2,iv,tv,h3,h4⟩:=h
 exact ⟨⟨h1.os,h1.tape,h1.output,h1.size,h1.block⟩,h2,iv,tv,h3,h4⟩
theorem Pen.drew {w0 w : World} {g r : Nat} {l : List ID} (h : Pen w0 w g r l) : Pen w0 w.drew g r l:=by
 obtain ⟨h1,h2,iv,tv,h3,h4⟩:=h
 exact ⟨⟨h1.os,h1.tape,h1.output,h1.size,h1.block⟩,h2,iv,tv,h3,h4⟩
theorem Pen.at {w0 w : World} {g r : Nat} {l : List ID} (h : Pen w0 w g r l) : ∃ a cap,w.cell? ⟨g,7,none⟩ = some (.slice a l.length cap):=by
 obtain ⟨h1,h2,iv,tv,h3,h4⟩:=h
 obtain ⟨a,c,rfl⟩:=h4.val
 exact ⟨a,c,by rw [blk_cell h3]; rfl⟩
set_option maxHeartbeats 4000000 in
theorem pen_any (r : Nat) (hr : r ≤ 250) (w : World) : Calls Tryz.prog 10 #[.int .i64 (r : Int)] w fun e w'=>∃ g,e = .returned (.pointer (some ⟨g,0,none⟩))∧Pen w w' g r []:=by
 have hmI:=fun W=>make_int r (by omega) W
 go_enter Tryz.func10,Tryz.ntmps10
 go_wp2_with fail
 go_ret
 refine ⟨w.heap.size + 1,rfl,bw2 _ _ _,by omega,_,_,blk_newn (by simp) _,ORow.nil _ _ _ _ _⟩
theorem flat_setc {α : Type} (cells : α→List Value) (k : Nat) : ∀ (xs : List α) (i j : Nat) (x x' : α) (v : Value),(∀ y ∈ xs,(cells y).length = k)→xs[i]? = some x→j < k→cells x' = (cells x).set j v→(xs.flatMap cells).set (i * k + j) v = (xs.set i x').flatMap cells
 | [],i,j,x,x',v,_,hx,_,_=>by simp at hx
 | y :: ys,0,j,x,x',v,hk,hx,hj,hc=>by
  obtain rfl : y = x:=by simpa using hx
  have hy:=hk y (by simp)
  rw [Nat.zero_mul,Nat.zero_add,List.flatMap_cons,List.set_append_left _ _ (by omega),List.set_cons_zero,List.flatMap_cons,hc]
 | y :: ys,i + 1,j,x,x',v,hk,hx,hj,hc=>by
  have hy:=hk y (by simp)
  rw [List.flatMap_cons,List.set_append_right _ _ (by rw [hy,Nat.add_mul,Nat.one_mul]; omega),hy,show (i + 1) * k + j - k = i * k + j by rw [Nat.add_mul,Nat.one_mul]; omega,List.set_cons_succ,List.flatMap_cons]
  rw [flat_setc cells k ys i j x x' v (fun z hz=>hk z (by simp [hz])) (by simpa using hx) hj hc]
theorem ORow.setc {α : Type} {w : World} {B : Nat} {et : TypeId} {k : Nat} {cells : α→List Value} {g n cap : Nat} {xs : List α} (h : ORow w B et k cells (.slice (some ⟨g,0,none⟩) n cap) xs) (hk : ∀ y,(cells y).length = k) {i j : Nat} {x x' : α} {v : Value} (hx : xs[i]? = some x) (hj : j < k) (hc : cells x' = (cells x).set j v) : ORow (w.setCell ⟨g,i * k + j,none⟩ v) B et k cells (.slice (some ⟨g,0,none⟩) n cap) (xs.set i x'):=by
 obtain ⟨h1,h2⟩:=h
 have hf:=flat_setc cells k xs i j x x' v (fun y _=>hk y) hx hj hc
 refine ⟨by rw [← hf,List.length_set,List.length_set]; exact h1,?_⟩
 rcases h2 with ⟨e,_⟩ | ⟨g',c',cur,e,hb,hg,hl,hm,hs,ht⟩
 ·cases e
 ·injection e with e1 e2 e3
  injection e1 with e1
  injection e1 with e1
  subst e1 e2 e3
  rw [List.length_set]
  refine .inr ⟨g,_,cur.setIfInBounds (i * k + j) v,rfl,hb,blk_set hg _ _,hl,hm,by simpa using hs,?_⟩
  rw [Array.toList_setIfInBounds,List.take_set,ht,hf]
def setA (l : List ID) (i : Nat) (z : Int) : List ID:=match l[i]? with | some n=>l.set i ⟨n.op,z,n.b,n.c,n.d⟩ | none=>l
theorem Pen.open {w0 w : World} {g r : Nat} {l : List ID} (h : Pen w0 w g r l) {i : Nat} {n : ID} (hi : l[i]? = some n) : ∃ gi cap,w.cell? ⟨g,7,none⟩ = some (.slice (some ⟨gi,0,none⟩) l.length cap)∧w.cell? ⟨gi,i * 5 + 1,none⟩ = some (.int .i64 n.a)∧(∀ q,w.frozen? ⟨gi,q,none⟩ = false)∧∀ z : Int,Pen w0 (w.setCell ⟨gi,i * 5 + 1,none⟩ (.int .i64 z)) g r (setA l i z):=by
 obtain ⟨h1,h2,iv,tv,h3,h4⟩:=h
 have hlt:=(List.getElem?_eq_some_iff.1 hi).1
 obtain ⟨gi,cap,rfl,hge,_,hs,hfz,_⟩:=h4.open idC_len (by omega)
 obtain ⟨b,off,e,_,hc⟩:=hs i n hi
 have e' : gi = b∧0 = off:=by injection e with e; injection e with e1 e2; exact ⟨e1,e2⟩
 obtain ⟨rfl,rfl⟩:=e'
 have hne : gi ≠ g:=by
  rintro rfl
  rcases h4.2 with ⟨e1,_⟩ | ⟨g0,c0,cur,e1,_,e3,_⟩
  ·cases e1
  ·injection e1 with e1 _ _; injection e1 with e1; injection e1 with e1; subst e1; rw [h3] at e3; cases e3
 refine ⟨gi,cap,by rw [blk_cell h3]; rfl,by have:=hc 1 _ rfl; simpa using this,hfz,fun z=>⟨h1.setCell (p:=⟨gi,i * 5 + 1,none⟩) hge _,h2,_,tv,blk_other h3 hne _ _,?_⟩⟩
 unfold setA
 rw [hi]
 exact ORow.setc h4 idC_len hi (by omega) rfl
set_option maxHeartbeats 4000000 in
theorem pput_any {w0 w : World} {g r : Nat} {l : List ID} (op a b c d : Int) (H : Pen w0 w g r l) (hl : l.length ≤ 100000) :
  Calls Tryz.prog 11 #[.pointer (some ⟨g,0,none⟩),.int .i64 op,.int .i64 a,.int .i64 b,.int .i64 c,.int .i64 d] w fun e w'=>e = .returned (.int .i64 (l.length : Int))∧Pen w0 w' g r (l ++ [⟨op,a,b,c,d⟩]):=by
 obtain ⟨hB,hge,iv,tv,hb,ho⟩:=H
 obtain ⟨aa,cc,rfl⟩:=ho.val
 have hy:=bw1 w (.cells #[.int .i64 op,.int .i64 a,.int .i64 b,.int .i64 c,.int .i64 d] 47)
 have ho1:=ORow.later ho hy
 have hsz : w0.heap.size ≤ w.heap.size:=hB.size
 obtain ⟨g',cap',w2,hr,ho2,hgr⟩:=ho1.app 50 40 Tryz.underlying50 (by kernel_rfl) (by omega) (by omega) (⟨op,a,b,c,d⟩ : ID) w.heap.size 50 (blk_new _ _) rfl (by intro u hu; simp [ID.cells] at hu; rcases hu with rfl | rfl | rfl | rfl | rfl <;> rfl) (by omega) (by simp; omega)
 have hgne : (Value.slice aa l.length cc).ownBlock ≠ some g:=by
  intro e
  rcases ho.2 with ⟨e1,_⟩ | ⟨g0,c0,cur,e1,_,e3,_⟩
  ·rw [e1] at e; cases e
  ·rw [e1] at e; cases e; rw [hb] at e3; cases e3
 have hgl:=blk_lt hb
 have hb2 : w2.heap[g]? = some (.cells (penC r (.slice aa l.length cc) tv) 56):=(hgr.block g (by simp; omega) (fun e=>hgne e.symm)).trans (blk_old hb _)
 have p1 : w.cell? ⟨g,7,none⟩ = some (.slice aa l.length cc):=by rw [blk_cell hb]; rfl
 have p0 : (w.alloc (.cells #[.int .i64 op,.int .i64 a,.int .i64 b,.int .i64 c,.int .i64 d] 47)).cell? ⟨g,7,none⟩ = some (.slice aa l.length cc):=by rw [blk_cell (blk_old hb _)]; rfl
 have p2 : w2.cell? ⟨g,7,none⟩ = some (.slice aa l.length cc):=by rw [blk_cell hb2]; rfl
 have z2:=blk_frozen hb2
 have HE : Hid (Pen w0 (w2.setCell ⟨g,7,none⟩ (.slice (some ⟨g',0,none⟩) (l.length + 1) cap')) g r (l ++ [⟨op,a,b,c,d⟩])):=by
  refine ⟨?_,hge,_,tv,blk_set hb2 7 _,?_⟩
  ·have:=below_grown (hB.trans (hy.mono hB.size)) (by simp; omega) ho1 (Nat.le_refl _) hgr
   exact this.setCell (p:=⟨g,7,none⟩) hge _
  ·refine ORow.set_own ho2 (fun e=>?_) 7 _
   have e' : g' = g:=Option.some.inj e
   subst e'
   rcases ho2.2 with ⟨e1,_⟩ | ⟨g0,c0,cur,e1,_,e3,_⟩
   ·cases e1
   ·injection e1 with e1 _ _; injection e1 with e1; injection e1 with e1; subst e1; rw [hb2] at e3; cases e3
 obtain ⟨W3,hW3⟩ : ∃ W,w2.setCell ⟨g,7,none⟩ (.slice (some ⟨g',0,none⟩) (l.length + 1) cap') = W:=⟨_,rfl⟩
 rw [hW3] at HE
 have p3 : W3.cell? ⟨g,7,none⟩ = some (.slice (some ⟨g',0,none⟩) (l.length + 1) cap'):=by rw [← hW3,blk_cell (blk_set hb2 7 _)]; rfl
 clear ho ho1 ho2 hgr hb2 hb hB hy
 go_enter Tryz.func11,Tryz.ntmps11
 go_wp2_with (at_builtin; refine wpList_append_run rfl _ _ _ rfl _ _ _ _ rfl rfl hr ?_; clear hr)
 go_ret
 exact ⟨rfl,HE.out⟩
set_option maxHeartbeats 4000000 in
theorem pat_any {w0 w : World} {g r : Nat} {l : List ID} (H : Pen w0 w g r l) :
  Calls Tryz.prog 12 #[.pointer (some ⟨g,0,none⟩)] w fun e w'=>e = .returned (.int .i64 (l.length : Int))∧w' = w:=by
 obtain ⟨a,cap,hc⟩:=H.at
 go_enter Tryz.func12,Tryz.ntmps12
 go_wp2_with fail
 go_ret
 exact ⟨rfl,rfl⟩
set_option maxHeartbeats 4000000 in
theorem pback_any {w0 w : World} {g r : Nat} {l : List ID} (x : Int) (H : Pen w0 w g r l) (hl : l.length ≤ 1000) (hx : 0 ≤ x∧x ≤ 1000) :
  Calls Tryz.prog 13 #[.pointer (some ⟨g,0,none⟩),.int .i64 x] w fun e w'=>e = .returned (.tuple #[])∧Pen w0 w' g r (l ++ [⟨22,x,0,0,0⟩,⟨29,-1 - x,0,0,0⟩]):=by
 have HP : Hid (Pen w0 w g r l):=H
 clear H
 go_enter Tryz.func13,Tryz.ntmps13
 go_wp2_with fail
 refine (pput_any _ _ _ _ _ HP.out (by omega)).mono ?_
 rintro e w1 ⟨rfl,H1⟩
 have HP1 : Hid _:=H1
 clear H1 HP
 go_wp2_with fail
 refine (pput_any _ _ _ _ _ HP1.out (by simp; omega)).mono ?_
 rintro e w2 ⟨rfl,H2⟩
 have HP2 : Hid _:=H2
 clear H2 HP1
 go_wp2_with fail
 refine bodyPost_end (v:=.tuple #[]) (by simp [results,Tryz.results13,go_sem]) rfl ⟨rfl,?_⟩
 have:=HP2.out
 rwa [List.append_assoc] at this
theorem Pen.code {w0 w : World} {g r : Nat} {l : List ID} (h : Pen w0 w g r l) : ∃ (f : FC),f.d = ⟨⟨#[109,97,105,110]⟩,0,0,false,r,[],[],l,[]⟩∧(∃ tv,w.heap[g]? = some (.cells (f.cells ++ [tv,Value.int .i64 0,Value.int .i64 0]).toArray 56))∧∀ q j v,q < w0.heap.size→f.lie (w.setCell ⟨q,j,none⟩ v):=by
 obtain ⟨h1,h2,iv,tv,h3,h4⟩:=h
 obtain ⟨a,cap,rfl,hs⟩:=h4.lies idC_len
 refine ⟨⟨⟨⟨#[109,97,105,110]⟩,0,0,false,r,[],[],l,[]⟩,none,0,none,0,a,cap,none,0⟩,rfl,⟨tv,h3⟩,fun q j v hq=>⟨SlA.nil _ _ _ _,SlA.nil _ _ _ _,?_,SlA.nil _ _ _ _⟩⟩
 have h5:=ORow.set_own h4 (g:=q) (fun e=>by have:=owns_ge h4 e; omega) j v
 obtain ⟨a',cap',e,hs'⟩:=h5.lies idC_len
 injection e with e1 e2 e3
 subst e1
 exact hs'
theorem code_one {w : World} {g : Nat} {f : FC} (hb : w.heap[g]? = some (.cells f.cells.toArray 53)) (hl : f.lie w) (hok : f.d.ok) : CodeAt w (some ⟨g,0,none⟩) [f]:=by
 refine ⟨fun i x hx=>?_,fun x hx=>by rw [List.mem_singleton.1 hx]; exact hl,fun x hx=>by rw [List.mem_singleton.1 hx]; exact hok,by simp,by simpa using hok.li⟩
 have hi : i = 0∧f = x:=by
  cases i with
  | zero=>exact ⟨rfl,by simpa using hx⟩
  | succ i=>simp at hx
 obtain ⟨rfl,rfl⟩:=hi
 refine ⟨g,0,rfl,blk_lt hb,fun j v hv=>?_⟩
 rw [blk_cell hb]
 simpa using hv
theorem made_each (j k : Nat) (hj : j < 11) (hk : k < 11) (w : World) :
  Calls Tryz.prog 6 #[.int .i64 (j : Int),.int .i64 (k : Int),.bool true] w fun e w'=>(∃ g1 f,e = .returned (.agg #[.slice (some ⟨g1,0,none⟩) 1 1])∧CodeAt w' (some ⟨g1,0,none⟩) [f]∧f.d = keepsD j k true)∧Below w.heap.size w w':=by
 go_enter Tryz.func6,Tryz.ntmps6
 go_wp2_with fail
 obtain ⟨W1,hW1⟩ : ∃ W1,w.alloc (.cells #[.slice none 0 0] 26) = W1:=⟨_,rfl⟩
 rw [hW1]
 refine (pen_any 12 (by omega) _).mono ?_
 rintro e w2 ⟨g,rfl,H⟩
 have HP : Hid _:=H
 clear H
 go_wp2_with fail
 refine (pput_any _ _ _ _ _ HP.out (by simp)).mono ?_
 rintro e w3 ⟨rfl,H⟩
 replace HP : Hid _:=H
 clear H
 go_wp2_with fail
 refine (pput_any _ _ _ _ _ HP.out (by simp)).mono ?_
 rintro e w4 ⟨rfl,H⟩
 replace HP : Hid _:=H
 clear H
 go_wp2_with fail
 refine (pput_any _ _ _ _ _ HP.out (by simp)).mono ?_
 rintro e w5 ⟨rfl,H⟩
 replace HP : Hid _:=H
 clear H
 go_wp2_with fail
 refine (pput_any _ _ _ _ _ HP.out (by simp)).mono ?_
 rintro e w6 ⟨rfl,H⟩
 replace HP : Hid _:=H
 clear H
 go_wp2_with fail
 refine (pput_any _ _ _ _ _ HP.out (by simp)).mono ?_
 rintro e w7 ⟨rfl,H⟩
 replace HP : Hid _:=H
 clear H
 go_wp2_with fail
 refine (pput_any _ _ _ _ _ HP.out (by simp)).mono ?_
 rintro e w8 ⟨rfl,H⟩
 replace HP : Hid _:=H
 clear H
 go_wp2_with fail
 refine (pput_any _ _ _ _ _ HP.out (by simp)).mono ?_
 rintro e w9 ⟨rfl,H⟩
 replace HP : Hid _:=H
 clear H
 go_wp2_with fail
 obtain ⟨gi,cap,q7,qa,qz,HS⟩:=HP.out.open (i:=1) rfl
 have HZ : Hid _:=(HS 7).drew
 clear HS
 go_cut [] from 34 to 44 (fun wx=>Hid (Pen W1 wx g 12 [⟨12,k,0,0,0⟩,⟨31,7,j,0,0⟩,⟨40,k,0,0,0⟩,⟨42,k,0,0,0⟩,⟨42,(k : Int) + 1,0,0,0⟩,⟨32,0,0,0,0⟩,⟨19,0,0,0,0⟩]))
 case first =>
  go_region_with (go_at_call 12; refine (pat_any HP.out.drew).mono ?_; rintro e w' ⟨rfl,rfl⟩)
  all_goals
   go_wp2_with fail
   go_meet
   exact HZ
 case rest =>
  replace HP : Hid _:=hcut.out
  clear hcut HZ q7 qa qz
  go_wp2_with fail
  refine (pput_any _ _ _ _ _ HP.out (by simp)).mono ?_
  rintro e w10 ⟨rfl,H⟩
  replace HP : Hid _:=H
  clear H
  go_wp2_with fail
  refine (pput_any _ _ _ _ _ HP.out (by simp)).mono ?_
  rintro e w11 ⟨rfl,H⟩
  replace HP : Hid _:=H
  clear H
  go_wp2_with fail
  obtain ⟨gi,cap,q7,qa,qz,HS⟩:=HP.out.open (i:=6) rfl
  have HZ : Hid _:=(HS 9).drew
  clear HS
  go_cut [] from 51 to 61 (fun wx=>Hid (Pen W1 wx g 12 [⟨12,k,0,0,0⟩,⟨31,7,j,0,0⟩,⟨40,k,0,0,0⟩,⟨42,k,0,0,0⟩,⟨42,(k : Int) + 1,0,0,0⟩,⟨32,0,0,0,0⟩,⟨19,9,0,0,0⟩,⟨42,j,0,0,0⟩,⟨42,(j : Int) + 1,0,0,0⟩]))
  case first =>
   go_region_with (go_at_call 12; refine (pat_any HP.out.drew).mono ?_; rintro e w' ⟨rfl,rfl⟩)
   all_goals
    go_wp2_with fail
    go_meet
    exact HZ
  case rest =>
   replace HP : Hid _:=hcut.out
   clear hcut HZ q7 qa qz
   go_wp2_with fail
   refine (pback_any _ HP.out (by simp) (by omega)).mono ?_
   rintro e w12 ⟨rfl,H⟩
   replace HP : Hid _:=H
   clear H
   obtain ⟨f,hd,⟨tv,hb⟩,hli⟩:=HP.out.code
   have hB : Below W1.heap.size W1 w12:=HP.out.bel
   have hBw : Below w.heap.size w w12:=by
    have h1 : Below w.heap.size w W1:=by rw [← hW1]; exact bw1 _ _
    exact h1.trans (hB.mono h1.size)
   have hc0 : w12.heap[w.heap.size]? = some (.cells #[.slice none 0 0] 26):=blk_later hB (by rw [← hW1]; exact blk_new _ _)
   have hgW : W1.heap.size ≤ g:=HP.out.ge
   have hsz : W1.heap.size = w.heap.size + 1:=by rw [← hW1]; simp
   have c0 : w12.cell? ⟨w.heap.size,0,none⟩ = some (.slice none 0 0):=by rw [blk_cell hc0]; rfl
   have hlt0:=blk_lt hc0
   have z0:=blk_frozen hc0
   have q0 : w12.cell? ⟨g,0,none⟩ = some (.string f.d.name):=by rw [blk_cell hb]; rfl
   have q1 : w12.cell? ⟨g,1,none⟩ = some (.int .i64 f.d.line):=by rw [blk_cell hb]; rfl
   have q2 : w12.cell? ⟨g,2,none⟩ = some (.int .i64 f.d.params):=by rw [blk_cell hb]; rfl
   have q3 : w12.cell? ⟨g,3,none⟩ = some (.bool f.d.rest):=by rw [blk_cell hb]; rfl
   have q4 : w12.cell? ⟨g,4,none⟩ = some (.int .i64 f.d.regs):=by rw [blk_cell hb]; rfl
   have q5 : w12.cell? ⟨g,5,none⟩ = some (.slice f.au f.d.ups.length f.cu):=by rw [blk_cell hb]; rfl
   have q6 : w12.cell? ⟨g,6,none⟩ = some (.slice f.ac f.d.consts.length f.cc):=by rw [blk_cell hb]; rfl
   have q7 : w12.cell? ⟨g,7,none⟩ = some (.slice f.ai f.d.ins.length f.ci):=by rw [blk_cell hb]; rfl
   have q8 : w12.cell? ⟨g,8,none⟩ = some (.slice f.an f.d.named.length f.cn):=by rw [blk_cell hb]; rfl
   have HL : Hid (f.lie ((w12.setCell ⟨w.heap.size,0,none⟩ (.slice (some ⟨w12.heap.size,0,none⟩) 1 1)).alloc (.cells f.cells.toArray 53))):=(hli w.heap.size 0 _ (by omega)).later (bw1 _ _)
   have HO : Hid f.d.ok:=by show FD.ok f.d; rw [hd]; exact ⟨by show (4 : Nat) ≤ maxLen; unfold maxLen; omega,by simp,by simp,by simp,by simp,by simp,by simp⟩
   have HD : Hid (f.d = keepsD j k true):=hd
   have HBW : Hid (Below w.heap.size w w12):=hBw
   clear HP hb hli hB hBw hd
   go_wp2_with fail
   refine bodyPost_ret (v:=.agg #[.slice (some ⟨w12.heap.size,0,none⟩) 1 1]) (by simp [results,Tryz.results6,go_sem,c0,hlt0]) rfl ⟨⟨_,f,rfl,code_one (blk_newn (by simp) _) HL.out HO.out,HD.out⟩,?_⟩
   exact (HBW.out.setCell (p:=⟨w.heap.size,0,none⟩) (by simp) _).trans ((bw1 _ _).mono (by have:=HBW.out.size; simp; omega))
theorem made_not (j k : Nat) (hj : j < 11) (hk : k < 11) (w : World) :
  Calls Tryz.prog 6 #[.int .i64 (j : Int),.int .i64 (k : Int),.bool false] w fun e w'=>(∃ g1 f,e = .returned (.agg #[.slice (some ⟨g1,0,none⟩) 1 1])∧CodeAt w' (some ⟨g1,0,none⟩) [f]∧f.d = keepsD j k false)∧Below w.heap.size w w':=by
 go_enter Tryz.func6,Tryz.ntmps6
 go_wp2_with fail
 obtain ⟨W1,hW1⟩ : ∃ W1,w.alloc (.cells #[.slice none 0 0] 26) = W1:=⟨_,rfl⟩
 rw [hW1]
 refine (pen_any 12 (by omega) _).mono ?_
 rintro e w2 ⟨g,rfl,H⟩
 have HP : Hid _:=H
 clear H
 go_wp2_with fail
 refine (pput_any _ _ _ _ _ HP.out (by simp)).mono ?_
 rintro e w3 ⟨rfl,H⟩
 replace HP : Hid _:=H
 clear H
 go_wp2_with fail
 refine (pput_any _ _ _ _ _ HP.out (by simp)).mono ?_
 rintro e w4 ⟨rfl,H⟩
 replace HP : Hid _:=H
 clear H
 go_wp2_with fail
 refine (pput_any _ _ _ _ _ HP.out (by simp)).mono ?_
 rintro e w5 ⟨rfl,H⟩
 replace HP : Hid _:=H
 clear H
 go_wp2_with fail
 refine (pput_any _ _ _ _ _ HP.out (by simp)).mono ?_
 rintro e w6 ⟨rfl,H⟩
 replace HP : Hid _:=H
 clear H
 go_wp2_with fail
 refine (pback_any _ HP.out (by simp) (by omega)).mono ?_
 rintro e w7 ⟨rfl,H⟩
 replace HP : Hid _:=H
 clear H
 go_wp2_with fail
 obtain ⟨gi,cap,q7,qa,qz,HS⟩:=HP.out.open (i:=1) rfl
 have HZ : Hid _:=(HS 6).drew
 clear HS
 go_cut [] from 78 to 88 (fun wx=>Hid (Pen W1 wx g 12 [⟨31,0,j,0,0⟩,⟨31,6,k,0,0⟩,⟨32,0,0,0,0⟩,⟨32,0,0,0,0⟩,⟨22,11,0,0,0⟩,⟨29,-12,0,0,0⟩]))
 case first =>
  go_region_with (go_at_call 12; refine (pat_any HP.out.drew).mono ?_; rintro e w' ⟨rfl,rfl⟩)
  all_goals
   go_wp2_with fail
   go_meet
   exact HZ
 case rest =>
  replace HP : Hid _:=hcut.out
  clear hcut HZ q7 qa qz
  go_wp2_with fail
  refine (pput_any _ _ _ _ _ HP.out (by simp)).mono ?_
  rintro e w8 ⟨rfl,H⟩
  replace HP : Hid _:=H
  clear H
  go_wp2_with fail
  obtain ⟨gi,cap,q7,qa,qz,HS⟩:=HP.out.open (i:=0) rfl
  have HZ : Hid _:=(HS 7).drew
  clear HS
  go_cut [] from 91 to 101 (fun wx=>Hid (Pen W1 wx g 12 [⟨31,7,j,0,0⟩,⟨31,6,k,0,0⟩,⟨32,0,0,0,0⟩,⟨32,0,0,0,0⟩,⟨22,11,0,0,0⟩,⟨29,-12,0,0,0⟩,⟨30,k,0,0,0⟩]))
  case first =>
   go_region_with (go_at_call 12; refine (pat_any HP.out.drew).mono ?_; rintro e w' ⟨rfl,rfl⟩)
   all_goals
    go_wp2_with fail
    go_meet
    exact HZ
  case rest =>
   replace HP : Hid _:=hcut.out
   clear hcut HZ q7 qa qz
   go_wp2_with fail
   refine (pback_any _ HP.out (by simp) (by omega)).mono ?_
   rintro e w9 ⟨rfl,H⟩
   replace HP : Hid _:=H
   clear H
   obtain ⟨f,hd,⟨tv,hb⟩,hli⟩:=HP.out.code
   have hB : Below W1.heap.size W1 w9:=HP.out.bel
   have hBw : Below w.heap.size w w9:=by
    have h1 : Below w.heap.size w W1:=by rw [← hW1]; exact bw1 _ _
    exact h1.trans (hB.mono h1.size)
   have hc0 : w9.heap[w.heap.size]? = some (.cells #[.slice none 0 0] 26):=blk_later hB (by rw [← hW1]; exact blk_new _ _)
   have hgW : W1.heap.size ≤ g:=HP.out.ge
   have hsz : W1.heap.size = w.heap.size + 1:=by rw [← hW1]; simp
   have c0 : w9.cell? ⟨w.heap.size,0,none⟩ = some (.slice none 0 0):=by rw [blk_cell hc0]; rfl
   have hlt0:=blk_lt hc0
   have z0:=blk_frozen hc0
   have q0 : w9.cell? ⟨g,0,none⟩ = some (.string f.d.name):=by rw [blk_cell hb]; rfl
   have q1 : w9.cell? ⟨g,1,none⟩ = some (.int .i64 f.d.line):=by rw [blk_cell hb]; rfl
   have q2 : w9.cell? ⟨g,2,none⟩ = some (.int .i64 f.d.params):=by rw [blk_cell hb]; rfl
   have q3 : w9.cell? ⟨g,3,none⟩ = some (.bool f.d.rest):=by rw [blk_cell hb]; rfl
   have q4 : w9.cell? ⟨g,4,none⟩ = some (.int .i64 f.d.regs):=by rw [blk_cell hb]; rfl
   have q5 : w9.cell? ⟨g,5,none⟩ = some (.slice f.au f.d.ups.length f.cu):=by rw [blk_cell hb]; rfl
   have q6 : w9.cell? ⟨g,6,none⟩ = some (.slice f.ac f.d.consts.length f.cc):=by rw [blk_cell hb]; rfl
   have q7 : w9.cell? ⟨g,7,none⟩ = some (.slice f.ai f.d.ins.length f.ci):=by rw [blk_cell hb]; rfl
   have q8 : w9.cell? ⟨g,8,none⟩ = some (.slice f.an f.d.named.length f.cn):=by rw [blk_cell hb]; rfl
   have HL : Hid (f.lie ((w9.setCell ⟨w.heap.size,0,none⟩ (.slice (some ⟨w9.heap.size,0,none⟩) 1 1)).alloc (.cells f.cells.toArray 53))):=(hli w.heap.size 0 _ (by omega)).later (bw1 _ _)
   have HO : Hid f.d.ok:=by show FD.ok f.d; rw [hd]; exact ⟨by show (4 : Nat) ≤ maxLen; unfold maxLen; omega,by simp,by simp,by simp,by simp,by simp,by simp⟩
   have HD : Hid (f.d = keepsD j k false):=hd
   have HBW : Hid (Below w.heap.size w w9):=hBw
   clear HP hb hli hB hBw hd
   go_wp2_with fail
   refine bodyPost_ret (v:=.agg #[.slice (some ⟨w9.heap.size,0,none⟩) 1 1]) (by simp [results,Tryz.results6,go_sem,c0,hlt0]) rfl ⟨⟨_,f,rfl,code_one (blk_newn (by simp) _) HL.out HO.out,HD.out⟩,?_⟩
   exact (HBW.out.setCell (p:=⟨w.heap.size,0,none⟩) (by simp) _).trans ((bw1 _ _).mono (by have:=HBW.out.size; simp; omega))
theorem made_any (j k : Nat) (hj : j < 11) (hk : k < 11) (each : Bool) (w : World) :
  Calls Tryz.prog 6 #[.int .i64 (j : Int),.int .i64 (k : Int),.bool each] w fun e w'=>(∃ g1 f,e = .returned (.agg #[.slice (some ⟨g1,0,none⟩) 1 1])∧CodeAt w' (some ⟨g1,0,none⟩) [f]∧f.d = keepsD j k each)∧Below w.heap.size w w':=by
 cases each
 ·exact made_not j k hj hk w
 ·exact made_each j k hj hk w
end Go.Proofs.YtjglgbepobmjhaaGreatDoor
