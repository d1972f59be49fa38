import Derived.Test.YtjglgbepobmjhaaGreatDoorP07
import Derived.BigRegion
import Derived.BigQuiet
import Derived.Deep.QuietTactic
import Derived.Test.YtjglgbepobmjhaaGreatDoorP02
set_option linter.unusedVariables false
set_option linter.unusedSimpArgs false
set_option maxRecDepth 20000
set_option maxHeartbeats 8000000
namespace Go.Proofs.YtjglgbepobmjhaaGreatDoor
open Go.RowKit
structure HpV (w : World) (B : Nat) (hv : Value) (l : List Nat) : Prop where
 row : OI w B hv (nz l)
 hp : HP.Hp l
 nd : HP.Nd l
structure PuI (B gp g' n cap' : Nat) (o : Obj) (S : List Nat) (w : World) (mem : Nat→Prop) (wr : World) (l : List Nat) (i : Nat) : Prop where
 blk : wr.heap[gp]? = some o
 row : OI wr B (.slice (some ⟨g',0,none⟩) n cap') (nz l)
 len : l.length = n
 up : HP.Up l i
 nd : HP.Nd l
 mem : ∀ z,z ∈ l ↔ mem z
 but : ButL S w wr
 lt : i < n
theorem ButL.drewN {S : List Nat} {w w' : World} (h : ButL S w w') (n : Nat) : ButL S w (w'.drewN n):=⟨h.os,h.tape,h.output,h.size,h.block⟩
theorem ORow.drewN {α : Type} {w : World} {B : Nat} {et : TypeId} {k : Nat} {cells : α→List Value} {sv : Value} {xs : List α} (h : ORow w B et k cells sv xs) (n : Nat) : ORow (w.drewN n) B et k cells sv xs:=h
theorem PuI.drewN {B gp g' n cap' : Nat} {o : Obj} {S : List Nat} {w : World} {mem : Nat→Prop} {wr : World} {l : List Nat} {i : Nat} (h : PuI B gp g' n cap' o S w mem wr l i) (q : Nat) : PuI B gp g' n cap' o S w mem (wr.drewN q) l i :=
 ⟨h.blk,h.row,h.len,h.up,h.nd,h.mem,h.but.drewN q,h.lt⟩
theorem PuI.step {B gp g' n cap' : Nat} {o : Obj} {S : List Nat} {w : World} {mem : Nat→Prop} {wr : World} {l : List Nat} {i j u v : Nat} (h : PuI B gp g' n cap' o S w mem wr l i) (h0 : 0 < i) (hj : (i - 1) / 2 = j) (hu : l[i]? = some u) (hv : l[j]? = some v) (huv : u < v) (hS : g' ∈ S ∨ w.heap.size ≤ g') (hgp : gp ≠ g') :
  PuI B gp g' n cap' o S w mem ((wr.setCell ⟨g',i,none⟩ (.int .i64 v)).setCell ⟨g',j,none⟩ (.int .i64 u)) (HP.swp l i j u v) j:=by
 have hne : i ≠ j:=by omega
 have hl:=h.len
 have hlt:=h.lt
 have hst:=h.up.step h0 hu (by rw [hj]; exact hv) huv
 rw [hj] at hst
 refine ⟨blk_other (blk_other h.blk hgp.symm i _) hgp.symm j _,?_,by rw [HP.swp_len]; exact hl,hst,HP.swp_nd h.nd hne hu hv,fun z=>by rw [HP.swp_mem hne hu hv]; exact h.mem z,(h.but.seto hS i _).seto hS j _,by omega⟩
 have:=OI.set (OI.set h.row i v (by rw [nz_len]; omega)) j u (by rw [List.length_set,nz_len]; omega)
 rw [nz_set,nz_set] at this
 exact this
theorem nd_push {l : List Nat} (h : HP.Nd l) {x : Nat} (hx : x ∉ l) : HP.Nd (l ++ [x]):=by
 have key : ∀ (i y : Nat),(l ++ [x])[i]? = some y→(i < l.length∧l[i]? = some y) ∨ (i = l.length∧y = x):=fun i y hy=>by
  rcases Nat.lt_trichotomy i l.length with q | q | q
  ·rw [List.getElem?_append_left q] at hy; exact .inl ⟨q,hy⟩
  ·subst q; simp at hy; exact .inr ⟨rfl,hy.symm⟩
  ·rw [List.getElem?_eq_none (by simp; omega)] at hy; cases hy
 intro i j y hi hj
 rcases key i y hi with ⟨q1,q2⟩ | ⟨q1,q2⟩ <;> rcases key j y hj with ⟨r1,r2⟩ | ⟨r1,r2⟩
 ·exact h i j y q2 r2
 ·subst r2; exact absurd (List.mem_of_getElem? q2) hx
 ·subst q2; exact absurd (List.mem_of_getElem? r2) hx
 ·omega
theorem push_any (gp off B : Nat) (hv : Value) (l : List Nat) (x : Nat) (w : World) (arr : Array Value) (ty : TypeId) (hb : w.heap[gp]? = some (.cells arr ty)) (hc : arr[off]? = some hv) (hty : ty ≠ 3) (hh : HpV w B hv l) (hx : x ∉ l) (hl : l.length ≤ 6000) (hB : B ≤ w.heap.size) :
  Calls Tryz.prog 62 #[.pointer (some ⟨gp,off,none⟩),.int .i64 x] w fun e w'=>e = .returned (.tuple #[])∧∃ hv' l',w'.heap[gp]? = some (.cells (arr.setIfInBounds off hv') ty)∧HpV w' B hv' l'∧(∀ z,z ∈ l' ↔ z = x ∨ z ∈ l)∧l'.length = l.length + 1∧ButL (gp :: hv.ownBlock.toList) w w'∧∀ g,hv'.ownBlock = some g→hv.ownBlock = some g ∨ w.heap.size ≤ g:=by
 obtain ⟨g',cap',w2,hr,ho2,hg,hwh⟩:=OI.app hh.row x (by rw [nz_len]; omega) hB
 obtain ⟨aa,cc,rfl⟩:=hh.row.val
 rw [nz_len] at *
 have hgne : (Value.slice aa l.length cc).ownBlock ≠ some gp:=by
  intro e
  rcases hh.row.2 with ⟨e1,_⟩ | ⟨g0,c0,cur,e1,_,e3,_⟩
  ·rw [e1] at e; cases e
  ·rw [e1] at e; cases e; rw [hb] at e3; cases e3; exact hty rfl
 have hgp:=blk_lt hb
 have hb2 : w2.heap[gp]? = some (.cells arr ty):=(hg.block gp (by simp; omega) (fun e=>hgne e.symm)).trans (blk_old hb _)
 have hg'ne : gp ≠ g':=by
  rintro rfl
  rcases hwh with e | e
  ·exact hgne e.symm
  ·omega
 have p0 : (w.alloc (.cells #[.int .i64 x] 3)).cell? ⟨gp,off,none⟩ = some (.slice aa l.length cc):=by rw [blk_cell (blk_old hb _)]; exact hc
 have p1 : w.cell? ⟨gp,off,none⟩ = some (.slice aa l.length cc):=by rw [blk_cell hb]; exact hc
 have p2 : w2.cell? ⟨gp,off,none⟩ = some (.slice aa l.length cc):=by rw [blk_cell hb2]; exact hc
 have z2:=blk_frozen hb2
 have hoff : off < arr.size:=(Array.getElem?_eq_some_iff.1 hc).1
 have HS : Hid (∀ g,g = g'→g ∈ gp :: (Value.slice aa l.length cc).ownBlock.toList ∨ w.heap.size ≤ g):=by
  rintro g rfl
  rcases hwh with e | e
  ·exact .inl (by rw [← e]; simp)
  ·exact .inr e
 have HP0 : Hid (PuI B gp g' (l.length + 1) cap' (.cells (arr.setIfInBounds off (.slice (some ⟨g',0,none⟩) (l.length + 1) cap')) ty) (gp :: (Value.slice aa l.length cc).ownBlock.toList) w (fun z=>z = x ∨ z ∈ l) (w2.setCell ⟨gp,off,none⟩ (.slice (some ⟨g',0,none⟩) (l.length + 1) cap')) (l ++ [x]) l.length):=by
  refine ⟨blk_set hb2 off _,?_,by simp,HP.up_push hh.hp x,nd_push hh.nd hx,fun z=>by simp [or_comm],?_,by omega⟩
  ·have:=ORow.set_own ho2 (g:=gp) (fun e=>by cases e; exact hg'ne rfl) off (.slice (some ⟨g',0,none⟩) (l.length + 1) cap')
   rw [nz_app]; exact this
  ·refine (ButL.grown ((ButL.refl _ w).alloc _) hg (fun g e=>.inl (by rw [e]; simp))).set (by simp) _ _
 obtain ⟨W3,hW3⟩ : ∃ W,w2.setCell ⟨gp,off,none⟩ (.slice (some ⟨g',0,none⟩) (l.length + 1) cap') = W:=⟨_,rfl⟩
 rw [hW3] at HP0
 have p3 : W3.cell? ⟨gp,off,none⟩ = some (.slice (some ⟨g',0,none⟩) (l.length + 1) cap'):=by rw [blk_cell HP0.out.blk]; simp [hoff]
 have HW : Hid ((Value.slice aa l.length cc).ownBlock = some g' ∨ w.heap.size ≤ g'):=hwh.imp (fun e=>e.symm) id
 clear hh hg ho2 hb2 hb hc hwh hx
 go_enter Tryz.func62,Tryz.ntmps62
 go_wp2_with (at_builtin; refine wpList_append_run rfl _ _ _ rfl _ _ _ _ rfl rfl hr ?_; clear hr)
 clear p0 p1 p2 p3 z2 hW3
 go_loopw [4] (fun a wr=>∃ (i : Nat) (l1 : List Nat),a = .int .i64 i∧Hid (PuI B gp g' (l.length + 1) cap' (.cells (arr.setIfInBounds off (.slice (some ⟨g',0,none⟩) (l.length + 1) cap')) ty) (gp :: (Value.slice aa l.length cc).ownBlock.toList) w (fun z=>z = x ∨ z ∈ l) wr l1 i)) (fun a _=>(intOf a).toNat)
 case atStart=>exact ⟨l.length,_,by go_num,HP0⟩
 case round =>
  clear HP0
  obtain ⟨i,l1,rfl,HI⟩:=hrel
  have hi:=HI.out.lt
  have p3 : wr.cell? ⟨gp,off,none⟩ = some (.slice (some ⟨g',0,none⟩) (l.length + 1) cap'):=by rw [blk_cell HI.out.blk]; simp [hoff]
  have z3:=blk_frozen HI.out.blk
  have z4:=HI.out.row.froz
  by_cases k0 : i = 0
  ·subst k0
   have t0 : decide ((0 : Int) < 0) = false:=by decide
   go_wp2_with fail
   go_quiet (fail)
   go_wp2_with fail
   have HE : Hid _:=HI.out.drewN nq
   refine bodyPost_end (v:=.tuple #[]) (by simp [results,Tryz.results62,go_sem]) rfl ⟨rfl,_,l1,HE.out.blk,⟨HE.out.row,HE.out.up.done0,HE.out.nd⟩,HE.out.mem,HE.out.len,HE.out.but,?_⟩
   rintro g e
   cases e
   exact HW.out
  ·obtain ⟨u,hu⟩ : ∃ u,l1[i]? = some u:=⟨l1[i]'(by have:=HI.out.len; omega),by simp⟩
   obtain ⟨v,hv⟩ : ∃ v,l1[(i - 1) / 2]? = some v:=⟨l1[(i - 1) / 2]'(by have:=HI.out.len; omega),by simp⟩
   obtain ⟨j,hj⟩ : ∃ j,(i - 1) / 2 = j:=⟨_,rfl⟩
   rw [hj] at hv
   have c1 : wr.cell? ⟨g',i,none⟩ = some (.int .i64 u):=HI.out.row.cell (by rw [nz_get,hu]; rfl)
   have c2 : wr.cell? ⟨g',j,none⟩ = some (.int .i64 v):=HI.out.row.cell (by rw [nz_get,hv]; rfl)
   have b1 : 0 < i:=by omega
   have b0 : (0 : Int) ≤ (i : Int):=by omega
   have b2 : (i : Int) < (l.length : Int) + 1:=by omega
   have b3 : ((i : Int) - 1).tdiv 2 = (j : Int):=by
    rw [← hj,show (i : Int) - 1 = ((i - 1 : Nat) : Int) by omega]; rfl
   have b4 : (j : Int) < (l.length : Int) + 1:=by omega
   have HJ : Hid ((i - 1) / 2 = j):=hj
   have HU : Hid (l1[i]? = some u):=hu
   have HV : Hid (l1[j]? = some v):=hv
   clear hj hu hv
   by_cases huv : u < v
   ·have t1 : u < v:=huv
    go_wp2_with fail
    go_quiet (fail)
    go_wp2_with fail
    have HE : Hid _:=HI.out.drewN nq
    obtain ⟨wq,hwq⟩ : ∃ wq,wr.drewN nq = wq:=⟨_,rfl⟩
    rw [hwq] at HE ⊢
    have d1 : wq.cell? ⟨g',i,none⟩ = some (.int .i64 u):=by rw [← hwq]; exact c1
    have d2 : wq.cell? ⟨g',j,none⟩ = some (.int .i64 v):=by rw [← hwq]; exact c2
    have d3 : wq.cell? ⟨gp,off,none⟩ = some (.slice (some ⟨g',0,none⟩) (l.length + 1) cap'):=by rw [← hwq]; exact p3
    have z5:=HE.out.row.froz
    have d4 : (wq.setCell ⟨g',i,none⟩ (.int .i64 v)).cell? ⟨g',j,none⟩ = some (.int .i64 v):=by
     have h9 : (i - 1) / 2 = j:=HJ.out
     exact (OI.set HE.out.row i v (by rw [nz_len,HE.out.len]; omega)).cell (by rw [List.getElem?_set_ne (by omega),nz_get,HV.out]; rfl)
    have z6 : ∀ k,(wq.setCell ⟨g',i,none⟩ (.int .i64 v)).frozen? ⟨g',k,none⟩ = false:=(OI.set HE.out.row i v (by rw [nz_len,HE.out.len]; omega)).froz
    have HN : Hid _:=HE.out.step b1 HJ.out HU.out HV.out t1 (HS.out g' rfl) hg'ne
    clear c1 c2 p3 z3 z4 hwq
    go_region
    go_wp2_with fail
    go_roundw
    case rel=>exact ⟨j,_,rfl,HN.out.drewN 1⟩
    case measure=>have h9 : (i - 1) / 2 = j:=HJ.out; simp [intOf]; omega
   ·have t1 : decide (u < v) = false:=by simpa using huv
    go_wp2_with fail
    go_quiet (fail)
    go_wp2_with fail
    have HE : Hid _:=HI.out.drewN nq
    refine bodyPost_end (v:=.tuple #[]) (by simp [results,Tryz.results62,go_sem]) rfl ⟨rfl,_,l1,HE.out.blk,⟨HE.out.row,HE.out.up.done HU.out (by rw [HJ.out]; exact HV.out) (by omega),HE.out.nd⟩,HE.out.mem,HE.out.len,HE.out.but,?_⟩
    rintro g e
    cases e
    exact HW.out
end Go.Proofs.YtjglgbepobmjhaaGreatDoor
namespace Go.Proofs.YtjglgbepobmjhaaGreatDoor.M
open Go.RowKit
attribute [local go_sem] run_store_float
theorem CallAt.set8 {w : World} {g i : Nat} {c : CallD} (h : CallAt w g c) (hi : i < c.regs.length) (s : SD) : CallAt ((((((((w.setCell ⟨g,14 + i * 8,none⟩ (.int .i64 s.h)).setCell ⟨g,14 + i * 8 + 1,none⟩ (.int .i64 s.v.k)).setCell ⟨g,14 + i * 8 + 2,none⟩ (.int .i64 s.v.n)).setCell ⟨g,14 + i * 8 + 3,none⟩ (.float .f64 s.v.f)).setCell ⟨g,14 + i * 8 + 4,none⟩ (.string s.v.s)).setCell ⟨g,14 + i * 8 + 5,none⟩ (.int .i64 s.v.r)).setCell ⟨g,14 + i * 8 + 6,none⟩ s.b).setCell ⟨g,14 + i * 8 + 7,none⟩ s.l) g { c with regs:=c.regs.set i s }:=by
 have h8:=blk_set (blk_set (blk_set (blk_set (blk_set (blk_set (blk_set (blk_set h (14 + i * 8) (.int .i64 s.h)) (14 + i * 8 + 1) (.int .i64 s.v.k)) (14 + i * 8 + 2) (.int .i64 s.v.n)) (14 + i * 8 + 3) (.float .f64 s.v.f)) (14 + i * 8 + 4) (.string s.v.s)) (14 + i * 8 + 5) (.int .i64 s.v.r)) (14 + i * 8 + 6) s.b) (14 + i * 8 + 7) s.l
 have e:=CallD.set_reg c s hi
 unfold CallAt
 rw [← e]
 exact h8
theorem but8 {S : List Nat} {w0 w : World} {g i : Nat} (h : ButL S w0 w) (hg : g ∈ S ∨ w0.heap.size ≤ g) (s : SD) : ButL S w0 ((((((((w.setCell ⟨g,14 + i * 8,none⟩ (.int .i64 s.h)).setCell ⟨g,14 + i * 8 + 1,none⟩ (.int .i64 s.v.k)).setCell ⟨g,14 + i * 8 + 2,none⟩ (.int .i64 s.v.n)).setCell ⟨g,14 + i * 8 + 3,none⟩ (.float .f64 s.v.f)).setCell ⟨g,14 + i * 8 + 4,none⟩ (.string s.v.s)).setCell ⟨g,14 + i * 8 + 5,none⟩ (.int .i64 s.v.r)).setCell ⟨g,14 + i * 8 + 6,none⟩ s.b).setCell ⟨g,14 + i * 8 + 7,none⟩ s.l) :=
 (((((((h.seto hg _ _).seto hg _ _).seto hg _ _).seto hg _ _).seto hg _ _).seto hg _ _).seto hg _ _).seto hg _ _
theorem CallAt.drewN {w : World} {g : Nat} {c : CallD} (h : CallAt w g c) (n : Nat) : CallAt (w.drewN n) g c:=h
theorem CallAt.drew {w : World} {g : Nat} {c : CallD} (h : CallAt w g c) : CallAt w.drew g c:=h
set_option maxHeartbeats 4000000 in
theorem put_any (g i : Nat) (v : VD) (c : CallD) (w : World) (h : CallAt w g c) (hr : c.regs.length = 250) (hi : i < 250) :
  Calls Tryz.prog 126 #[.pointer (some ⟨g,0,none⟩),.int .i64 (i : Int),.agg #[.int .i64 v.k,.int .i64 v.n,.float .f64 v.f,.string v.s,.int .i64 v.r]] w fun e w'=>e = .returned (.tuple #[])∧CallAt w' g { c with regs:=c.regs.set i (sdV v) }∧ButL [g] w w':=by
 obtain ⟨s,hs⟩ : ∃ s,c.regs[i]? = some s:=⟨c.regs[i]'(by omega),by simp⟩
 have hlt:=blk_lt h
 obtain ⟨W,hW⟩ : ∃ W,w.alloc (.cells #[.int .i64 v.k,.int .i64 v.n,.float .f64 v.f,.string v.s,.int .i64 v.r] 70) = W:=⟨_,rfl⟩
 have hb:=bw1 w (.cells #[.int .i64 v.k,.int .i64 v.n,.float .f64 v.f,.string v.s,.int .i64 v.r] 70)
 have bn:=blk_new w (.cells #[.int .i64 v.k,.int .i64 v.n,.float .f64 v.f,.string v.s,.int .i64 v.r] 70)
 rw [hW] at hb bn
 have h' : CallAt W g c:=h.later hb
 have c0 : W.cell? ⟨g,14 + i * 8,none⟩ = some (.int .i64 s.h):=by have:=h'.reg hs (j:=0) rfl; simpa using this
 have c1 : W.cell? ⟨g,14 + i * 8 + 1,none⟩ = some (.int .i64 s.v.k):=by have:=h'.reg hs (j:=1) rfl; rwa [← Nat.add_assoc] at this
 have c2 : W.cell? ⟨g,14 + i * 8 + 2,none⟩ = some (.int .i64 s.v.n):=by have:=h'.reg hs (j:=2) rfl; rwa [← Nat.add_assoc] at this
 have c3 : W.cell? ⟨g,14 + i * 8 + 3,none⟩ = some (.float .f64 s.v.f):=by have:=h'.reg hs (j:=3) rfl; rwa [← Nat.add_assoc] at this
 have c4 : W.cell? ⟨g,14 + i * 8 + 4,none⟩ = some (.string s.v.s):=by have:=h'.reg hs (j:=4) rfl; rwa [← Nat.add_assoc] at this
 have c5 : W.cell? ⟨g,14 + i * 8 + 5,none⟩ = some (.int .i64 s.v.r):=by have:=h'.reg hs (j:=5) rfl; rwa [← Nat.add_assoc] at this
 have c6 : W.cell? ⟨g,14 + i * 8 + 6,none⟩ = some s.b:=by have:=h'.reg hs (j:=6) rfl; rwa [← Nat.add_assoc] at this
 have c7 : W.cell? ⟨g,14 + i * 8 + 7,none⟩ = some s.l:=by have:=h'.reg hs (j:=7) rfl; rwa [← Nat.add_assoc] at this
 have z:=blk_frozen h'
 have d0 : W.cell? ⟨w.heap.size,0,none⟩ = some (.int .i64 v.k):=by rw [blk_cell bn]; rfl
 have d1 : W.cell? ⟨w.heap.size,1,none⟩ = some (.int .i64 v.n):=by rw [blk_cell bn]; rfl
 have d2 : W.cell? ⟨w.heap.size,2,none⟩ = some (.float .f64 v.f):=by rw [blk_cell bn]; rfl
 have d3 : W.cell? ⟨w.heap.size,3,none⟩ = some (.string v.s):=by rw [blk_cell bn]; rfl
 have d4 : W.cell? ⟨w.heap.size,4,none⟩ = some (.int .i64 v.r):=by rw [blk_cell bn]; rfl
 have HC : Hid (CallAt W g c):=h'
 have HB : Hid (ButL [g] w W):=ButL.of_below hb
 clear h h' hb bn
 go_enter Tryz.func126,Tryz.ntmps126
 go_wp2_with fail
 clear hW
 go_region
 go_wp2_with fail
 exact bodyPost_end (v:=.tuple #[]) (by simp [results,Tryz.results126,go_sem]) rfl ⟨rfl,(HC.out.set8 (by omega) (sdV v)).drew,(but8 HB.out (.inl (by simp)) (sdV v)).drew⟩
set_option maxHeartbeats 4000000 in
theorem takeOff_any (g n cap : Nat) (a : Option Addr) (c : CallD) (w : World) (h : CallAt w g c) (hg : c.guards = .slice a (n + 1) cap) (hcap : n + 1 ≤ cap) (hn : n ≤ 1000) :
  Calls Tryz.prog 177 #[.pointer (some ⟨g,0,none⟩)] w fun e w'=>e = .returned (.tuple #[])∧CallAt w' g { c with guards:=.slice a n cap }∧ButL [g] w w':=by
 have c12 : w.cell? ⟨g,12,none⟩ = some (.slice a (n + 1) cap):=by rw [h.cell 12 (by omega),← hg]; rfl
 have z:=blk_frozen h
 have HC : Hid (CallAt w g c):=h
 clear h
 go_enter Tryz.func177,Tryz.ntmps177
 go_wp2_with fail
 go_region
 go_wp2_with fail
 refine bodyPost_end (v:=.tuple #[]) (by simp [results,Tryz.results177,go_sem]) rfl ⟨rfl,?_,((ButL.refl _ _).set (by simp) _ _).drew⟩
 have:=blk_set HC.out 12 (.slice a n cap)
 rw [CallD.set_guards] at this
 exact this
end Go.Proofs.YtjglgbepobmjhaaGreatDoor.M
namespace Go.Proofs.YtjglgbepobmjhaaGreatDoor.M
open Go.RowKit
attribute [local go_sem] run_store_float
def insV (n : ID) : Value:=.agg #[.int .i64 n.op,.int .i64 n.a,.int .i64 n.b,.int .i64 n.c,.int .i64 n.d]
abbrev InO (n : ID) : Obj:=.cells #[.int .i64 n.op,.int .i64 n.a,.int .i64 n.b,.int .i64 n.c,.int .i64 n.d] 47
set_option maxHeartbeats 4000000 in
theorem doJump_any (pm : Value) (g : Nat) (n : ID) (c : CallD) (w : World) (h : CallAt w g c) (hop : n.op = 19) :
  Calls Tryz.prog 93 #[pm,.pointer (some ⟨g,0,none⟩),insV n] w fun e w'=>e = .returned .nilIface∧CallAt w' g { c with next:=n.a }∧ButL [g] w w':=by
 obtain ⟨op,a,b,cc,d⟩:=n
 dsimp only [insV] at hop ⊢
 subst hop
 obtain ⟨W,hW⟩ : ∃ W,w.alloc (InO ⟨19,a,b,cc,d⟩) = W:=⟨_,rfl⟩
 have hb:=bw1 w (InO ⟨19,a,b,cc,d⟩)
 have bn:=blk_new w (InO ⟨19,a,b,cc,d⟩)
 rw [hW] at hb bn
 have h' : CallAt W g c:=h.later hb
 have c10 : W.cell? ⟨g,10,none⟩ = some (.int .i64 c.next):=by rw [h'.cell 10 (by omega)]; rfl
 have z:=blk_frozen h'
 have d0 : W.cell? ⟨w.heap.size,0,none⟩ = some (.int .i64 19):=by rw [blk_cell bn]; rfl
 have d1 : W.cell? ⟨w.heap.size,1,none⟩ = some (.int .i64 a):=by rw [blk_cell bn]; rfl
 have HC : Hid (CallAt W g c):=h'
 have HB : Hid (ButL [g] w W):=ButL.of_below hb
 clear h h' hb bn
 go_enter Tryz.func93,Tryz.ntmps93
 go_wp2_with fail
 go_ret
 refine ⟨rfl,?_,HB.out.set (by simp) _ _⟩
 have:=blk_set HC.out 10 (.int .i64 a)
 rw [CallD.set_next] at this
 exact this
set_option maxHeartbeats 4000000 in
theorem doDrop_any (pm : Value) (g i : Nat) (n : ID) (c : CallD) (w : World) (h : CallAt w g c) (hr : c.regs.length = 250) (hi : i < 250) (ha : n.a = i) :
  Calls Tryz.prog 110 #[pm,.pointer (some ⟨g,0,none⟩),insV n] w fun e w'=>e = .returned .nilIface∧CallAt w' g { c with regs:=c.regs.set i sd0 }∧ButL [g] w w':=by
 obtain ⟨op,a,b,cc,d⟩:=n
 dsimp only [insV] at ha ⊢
 subst ha
 obtain ⟨W,hW⟩ : ∃ W,w.alloc (InO ⟨op,i,b,cc,d⟩) = W:=⟨_,rfl⟩
 have hb:=bw1 w (InO ⟨op,i,b,cc,d⟩)
 have bn:=blk_new w (InO ⟨op,i,b,cc,d⟩)
 rw [hW] at hb bn
 have h' : CallAt W g c:=h.later hb
 obtain ⟨s,hs⟩ : ∃ s,c.regs[i]? = some s:=⟨c.regs[i]'(by omega),by simp⟩
 have c0 : W.cell? ⟨g,14 + i * 8,none⟩ = some (.int .i64 s.h):=by have:=h'.reg hs (j:=0) rfl; simpa using this
 have c1 : W.cell? ⟨g,14 + i * 8 + 1,none⟩ = some (.int .i64 s.v.k):=by have:=h'.reg hs (j:=1) rfl; rwa [← Nat.add_assoc] at this
 have c2 : W.cell? ⟨g,14 + i * 8 + 2,none⟩ = some (.int .i64 s.v.n):=by have:=h'.reg hs (j:=2) rfl; rwa [← Nat.add_assoc] at this
 have c3 : W.cell? ⟨g,14 + i * 8 + 3,none⟩ = some (.float .f64 s.v.f):=by have:=h'.reg hs (j:=3) rfl; rwa [← Nat.add_assoc] at this
 have c4 : W.cell? ⟨g,14 + i * 8 + 4,none⟩ = some (.string s.v.s):=by have:=h'.reg hs (j:=4) rfl; rwa [← Nat.add_assoc] at this
 have c5 : W.cell? ⟨g,14 + i * 8 + 5,none⟩ = some (.int .i64 s.v.r):=by have:=h'.reg hs (j:=5) rfl; rwa [← Nat.add_assoc] at this
 have c6 : W.cell? ⟨g,14 + i * 8 + 6,none⟩ = some s.b:=by have:=h'.reg hs (j:=6) rfl; rwa [← Nat.add_assoc] at this
 have c7 : W.cell? ⟨g,14 + i * 8 + 7,none⟩ = some s.l:=by have:=h'.reg hs (j:=7) rfl; rwa [← Nat.add_assoc] at this
 have z:=blk_frozen h'
 have d1 : W.cell? ⟨w.heap.size,1,none⟩ = some (.int .i64 (i : Int)):=by rw [blk_cell bn]; rfl
 have HC : Hid (CallAt W g c):=h'
 have HB : Hid (ButL [g] w W):=ButL.of_below hb
 clear h h' hb bn
 go_enter Tryz.func110,Tryz.ntmps110
 go_wp2_with fail
 clear hW
 go_region
 go_wp2_with fail
 go_ret
 exact ⟨rfl,(HC.out.set8 (by omega) sd0).drew,(but8 HB.out (.inl (by simp)) sd0).drew⟩
end Go.Proofs.YtjglgbepobmjhaaGreatDoor.M
namespace Go.Proofs.YtjglgbepobmjhaaGreatDoor
open Go.RowKit
end Go.Proofs.YtjglgbepobmjhaaGreatDoor
