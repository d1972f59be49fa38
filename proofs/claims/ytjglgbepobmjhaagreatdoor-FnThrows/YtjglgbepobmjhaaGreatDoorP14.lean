import Derived.Test.YtjglgbepobmjhaaGreatDoorP13
import Derived.Test.YtjglgbepobmjhaaGreatDoorP12
set_option linter.unusedVariables false
set_option linter.unusedSimpArgs false
set_option maxRecDepth 20000
set_option maxHeartbeats 8000000
namespace Go.Proofs.YtjglgbepobmjhaaGreatDoor
open Go.RowKit
theorem SR.ok.lt {w:World} {B:Nat} {z:SR} (h:z.ok w B) {g:Nat} (hg:z.tv.ownBlock=some g∨z.gv.ownBlock=some g):B≤g∧g<w.heap.size:=by
 unfold SR.ok at h
 split at h
 ·rw[h.1,h.2]at hg
  rcases hg with hg | hg<;>cases hg
 ·rcases hg with hg | hg
  ·exact h.1.own_lt hg
  ·exact h.2.own_lt hg
theorem ORow.ty {α:Type} {w:World} {B:Nat} {et:TypeId} {k:Nat} {cells:α→List Value} {sv:Value} {xs:List α} (h:ORow w B et k cells sv xs) {g:Nat} (hg:sv.ownBlock=some g):∃cur,w.heap[g]?=some (.cells cur et):=by
 rcases h.2 with ⟨e1,_⟩ | ⟨g0,c0,cur,e1,_,e3,_⟩
 ·rw[e1]at hg;cases hg
 ·rw[e1]at hg;cases hg;exact⟨cur,e3⟩
theorem SR.ok.tt {w:World} {B:Nat} {z:SR} (h:z.ok w B) {g:Nat} (hg:z.tv.ownBlock=some g):∃cur,w.heap[g]?=some (.cells cur 3):=by
 unfold SR.ok at h
 split at h
 ·rw[h.1]at hg;cases hg
 ·exact h.1.ty hg
theorem SR.ok.tg {w:World} {B:Nat} {z:SR} (h:z.ok w B) {g:Nat} (hg:z.gv.ownBlock=some g):∃cur,w.heap[g]?=some (.cells cur 172):=by
 unfold SR.ok at h
 split at h
 ·rw[h.2]at hg;cases hg
 ·exact h.2.ty hg
theorem HpD.set_own {w:World} {B g:Nat} {hv:Value} {due:List Bool} (h:HpD w B hv due) (hg:hv.ownBlock≠some g) (j:Nat) (v:Value):HpD (w.setCell ⟨g,j,none⟩ v) B hv due:=by
 obtain⟨l,h1,h2⟩:=h
 exact⟨l,⟨ORow.set_own h1.row hg j v,h1.hp,h1.nd⟩,h2⟩
theorem HpD.ty {w:World} {B g:Nat} {hv:Value} {due:List Bool} (h:HpD w B hv due) (hg:hv.ownBlock=some g):∃cur,w.heap[g]?=some (.cells cur 3):=by
 obtain⟨l,h1,h2⟩:=h
 exact h1.row.not_type hg
theorem WlV.ne {B gW gS nI p:Nat} {cv iv:Value} {wr:World} {zs:List SR} {hv:Value} {due:List Bool} (h:WlV B gW gS nI p cv iv wr zs hv due):gS≠gW∧hv.ownBlock≠some gS∧hv.ownBlock≠some gW:=by
 refine⟨?_,?_,?_⟩
 ·intro e
  have h1:=h.blk
  rw[←e,h.st.blk]at h1
  injection h1 with h1
  injection h1 with _ h2
  exact absurd h2 (by decide)
 ·intro e
  obtain⟨cur,e1⟩:=h.hp.ty e
  rw[h.st.blk]at e1;cases e1
 ·intro e
  obtain⟨cur,e1⟩:=h.hp.ty e
  rw[h.blk]at e1;cases e1
theorem WlV.put {B gW gS nI p t:Nat} {cv iv:Value} {w2 wj:World} {zs:List SR} {hv:Value} {due:List Bool} {x:SD} {tv gv:Value} (h:WlV B gW gS nI p cv iv w2 zs hv due) (hb:Below w2.heap.size w2 wj) (ht:t<nI) (h1:ORow wj w2.heap.size 3 1 intC tv x.ts) (h2:ORow wj w2.heap.size 172 3 GD.cells gv x.gs) :
  WlV B gW gS nI p cv iv (((wj.setCell ⟨gS,t*3,none⟩ (.bool true)).setCell ⟨gS,t*3+1,none⟩ tv).setCell ⟨gS,t*3+2,none⟩ gv) (zs.set t ⟨some x,tv,gv⟩) hv due:=by
 have hl:=h.later hb
 obtain⟨n1,n2,n3⟩:=h.ne
 have ap:∀ {a b:Value},(∀g,a.ownBlock=some g→g<w2.heap.size)→(∀g,b.ownBlock=some g→w2.heap.size≤g)→Apart a b:=fun h1 h2 g e e'=>by have:=h1 g e;have:=h2 g e';omega
 have l1:∀g,tv.ownBlock=some g→w2.heap.size≤g:=fun g e=>(h1.own_lt e).1
 have l2:∀g,gv.ownBlock=some g→w2.heap.size≤g:=fun g e=>(h2.own_lt e).1
 have old:∀y∈zs,∀g,(y.tv.ownBlock=some g∨y.gv.ownBlock=some g)→g<w2.heap.size:=fun y hy g e=>((h.st.ok y hy).lt e).2
 have hst:=StA.put hl.st (i:=t) (z:=⟨some x,tv,gv⟩) (by rw[h.len];exact ht) ⟨h1.mono h.base,h2.mono h.base⟩ (fun j y hj hy=>⟨ap (fun g e=>old y (List.mem_of_getElem? hy) g (.inl e)) l1,ap (fun g e=>old y (List.mem_of_getElem? hy) g (.inr e)) l2⟩)
 refine⟨blk_other (blk_other (blk_other hl.blk n1 _ _) n1 _ _) n1 _ _,hst,HpD.set_own (HpD.set_own (HpD.set_own hl.hp n2 _ _) n2 _ _) n2 _ _,fun z hz=>?_,by simpa using h.len,h.dul,h.g1,h.g2,by simpa using hl.base⟩
 rcases List.mem_or_eq_of_mem_set hz with hz | rfl
 ·exact h.ap z hz
 ·refine Apart.symm (ap (fun g e=>?_) l1)
  obtain⟨l,q,_⟩:=h.hp
  exact (q.row.own_lt e).2
theorem StA.butl {w w':World} {B gS:Nat} {zs:List SR} {S:List Nat} (h:StA w B gS zs) (hb:ButL S w w') (h2:gS∉S) (h4:∀z∈zs,∀g,z.tv.ownBlock=some g∨z.gv.ownBlock=some g→g∉S):StA w' B gS zs :=
 ⟨hb.blk h.blk h2,fun z hz=>(h.ok z hz).butl hb (h4 z hz),h.ap⟩
theorem WlV.heaped {B gW gS nI p:Nat} {cv iv:Value} {w w':World} {zs:List SR} {hv hv':Value} {due due':List Bool} (h:WlV B gW gS nI p cv iv w zs hv due) (hb:ButL (gW :: hv.ownBlock.toList) w w') (hblk:w'.heap[gW]?=some (.cells #[cv,.int .i64 p,iv,.slice (some ⟨gS,0,none⟩) nI nI,hv'] 77)) (hp:HpD w' B hv' due') (hl:due'.length=nI) (ho:∀g,hv'.ownBlock=some g→hv.ownBlock=some g∨w.heap.size≤g):WlV B gW gS nI p cv iv w' zs hv' due':=by
 obtain⟨n1,n2,n3⟩:=h.ne
 have hno:=h.noG
 refine⟨hblk,h.st.butl hb ?_ ?_,hp,?_,h.len,hl,h.g1,h.g2,Nat.le_trans h.base hb.size⟩
 ·simp only[List.mem_cons,Option.mem_toList]
  rintro (e | e)
  ·exact n1 e
  ·exact n2 e
 ·intro z hz g hg hm
  rcases hg with hg | hg
  ·simp only[List.mem_cons,Option.mem_toList]at hm
   rcases hm with e | e
   ·obtain⟨cur,e1⟩:=(h.st.ok z hz).tt hg
    rw[e,h.blk]at e1;cases e1
   ·exact h.ap z hz g hg e
  ·obtain⟨cur,e1⟩:=(h.st.ok z hz).tg hg
   refine hno g ?_ cur e1
   simp only[List.mem_cons]at hm ⊢
   rcases hm with e | e
   ·exact .inl e
   ·exact .inr (.inr e)
 ·intro z hz g hg e
  rcases ho g e with q | q
  ·exact h.ap z hz g hg q
  ·have:=((h.st.ok z hz).lt (.inl hg)).2
   omega
theorem due_push {due:List Bool} {t:Nat} {l l':List Nat} (h:due[t]?=some false) (h1:∀z,z∈l↔due[z]?=some true) (h2:l.length=due.countP (· == true)) (m:∀z,z∈l'↔z=t∨z∈l) (hl:l'.length=l.length+1):(∀z,z∈l'↔(due.set t true)[z]?=some true)∧l'.length=(due.set t true).countP (· == true):=by
 have hlt:=(List.getElem?_eq_some_iff.1 h).1
 refine⟨fun z=>?_,?_⟩
 ·rw[m,List.getElem?_set,h1]
  by_cases e:t=z
  ·subst e;simp[hlt]
  ·rw[if_neg e]
   constructor
   ·rintro (q | q)
    ·exact absurd q.symm e
    ·exact q
   ·exact .inr
 ·have:=countP_set (· == true) due t true false h
  simp at this
  rw[hl,h2]
  simp
  omega
theorem due_pop {due:List Bool} {t:Nat} {l l':List Nat} (h:due[t]?=some true) (h1:∀z,z∈l↔due[z]?=some true) (h2:l.length=due.countP (· == true)) (m:∀z,z∈l'↔z≠t∧z∈l) (hl:l'.length+1=l.length):(∀z,z∈l'↔(due.set t false)[z]?=some true)∧l'.length=(due.set t false).countP (· == true):=by
 have hlt:=(List.getElem?_eq_some_iff.1 h).1
 refine⟨fun z=>?_,?_⟩
 ·rw[m,List.getElem?_set,h1]
  by_cases e:t=z
  ·subst e;simp[hlt]
  ·rw[if_neg e]
   constructor
   ·exact fun q=>q.2
   ·exact fun q=>⟨fun e'=>e e'.symm,q⟩
 ·have:=countP_set (· == true) due t false true h
  simp only[beq_self_eq_true,if_true]at this
  have e9:(if ((false:Bool) == true)=true then 1 else 0)=0:=rfl
  rw[e9]at this
  omega
structure R45 (W2:World) (gW gS xb nI t:Nat) (at2 ag2:Option Addr) (ct2 cg2:Nat) (x:SD) (w':World) (b0 b1 b2 b3 b4 b5 b6 b7 b8 b9 b10 b11:Bool) (x0 x1 x2 x3 x4 x5 x6 x7 x8 x9 x10 x11:Value):Prop where
 hb:Below W2.heap.size W2 w'
 h0:b0=true→x0=.pointer (some ⟨gW,0,none⟩)
 h1:b1=true→x1=.pointer (some ⟨gW,0,none⟩)
 h2:b2=true→x2=.pointer (some ⟨gW,3,none⟩)
 h3:b3=true→x3=.slice (some ⟨gS,0,none⟩) nI nI
 h4:b4=true→x4=.int .i64 (t:Int)
 h5:b5=true→x5=.pointer (some ⟨xb,1,none⟩)
 h6:b6=true→x6=.slice at2 x.ts.length ct2
 h7:b7=true→∃a c,x7=.slice a x.ts.length c∧ORow w' W2.heap.size 3 1 intC (.slice a x.ts.length c) x.ts
 h8:b8=true→x8=.pointer (some ⟨xb,2,none⟩)
 h9:b9=true→x9=.slice ag2 x.gs.length cg2
 h10:b10=true→∃a c,x10=.slice a x.gs.length c∧ORow w' W2.heap.size 172 3 GD.cells (.slice a x.gs.length c) x.gs
 h11:b11=true→b7=true∧b10=true∧x11=.agg #[.bool true,x7,x10]
theorem R45.later {W2:World} {gW gS xb nI t:Nat} {at2 ag2:Option Addr} {ct2 cg2:Nat} {x:SD} {w' w2:World} {b0 b1 b2 b3 b4 b5 b6 b7 b8 b9 b10 b11:Bool} {x0 x1 x2 x3 x4 x5 x6 x7 x8 x9 x10 x11:Value} (h:R45 W2 gW gS xb nI t at2 ag2 ct2 cg2 x w' b0 b1 b2 b3 b4 b5 b6 b7 b8 b9 b10 b11 x0 x1 x2 x3 x4 x5 x6 x7 x8 x9 x10 x11) (hx:Below w'.heap.size w' w2):R45 W2 gW gS xb nI t at2 ag2 ct2 cg2 x w2 b0 b1 b2 b3 b4 b5 b6 b7 b8 b9 b10 b11 x0 x1 x2 x3 x4 x5 x6 x7 x8 x9 x10 x11 :=
 { h with
  hb:=h.hb.trans (hx.mono h.hb.size)
  h7:=fun e=>by obtain⟨a,c,e1,e2⟩:=h.h7 e;exact⟨a,c,e1,e2.later hx⟩
  h10:=fun e=>by obtain⟨a,c,e1,e2⟩:=h.h10 e;exact⟨a,c,e1,e2.later hx⟩ }
end Go.Proofs.YtjglgbepobmjhaaGreatDoor
