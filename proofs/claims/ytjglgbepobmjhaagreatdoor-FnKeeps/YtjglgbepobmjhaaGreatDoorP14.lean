import Derived.Test.YtjglgbepobmjhaaGreatDoorP13
import Derived.Test.YtjglgbepobmjhaaGreatDoorP12
set_option linter.unusedVariables false
set_option linter.unusedSimpArgs false
set_option maxRecDepth 20000
set_option maxHeartbeats 8000000
namespace Go.Proofs.YtjglgbepobmjhaaGreatDoor
open Go.RowKit
theorem equal_g {a a':Option Addr} {n n' c c':Nat} {xs ys:List GD} {w:World} {d:Bool} (hn:xs.length=n) (hn':ys.length=n') (h1:SlA w 3 GD.cells a xs) (h2:SlA w 3 GD.cells a' ys) (ln:n≤1048576) (hd:all2 gEq xs ys=d) :
  Calls Tryz.prog 64 #[.slice a n c,.slice a' n' c'] w fun e w'=>e=.returned (.bool d)∧Below w.heap.size w w':=by
 have h:=equal_gd a a' n n' c c' xs ys w hn hn' h1 h2 ln
 rw[hd]at h
 exact h
abbrev StB (b:Bool) (tv gv:Value):Obj:=.cells #[.bool b,tv,gv] 118
theorem reach_old (B gW gS nI p t:Nat) (cv iv hv:Value) (zs:List SR) (due:List Bool) (w:World) (rb:Bool) (tv gv:Value) (x y:SD) (z:SR) (h:WlV B gW gS nI p cv iv w zs hv due) (ht:t<nI) (hz:zs[t]?=some z) (hy:z.o=some y) (hn:nI≤6000) (hT:OI w B tv x.ts) (hG:GA w gv x.gs) (hl:y.ts.length≤250) (hg:y.gs.length≤50) :
  Calls Tryz.prog 34 #[.pointer (some ⟨gW,0,none⟩),.int .i64 t,.agg #[.bool rb,tv,gv]] w fun e w'=>RcA B gW gS nI p t cv iv hv w (if sEq y x=true then some ⟨zs.map SR.o,due⟩ else none) e w'∧ButL (gW :: gS :: hv.ownBlock.toList) w w':=by
 have HW:Hid (WlV B gW gS nI p cv iv w zs hv due):=h
 have hok:=h.st.ok z (List.mem_of_getElem? hz)
 unfold SR.ok at hok
 rw[hy]at hok
 obtain⟨at1,ct1,e1,s1⟩:=ORow.lies hok.1 (fun y=>intC_len y)
 obtain⟨ag1,cg1,e2,s2⟩:=ORow.lies hok.2 GD.len
 obtain⟨at2,ct2,rfl,s3⟩:=ORow.lies hT (fun y=>intC_len y)
 obtain⟨ag2,cg2,rfl,_,s4,_⟩:=hG
 have H1:Hid (SlA w 1 intC at1 y.ts):=s1
 have H2:Hid (SlA w 3 GD.cells ag1 y.gs):=s2
 have H3:Hid (SlA w 1 intC at2 x.ts):=s3
 have H4:Hid (SlA w 3 GD.cells ag2 x.gs):=s4
 have hyb:=bw1 w (StB rb (.slice at2 x.ts.length ct2) (.slice ag2 x.gs.length cg2))
 obtain⟨c0,c1,c2,c3,c4⟩:=(h.later hyb).cells
 obtain⟨r0,r1,r2⟩:=(h.later hyb).row hz
 rw[hy]at r0
 rw[e1]at r1
 rw[e2]at r2
 clear h hok s1 s2 s3 s4 hT c0 c2 c4 hz hy e1 e2 hyb
 cases ht1:all2 (· == ·) y.ts x.ts
 ·have HS:Hid (sEq y x=false):=by show sEq y x=false;unfold sEq;rw[ht1];rfl
  rw[HS.out]
  simp only[Bool.false_eq_true,if_false]
  go_enter Tryz.func34,Tryz.ntmps34
  go_wp2_with (first
   | (go_at_call 63;refine (equal_v rfl rfl (H1.out.later (bw2 _ _ _)) (H3.out.later (bw2 _ _ _)) (by omega) ht1).mono ?_;rintro e w1 ⟨rfl,hb1⟩;have HB1:Hid (Below w.heap.size w w1):=(bw2 _ _ _).trans (hb1.mono (by simp;omega));have q1:w1.cell? ⟨gW,1,none⟩=some (.int .i64 p):=(HW.out.later HB1.out).cells.2.1;have u2:w1.cell? ⟨w.heap.size,2,none⟩=some (.slice ag2 x.gs.length cg2):=(by rw[blk_cell (blk_later hb1 (blk_old (blk_new _ _) _))];rfl);have u3:w1.cell? ⟨w.heap.size+1,2,none⟩=some (.slice ag1 y.gs.length cg1):=(by rw[blk_cell (blk_later hb1 (blk_newn (by simp) _))];rfl);clear hb1)
   | (go_at_call 28;refine (fat_any _ _ _ _).mono ?_;rintro e w9 ⟨rfl,rfl⟩))
  go_ret
  exact⟨rfl,ButL.of_below HB1.out⟩
 ·cases ht2:all2 gEq y.gs x.gs
  ·have HS:Hid (sEq y x=false):=by show sEq y x=false;unfold sEq;rw[ht1,ht2];rfl
   rw[HS.out]
   simp only[Bool.false_eq_true,if_false]
   go_enter Tryz.func34,Tryz.ntmps34
   go_wp2_with (first
    | (go_at_call 63;refine (equal_v rfl rfl (H1.out.later (bw2 _ _ _)) (H3.out.later (bw2 _ _ _)) (by omega) ht1).mono ?_;rintro e w1 ⟨rfl,hb1⟩;have HB1:Hid (Below w.heap.size w w1):=(bw2 _ _ _).trans (hb1.mono (by simp;omega));have q1:w1.cell? ⟨gW,1,none⟩=some (.int .i64 p):=(HW.out.later HB1.out).cells.2.1;have u2:w1.cell? ⟨w.heap.size,2,none⟩=some (.slice ag2 x.gs.length cg2):=(by rw[blk_cell (blk_later hb1 (blk_old (blk_new _ _) _))];rfl);have u3:w1.cell? ⟨w.heap.size+1,2,none⟩=some (.slice ag1 y.gs.length cg1):=(by rw[blk_cell (blk_later hb1 (blk_newn (by simp) _))];rfl);clear hb1)
    | (go_at_call 64;refine (equal_g rfl rfl (H2.out.later HB1.out) (H4.out.later HB1.out) (by omega) ht2).mono ?_;rintro e w2 ⟨rfl,hb2⟩;have HB2:Hid (Below w.heap.size w w2):=HB1.out.trans (hb2.mono HB1.out.size);have q2:w2.cell? ⟨gW,1,none⟩=some (.int .i64 p):=cell_later hb2 q1;clear hb2)
    | (go_at_call 28;refine (fat_any _ _ _ _).mono ?_;rintro e w9 ⟨rfl,rfl⟩))
   go_ret
   exact⟨rfl,ButL.of_below HB2.out⟩
  ·have HS:Hid (sEq y x=true):=by show sEq y x=true;unfold sEq;rw[ht1,ht2];rfl
   rw[HS.out]
   simp only[if_true]
   go_enter Tryz.func34,Tryz.ntmps34
   go_wp2_with (first
    | (go_at_call 63;refine (equal_v rfl rfl (H1.out.later (bw2 _ _ _)) (H3.out.later (bw2 _ _ _)) (by omega) ht1).mono ?_;rintro e w1 ⟨rfl,hb1⟩;have HB1:Hid (Below w.heap.size w w1):=(bw2 _ _ _).trans (hb1.mono (by simp;omega));have q1:w1.cell? ⟨gW,1,none⟩=some (.int .i64 p):=(HW.out.later HB1.out).cells.2.1;have u2:w1.cell? ⟨w.heap.size,2,none⟩=some (.slice ag2 x.gs.length cg2):=(by rw[blk_cell (blk_later hb1 (blk_old (blk_new _ _) _))];rfl);have u3:w1.cell? ⟨w.heap.size+1,2,none⟩=some (.slice ag1 y.gs.length cg1):=(by rw[blk_cell (blk_later hb1 (blk_newn (by simp) _))];rfl);clear hb1)
    | (go_at_call 64;refine (equal_g rfl rfl (H2.out.later HB1.out) (H4.out.later HB1.out) (by omega) ht2).mono ?_;rintro e w2 ⟨rfl,hb2⟩;have HB2:Hid (Below w.heap.size w w2):=HB1.out.trans (hb2.mono HB1.out.size);have q2:w2.cell? ⟨gW,1,none⟩=some (.int .i64 p):=cell_later hb2 q1;clear hb2)
    | (go_at_call 28;refine (fat_any _ _ _ _).mono ?_;rintro e w9 ⟨rfl,rfl⟩))
   go_ret
   exact⟨⟨rfl,zs,hv,HW.out.later HB2.out,rfl,fun g e=>.inl e⟩,ButL.of_below HB2.out⟩
theorem SR.ok.lt {w:World} {B:Nat} {z:SR} (h:z.ok w B) {g:Nat} (hg:z.tv.ownBlock=some g∨z.gv.ownBlock=some g):B≤g∧g<w.heap.size:=by
 unfold SR.ok at h
 split at h
 ·rw[h.1,h.2]at hg
  rcases hg with hg | hg<;>cases hg
 ·rcases hg with hg | hg
  ·exact h.1.own_lt hg
  ·exact h.2.own_lt hg
theorem ORow.ty {α:Type} {w:World} {B:Nat} {et:TypeId} {k:Nat} {cells:α→List Value} {sv:Value} {xs:List α} (h:ORow w B et k cells sv xs) {g:Nat} (hg:sv.ownBlock=some g):∃cur,w.heap[g]?=some (.cells cur et):=by
 rcases h.2 with ⟨e1,_⟩ | ⟨g0,c0,cur,e1,_,e3,_⟩
 ·rw[e1]at hg;cases hg
 ·rw[e1]at hg;cases hg;exact⟨cur,e3⟩
theorem SR.ok.tt {w:World} {B:Nat} {z:SR} (h:z.ok w B) {g:Nat} (hg:z.tv.ownBlock=some g):∃cur,w.heap[g]?=some (.cells cur 3):=by
 unfold SR.ok at h
 split at h
 ·rw[h.1]at hg;cases hg
 ·exact h.1.ty hg
theorem SR.ok.tg {w:World} {B:Nat} {z:SR} (h:z.ok w B) {g:Nat} (hg:z.gv.ownBlock=some g):∃cur,w.heap[g]?=some (.cells cur 172):=by
 unfold SR.ok at h
 split at h
 ·rw[h.2]at hg;cases hg
 ·exact h.2.ty hg
theorem HpD.set_own {w:World} {B g:Nat} {hv:Value} {due:List Bool} (h:HpD w B hv due) (hg:hv.ownBlock≠some g) (j:Nat) (v:Value):HpD (w.setCell ⟨g,j,none⟩ v) B hv due:=by
 obtain⟨l,h1,h2⟩:=h
 exact⟨l,⟨ORow.set_own h1.row hg j v,h1.hp,h1.nd⟩,h2⟩
theorem HpD.ty {w:World} {B g:Nat} {hv:Value} {due:List Bool} (h:HpD w B hv due) (hg:hv.ownBlock=some g):∃cur,w.heap[g]?=some (.cells cur 3):=by
 obtain⟨l,h1,h2⟩:=h
 exact h1.row.not_type hg
theorem WlV.ne {B gW gS nI p:Nat} {cv iv:Value} {wr:World} {zs:List SR} {hv:Value} {due:List Bool} (h:WlV B gW gS nI p cv iv wr zs hv due):gS≠gW∧hv.ownBlock≠some gS∧hv.ownBlock≠some gW:=by
 refine⟨?_,?_,?_⟩
 ·intro e
  have h1:=h.blk
  rw[←e,h.st.blk]at h1
  injection h1 with h1
  injection h1 with _ h2
  exact absurd h2 (by decide)
 ·intro e
  obtain⟨cur,e1⟩:=h.hp.ty e
  rw[h.st.blk]at e1;cases e1
 ·intro e
  obtain⟨cur,e1⟩:=h.hp.ty e
  rw[h.blk]at e1;cases e1
theorem WlV.put {B gW gS nI p t:Nat} {cv iv:Value} {w2 wj:World} {zs:List SR} {hv:Value} {due:List Bool} {x:SD} {tv gv:Value} (h:WlV B gW gS nI p cv iv w2 zs hv due) (hb:Below w2.heap.size w2 wj) (ht:t<nI) (h1:ORow wj w2.heap.size 3 1 intC tv x.ts) (h2:ORow wj w2.heap.size 172 3 GD.cells gv x.gs) :
  WlV B gW gS nI p cv iv (((wj.setCell ⟨gS,t*3,none⟩ (.bool true)).setCell ⟨gS,t*3+1,none⟩ tv).setCell ⟨gS,t*3+2,none⟩ gv) (zs.set t ⟨some x,tv,gv⟩) hv due:=by
 have hl:=h.later hb
 obtain⟨n1,n2,n3⟩:=h.ne
 have ap:∀ {a b:Value},(∀g,a.ownBlock=some g→g<w2.heap.size)→(∀g,b.ownBlock=some g→w2.heap.size≤g)→Apart a b:=fun h1 h2 g e e'=>by have:=h1 g e;have:=h2 g e';omega
 have l1:∀g,tv.ownBlock=some g→w2.heap.size≤g:=fun g e=>(h1.own_lt e).1
 have l2:∀g,gv.ownBlock=some g→w2.heap.size≤g:=fun g e=>(h2.own_lt e).1
 have old:∀y∈zs,∀g,(y.tv.ownBlock=some g∨y.gv.ownBlock=some g)→g<w2.heap.size:=fun y hy g e=>((h.st.ok y hy).lt e).2
 have hst:=StA.put hl.st (i:=t) (z:=⟨some x,tv,gv⟩) (by rw[h.len];exact ht) ⟨h1.mono h.base,h2.mono h.base⟩ (fun j y hj hy=>⟨ap (fun g e=>old y (List.mem_of_getElem? hy) g (.inl e)) l1,ap (fun g e=>old y (List.mem_of_getElem? hy) g (.inr e)) l2⟩)
 refine⟨blk_other (blk_other (blk_other hl.blk n1 _ _) n1 _ _) n1 _ _,hst,HpD.set_own (HpD.set_own (HpD.set_own hl.hp n2 _ _) n2 _ _) n2 _ _,fun z hz=>?_,by simpa using h.len,h.dul,h.g1,h.g2,by simpa using hl.base⟩
 rcases List.mem_or_eq_of_mem_set hz with hz | rfl
 ·exact h.ap z hz
 ·refine Apart.symm (ap (fun g e=>?_) l1)
  obtain⟨l,q,_⟩:=h.hp
  exact (q.row.own_lt e).2
theorem StA.butl {w w':World} {B gS:Nat} {zs:List SR} {S:List Nat} (h:StA w B gS zs) (hb:ButL S w w') (h2:gS∉S) (h4:∀z∈zs,∀g,z.tv.ownBlock=some g∨z.gv.ownBlock=some g→g∉S):StA w' B gS zs :=
 ⟨hb.blk h.blk h2,fun z hz=>(h.ok z hz).butl hb (h4 z hz),h.ap⟩
theorem WlV.heaped {B gW gS nI p:Nat} {cv iv:Value} {w w':World} {zs:List SR} {hv hv':Value} {due due':List Bool} (h:WlV B gW gS nI p cv iv w zs hv due) (hb:ButL (gW :: hv.ownBlock.toList) w w') (hblk:w'.heap[gW]?=some (.cells #[cv,.int .i64 p,iv,.slice (some ⟨gS,0,none⟩) nI nI,hv'] 77)) (hp:HpD w' B hv' due') (hl:due'.length=nI) (ho:∀g,hv'.ownBlock=some g→hv.ownBlock=some g∨w.heap.size≤g):WlV B gW gS nI p cv iv w' zs hv' due':=by
 obtain⟨n1,n2,n3⟩:=h.ne
 have hno:=h.noG
 refine⟨hblk,h.st.butl hb ?_ ?_,hp,?_,h.len,hl,h.g1,h.g2,Nat.le_trans h.base hb.size⟩
 ·simp only[List.mem_cons,Option.mem_toList]
  rintro (e | e)
  ·exact n1 e
  ·exact n2 e
 ·intro z hz g hg hm
  rcases hg with hg | hg
  ·simp only[List.mem_cons,Option.mem_toList]at hm
   rcases hm with e | e
   ·obtain⟨cur,e1⟩:=(h.st.ok z hz).tt hg
    rw[e,h.blk]at e1;cases e1
   ·exact h.ap z hz g hg e
  ·obtain⟨cur,e1⟩:=(h.st.ok z hz).tg hg
   refine hno g ?_ cur e1
   simp only[List.mem_cons]at hm ⊢
   rcases hm with e | e
   ·exact .inl e
   ·exact .inr (.inr e)
 ·intro z hz g hg e
  rcases ho g e with q | q
  ·exact h.ap z hz g hg q
  ·have:=((h.st.ok z hz).lt (.inl hg)).2
   omega
theorem due_push {due:List Bool} {t:Nat} {l l':List Nat} (h:due[t]?=some false) (h1:∀z,z∈l↔due[z]?=some true) (h2:l.length=due.countP (· == true)) (m:∀z,z∈l'↔z=t∨z∈l) (hl:l'.length=l.length+1):(∀z,z∈l'↔(due.set t true)[z]?=some true)∧l'.length=(due.set t true).countP (· == true):=by
 have hlt:=(List.getElem?_eq_some_iff.1 h).1
 refine⟨fun z=>?_,?_⟩
 ·rw[m,List.getElem?_set,h1]
  by_cases e:t=z
  ·subst e;simp[hlt]
  ·rw[if_neg e]
   constructor
   ·rintro (q | q)
    ·exact absurd q.symm e
    ·exact q
   ·exact .inr
 ·have:=countP_set (· == true) due t true false h
  simp at this
  rw[hl,h2]
  simp
  omega
theorem due_pop {due:List Bool} {t:Nat} {l l':List Nat} (h:due[t]?=some true) (h1:∀z,z∈l↔due[z]?=some true) (h2:l.length=due.countP (· == true)) (m:∀z,z∈l'↔z≠t∧z∈l) (hl:l'.length+1=l.length):(∀z,z∈l'↔(due.set t false)[z]?=some true)∧l'.length=(due.set t false).countP (· == true):=by
 have hlt:=(List.getElem?_eq_some_iff.1 h).1
 refine⟨fun z=>?_,?_⟩
 ·rw[m,List.getElem?_set,h1]
  by_cases e:t=z
  ·subst e;simp[hlt]
  ·rw[if_neg e]
   constructor
   ·exact fun q=>q.2
   ·exact fun q=>⟨fun e'=>e e'.symm,q⟩
 ·have:=countP_set (· == true) due t false true h
  simp only[beq_self_eq_true,if_true]at this
  have e9:(if ((false:Bool) == true)=true then 1 else 0)=0:=rfl
  rw[e9]at this
  omega
structure R45 (W2:World) (gW gS xb nI t:Nat) (at2 ag2:Option Addr) (ct2 cg2:Nat) (x:SD) (w':World) (b0 b1 b2 b3 b4 b5 b6 b7 b8 b9 b10 b11:Bool) (x0 x1 x2 x3 x4 x5 x6 x7 x8 x9 x10 x11:Value):Prop where
 hb:Below W2.heap.size W2 w'
 h0:b0=true→x0=.pointer (some ⟨gW,0,none⟩)
 h1:b1=true→x1=.pointer (some ⟨gW,0,none⟩)
 h2:b2=true→x2=.pointer (some ⟨gW,3,none⟩)
 h3:b3=true→x3=.slice (some ⟨gS,0,none⟩) nI nI
 h4:b4=true→x4=.int .i64 (t:Int)
 h5:b5=true→x5=.pointer (some ⟨xb,1,none⟩)
 h6:b6=true→x6=.slice at2 x.ts.length ct2
 h7:b7=true→∃a c,x7=.slice a x.ts.length c∧ORow w' W2.heap.size 3 1 intC (.slice a x.ts.length c) x.ts
 h8:b8=true→x8=.pointer (some ⟨xb,2,none⟩)
 h9:b9=true→x9=.slice ag2 x.gs.length cg2
 h10:b10=true→∃a c,x10=.slice a x.gs.length c∧ORow w' W2.heap.size 172 3 GD.cells (.slice a x.gs.length c) x.gs
 h11:b11=true→b7=true∧b10=true∧x11=.agg #[.bool true,x7,x10]
theorem R45.later {W2:World} {gW gS xb nI t:Nat} {at2 ag2:Option Addr} {ct2 cg2:Nat} {x:SD} {w' w2:World} {b0 b1 b2 b3 b4 b5 b6 b7 b8 b9 b10 b11:Bool} {x0 x1 x2 x3 x4 x5 x6 x7 x8 x9 x10 x11:Value} (h:R45 W2 gW gS xb nI t at2 ag2 ct2 cg2 x w' b0 b1 b2 b3 b4 b5 b6 b7 b8 b9 b10 b11 x0 x1 x2 x3 x4 x5 x6 x7 x8 x9 x10 x11) (hx:Below w'.heap.size w' w2):R45 W2 gW gS xb nI t at2 ag2 ct2 cg2 x w2 b0 b1 b2 b3 b4 b5 b6 b7 b8 b9 b10 b11 x0 x1 x2 x3 x4 x5 x6 x7 x8 x9 x10 x11 :=
 { h with
  hb:=h.hb.trans (hx.mono h.hb.size)
  h7:=fun e=>by obtain⟨a,c,e1,e2⟩:=h.h7 e;exact⟨a,c,e1,e2.later hx⟩
  h10:=fun e=>by obtain⟨a,c,e1,e2⟩:=h.h10 e;exact⟨a,c,e1,e2.later hx⟩ }
end Go.Proofs.YtjglgbepobmjhaaGreatDoor
