import Derived.Test.YtjglgbepobmjhaaGreatDoorP01
import Derived.Test.YtjglgbepobmjhaaGreatDoorP06
import Derived.BigRegion
import Derived.BigQuiet
import Derived.Deep.QuietTactic
set_option linter.unusedVariables false
set_option linter.unusedSimpArgs false
set_option maxRecDepth 20000
set_option maxHeartbeats 8000000
namespace Go.Proofs.YtjglgbepobmjhaaGreatDoor.HP
def swp (l:List Nat) (i j x y:Nat):List Nat:=(l.set i y).set j x
theorem swp_len (l:List Nat) (i j x y:Nat):(swp l i j x y).length=l.length:=by simp[swp]
theorem swp_get {l:List Nat} {i j x y:Nat} (hij:i≠j) (hi:l[i]?=some x) (hj:l[j]?=some y) (k:Nat):(swp l i j x y)[k]?=if k=j then some x else if k=i then some y else l[k]?:=by
 have hil:=(List.getElem?_eq_some_iff.1 hi).1
 have hjl:=(List.getElem?_eq_some_iff.1 hj).1
 unfold swp
 rw[List.getElem?_set]
 by_cases h:k=j
 ·rw[if_pos h.symm,if_pos (by simpa using hjl),if_pos h]
 ·rw[if_neg (fun e=>h e.symm),if_neg h,List.getElem?_set]
  by_cases h2:k=i
  ·rw[if_pos h2.symm,if_pos hil,if_pos h2]
  ·rw[if_neg (fun e=>h2 e.symm),if_neg h2]
theorem swp_mem {l:List Nat} {i j x y:Nat} (hij:i≠j) (hi:l[i]?=some x) (hj:l[j]?=some y) (z:Nat):z∈swp l i j x y↔z∈l:=by
 constructor
 ·intro hz
  obtain⟨k,hk⟩:=List.getElem?_of_mem hz
  rw[swp_get hij hi hj]at hk
  split at hk
  ·cases hk;exact List.mem_of_getElem? hi
  ·split at hk
   ·cases hk;exact List.mem_of_getElem? hj
   ·exact List.mem_of_getElem? hk
 ·intro hz
  obtain⟨k,hk⟩:=List.getElem?_of_mem hz
  have key:∃k':Nat,(swp l i j x y)[k']?=some z:=by
   by_cases h1:k=i
   ·subst h1
    rw[hk]at hi
    cases hi
    exact⟨j,by rw[swp_get hij hk hj,if_pos rfl]⟩
   ·by_cases h2:k=j
    ·subst h2
     rw[hk]at hj
     cases hj
     exact⟨i,by rw[swp_get hij hi hk,if_neg hij,if_pos rfl]⟩
    ·exact⟨k,by rw[swp_get hij hi hj,if_neg h2,if_neg h1];exact hk⟩
  obtain⟨k',h⟩:=key
  exact List.mem_of_getElem? h
def Nd (l:List Nat):Prop:=∀(i j x:Nat),l[i]?=some x→l[j]?=some x→i=j
theorem swp_nd {l:List Nat} {i j x y:Nat} (h:Nd l) (hij:i≠j) (hi:l[i]?=some x) (hj:l[j]?=some y):Nd (swp l i j x y):=by
 have hxy:x≠y:=fun e=>hij (h i j x hi (by rw[e];exact hj))
 intro a b z ha hb
 rw[swp_get hij hi hj]at ha hb
 have fi:∀k,l[k]?=some x→k=i:=fun k hk=>h k i x hk hi
 have fj:∀k,l[k]?=some y→k=j:=fun k hk=>h k j y hk hj
 by_cases a1:a=j
 ·rw[if_pos a1]at ha
  cases ha
  by_cases b1:b=j
  ·omega
  ·rw[if_neg b1]at hb
   by_cases b2:b=i
   ·rw[if_pos b2]at hb
    exact absurd (Option.some.inj hb).symm hxy
   ·rw[if_neg b2]at hb
    exact absurd (fi b hb) b2
 ·rw[if_neg a1]at ha
  by_cases a2:a=i
  ·rw[if_pos a2]at ha
   cases ha
   by_cases b1:b=j
   ·rw[if_pos b1]at hb
    exact absurd (Option.some.inj hb) hxy
   ·rw[if_neg b1]at hb
    by_cases b2:b=i
    ·omega
    ·rw[if_neg b2]at hb
     exact absurd (fj b hb) b1
  ·rw[if_neg a2]at ha
   by_cases b1:b=j
   ·rw[if_pos b1]at hb
    cases hb
    exact absurd (fi a ha) a2
   ·rw[if_neg b1]at hb
    by_cases b2:b=i
    ·rw[if_pos b2]at hb
     cases hb
     exact absurd (fj a ha) a1
    ·rw[if_neg b2]at hb
     exact h a b z ha hb
def Hp (l:List Nat):Prop:=∀(i x y:Nat),0<i→l[i]?=some x→l[(i-1) / 2]?=some y→y≤x
theorem Hp.least {l:List Nat} (h:Hp l) {m:Nat} (hm:l[0]?=some m):∀(i x:Nat),l[i]?=some x→m≤x:=by
 intro i
 induction i using Nat.strongRecOn with
 | ind i ih =>
  intro x hx
  by_cases hi:i=0
  ·subst hi
   rw[hm]at hx
   cases hx
   exact Nat.le_refl _
  ·have hlt:(i-1) / 2<i:=by omega
   have hl:=(List.getElem?_eq_some_iff.1 hx).1
   obtain⟨y,hy⟩:∃y,l[(i-1) / 2]?=some y:=⟨l[(i-1) / 2]'(by omega),by simp⟩
   exact Nat.le_trans (ih _ hlt y hy) (h i x y (by omega) hx hy)
structure Up (l:List Nat) (a:Nat):Prop where
 ok:∀(i x y:Nat),0<i→i≠a→l[i]?=some x→l[(i-1) / 2]?=some y→y≤x
 ch:∀(i x y:Nat),0<i→(i-1) / 2=a→0<a→l[i]?=some x→l[(a-1) / 2]?=some y→y≤x
theorem Up.done0 {l:List Nat} (h:Up l 0):Hp l:=fun i x y hi hx hy=>h.ok i x y hi (by omega) hx hy
theorem Up.done {l:List Nat} {a x y:Nat} (h:Up l a) (hx:l[a]?=some x) (hy:l[(a-1) / 2]?=some y) (hle:y≤x):Hp l:=fun i u v hi hu hv=>by
 by_cases e:i=a
 ·subst e
  rw[hx]at hu
  rw[hy]at hv
  cases hu
  cases hv
  exact hle
 ·exact h.ok i u v hi e hu hv
theorem Up.step {l:List Nat} {a x y:Nat} (h:Up l a) (ha:0<a) (hx:l[a]?=some x) (hy:l[(a-1) / 2]?=some y) (hlt:x<y):Up (swp l a ((a-1) / 2) x y) ((a-1) / 2):=by
 have hne:a≠(a-1) / 2:=by omega
 refine⟨fun i u v hi hip hu hv=>?_,fun i u v hi hip hp0 hu hv=>?_⟩
 ·rw[swp_get hne hx hy]at hu hv
  rw[if_neg hip]at hu
  by_cases e:i=a
  ·subst e
   rw[if_pos rfl]at hu
   rw[if_pos rfl]at hv
   cases hu
   cases hv
   omega
  ·rw[if_neg e]at hu
   by_cases e2:(i-1) / 2=(a-1) / 2
   ·rw[if_pos e2]at hv
    cases hv
    have:=h.ok i u y hi e hu (by rw[e2];exact hy)
    omega
   ·rw[if_neg e2]at hv
    by_cases e3:(i-1) / 2=a
    ·rw[if_pos e3]at hv
     cases hv
     exact h.ch i u y hi e3 ha hu hy
    ·rw[if_neg e3]at hv
     exact h.ok i u v hi e hu hv
 ·rw[swp_get hne hx hy]at hu hv
  have q1:((a-1) / 2-1) / 2≠(a-1) / 2:=by omega
  have q2:((a-1) / 2-1) / 2≠a:=by omega
  rw[if_neg q1,if_neg q2]at hv
  have hpv:=h.ok ((a-1) / 2) y v hp0 (by omega) hy hv
  by_cases e1:i=(a-1) / 2
  ·omega
  ·rw[if_neg e1]at hu
   by_cases e2:i=a
   ·rw[if_pos e2]at hu
    cases hu
    exact hpv
   ·rw[if_neg e2]at hu
    have:=h.ok i u y hi e2 hu (by rw[hip];exact hy)
    omega
theorem up_push {l:List Nat} (h:Hp l) (x:Nat):Up (l++[x]) l.length:=by
 have key:∀(i u:Nat),i≠l.length→(l++[x])[i]?=some u→l[i]?=some u:=fun i u hi hu=>by
  have:=(List.getElem?_eq_some_iff.1 hu).1
  simp at this
  rw[List.getElem?_append_left (by omega)]at hu
  exact hu
 refine⟨fun i u v hi hia hu hv=>?_,fun i u v hi hia h0 hu hv=>?_⟩
 ·have hu':=key i u hia hu
  have hl:=(List.getElem?_eq_some_iff.1 hu').1
  exact h i u v hi hu' (key _ v (by omega) hv)
 ·have:=(List.getElem?_eq_some_iff.1 hu).1
  simp at this
  omega
structure Dn (l:List Nat) (a:Nat):Prop where
 ok:∀(i x y:Nat),0<i→(i-1) / 2≠a→l[i]?=some x→l[(i-1) / 2]?=some y→y≤x
 ch:∀(i x y:Nat),0<i→(i-1) / 2=a→0<a→l[i]?=some x→l[(a-1) / 2]?=some y→y≤x
theorem Dn.leaf {l:List Nat} {a:Nat} (h:Dn l a) (hl:l.length≤2*a+1):Hp l:=fun i x y hi hx hy=>by
 have:=(List.getElem?_eq_some_iff.1 hx).1
 exact h.ok i x y hi (by omega) hx hy
theorem Dn.done {l:List Nat} {a b x z:Nat} (h:Dn l a) (hb:b=2*a+1∨b=2*a+2) (hx:l[a]?=some x) (hz:l[b]?=some z) (hle:x≤z) (hmin:∀(i u:Nat),(i=2*a+1∨i=2*a+2)→l[i]?=some u→z≤u):Hp l:=fun i u v hi hu hv=>by
 by_cases e:(i-1) / 2=a
 ·rw[e,hx]at hv
  cases hv
  have:=hmin i u (by omega) hu
  omega
 ·exact h.ok i u v hi e hu hv
theorem Dn.step {l:List Nat} {a b x z:Nat} (h:Dn l a) (hb:b=2*a+1∨b=2*a+2) (hx:l[a]?=some x) (hz:l[b]?=some z) (hlt:z<x) (hmin:∀(i u:Nat),(i=2*a+1∨i=2*a+2)→l[i]?=some u→z≤u):Dn (swp l a b x z) b:=by
 have hne:a≠b:=by omega
 have hpb:(b-1) / 2=a:=by omega
 refine⟨fun i u v hi hip hu hv=>?_,fun i u v hi hip hb0 hu hv=>?_⟩
 ·rw[swp_get hne hx hz]at hu hv
  rw[if_neg hip]at hv
  by_cases e1:i=b
  ·rw[e1,if_pos rfl]at hu
   rw[e1,if_pos hpb]at hv
   cases hu
   cases hv
   omega
  ·rw[if_neg e1]at hu
   by_cases e2:i=a
   ·rw[e2,if_pos rfl]at hu
    cases hu
    have q:(i-1) / 2≠a:=by omega
    rw[if_neg q]at hv
    rw[e2]at hv
    exact h.ch b z v (by omega) hpb (by omega) hz hv
   ·rw[if_neg e2]at hu
    by_cases e3:(i-1) / 2=a
    ·rw[if_pos e3]at hv
     cases hv
     exact hmin i u (by omega) hu
    ·rw[if_neg e3]at hv
     exact h.ok i u v hi e3 hu hv
 ·rw[swp_get hne hx hz]at hu hv
  rw[hpb,if_neg hne,if_pos rfl]at hv
  cases hv
  have e1:i≠b:=by omega
  have e2:i≠a:=by omega
  rw[if_neg e1,if_neg e2]at hu
  exact h.ok i u z hi (by omega) hu (by rw[hip];exact hz)
theorem dn_pop {l:List Nat} (h:Hp l) (x:Nat):Dn ((l.set 0 x).take (l.length-1)) 0:=by
 have key:∀(i u:Nat),0<i→((l.set 0 x).take (l.length-1))[i]?=some u→l[i]?=some u:=fun i u hi hu=>by
  rw[List.getElem?_take]at hu
  split at hu
  ·rw[List.getElem?_set]at hu
   rw[if_neg (by omega)]at hu
   exact hu
  ·cases hu
 refine⟨fun i u v hi hip hu hv=>h i u v hi (key i u hi hu) (key _ v (by omega) hv),fun i u v hi hip h0=>by omega⟩
end Go.Proofs.YtjglgbepobmjhaaGreatDoor.HP
namespace Go.Proofs.YtjglgbepobmjhaaGreatDoor
open Go.RowKit
abbrev OI (w:World) (B:Nat) (sv:Value) (ts:List Int):Prop:=ORow w B 3 1 intC sv ts
def nz (l:List Nat):List Int:=l.map fun (n:Nat)=>(n:Int)
theorem nz_len (l:List Nat):(nz l).length=l.length:=by simp[nz]
theorem nz_get (l:List Nat) (i:Nat):(nz l)[i]?=l[i]?.map fun (n:Nat)=>(n:Int):=by simp[nz]
theorem nz_app (l m:List Nat):nz (l++m)=nz l++nz m:=by simp[nz]
theorem nz_set (l:List Nat) (i x:Nat):(nz l).set i (x:Int)=nz (l.set i x):=by simp[nz,List.map_set]
theorem nz_take (l:List Nat) (i:Nat):(nz l).take i=nz (l.take i):=by simp[nz,List.map_take]
theorem OI.cell {w:World} {B g n cap:Nat} {ts:List Int} (h:OI w B (.slice (some ⟨g,0,none⟩) n cap) ts) {i:Nat} {z:Int} (hz:ts[i]?=some z):w.cell? ⟨g,i,none⟩=some (.int .i64 z):=by
 obtain⟨a,c,e,hs⟩:=h.lies (fun y=>intC_len y)
 cases e
 obtain⟨b,off,e2,_,hc⟩:=hs i z hz
 cases e2
 have:=hc 0 _ rfl
 simpa using this
theorem OI.blk {w:World} {B g n cap:Nat} {ts:List Int} (h:OI w B (.slice (some ⟨g,0,none⟩) n cap) ts):∃cur,w.heap[g]?=some (.cells cur 3):=by
 rcases h.2 with ⟨e,_⟩ | ⟨g',c',cur,e,hb,hg,_⟩
 ·cases e
 ·cases e;exact⟨cur,hg⟩
theorem OI.froz {w:World} {B g n cap:Nat} {ts:List Int} (h:OI w B (.slice (some ⟨g,0,none⟩) n cap) ts) (i:Nat):w.frozen? ⟨g,i,none⟩=false:=by
 obtain⟨cur,hg⟩:=h.blk
 exact blk_frozen hg i
theorem OI.len {w:World} {B:Nat} {a:Option Addr} {n cap:Nat} {ts:List Int} (h:OI w B (.slice a n cap) ts):n=ts.length:=by
 obtain⟨a',c,e⟩:=h.val
 cases e;rfl
theorem OI.set {w:World} {B g n cap:Nat} {ts:List Int} (h:OI w B (.slice (some ⟨g,0,none⟩) n cap) ts) (i:Nat) (z:Int) (hi:i<ts.length):OI (w.setCell ⟨g,i,none⟩ (.int .i64 z)) B (.slice (some ⟨g,0,none⟩) n cap) (ts.set i z):=by
 obtain⟨h1,h2⟩:=h
 refine⟨by rw[flat_int]at h1 ⊢;simp at h1 ⊢,?_⟩
 rcases h2 with ⟨e,_⟩ | ⟨g',c',cur,e,hb,hg,hl,hm,hs,ht⟩
 ·cases e
 ·cases e
  rw[List.length_set]
  refine .inr ⟨g,_,cur.setIfInBounds i (.int .i64 z),rfl,hb,blk_set hg i _,hl,hm,by simpa using hs,?_⟩
  rw[flat_int]at ht ⊢
  rw[Array.toList_setIfInBounds,List.take_set,ht,List.map_set]
theorem ORow.set_own {α:Type} {w:World} {B:Nat} {et:TypeId} {k:Nat} {cells:α→List Value} {sv:Value} {xs:List α} (h:ORow w B et k cells sv xs) {g:Nat} (hg:sv.ownBlock≠some g) (j:Nat) (v:Value):ORow (w.setCell ⟨g,j,none⟩ v) B et k cells sv xs:=by
 obtain⟨h1,h2⟩:=h
 refine⟨h1,?_⟩
 rcases h2 with h2 | ⟨g',cap,cur,e1,e2,e3,e4⟩
 ·exact .inl h2
 ·subst e1
  exact .inr ⟨g',cap,cur,rfl,e2,blk_other e3 (fun e=>hg (by rw[e];rfl)) j v,e4⟩
theorem ORow.butn {α:Type} {S:List Nat} {w w':World} {B:Nat} {et:TypeId} {k:Nat} {cells:α→List Value} {sv:Value} {xs:List α} (h:ORow w B et k cells sv xs) (hb:ButL S w w') (hS:∀g,sv.ownBlock=some g→g∉S):ORow w' B et k cells sv xs:=by
 obtain⟨h1,h2⟩:=h
 refine⟨h1,?_⟩
 rcases h2 with h2 | ⟨g',cap,cur,e1,e2,e3,e4⟩
 ·exact .inl h2
 ·subst e1
  exact .inr ⟨g',cap,cur,rfl,e2,hb.blk e3 (hS g' rfl),e4⟩
theorem ButL.grown {S:List Nat} {w0 w w':World} {sv:Value} (h:ButL S w0 w) (hg:w.grownBy w' sv.ownBlock) (hS:∀g,sv.ownBlock=some g→g∈S∨w0.heap.size≤g):ButL S w0 w' :=
 ⟨hg.os.trans h.os,hg.tape.trans h.tape,hg.output.trans h.output,Nat.le_trans h.size hg.size,fun k hk hne=>(hg.block k (Nat.lt_of_lt_of_le hk h.size) (fun e=>by
  rcases hS k e.symm with q | q
  ·exact hne q
  ·omega)).trans (h.block k hk hne)⟩
theorem ButL.setn {S:List Nat} {w w':World} {g:Nat} (h:ButL S w w') (hg:w.heap.size≤g) (j:Nat) (v:Value):ButL S w (w'.setCell ⟨g,j,none⟩ v) :=
 ⟨h.os,h.tape,h.output,by simpa using h.size,fun k hk hS=>by rw[Below.heap_setCell _ _ _ _ (by show k≠g;omega)];exact h.block k hk hS⟩
theorem ButL.seto {S:List Nat} {w w':World} {g:Nat} (h:ButL S w w') (hg:g∈S∨w.heap.size≤g) (j:Nat) (v:Value):ButL S w (w'.setCell ⟨g,j,none⟩ v):=by
 rcases hg with hg | hg
 ·exact h.set hg j v
 ·exact h.setn hg j v
theorem ButL.alloc {S:List Nat} {w w':World} (h:ButL S w w') (o:Obj):ButL S w (w'.alloc o):=h.trans (ButL.of_below (bw1 _ _))
theorem ButL.mono {S S':List Nat} {w w':World} (h:ButL S w w') (hS:∀g∈S,g∈S'∨w.heap.size≤g):ButL S' w w':=⟨h.os,h.tape,h.output,h.size,fun k hk hn=>h.block k hk fun e=>by
 rcases hS k e with q | q
 ·exact hn q
 ·omega⟩
theorem ButL.then {S S':List Nat} {a b c:World} (h:ButL S a b) (h':ButL S' b c) (hS:∀g∈S',g∈S∨a.heap.size≤g):ButL S a c :=
 ⟨h'.os.trans h.os,h'.tape.trans h.tape,h'.output.trans h.output,Nat.le_trans h.size h'.size,fun k hk hn=>(h'.block k (Nat.lt_of_lt_of_le hk h.size) (fun e=>by
  rcases hS k e with q | q
  ·exact hn q
  ·omega)).trans (h.block k hk hn)⟩
theorem ButL.thenB {S:List Nat} {a b c:World} (h:ButL S a b) (h':Below b.heap.size b c):ButL S a c:=h.trans (ButL.of_below h')
theorem OI.app {w:World} {B:Nat} {sv:Value} {ts:List Int} (h:OI w B sv ts) (x:Int) (hl:ts.length≤20000) (hB:B≤w.heap.size) :
  ∃g' cap' w2,(Builtin.append_ #[54,54] 54 #[sv,.slice (some ⟨w.heap.size,0,none⟩) 1 1]).run Tryz.prog (w.alloc (.cells #[.int .i64 x] 3))=.ok (.slice (some ⟨g',0,none⟩) (ts.length+1) cap') w2 ∧
   OI w2 B (.slice (some ⟨g',0,none⟩) (ts.length+1) cap') (ts++[x])∧(w.alloc (.cells #[.int .i64 x] 3)).grownBy w2 sv.ownBlock∧(some g'=sv.ownBlock∨w.heap.size≤g'):=by
 have h':=ORow.later h (bw1 w (.cells #[.int .i64 x] 3))
 obtain⟨g',cap',w2,hr,ho2,hg⟩:=h'.app 54 8 Tryz.underlying54 (by kernel_rfl) (by omega) (by omega) x w.heap.size 54 (blk_new _ _) rfl (by intro u hu;simp[intC]at hu;subst hu;rfl) (by omega) (by simp;omega)
 have hw:=app_where 54 3 1 8 Tryz.underlying54 (by kernel_rfl) (by omega) (by omega) B _ sv _ _ (intC x) w.heap.size 54 h' (blk_new _ _) rfl (by intro u hu;simp[intC]at hu;subst hu;rfl) (by omega) hr
 refine⟨g',cap',w2,hr,ho2,hg,?_⟩
 rcases hw with hw | hw
 ·exact .inl hw
 ·exact .inr (by rw[hw];simp)
structure HpV (w:World) (B:Nat) (hv:Value) (l:List Nat):Prop where
 row:OI w B hv (nz l)
 hp:HP.Hp l
 nd:HP.Nd l
structure PuI (B gp g' n cap':Nat) (o:Obj) (S:List Nat) (w:World) (mem:Nat→Prop) (wr:World) (l:List Nat) (i:Nat):Prop where
 blk:wr.heap[gp]?=some o
 row:OI wr B (.slice (some ⟨g',0,none⟩) n cap') (nz l)
 len:l.length=n
 up:HP.Up l i
 nd:HP.Nd l
 mem:∀z,z∈l↔mem z
 but:ButL S w wr
 lt:i<n
theorem ButL.drewN {S:List Nat} {w w':World} (h:ButL S w w') (n:Nat):ButL S w (w'.drewN n):=⟨h.os,h.tape,h.output,h.size,h.block⟩
theorem ORow.drewN {α:Type} {w:World} {B:Nat} {et:TypeId} {k:Nat} {cells:α→List Value} {sv:Value} {xs:List α} (h:ORow w B et k cells sv xs) (n:Nat):ORow (w.drewN n) B et k cells sv xs:=h
theorem PuI.drewN {B gp g' n cap':Nat} {o:Obj} {S:List Nat} {w:World} {mem:Nat→Prop} {wr:World} {l:List Nat} {i:Nat} (h:PuI B gp g' n cap' o S w mem wr l i) (q:Nat):PuI B gp g' n cap' o S w mem (wr.drewN q) l i :=
 ⟨h.blk,h.row,h.len,h.up,h.nd,h.mem,h.but.drewN q,h.lt⟩
theorem PuI.step {B gp g' n cap':Nat} {o:Obj} {S:List Nat} {w:World} {mem:Nat→Prop} {wr:World} {l:List Nat} {i j u v:Nat} (h:PuI B gp g' n cap' o S w mem wr l i) (h0:0<i) (hj:(i-1) / 2=j) (hu:l[i]?=some u) (hv:l[j]?=some v) (huv:u<v) (hS:g'∈S∨w.heap.size≤g') (hgp:gp≠g') :
  PuI B gp g' n cap' o S w mem ((wr.setCell ⟨g',i,none⟩ (.int .i64 v)).setCell ⟨g',j,none⟩ (.int .i64 u)) (HP.swp l i j u v) j:=by
 have hne:i≠j:=by omega
 have hl:=h.len
 have hlt:=h.lt
 have hst:=h.up.step h0 hu (by rw[hj];exact hv) huv
 rw[hj]at hst
 refine⟨blk_other (blk_other h.blk hgp.symm i _) hgp.symm j _,?_,by rw[HP.swp_len];exact hl,hst,HP.swp_nd h.nd hne hu hv,fun z=>by rw[HP.swp_mem hne hu hv];exact h.mem z,(h.but.seto hS i _).seto hS j _,by omega⟩
 have:=OI.set (OI.set h.row i v (by rw[nz_len];omega)) j u (by rw[List.length_set,nz_len];omega)
 rw[nz_set,nz_set]at this
 exact this
theorem nd_push {l:List Nat} (h:HP.Nd l) {x:Nat} (hx:x∉l):HP.Nd (l++[x]):=by
 have key:∀(i y:Nat),(l++[x])[i]?=some y→(i<l.length∧l[i]?=some y)∨(i=l.length∧y=x):=fun i y hy=>by
  rcases Nat.lt_trichotomy i l.length with q | q | q
  ·rw[List.getElem?_append_left q]at hy;exact .inl ⟨q,hy⟩
  ·subst q;simp at hy;exact .inr ⟨rfl,hy.symm⟩
  ·rw[List.getElem?_eq_none (by simp;omega)]at hy;cases hy
 intro i j y hi hj
 rcases key i y hi with ⟨q1,q2⟩ | ⟨q1,q2⟩<;>rcases key j y hj with ⟨r1,r2⟩ | ⟨r1,r2⟩
 ·exact h i j y q2 r2
 ·subst r2;exact absurd (List.mem_of_getElem? q2) hx
 ·subst q2;exact absurd (List.mem_of_getElem? r2) hx
 ·omega
theorem push_any (gp off B:Nat) (hv:Value) (l:List Nat) (x:Nat) (w:World) (arr:Array Value) (ty:TypeId) (hb:w.heap[gp]?=some (.cells arr ty)) (hc:arr[off]?=some hv) (hty:ty≠3) (hh:HpV w B hv l) (hx:x∉l) (hl:l.length≤6000) (hB:B≤w.heap.size) :
  Calls Tryz.prog 62 #[.pointer (some ⟨gp,off,none⟩),.int .i64 x] w fun e w'=>e=.returned (.tuple #[])∧∃hv' l',w'.heap[gp]?=some (.cells (arr.setIfInBounds off hv') ty)∧HpV w' B hv' l'∧(∀z,z∈l'↔z=x∨z∈l)∧l'.length=l.length+1∧ButL (gp :: hv.ownBlock.toList) w w'∧∀g,hv'.ownBlock=some g→hv.ownBlock=some g∨w.heap.size≤g:=by
 obtain⟨g',cap',w2,hr,ho2,hg,hwh⟩:=OI.app hh.row x (by rw[nz_len];omega) hB
 obtain⟨aa,cc,rfl⟩:=hh.row.val
 rw[nz_len]at *
 have hgne:(Value.slice aa l.length cc).ownBlock≠some gp:=by
  intro e
  rcases hh.row.2 with ⟨e1,_⟩ | ⟨g0,c0,cur,e1,_,e3,_⟩
  ·rw[e1]at e;cases e
  ·rw[e1]at e;cases e;rw[hb]at e3;cases e3;exact hty rfl
 have hgp:=blk_lt hb
 have hb2:w2.heap[gp]?=some (.cells arr ty):=(hg.block gp (by simp;omega) (fun e=>hgne e.symm)).trans (blk_old hb _)
 have hg'ne:gp≠g':=by
  rintro rfl
  rcases hwh with e | e
  ·exact hgne e.symm
  ·omega
 have p0:(w.alloc (.cells #[.int .i64 x] 3)).cell? ⟨gp,off,none⟩=some (.slice aa l.length cc):=by rw[blk_cell (blk_old hb _)];exact hc
 have p1:w.cell? ⟨gp,off,none⟩=some (.slice aa l.length cc):=by rw[blk_cell hb];exact hc
 have p2:w2.cell? ⟨gp,off,none⟩=some (.slice aa l.length cc):=by rw[blk_cell hb2];exact hc
 have z2:=blk_frozen hb2
 have hoff:off<arr.size:=(Array.getElem?_eq_some_iff.1 hc).1
 have HS:Hid (∀g,g=g'→g∈gp :: (Value.slice aa l.length cc).ownBlock.toList∨w.heap.size≤g):=by
  rintro g rfl
  rcases hwh with e | e
  ·exact .inl (by rw[←e];simp)
  ·exact .inr e
 have HP0:Hid (PuI B gp g' (l.length+1) cap' (.cells (arr.setIfInBounds off (.slice (some ⟨g',0,none⟩) (l.length+1) cap')) ty) (gp :: (Value.slice aa l.length cc).ownBlock.toList) w (fun z=>z=x∨z∈l) (w2.setCell ⟨gp,off,none⟩ (.slice (some ⟨g',0,none⟩) (l.length+1) cap')) (l++[x]) l.length):=by
  refine⟨blk_set hb2 off _,?_,by simp,HP.up_push hh.hp x,nd_push hh.nd hx,fun z=>by simp[or_comm],?_,by omega⟩
  ·have:=ORow.set_own ho2 (g:=gp) (fun e=>by cases e;exact hg'ne rfl) off (.slice (some ⟨g',0,none⟩) (l.length+1) cap')
   rw[nz_app];exact this
  ·refine (ButL.grown ((ButL.refl _ w).alloc _) hg (fun g e=>.inl (by rw[e];simp))).set (by simp) _ _
 obtain⟨W3,hW3⟩:∃W,w2.setCell ⟨gp,off,none⟩ (.slice (some ⟨g',0,none⟩) (l.length+1) cap')=W:=⟨_,rfl⟩
 rw[hW3]at HP0
 have p3:W3.cell? ⟨gp,off,none⟩=some (.slice (some ⟨g',0,none⟩) (l.length+1) cap'):=by rw[blk_cell HP0.out.blk];simp[hoff]
 have HW:Hid ((Value.slice aa l.length cc).ownBlock=some g'∨w.heap.size≤g'):=hwh.imp (fun e=>e.symm) id
 clear hh hg ho2 hb2 hb hc hwh hx
 go_enter Tryz.func62,Tryz.ntmps62
 go_wp2_with (at_builtin;refine wpList_append_run rfl _ _ _ rfl _ _ _ _ rfl rfl hr ?_;clear hr)
 clear p0 p1 p2 p3 z2 hW3
 go_loopw [4] (fun a wr=>∃(i:Nat) (l1:List Nat),a=.int .i64 i∧Hid (PuI B gp g' (l.length+1) cap' (.cells (arr.setIfInBounds off (.slice (some ⟨g',0,none⟩) (l.length+1) cap')) ty) (gp :: (Value.slice aa l.length cc).ownBlock.toList) w (fun z=>z=x∨z∈l) wr l1 i)) (fun a _=>(intOf a).toNat)
 case atStart=>exact⟨l.length,_,by go_num,HP0⟩
 case round =>
  clear HP0
  obtain⟨i,l1,rfl,HI⟩:=hrel
  have hi:=HI.out.lt
  have p3:wr.cell? ⟨gp,off,none⟩=some (.slice (some ⟨g',0,none⟩) (l.length+1) cap'):=by rw[blk_cell HI.out.blk];simp[hoff]
  have z3:=blk_frozen HI.out.blk
  have z4:=HI.out.row.froz
  by_cases k0:i=0
  ·subst k0
   have t0:decide ((0:Int)<0)=false:=by decide
   go_wp2_with fail
   go_quiet (fail)
   go_wp2_with fail
   have HE:Hid _:=HI.out.drewN nq
   refine bodyPost_end (v:=.tuple #[]) (by simp[results,Tryz.results62,go_sem]) rfl ⟨rfl,_,l1,HE.out.blk,⟨HE.out.row,HE.out.up.done0,HE.out.nd⟩,HE.out.mem,HE.out.len,HE.out.but,?_⟩
   rintro g e
   cases e
   exact HW.out
  ·obtain⟨u,hu⟩:∃u,l1[i]?=some u:=⟨l1[i]'(by have:=HI.out.len;omega),by simp⟩
   obtain⟨v,hv⟩:∃v,l1[(i-1) / 2]?=some v:=⟨l1[(i-1) / 2]'(by have:=HI.out.len;omega),by simp⟩
   obtain⟨j,hj⟩:∃j,(i-1) / 2=j:=⟨_,rfl⟩
   rw[hj]at hv
   have c1:wr.cell? ⟨g',i,none⟩=some (.int .i64 u):=HI.out.row.cell (by rw[nz_get,hu];rfl)
   have c2:wr.cell? ⟨g',j,none⟩=some (.int .i64 v):=HI.out.row.cell (by rw[nz_get,hv];rfl)
   have b1:0<i:=by omega
   have b0:(0:Int)≤(i:Int):=by omega
   have b2:(i:Int)<(l.length:Int)+1:=by omega
   have b3:((i:Int)-1).tdiv 2=(j:Int):=by
    rw[←hj,show (i:Int)-1=((i-1:Nat):Int) by omega];rfl
   have b4:(j:Int)<(l.length:Int)+1:=by omega
   have HJ:Hid ((i-1) / 2=j):=hj
   have HU:Hid (l1[i]?=some u):=hu
   have HV:Hid (l1[j]?=some v):=hv
   clear hj hu hv
   by_cases huv:u<v
   ·have t1:u<v:=huv
    go_wp2_with fail
    go_quiet (fail)
    go_wp2_with fail
    have HE:Hid _:=HI.out.drewN nq
    obtain⟨wq,hwq⟩:∃wq,wr.drewN nq=wq:=⟨_,rfl⟩
    rw[hwq]at HE ⊢
    have d1:wq.cell? ⟨g',i,none⟩=some (.int .i64 u):=by rw[←hwq];exact c1
    have d2:wq.cell? ⟨g',j,none⟩=some (.int .i64 v):=by rw[←hwq];exact c2
    have d3:wq.cell? ⟨gp,off,none⟩=some (.slice (some ⟨g',0,none⟩) (l.length+1) cap'):=by rw[←hwq];exact p3
    have z5:=HE.out.row.froz
    have d4:(wq.setCell ⟨g',i,none⟩ (.int .i64 v)).cell? ⟨g',j,none⟩=some (.int .i64 v):=by
     have h9:(i-1) / 2=j:=HJ.out
     exact (OI.set HE.out.row i v (by rw[nz_len,HE.out.len];omega)).cell (by rw[List.getElem?_set_ne (by omega),nz_get,HV.out];rfl)
    have z6:∀k,(wq.setCell ⟨g',i,none⟩ (.int .i64 v)).frozen? ⟨g',k,none⟩=false:=(OI.set HE.out.row i v (by rw[nz_len,HE.out.len];omega)).froz
    have HN:Hid _:=HE.out.step b1 HJ.out HU.out HV.out t1 (HS.out g' rfl) hg'ne
    clear c1 c2 p3 z3 z4 hwq
    go_region
    go_wp2_with fail
    go_roundw
    case rel=>exact⟨j,_,rfl,HN.out.drewN 1⟩
    case measure=>have h9:(i-1) / 2=j:=HJ.out;simp[intOf];omega
   ·have t1:decide (u<v)=false:=by simpa using huv
    go_wp2_with fail
    go_quiet (fail)
    go_wp2_with fail
    have HE:Hid _:=HI.out.drewN nq
    refine bodyPost_end (v:=.tuple #[]) (by simp[results,Tryz.results62,go_sem]) rfl ⟨rfl,_,l1,HE.out.blk,⟨HE.out.row,HE.out.up.done HU.out (by rw[HJ.out];exact HV.out) (by omega),HE.out.nd⟩,HE.out.mem,HE.out.len,HE.out.but,?_⟩
    rintro g e
    cases e
    exact HW.out
end Go.Proofs.YtjglgbepobmjhaaGreatDoor
