import Derived.Test.YtjglgbepobmjhaaGreatDoorP01
import Derived.Test.YtjglgbepobmjhaaGreatDoorP06
set_option linter.unusedVariables false
set_option linter.unusedSimpArgs false
set_option maxRecDepth 20000
set_option maxHeartbeats 8000000
namespace Go.Proofs.YtjglgbepobmjhaaGreatDoor.HP
def swp (l : List Nat) (i j x y : Nat) : List Nat:=(l.set i y).set j x
theorem swp_len (l : List Nat) (i j x y : Nat) : (swp l i j x y).length = l.length:=by simp [swp]
theorem swp_get {l : List Nat} {i j x y : Nat} (hij : i ≠ j) (hi : l[i]? = some x) (hj : l[j]? = some y) (k : Nat) : (swp l i j x y)[k]? = if k = j then some x else if k = i then some y else l[k]?:=by
 have hil:=(List.getElem?_eq_some_iff.1 hi).1
 have hjl:=(List.getElem?_eq_some_iff.1 hj).1
 unfold swp
 rw [List.getElem?_set]
 by_cases h : k = j
 ·rw [if_pos h.symm,if_pos (by simpa using hjl),if_pos h]
 ·rw [if_neg (fun e=>h e.symm),if_neg h,List.getElem?_set]
  by_cases h2 : k = i
  ·rw [if_pos h2.symm,if_pos hil,if_pos h2]
  ·rw [if_neg (fun e=>h2 e.symm),if_neg h2]
theorem swp_mem {l : List Nat} {i j x y : Nat} (hij : i ≠ j) (hi : l[i]? = some x) (hj : l[j]? = some y) (z : Nat) : z ∈ swp l i j x y ↔ z ∈ l:=by
 constructor
 ·intro hz
  obtain ⟨k,hk⟩:=List.getElem?_of_mem hz
  rw [swp_get hij hi hj] at hk
  split at hk
  ·cases hk; exact List.mem_of_getElem? hi
  ·split at hk
   ·cases hk; exact List.mem_of_getElem? hj
   ·exact List.mem_of_getElem? hk
 ·intro hz
  obtain ⟨k,hk⟩:=List.getElem?_of_mem hz
  have key : ∃ k' : Nat,(swp l i j x y)[k']? = some z:=by
   by_cases h1 : k = i
   ·subst h1
    rw [hk] at hi
    cases hi
    exact ⟨j,by rw [swp_get hij hk hj,if_pos rfl]⟩
   ·by_cases h2 : k = j
    ·subst h2
     rw [hk] at hj
     cases hj
     exact ⟨i,by rw [swp_get hij hi hk,if_neg hij,if_pos rfl]⟩
    ·exact ⟨k,by rw [swp_get hij hi hj,if_neg h2,if_neg h1]; exact hk⟩
  obtain ⟨k',h⟩:=key
  exact List.mem_of_getElem? h
def Nd (l : List Nat) : Prop:=∀ (i j x : Nat),l[i]? = some x→l[j]? = some x→i = j
theorem swp_nd {l : List Nat} {i j x y : Nat} (h : Nd l) (hij : i ≠ j) (hi : l[i]? = some x) (hj : l[j]? = some y) : Nd (swp l i j x y):=by
 have hxy : x ≠ y:=fun e=>hij (h i j x hi (by rw [e]; exact hj))
 intro a b z ha hb
 rw [swp_get hij hi hj] at ha hb
 have fi : ∀ k,l[k]? = some x→k = i:=fun k hk=>h k i x hk hi
 have fj : ∀ k,l[k]? = some y→k = j:=fun k hk=>h k j y hk hj
 by_cases a1 : a = j
 ·rw [if_pos a1] at ha
  cases ha
  by_cases b1 : b = j
  ·omega
  ·rw [if_neg b1] at hb
   by_cases b2 : b = i
   ·rw [if_pos b2] at hb
    exact absurd (Option.some.inj hb).symm hxy
   ·rw [if_neg b2] at hb
    exact absurd (fi b hb) b2
 ·rw [if_neg a1] at ha
  by_cases a2 : a = i
  ·rw [if_pos a2] at ha
   cases ha
   by_cases b1 : b = j
   ·rw [if_pos b1] at hb
    exact absurd (Option.some.inj hb) hxy
   ·rw [if_neg b1] at hb
    by_cases b2 : b = i
    ·omega
    ·rw [if_neg b2] at hb
     exact absurd (fj b hb) b1
  ·rw [if_neg a2] at ha
   by_cases b1 : b = j
   ·rw [if_pos b1] at hb
    cases hb
    exact absurd (fi a ha) a2
   ·rw [if_neg b1] at hb
    by_cases b2 : b = i
    ·rw [if_pos b2] at hb
     cases hb
     exact absurd (fj a ha) a1
    ·rw [if_neg b2] at hb
     exact h a b z ha hb
def Hp (l : List Nat) : Prop:=∀ (i x y : Nat),0 < i→l[i]? = some x→l[(i - 1) / 2]? = some y→y ≤ x
theorem Hp.least {l : List Nat} (h : Hp l) {m : Nat} (hm : l[0]? = some m) : ∀ (i x : Nat),l[i]? = some x→m ≤ x:=by
 intro i
 induction i using Nat.strongRecOn with
 | ind i ih =>
  intro x hx
  by_cases hi : i = 0
  ·subst hi
   rw [hm] at hx
   cases hx
   exact Nat.le_refl _
  ·have hlt : (i - 1) / 2 < i:=by omega
   have hl:=(List.getElem?_eq_some_iff.1 hx).1
   obtain ⟨y,hy⟩ : ∃ y,l[(i - 1) / 2]? = some y:=⟨l[(i - 1) / 2]'(by omega),by simp⟩
   exact Nat.le_trans (ih _ hlt y hy) (h i x y (by omega) hx hy)
structure Up (l : List Nat) (a : Nat) : Prop where
 ok : ∀ (i x y : Nat),0 < i→i ≠ a→l[i]? = some x→l[(i - 1) / 2]? = some y→y ≤ x
 ch : ∀ (i x y : Nat),0 < i→(i - 1) / 2 = a→0 < a→l[i]? = some x→l[(a - 1) / 2]? = some y→y ≤ x
theorem Up.done0 {l : List Nat} (h : Up l 0) : Hp l:=fun i x y hi hx hy=>h.ok i x y hi (by omega) hx hy
theorem Up.done {l : List Nat} {a x y : Nat} (h : Up l a) (hx : l[a]? = some x) (hy : l[(a - 1) / 2]? = some y) (hle : y ≤ x) : Hp l:=fun i u v hi hu hv=>by
 by_cases e : i = a
 ·subst e
  rw [hx] at hu
  rw [hy] at hv
  cases hu
  cases hv
  exact hle
 ·exact h.ok i u v hi e hu hv
theorem Up.step {l : List Nat} {a x y : Nat} (h : Up l a) (ha : 0 < a) (hx : l[a]? = some x) (hy : l[(a - 1) / 2]? = some y) (hlt : x < y) : Up (swp l a ((a - 1) / 2) x y) ((a - 1) / 2):=by
 have hne : a ≠ (a - 1) / 2:=by omega
 refine ⟨fun i u v hi hip hu hv=>?_,fun i u v hi hip hp0 hu hv=>?_⟩
 ·rw [swp_get hne hx hy] at hu hv
  rw [if_neg hip] at hu
  by_cases e : i = a
  ·subst e
   rw [if_pos rfl] at hu
   rw [if_pos rfl] at hv
   cases hu
   cases hv
   omega
  ·rw [if_neg e] at hu
   by_cases e2 : (i - 1) / 2 = (a - 1) / 2
   ·rw [if_pos e2] at hv
    cases hv
    have:=h.ok i u y hi e hu (by rw [e2]; exact hy)
    omega
   ·rw [if_neg e2] at hv
    by_cases e3 : (i - 1) / 2 = a
    ·rw [if_pos e3] at hv
     cases hv
     exact h.ch i u y hi e3 ha hu hy
    ·rw [if_neg e3] at hv
     exact h.ok i u v hi e hu hv
 ·rw [swp_get hne hx hy] at hu hv
  have q1 : ((a - 1) / 2 - 1) / 2 ≠ (a - 1) / 2:=by omega
  have q2 : ((a - 1) / 2 - 1) / 2 ≠ a:=by omega
  rw [if_neg q1,if_neg q2] at hv
  have hpv:=h.ok ((a - 1) / 2) y v hp0 (by omega) hy hv
  by_cases e1 : i = (a - 1) / 2
  ·omega
  ·rw [if_neg e1] at hu
   by_cases e2 : i = a
   ·rw [if_pos e2] at hu
    cases hu
    exact hpv
   ·rw [if_neg e2] at hu
    have:=h.ok i u y hi e2 hu (by rw [hip]; exact hy)
    omega
theorem up_push {l : List Nat} (h : Hp l) (x : Nat) : Up (l ++ [x]) l.length:=by
 have key : ∀ (i u : Nat),i ≠ l.length→(l ++ [x])[i]? = some u→l[i]? = some u:=fun i u hi hu=>by
  have:=(List.getElem?_eq_some_iff.1 hu).1
  simp at this
  rw [List.getElem?_append_left (by omega)] at hu
  exact hu
 refine ⟨fun i u v hi hia hu hv=>?_,fun i u v hi hia h0 hu hv=>?_⟩
 ·have hu':=key i u hia hu
  have hl:=(List.getElem?_eq_some_iff.1 hu').1
  exact h i u v hi hu' (key _ v (by omega) hv)
 ·have:=(List.getElem?_eq_some_iff.1 hu).1
  simp at this
  omega
structure Dn (l : List Nat) (a : Nat) : Prop where
 ok : ∀ (i x y : Nat),0 < i→(i - 1) / 2 ≠ a→l[i]? = some x→l[(i - 1) / 2]? = some y→y ≤ x
 ch : ∀ (i x y : Nat),0 < i→(i - 1) / 2 = a→0 < a→l[i]? = some x→l[(a - 1) / 2]? = some y→y ≤ x
theorem Dn.leaf {l : List Nat} {a : Nat} (h : Dn l a) (hl : l.length ≤ 2 * a + 1) : Hp l:=fun i x y hi hx hy=>by
 have:=(List.getElem?_eq_some_iff.1 hx).1
 exact h.ok i x y hi (by omega) hx hy
theorem Dn.done {l : List Nat} {a b x z : Nat} (h : Dn l a) (hb : b = 2 * a + 1 ∨ b = 2 * a + 2) (hx : l[a]? = some x) (hz : l[b]? = some z) (hle : x ≤ z) (hmin : ∀ (i u : Nat),(i = 2 * a + 1 ∨ i = 2 * a + 2)→l[i]? = some u→z ≤ u) : Hp l:=fun i u v hi hu hv=>by
 by_cases e : (i - 1) / 2 = a
 ·rw [e,hx] at hv
  cases hv
  have:=hmin i u (by omega) hu
  omega
 ·exact h.ok i u v hi e hu hv
theorem Dn.step {l : List Nat} {a b x z : Nat} (h : Dn l a) (hb : b = 2 * a + 1 ∨ b = 2 * a + 2) (hx : l[a]? = some x) (hz : l[b]? = some z) (hlt : z < x) (hmin : ∀ (i u : Nat),(i = 2 * a + 1 ∨ i = 2 * a + 2)→l[i]? = some u→z ≤ u) : Dn (swp l a b x z) b:=by
 have hne : a ≠ b:=by omega
 have hpb : (b - 1) / 2 = a:=by omega
 refine ⟨fun i u v hi hip hu hv=>?_,fun i u v hi hip hb0 hu hv=>?_⟩
 ·rw [swp_get hne hx hz] at hu hv
  rw [if_neg hip] at hv
  by_cases e1 : i = b
  ·rw [e1,if_pos rfl] at hu
   rw [e1,if_pos hpb] at hv
   cases hu
   cases hv
   omega
  ·rw [if_neg e1] at hu
   by_cases e2 : i = a
   ·rw [e2,if_pos rfl] at hu
    cases hu
    have q : (i - 1) / 2 ≠ a:=by omega
    rw [if_neg q] at hv
    rw [e2] at hv
    exact h.ch b z v (by omega) hpb (by omega) hz hv
   ·rw [if_neg e2] at hu
    by_cases e3 : (i - 1) / 2 = a
    ·rw [if_pos e3] at hv
     cases hv
     exact hmin i u (by omega) hu
    ·rw [if_neg e3] at hv
     exact h.ok i u v hi e3 hu hv
 ·rw [swp_get hne hx hz] at hu hv
  rw [hpb,if_neg hne,if_pos rfl] at hv
  cases hv
  have e1 : i ≠ b:=by omega
  have e2 : i ≠ a:=by omega
  rw [if_neg e1,if_neg e2] at hu
  exact h.ok i u z hi (by omega) hu (by rw [hip]; exact hz)
theorem dn_pop {l : List Nat} (h : Hp l) (x : Nat) : Dn ((l.set 0 x).take (l.length - 1)) 0:=by
 have key : ∀ (i u : Nat),0 < i→((l.set 0 x).take (l.length - 1))[i]? = some u→l[i]? = some u:=fun i u hi hu=>by
  rw [List.getElem?_take] at hu
  split at hu
  ·rw [List.getElem?_set] at hu
   rw [if_neg (by omega)] at hu
   exact hu
  ·cases hu
 refine ⟨fun i u v hi hip hu hv=>h i u v hi (key i u hi hu) (key _ v (by omega) hv),fun i u v hi hip h0=>by omega⟩
end Go.Proofs.YtjglgbepobmjhaaGreatDoor.HP
namespace Go.Proofs.YtjglgbepobmjhaaGreatDoor
open Go.RowKit
abbrev OI (w : World) (B : Nat) (sv : Value) (ts : List Int) : Prop:=ORow w B 3 1 intC sv ts
def nz (l : List Nat) : List Int:=l.map fun (n : Nat)=>(n : Int)
theorem nz_len (l : List Nat) : (nz l).length = l.length:=by simp [nz]
theorem nz_get (l : List Nat) (i : Nat) : (nz l)[i]? = l[i]?.map fun (n : Nat)=>(n : Int):=by simp [nz]
theorem nz_app (l m : List Nat) : nz (l ++ m) = nz l ++ nz m:=by simp [nz]
theorem nz_set (l : List Nat) (i x : Nat) : (nz l).set i (x : Int) = nz (l.set i x):=by simp [nz,List.map_set]
theorem nz_take (l : List Nat) (i : Nat) : (nz l).take i = nz (l.take i):=by simp [nz,List.map_take]
theorem OI.cell {w : World} {B g n cap : Nat} {ts : List Int} (h : OI w B (.slice (some ⟨g,0,none⟩) n cap) ts) {i : Nat} {z : Int} (hz : ts[i]? = some z) : w.cell? ⟨g,i,none⟩ = some (.int .i64 z):=by
 obtain ⟨a,c,e,hs⟩:=h.lies (fun y=>intC_len y)
 cases e
 obtain ⟨b,off,e2,_,hc⟩:=hs i z hz
 cases e2
 have:=hc 0 _ rfl
 simpa using this
theorem OI.blk {w : World} {B g n cap : Nat} {ts : List Int} (h : OI w B (.slice (some ⟨g,0,none⟩) n cap) ts) : ∃ cur,w.heap[g]? = some (.cells cur 3):=by
 rcases h.2 with ⟨e,_⟩ | ⟨g',c',cur,e,hb,hg,_⟩
 ·cases e
 ·cases e; exact ⟨cur,hg⟩
theorem OI.froz {w : World} {B g n cap : Nat} {ts : List Int} (h : OI w B (.slice (some ⟨g,0,none⟩) n cap) ts) (i : Nat) : w.frozen? ⟨g,i,none⟩ = false:=by
 obtain ⟨cur,hg⟩:=h.blk
 exact blk_frozen hg i
theorem OI.len {w : World} {B : Nat} {a : Option Addr} {n cap : Nat} {ts : List Int} (h : OI w B (.slice a n cap) ts) : n = ts.length:=by
 obtain ⟨a',c,e⟩:=h.val
 cases e; rfl
theorem OI.set {w : World} {B g n cap : Nat} {ts : List Int} (h : OI w B (.slice (some ⟨g,0,none⟩) n cap) ts) (i : Nat) (z : Int) (hi : i < ts.length) : OI (w.setCell ⟨g,i,none⟩ (.int .i64 z)) B (.slice (some ⟨g,0,none⟩) n cap) (ts.set i z):=by
 obtain ⟨h1,h2⟩:=h
 refine ⟨by rw [flat_int] at h1 ⊢; simp at h1 ⊢,?_⟩
 rcases h2 with ⟨e,_⟩ | ⟨g',c',cur,e,hb,hg,hl,hm,hs,ht⟩
 ·cases e
 ·cases e
  rw [List.length_set]
  refine .inr ⟨g,_,cur.setIfInBounds i (.int .i64 z),rfl,hb,blk_set hg i _,hl,hm,by simpa using hs,?_⟩
  rw [flat_int] at ht ⊢
  rw [Array.toList_setIfInBounds,List.take_set,ht,List.map_set]
theorem ORow.set_own {α : Type} {w : World} {B : Nat} {et : TypeId} {k : Nat} {cells : α→List Value} {sv : Value} {xs : List α} (h : ORow w B et k cells sv xs) {g : Nat} (hg : sv.ownBlock ≠ some g) (j : Nat) (v : Value) : ORow (w.setCell ⟨g,j,none⟩ v) B et k cells sv xs:=by
 obtain ⟨h1,h2⟩:=h
 refine ⟨h1,?_⟩
 rcases h2 with h2 | ⟨g',cap,cur,e1,e2,e3,e4⟩
 ·exact .inl h2
 ·subst e1
  exact .inr ⟨g',cap,cur,rfl,e2,blk_other e3 (fun e=>hg (by rw [e]; rfl)) j v,e4⟩
theorem ORow.butn {α : Type} {S : List Nat} {w w' : World} {B : Nat} {et : TypeId} {k : Nat} {cells : α→List Value} {sv : Value} {xs : List α} (h : ORow w B et k cells sv xs) (hb : ButL S w w') (hS : ∀ g,sv.ownBlock = some g→g ∉ S) : ORow w' B et k cells sv xs:=by
 obtain ⟨h1,h2⟩:=h
 refine ⟨h1,?_⟩
 rcases h2 with h2 | ⟨g',cap,cur,e1,e2,e3,e4⟩
 ·exact .inl h2
 ·subst e1
  exact .inr ⟨g',cap,cur,rfl,e2,hb.blk e3 (hS g' rfl),e4⟩
theorem ButL.grown {S : List Nat} {w0 w w' : World} {sv : Value} (h : ButL S w0 w) (hg : w.grownBy w' sv.ownBlock) (hS : ∀ g,sv.ownBlock = some g→g ∈ S ∨ w0.heap.size ≤ g) : ButL S w0 w' :=
 ⟨hg.os.trans h.os,hg.tape.trans h.tape,hg.output.trans h.output,Nat.le_trans h.size hg.size,fun k hk hne=>(hg.block k (Nat.lt_of_lt_of_le hk h.size) (fun e=>by
  rcases hS k e.symm with q | q
  ·exact hne q
  ·omega)).trans (h.block k hk hne)⟩
theorem ButL.setn {S : List Nat} {w w' : World} {g : Nat} (h : ButL S w w') (hg : w.heap.size ≤ g) (j : Nat) (v : Value) : ButL S w (w'.setCell ⟨g,j,none⟩ v) :=
 ⟨h.os,h.tape,h.output,by simpa using h.size,fun k hk hS=>by rw [Below.heap_setCell _ _ _ _ (by show k ≠ g; omega)]; exact h.block k hk hS⟩
theorem ButL.seto {S : List Nat} {w w' : World} {g : Nat} (h : ButL S w w') (hg : g ∈ S ∨ w.heap.size ≤ g) (j : Nat) (v : Value) : ButL S w (w'.setCell ⟨g,j,none⟩ v):=by
 rcases hg with hg | hg
 ·exact h.set hg j v
 ·exact h.setn hg j v
theorem ButL.alloc {S : List Nat} {w w' : World} (h : ButL S w w') (o : Obj) : ButL S w (w'.alloc o):=h.trans (ButL.of_below (bw1 _ _))
theorem ButL.mono {S S' : List Nat} {w w' : World} (h : ButL S w w') (hS : ∀ g ∈ S,g ∈ S' ∨ w.heap.size ≤ g) : ButL S' w w':=⟨h.os,h.tape,h.output,h.size,fun k hk hn=>h.block k hk fun e=>by
 rcases hS k e with q | q
 ·exact hn q
 ·omega⟩
theorem ButL.then {S S' : List Nat} {a b c : World} (h : ButL S a b) (h' : ButL S' b c) (hS : ∀ g ∈ S',g ∈ S ∨ a.heap.size ≤ g) : ButL S a c :=
 ⟨h'.os.trans h.os,h'.tape.trans h.tape,h'.output.trans h.output,Nat.le_trans h.size h'.size,fun k hk hn=>(h'.block k (Nat.lt_of_lt_of_le hk h.size) (fun e=>by
  rcases hS k e with q | q
  ·exact hn q
  ·omega)).trans (h.block k hk hn)⟩
theorem ButL.thenB {S : List Nat} {a b c : World} (h : ButL S a b) (h' : Below b.heap.size b c) : ButL S a c:=h.trans (ButL.of_below h')
theorem OI.app {w : World} {B : Nat} {sv : Value} {ts : List Int} (h : OI w B sv ts) (x : Int) (hl : ts.length ≤ 20000) (hB : B ≤ w.heap.size) :
  ∃ g' cap' w2,(Builtin.append_ #[54,54] 54 #[sv,.slice (some ⟨w.heap.size,0,none⟩) 1 1]).run Tryz.prog (w.alloc (.cells #[.int .i64 x] 3)) = .ok (.slice (some ⟨g',0,none⟩) (ts.length + 1) cap') w2 ∧
   OI w2 B (.slice (some ⟨g',0,none⟩) (ts.length + 1) cap') (ts ++ [x])∧(w.alloc (.cells #[.int .i64 x] 3)).grownBy w2 sv.ownBlock∧(some g' = sv.ownBlock ∨ w.heap.size ≤ g'):=by
 have h':=ORow.later h (bw1 w (.cells #[.int .i64 x] 3))
 obtain ⟨g',cap',w2,hr,ho2,hg⟩:=h'.app 54 8 Tryz.underlying54 (by kernel_rfl) (by omega) (by omega) x w.heap.size 54 (blk_new _ _) rfl (by intro u hu; simp [intC] at hu; subst hu; rfl) (by omega) (by simp; omega)
 have hw:=app_where 54 3 1 8 Tryz.underlying54 (by kernel_rfl) (by omega) (by omega) B _ sv _ _ (intC x) w.heap.size 54 h' (blk_new _ _) rfl (by intro u hu; simp [intC] at hu; subst hu; rfl) (by omega) hr
 refine ⟨g',cap',w2,hr,ho2,hg,?_⟩
 rcases hw with hw | hw
 ·exact .inl hw
 ·exact .inr (by rw [hw]; simp)
end Go.Proofs.YtjglgbepobmjhaaGreatDoor
namespace Go.Proofs.YtjglgbepobmjhaaGreatDoor.M
open Go.RowKit
def vd0 : VD:=⟨0,0,0,⟨#[]⟩,0⟩
structure SD where
 h : Int
 v : VD
 b : Value
 l : Value
def SD.cells (s : SD) : List Value:=[.int .i64 s.h,.int .i64 s.v.k,.int .i64 s.v.n,.float .f64 s.v.f,.string s.v.s,.int .i64 s.v.r,s.b,s.l]
theorem sd_len (s : SD) : s.cells.length = 8:=rfl
def sd0 : SD:=⟨0,vd0,.pointer none,.slice none 0 0⟩
def sdV (v : VD) : SD:=⟨1,v,.pointer none,.slice none 0 0⟩
def sdL (l : Value) : SD:=⟨3,vd0,.pointer none,l⟩
def setL (l : List Value) (o : Nat) : List Value→List Value
 | []=>l
 | v :: vs=>setL (l.set o v) (o + 1) vs
theorem putl_toArray : ∀ (vs : List Value) (l : List Value) (o : Nat),putl l.toArray o vs = (setL l o vs).toArray
 | [],_,_=>rfl
 | v :: vs,l,o=>by
  rw [putl,setL,List.setIfInBounds_toArray,putl_toArray vs]
theorem setL_mid : ∀ (vs A B C : List Value),B.length = vs.length→setL (A ++ (B ++ C)) A.length vs = A ++ (vs ++ C)
 | [],A,B,C,h=>by
  have : B = []:=List.length_eq_zero_iff.1 h
  subst this; rfl
 | v :: vs,A,b :: B,C,h=>by
  have ih:=setL_mid vs (A ++ [v]) B C (by simpa using h)
  rw [setL,List.set_append_right _ _ (Nat.le_refl _),Nat.sub_self]
  simp only [List.cons_append,List.set_cons_zero]
  rw [List.length_append] at ih
  simpa using ih
 | v :: vs,A,[],C,h=>by simp at h
theorem setL_flat {α : Type} (cells : α→List Value) (k : Nat) (hk : ∀ y,(cells y).length = k) (P : List Value) (xs : List α) (i : Nat) (x : α) (hi : i < xs.length) :
  setL (P ++ xs.flatMap cells) (P.length + i * k) (cells x) = P ++ (xs.set i x).flatMap cells:=by
 have h1 : xs = xs.take i ++ xs[i] :: xs.drop (i + 1):=by
  conv=>lhs; rw [← List.take_append_drop i xs]
  rw [List.drop_eq_getElem_cons hi]
 have hl : ((xs.take i).flatMap cells).length = i * k:=by
  rw [List.length_flatMap]
  have : (xs.take i).map (fun a=>(cells a).length) = List.replicate i k:=by
   apply List.ext_getElem?
   intro n
   rw [List.getElem?_map,List.getElem?_replicate,List.getElem?_take]
   by_cases hn : n < i
   ·rw [if_pos hn,if_pos hn,List.getElem?_eq_getElem (by omega)]; simp [hk]
   ·rw [if_neg hn,if_neg hn]; rfl
  rw [this,List.sum_replicate_nat]
 have h2 : P ++ xs.flatMap cells = (P ++ (xs.take i).flatMap cells) ++ (cells xs[i] ++ (xs.drop (i + 1)).flatMap cells):=by
  have h4 : xs.flatMap cells = (xs.take i).flatMap cells ++ (cells xs[i] ++ (xs.drop (i + 1)).flatMap cells):=by
   conv=>lhs; rw [h1]
   rw [List.flatMap_append,List.flatMap_cons]
  rw [h4,List.append_assoc]
 have h3 : P ++ (xs.set i x).flatMap cells = (P ++ (xs.take i).flatMap cells) ++ (cells x ++ (xs.drop (i + 1)).flatMap cells):=by
  rw [List.set_eq_take_append_cons_drop,if_pos hi]
  simp [List.flatMap_append,List.flatMap_cons]
 rw [h2,h3,show P.length + i * k = (P ++ (xs.take i).flatMap cells).length by rw [List.length_append,hl]]
 exact setL_mid (cells x) _ (cells xs[i]) _ (by rw [hk,hk])
structure CallD where
 fn : VD
 proto : Int
 ins : Value
 consts : Value
 ups : Value
 at' : Int
 next : Int
 line : Int
 guards : Value
 way : Value
 regs : List SD
def CallD.hd (c : CallD) : List Value:=[.int .i64 c.fn.k,.int .i64 c.fn.n,.float .f64 c.fn.f,.string c.fn.s,.int .i64 c.fn.r,.int .i64 c.proto,c.ins,c.consts,c.ups,.int .i64 c.at',.int .i64 c.next,.int .i64 c.line,c.guards,c.way]
def CallD.arr (c : CallD) : Array Value:=(c.hd ++ c.regs.flatMap SD.cells).toArray
theorem CallD.get_hd (c : CallD) (i : Nat) (hi : i < 14) : c.arr[i]? = c.hd[i]?:=by
 unfold CallD.arr
 rw [List.getElem?_toArray,List.getElem?_append_left (by exact hi)]
theorem CallD.get_reg (c : CallD) {i j : Nat} {s : SD} {v : Value} (hs : c.regs[i]? = some s) (hv : s.cells[j]? = some v) : c.arr[14 + (i * 8 + j)]? = some v:=by
 unfold CallD.arr
 rw [List.getElem?_toArray,List.getElem?_append_right (by show (14 : Nat) ≤ _; omega)]
 rw [show 14 + (i * 8 + j) - c.hd.length = i * 8 + j by show 14 + (i * 8 + j) - 14 = _; omega]
 exact flat_at SD.cells 8 c.regs i j s v (fun y _=>sd_len y) hs hv
theorem CallD.set_reg (c : CallD) {i : Nat} (s : SD) (hi : i < c.regs.length) : putl c.arr (14 + i * 8) s.cells = { c with regs:=c.regs.set i s }.arr:=by
 unfold CallD.arr
 rw [putl_toArray]
 exact congrArg List.toArray (setL_flat SD.cells 8 sd_len c.hd c.regs i s hi)
theorem CallD.set_at (c : CallD) (z : Int) : c.arr.setIfInBounds 9 (.int .i64 z) = { c with at':=z }.arr:=by
 unfold CallD.arr; rw [List.setIfInBounds_toArray]; rfl
theorem CallD.set_next (c : CallD) (z : Int) : c.arr.setIfInBounds 10 (.int .i64 z) = { c with next:=z }.arr:=by
 unfold CallD.arr; rw [List.setIfInBounds_toArray]; rfl
theorem CallD.set_guards (c : CallD) (z : Value) : c.arr.setIfInBounds 12 z = { c with guards:=z }.arr:=by
 unfold CallD.arr; rw [List.setIfInBounds_toArray]; rfl
def CallAt (w : World) (g : Nat) (c : CallD) : Prop:=w.heap[g]? = some (.cells c.arr 210)
theorem CallAt.cell {w : World} {g : Nat} {c : CallD} (h : CallAt w g c) (i : Nat) (hi : i < 14) : w.cell? ⟨g,i,none⟩ = c.hd[i]?:=by
 rw [blk_cell h,c.get_hd i hi]
theorem CallAt.reg {w : World} {g : Nat} {c : CallD} (h : CallAt w g c) {i j : Nat} {s : SD} {v : Value} (hs : c.regs[i]? = some s) (hv : s.cells[j]? = some v) : w.cell? ⟨g,14 + (i * 8 + j),none⟩ = some v:=by
 rw [blk_cell h]; exact c.get_reg hs hv
theorem CallAt.later {w w' : World} {g : Nat} {c : CallD} (h : CallAt w g c) (hb : Below w.heap.size w w') : CallAt w' g c:=blk_later hb h
theorem CallAt.but {S : List Nat} {w w' : World} {g : Nat} {c : CallD} (h : CallAt w g c) (hb : ButL S w w') (hS : g ∉ S) : CallAt w' g c:=hb.blk h hS
def instT : List Value:=[.nilFunc,.func (.func 78) #[] #[],.func (.func 79) #[] #[],.func (.func 80) #[] #[],.func (.func 81) #[] #[],.func (.func 81) #[] #[],.func (.func 82) #[] #[],.func (.func 81) #[] #[],.func (.func 83) #[] #[],.func (.func 81) #[] #[],.func (.func 84) #[] #[],.func (.func 85) #[] #[],.func (.func 86) #[] #[],.func (.func 87) #[] #[],.func (.func 88) #[] #[],.func (.func 89) #[] #[],.func (.func 90) #[] #[],.func (.func 91) #[] #[],.func (.func 92) #[] #[],.func (.func 93) #[] #[],.func (.func 93) #[] #[],.func (.func 93) #[] #[],.func (.func 94) #[] #[],.func (.func 95) #[] #[],.func (.func 95) #[] #[],.func (.func 81) #[] #[],.func (.func 81) #[] #[],.func (.func 96) #[] #[],.func (.func 97) #[] #[],.func (.func 98) #[] #[],.func (.func 99) #[] #[],.func (.func 100) #[] #[],.func (.func 101) #[] #[],.func (.func 102) #[] #[],.func (.func 103) #[] #[],.func (.func 104) #[] #[],.func (.func 105) #[] #[],.func (.func 106) #[] #[],.func (.func 93) #[] #[],.func (.func 107) #[] #[],.func (.func 108) #[] #[],.func (.func 109) #[] #[],.func (.func 110) #[] #[]]
def buiT : List Value:=[.func (.func 111) #[] #[],.func (.func 112) #[] #[],.func (.func 113) #[] #[],.func (.func 114) #[] #[],.func (.func 115) #[] #[],.func (.func 116) #[] #[],.func (.func 117) #[] #[],.func (.func 118) #[] #[],.func (.func 119) #[] #[],.func (.func 120) #[] #[],.func (.func 121) #[] #[],.func (.func 122) #[] #[],.func (.func 123) #[] #[],.func (.func 124) #[] #[],.func (.func 125) #[] #[]]
structure MachD where
 protos : Value
 ticks : Int
 depth : Int
 cells : Int
 watch : Value
 code : Int
 recs : Value
 vals : Value
 err : ByteArray
 trace : ByteArray
 rticks : Int
 made : Int
 tables : Value
 tasks : Value
 running : Value
 living : Int
 since : Int
def MachD.arr (m : MachD) : Array Value:=([m.protos,.slice none 0 0,.slice none 0 0,.int .i64 m.ticks,.int .i64 m.depth,.int .i64 m.cells,m.watch,.int .i64 m.code,m.recs,m.vals,.string m.err,.string m.trace,.int .i64 m.rticks,.int .i64 m.made] ++ instT ++ buiT ++ [m.tables,.slice none 0 0,m.tasks,m.running,.slice none 0 0,.int .i64 0,.int .i64 0,.int .i64 m.living,.int .i64 m.since,.int .u64 0,.int .u32 0]).toArray
theorem MachD.size (m : MachD) : m.arr.size = 83:=rfl
theorem MachD.set_tasks (m : MachD) (z : Value) : m.arr.setIfInBounds 74 z = { m with tasks:=z }.arr:=rfl
theorem MachD.set_running (m : MachD) (z : Value) : m.arr.setIfInBounds 75 z = { m with running:=z }.arr:=rfl
theorem MachD.set_code (m : MachD) (z : Int) : m.arr.setIfInBounds 7 (.int .i64 z) = { m with code:=z }.arr:=rfl
theorem MachD.set_ticks (m : MachD) (z : Int) : m.arr.setIfInBounds 12 (.int .i64 z) = { m with rticks:=z }.arr:=rfl
theorem MachD.set_recs (m : MachD) (z : Value) : m.arr.setIfInBounds 8 z = { m with recs:=z }.arr:=rfl
def MachAt (w : World) (g : Nat) (m : MachD) : Prop:=w.heap[g]? = some (.cells m.arr 109)
theorem MachAt.cell {w : World} {g : Nat} {m : MachD} (h : MachAt w g m) (i : Nat) : w.cell? ⟨g,i,none⟩ = m.arr[i]?:=blk_cell h i
theorem MachAt.later {w w' : World} {g : Nat} {m : MachD} (h : MachAt w g m) (hb : Below w.heap.size w w') : MachAt w' g m:=blk_later hb h
theorem MachAt.but {S : List Nat} {w w' : World} {g : Nat} {m : MachD} (h : MachAt w g m) (hb : ButL S w w') (hS : g ∉ S) : MachAt w' g m:=hb.blk h hS
end Go.Proofs.YtjglgbepobmjhaaGreatDoor.M
