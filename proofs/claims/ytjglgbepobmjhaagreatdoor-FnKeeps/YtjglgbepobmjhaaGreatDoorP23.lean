import Derived.Test.YtjglgbepobmjhaaGreatDoorP16
import Derived.Test.YtjglgbepobmjhaaGreatDoorP22
import Derived.Test.YtjglgbepobmjhaaGreatDoorP10
set_option linter.unusedVariables false
set_option linter.unusedSimpArgs false
set_option maxRecDepth 20000
set_option maxHeartbeats 8000000
namespace Go.Proofs.YtjglgbepobmjhaaGreatDoor
open Go.RowKit
def leastD : List Bool→Option Nat
 | []=>none
 | true :: _=>some 0
 | false :: r=>(leastD r).map (· + 1)
theorem leastD_none : ∀ {l : List Bool},leastD l = none→AllOff l
 | [],_=>fun b=>by simp
 | true :: r,h=>by cases h
 | false :: r,h=>by
  have h' : leastD r = none:=by simpa [leastD] using h
  intro b
  cases b with
  | zero=>simp
  | succ b=>simpa using leastD_none h' b
theorem leastD_some : ∀ {l : List Bool} {a : Nat},leastD l = some a→IsLeast l a
 | [],_,h=>by cases h
 | true :: r,a,h=>by
  cases h
  exact ⟨rfl,fun b hb=>by omega⟩
 | false :: r,a,h=>by
  obtain ⟨a',h1,rfl⟩:=Option.map_eq_some_iff.1 (show (leastD r).map (· + 1) = some a from h)
  obtain ⟨h2,h3⟩:=leastD_some h1
  refine ⟨by simpa using h2,fun b hb=>?_⟩
  cases b with
  | zero=>simp
  | succ b=>simpa using h3 b (by omega)
def runF (c : List FD) (ins : List ID) : Nat→WkS→Option (Except (Nat × Nat) WkS)
 | 0,_=>none
 | k + 1,s=>match leastD s.due with
  | none=>some (.ok s)
  | some a=>match passW c ins a s with
   | .error e=>some (.error e)
   | .ok s'=>runF c ins k s'
theorem runF_runs {c : List FD} {ins : List ID} : ∀ {k : Nat} {s : WkS} {r : Except (Nat × Nat) WkS},runF c ins k s = some r→∃ k',Runs c ins k' s r
 | 0,s,r,h=>by cases h
 | k + 1,s,r,h=>by
  unfold runF at h
  split at h
  ·rename_i hl
   cases h
   exact ⟨0,.inl ⟨leastD_none hl,rfl⟩⟩
  ·rename_i a hl
   split at h
   ·rename_i e he
    cases h
    exact ⟨0,.inr ⟨a,e,leastD_some hl,he,rfl⟩⟩
   ·rename_i s' hs
    obtain ⟨k',hk⟩:=runF_runs h
    exact ⟨k' + 1,a,s',leastD_some hl,hs,hk⟩
theorem fwd_rn {E : Nat→List Nat} (h : ∀ x,∀ y ∈ E x,x < y) : ∀ {n x y : Nat},TJ.RN E n x y→x ≤ y
 | 0,x,y,hr=>Nat.le_of_eq hr
 | n + 1,x,y,hr=>by
  obtain ⟨z,h1,h2⟩:=hr
  have:=h x z h1
  have:=fwd_rn h h2
  omega
theorem fwd_r {E : Nat→List Nat} (h : ∀ x,∀ y ∈ E x,x < y) {x y : Nat} (hr : TJ.R E x y) : x ≤ y:=by
 obtain ⟨n,hn⟩:=hr
 exact fwd_rn h hn
theorem fwd_cyc {E : Nat→List Nat} (h : ∀ x,∀ y ∈ E x,x < y) (x : Nat) : ¬ TJ.Cyc E x:=by
 rintro ⟨y,h1,h2⟩
 have:=h x y h1
 have:=fwd_r h h2
 omega
def fwdB : List ID→Nat→Bool
 | [],_=>true
 | n :: r,i=>(silS n i).all (fun y=>decide (i < y)) && fwdB r (i + 1)
theorem fwdB_at : ∀ {ins : List ID} {i : Nat},fwdB ins i = true→∀ (j : Nat) n,ins[j]? = some n→∀ y ∈ silS n (i + j),i + j < y
 | [],i,_,j,n,hj=>by simp at hj
 | m :: r,i,h,j,n,hj=>by
  unfold fwdB at h
  simp only [Bool.and_eq_true,List.all_eq_true,decide_eq_true_eq] at h
  cases j with
  | zero=>simp at hj; subst hj; exact h.1
  | succ j =>
   have:=fwdB_at h.2 j n (by simpa using hj)
   rw [show i + 1 + j = i + (j + 1) by omega] at this
   exact this
theorem fwd_ee {d : FD} (h : fwdB d.ins 0 = true) (hid : ∀ x,d.ins.length ≤ x→∀ y ∈ silS id0 x,x < y) : ∀ x,∀ y ∈ EE d x,x < y:=by
 intro x y hy
 unfold EE at hy
 rw [List.getD_eq_getElem?_getD] at hy
 cases hx : d.ins[x]? with
 | none =>
  rw [hx] at hy
  exact hid x (List.getElem?_eq_none_iff.1 hx) y hy
 | some n =>
  rw [hx] at hy
  have:=fwdB_at h x n hx
  rw [Nat.zero_add] at this
  exact this y hy
theorem one_good {d : FD} {k : Nat} {s : WkS} (hs : (shapeV [d]).1 = 0) (hr : runF [d] d.ins k (startS d) = some (.ok s)) (hf : fwdB d.ins 0 = true) : CkR [d] (0,0,0):=by
 have hE:=fwd_ee hf (fun x _ y hy=>by
  have : y = x + 1:=by simpa [silS,id0] using hy
  omega)
 obtain ⟨k',hk⟩:=runF_runs hr
 unfold CkR
 rw [if_pos hs]
 exact .inr ⟨⟨k',_,hk,.inr ⟨fun i _=>fwd_cyc hE i,rfl⟩⟩,rfl⟩
theorem one_bad {d : FD} {k : Nat} {e : Nat × Nat} (hs : (shapeV [d]).1 = 0) (hr : runF [d] d.ins k (startS d) = some (.error e)) : CkR [d] ((e.1 : Int),0,(e.2 : Int)):=by
 obtain ⟨k',hk⟩:=runF_runs hr
 unfold CkR
 rw [if_pos hs]
 exact .inl ⟨k',_,hk,rfl⟩
def keepsI (j k : Nat) : Bool→List ID
 | false=>[⟨31,7,j,0,0⟩,⟨31,6,k,0,0⟩,⟨32,0,0,0,0⟩,⟨32,0,0,0,0⟩,⟨22,11,0,0,0⟩,⟨29,-12,0,0,0⟩,⟨30,k,0,0,0⟩,⟨22,j,0,0,0⟩,⟨29,-1 - (j : Int),0,0,0⟩]
 | true=>[⟨12,k,0,0,0⟩,⟨31,7,j,0,0⟩,⟨40,k,0,0,0⟩,⟨42,k,0,0,0⟩,⟨42,(k : Int) + 1,0,0,0⟩,⟨32,0,0,0,0⟩,⟨19,9,0,0,0⟩,⟨42,j,0,0,0⟩,⟨42,(j : Int) + 1,0,0,0⟩,⟨22,11,0,0,0⟩,⟨29,-12,0,0,0⟩]
def keepsD (j k : Nat) (each : Bool) : FD:=⟨⟨#[109,97,105,110]⟩,0,0,false,12,[],[],keepsI j k each,[]⟩
def keepsF (j k : Nat) (each : Bool) : F3:=if j ≤ k then (0,0,0) else if each then (12,0,2) else (11,0,1)
def keepsOk (j k : Nat) (each : Bool) : Bool :=
 decide ((shapeV [keepsD j k each]).1 = 0) && (match runF [keepsD j k each] (keepsI j k each) 40 (startS (keepsD j k each)) with
  | none=>false
  | some (.ok _)=>decide (j ≤ k) && fwdB (keepsI j k each) 0
  | some (.error e)=>decide (¬ j ≤ k) && decide (((e.1 : Int),(0 : Int),(e.2 : Int)) = keepsF j k each))
set_option maxRecDepth 100000 in
theorem keeps_all : ((List.range 11).all fun j=>(List.range 11).all fun k=>keepsOk j k true && keepsOk j k false) = true:=by kernel_rfl
theorem keeps_ck {j k : Nat} (hj : j < 11) (hk : k < 11) (each : Bool) : CkR [keepsD j k each] (keepsF j k each):=by
 have h:=keeps_all
 simp only [List.all_eq_true,List.mem_range,Bool.and_eq_true] at h
 have h0 : keepsOk j k each = true:=by
  have:=h j hj k hk
  cases each
  ·exact this.2
  ·exact this.1
 unfold keepsOk at h0
 simp only [Bool.and_eq_true,decide_eq_true_eq] at h0
 obtain ⟨hs,h1⟩:=h0
 cases hr : runF [keepsD j k each] (keepsI j k each) 40 (startS (keepsD j k each)) with
 | none=>rw [hr] at h1; cases h1
 | some r =>
  rw [hr] at h1
  cases r with
  | ok s =>
   simp only [Bool.and_eq_true,decide_eq_true_eq] at h1
   have:=one_good hs hr h1.2
   unfold keepsF
   rw [if_pos h1.1]
   exact this
  | error e =>
   simp only [Bool.and_eq_true,decide_eq_true_eq] at h1
   rw [← h1.2]
   exact one_bad hs hr
end Go.Proofs.YtjglgbepobmjhaaGreatDoor
namespace Go.Proofs.YtjglgbepobmjhaaGreatDoor.M
open Go.RowKit
inductive RD where
 | no
 | tab (r : Nat)
 | num (n : Int)
 | lst
 deriving DecidableEq
def RD.sd : RD→SD
 | .no=>sd0
 | .tab r=>sdV (tabV r)
 | .num n=>sdV (intD n)
 | .lst=>sdL (.slice none 0 0)
structure PS where
 at' : Nat
 regs : List RD
 nt : Nat
 ng : Nat
def isTab (nt : Nat) : Option RD→Bool
 | some (.tab r)=>decide (r < nt)
 | _=>false
def stepN (n : ID) (s : PS) : Option PS :=
 if n.op = 12 then if 0 ≤ n.a∧n.a < 250∧s.nt < 9 then some ⟨s.at' + 1,s.regs.set n.a.toNat (.tab s.nt),s.nt + 1,s.ng⟩ else none
 else if n.op = 31 then if s.ng < 50 then some ⟨s.at' + 1,s.regs,s.nt,s.ng + 1⟩ else none
 else if n.op = 40 then if 0 ≤ n.a∧n.a + 1 < 250∧isTab s.nt (s.regs[n.a.toNat]?) = true then some ⟨s.at' + 1,s.regs.set (n.a.toNat + 1) (.num 0),s.nt,s.ng⟩ else none
 else if n.op = 42 then if 0 ≤ n.a∧n.a < 250 then some ⟨s.at' + 1,s.regs.set n.a.toNat .no,s.nt,s.ng⟩ else none
 else if n.op = 32 then if 0 < s.ng then some ⟨s.at' + 1,s.regs,s.nt,s.ng - 1⟩ else none
 else if n.op = 19 then if (s.at' : Int) < n.a∧n.a < 100 then some ⟨n.a.toNat,s.regs,s.nt,s.ng⟩ else none
 else if n.op = 22 then if 0 ≤ n.a∧n.a < 250 then some ⟨s.at' + 1,s.regs.set n.a.toNat .lst,s.nt,s.ng⟩ else none
 else none
def retN (n : ID) (s : PS) : Bool:=decide (n.op = 29) && decide (n.a < 0) && decide (-250 ≤ n.a) && decide (s.regs[(-1 - n.a).toNat]? = some .lst) && decide (s.ng = 0)
def runP (ins : List ID) : Nat→PS→Bool
 | 0,_=>false
 | k + 1,s=>match ins[s.at']? with
  | none=>false
  | some n=>retN n s || match stepN n s with
   | none=>false
   | some s'=>runP ins k s'
def ps0 : PS:=⟨0,List.replicate 250 .no,0,0⟩
set_option maxRecDepth 100000 in
theorem keeps_runs : ((List.range 11).all fun j=>(List.range 11).all fun k=>!decide (j ≤ k) || (runP (keepsI j k true) 12 ps0 && runP (keepsI j k false) 12 ps0)) = true:=by kernel_rfl
theorem keeps_run {j k : Nat} (hj : j < 11) (hk : k < 11) (h : j ≤ k) (each : Bool) : runP (keepsI j k each) 12 ps0 = true:=by
 have h0:=keeps_runs
 simp only [List.all_eq_true,List.mem_range,Bool.or_eq_true,Bool.and_eq_true,Bool.not_eq_true',decide_eq_false_iff_not] at h0
 rcases h0 j hj k hk with h1 | h1
 ·exact absurd h h1
 ·cases each
  ·exact h1.2
  ·exact h1.1
structure MK where
 gm : Nat
 gf : Nat
 gt : Nat
 gk : Nat
 gch : Nat
 ta : Array Value
 ka : Array Value
 m0 : MachD
 c0 : CallD
def MK.m (K : MK) (z : Int) (tv : Value) : MachD:={ K.m0 with since:=z,made:=z,tables:=tv }
def MK.c (K : MK) (at' next : Int) (gv : Value) (rs : List SD) : CallD:={ K.c0 with at':=at',next:=next,guards:=gv,regs:=rs }
structure MX (w0 : World) (K : MK) (w : World) (nt : Nat) (at' next : Int) (regs : List RD) (vs : List Value) (gs : List Nat) (tv gv : Value) : Prop where
 bel : Below w0.heap.size w0 w
 geM : w0.heap.size ≤ K.gm
 geF : w0.heap.size ≤ K.gf
 mac : MachAt w K.gm (K.m nt tv)
 cal : CallAt w K.gf (K.c at' next gv (regs.map RD.sd))
 tsk : w.heap[K.gt]? = some (.cells K.ta 145)
 row : w.heap[K.gk]? = some (.cells K.ka 97)
 cha : w.heap[K.gch]? = some (.chan 0 #[] false 0 0 false)
 gu : ORow w w0.heap.size 319 1 vC gv vs
 tb : ORow w w0.heap.size 292 1 pC tv gs
 sh : ∀ g ∈ gs,w.heap[g]? = some ShO
 lg : gs.length = nt
 lr : regs.length = 250
structure MKok (K : MK) : Prop where
 cells : K.m0.cells = 9
 living : K.m0.living = 0
def wr (K : MK) (tv gv : Value) : List Nat:=K.gm :: K.gf :: (gv.ownBlock.toList ++ tv.ownBlock.toList)
theorem ne_chan {w : World} {g g' : Nat} {a : Array Value} {t : TypeId} {c : Nat} {b : Array Value} {x : Bool} {s r : Nat} {y : Bool} (h : w.heap[g]? = some (.cells a t)) (h' : w.heap[g']? = some (.chan c b x s r y)) : g' ≠ g:=by
 rintro rfl
 rw [h] at h'
 cases h'
theorem own_blk {α : Type} {w : World} {B : Nat} {et : TypeId} {k : Nat} {cells : α→List Value} {sv : Value} {xs : List α} (ho : ORow w B et k cells sv xs) {g : Nat} (h : sv.ownBlock = some g) : B ≤ g∧∃ cur,w.heap[g]? = some (.cells cur et):=by
 rcases ho.2 with ⟨e1,_⟩ | ⟨g0,c0,cur,e1,e2,e3,_⟩
 ·rw [e1] at h; cases h
 ·rw [e1] at h
  have e' : g0 = g:=Option.some.inj h
  subst e'
  exact ⟨e2,cur,e3⟩
theorem MX.wrTy {w0 : World} {K : MK} {w : World} {nt : Nat} {at' next : Int} {regs : List RD} {vs : List Value} {gs : List Nat} {tv gv : Value} (h : MX w0 K w nt at' next regs vs gs tv gv) : ∀ g ∈ wr K tv gv,w0.heap.size ≤ g∧∃ a t,w.heap[g]? = some (.cells a t)∧(t = 109 ∨ t = 210 ∨ t = 319 ∨ t = 292):=by
 intro g hg
 simp only [wr,List.mem_cons,List.mem_append,Option.mem_toList] at hg
 rcases hg with rfl | rfl | hg | hg
 ·exact ⟨h.geM,_,_,h.mac,.inl rfl⟩
 ·exact ⟨h.geF,_,_,h.cal,.inr (.inl rfl)⟩
 ·obtain ⟨h1,cur,h2⟩:=own_blk h.gu hg
  exact ⟨h1,_,_,h2,.inr (.inr (.inl rfl))⟩
 ·obtain ⟨h1,cur,h2⟩:=own_blk h.tb hg
  exact ⟨h1,_,_,h2,.inr (.inr (.inr rfl))⟩
theorem MX.stay {w0 : World} {K : MK} {w w' : World} {nt : Nat} {at' next : Int} {regs : List RD} {vs : List Value} {gs : List Nat} {tv gv : Value} (h : MX w0 K w nt at' next regs vs gs tv gv) (hb : ButL (wr K tv gv) w w') :
  Below w0.heap.size w0 w'∧w'.heap[K.gt]? = some (.cells K.ta 145)∧w'.heap[K.gk]? = some (.cells K.ka 97)∧w'.heap[K.gch]? = some (.chan 0 #[] false 0 0 false)∧∀ g ∈ gs,w'.heap[g]? = some ShO:=by
 have hS:=h.wrTy
 have hty : ∀ (q : Nat) (b : Array Value) (u : TypeId),w.heap[q]? = some (.cells b u)→u ≠ 109→u ≠ 210→u ≠ 319→u ≠ 292→w'.heap[q]? = some (.cells b u):=by
  intro q b u hq n1 n2 n3 n4
  refine hb.blk hq (fun hm=>?_)
  obtain ⟨_,a,t,ht,hc⟩:=hS q hm
  rw [hq] at ht
  injection ht with ht
  injection ht with _ ht
  subst ht
  rcases hc with e | e | e | e
  ·exact n1 e
  ·exact n2 e
  ·exact n3 e
  ·exact n4 e
 refine ⟨hb.below h.bel (fun g hg=>(hS g hg).1) h.bel.size,hty _ _ _ h.tsk (by decide) (by decide) (by decide) (by decide),hty _ _ _ h.row (by decide) (by decide) (by decide) (by decide),hb.blk h.cha (fun hm=>?_),fun g hg=>hty _ _ _ (h.sh g hg) (by decide) (by decide) (by decide) (by decide)⟩
 obtain ⟨_,a,t,ht,_⟩:=hS _ hm
 exact ne_chan ht h.cha rfl
end Go.Proofs.YtjglgbepobmjhaaGreatDoor.M
