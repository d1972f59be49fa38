import Derived.Test.YtjglgbepobmjhaaGreatDoorP09
import Derived.Test.YtjglgbepobmjhaaGreatDoorP24
import Derived.LaidEql
import Derived.Test.YtjglgbepobmjhaaGreatDoorP21
import Derived.Test.YtjglgbepobmjhaaGreatDoorP15
import Derived.Deep.CutRange
import Derived.Deep.WholeRow
set_option linter.unusedVariables false
set_option linter.unusedSimpArgs false
set_option maxRecDepth 20000
set_option maxHeartbeats 8000000
namespace Go.Proofs.YtjglgbepobmjhaaGreatDoor.T
open Go.RowKit M
attribute [local go_sem] run_store_float
theorem neq_to (p : Option Addr) (v : Value) (w : World) : (binOp BinOp.neq 60 (.iface 142 (.pointer p)) (.iface 484 v)).run Tryz.prog w = .ok (.bool true) w:=by kernel_rfl
theorem info_of {P : Program} {t : TypeId} (h : (P.info? t).map (·.comparable) = some true) : ∃ i,P.info? t = some i∧i.comparable = true:=by
 cases hq : P.info? t with
 | none=>rw [hq] at h; cases h
 | some i=>rw [hq] at h; exact ⟨i,rfl,by simpa using h⟩
theorem neq_oo (a : Addr) (w : World) : (binOp BinOp.neq 60 (.iface 484 (.pointer (some a))) (.iface 484 (.pointer (some a)))).run Tryz.prog w = .ok (.bool false) w:=by
 obtain ⟨i,hi,hc⟩:=info_of (P:=Tryz.prog) (t:=484) (by kernel_rfl)
 obtain ⟨j,hj,_⟩:=info_of (P:=Tryz.prog) (t:=506) (by kernel_rfl)
 have h:=run_equalIn_iface_ptr_same (P:=Tryz.prog) (w:=w) 9998 a Tryz.underlying60 Tryz.underlying484 hi hc hj
 simp only [binOp]
 simp [Op.equal,Op.maxDepth,h]
theorem ta_scope (v : Value) (w : World) : (Instr.typeAssert (.iface 269 v) 319 274 true).run Tryz.prog w = .ok (.tuple #[.pointer none,.bool false]) w:=by kernel_rfl
theorem ta_catch (v : Value) (w : World) : (Instr.typeAssert (.iface 269 v) 319 269 true).run Tryz.prog w = .ok (.tuple #[v,.bool true]) w:=by kernel_rfl
theorem ta_thrown (v : Value) (w : World) : (Instr.typeAssert (.iface 142 v) 60 142 true).run Tryz.prog w = .ok (.tuple #[v,.bool true]) w:=by kernel_rfl
set_option maxHeartbeats 4000000 in
theorem innermost_any (gf ga cap gn : Nat) (c : CallD) (w : World) (h : CallAt w gf c) (hg : c.guards = .slice (some ⟨ga,0,none⟩) 1 cap) (hcap : 1 ≤ cap) (h0 : w.cell? ⟨ga,0,none⟩ = some (caV gn)) :
  Calls Tryz.prog 206 #[.pointer (some ⟨gf,0,none⟩)] w fun e w'=>e = .returned (caV gn)∧w' = w.drew:=by
 have c12 : w.cell? ⟨gf,12,none⟩ = some (.slice (some ⟨ga,0,none⟩) 1 cap):=by rw [h.cell 12 (by omega),← hg]; rfl
 unfold caV at h0 ⊢
 clear h
 go_enter Tryz.func206,Tryz.ntmps206
 go_wp2_with fail
 go_region
 go_wp2_with fail
 go_ret
 exact ⟨rfl,rfl⟩
set_option maxHeartbeats 4000000 in
theorem leave_over (pm : Value) (gf : Nat) (a : Addr) (w : World) (ho : OvV w (some a)) :
  Calls Tryz.prog 130 #[pm,.pointer (some ⟨gf,0,none⟩),ovI (some a)] w fun e w'=>e = .returned (ovI (some a))∧w' = w:=by
 have hv : w.cell? ⟨2,0,none⟩ = some (.iface 484 (.pointer (some a))):=ho
 have hne:=neq_oo a
 unfold ovI
 clear ho
 go_enter Tryz.func130,Tryz.ntmps130
 go_wp2_with fail
 go_loopw [2] (fun s wr=>s = .iface 484 (.pointer (some a))∧wr = w) (fun _ _=>0)
 case atStart=>exact ⟨rfl,rfl⟩
 case round =>
  obtain ⟨rfl,rfl⟩:=hrel
  go_wp2_with fail
  go_ret
  exact ⟨rfl,rfl⟩
set_option maxHeartbeats 4000000 in
theorem leave_catch (gm gf gn gr ga cap : Nat) (p : Option Addr) (c : CallD) (R : Value) (Q : World→World→Prop) (w : World) (h : CallAt w gf c) (hg : c.guards = .slice (some ⟨ga,0,none⟩) 1 cap) (hcap : 1 ≤ cap) (h0 : w.cell? ⟨ga,0,none⟩ = some (caV gn)) (ho : OvV w p)
  (HH : ∀ w2,ButL [gf] w w2→CallAt w2 gf { c with guards:=.slice (some ⟨ga,0,none⟩) 0 cap }→Calls Tryz.prog 208 #[.pointer (some ⟨gm,0,none⟩),.pointer (some ⟨gf,0,none⟩),.pointer (some ⟨gn,0,none⟩),.pointer (some ⟨gr,0,none⟩)] w2 fun e w'=>e = .returned R∧Q w2 w') :
  Calls Tryz.prog 130 #[.pointer (some ⟨gm,0,none⟩),.pointer (some ⟨gf,0,none⟩),.iface 142 (.pointer (some ⟨gr,0,none⟩))] w fun e w'=>e = .returned R∧∃ w2,ButL [gf] w w2∧CallAt w2 gf { c with guards:=.slice (some ⟨ga,0,none⟩) 0 cap }∧Q w2 w':=by
 have hv : w.cell? ⟨2,0,none⟩ = some (.iface 484 (.pointer p)):=ho
 have hne:=fun W=>neq_to (some ⟨gr,0,none⟩) (.pointer p) W
 have c12 : w.cell? ⟨gf,12,none⟩ = some (.slice (some ⟨ga,0,none⟩) 1 cap):=by rw [h.cell 12 (by omega),← hg]; rfl
 have hts:=fun W=>ta_scope (.pointer (some ⟨gn,0,none⟩)) W
 have htc:=fun W=>ta_catch (.pointer (some ⟨gn,0,none⟩)) W
 have htt:=fun W=>ta_thrown (.pointer (some ⟨gr,0,none⟩)) W
 have HC : Hid (CallAt w gf c):=h
 have H0 : Hid (w.cell? ⟨ga,0,none⟩ = some (caV gn)):=h0
 have HH' : Hid (∀ w2,ButL [gf] w w2→CallAt w2 gf { c with guards:=.slice (some ⟨ga,0,none⟩) 0 cap }→Calls Tryz.prog 208 #[.pointer (some ⟨gm,0,none⟩),.pointer (some ⟨gf,0,none⟩),.pointer (some ⟨gn,0,none⟩),.pointer (some ⟨gr,0,none⟩)] w2 fun e w'=>e = .returned R∧Q w2 w'):=HH
 clear h h0 ho HH
 go_enter Tryz.func130,Tryz.ntmps130
 go_wp2_with fail
 go_loopw [2] (fun s wr=>s = .iface 142 (.pointer (some ⟨gr,0,none⟩))∧wr = w) (fun _ _=>0)
 case atStart=>exact ⟨rfl,rfl⟩
 case round =>
  obtain ⟨rfl,rfl⟩:=hrel
  go_wp2_with fail
  refine (innermost_any gf ga cap gn c _ HC.out hg hcap H0.out).mono ?_
  rintro e w1 ⟨rfl,rfl⟩
  unfold caV
  go_wp2_with fail
  refine (takeOff_any gf 0 cap (some ⟨ga,0,none⟩) c wr.drew HC.out hg (by omega) (by omega)).mono ?_
  rintro e w2 ⟨rfl,hc2,hb2⟩
  have HB2 : Hid (ButL [gf] wr w2):=⟨hb2.os,hb2.tape,hb2.output,hb2.size,hb2.block⟩
  have HC2 : Hid (CallAt w2 gf { c with guards:=.slice (some ⟨ga,0,none⟩) 0 cap }):=hc2
  clear hc2 hb2
  go_wp2_with fail
  refine (HH'.out w2 HB2.out HC2.out).mono ?_
  rintro e w3 ⟨rfl,hq⟩
  have HQ3 : Hid (Q w2 w3):=hq
  clear hq
  go_wp2_with fail
  go_ret
  exact ⟨rfl,w2,HB2.out,HC2.out,HQ3.out⟩
end Go.Proofs.YtjglgbepobmjhaaGreatDoor.T
namespace Go.Proofs.YtjglgbepobmjhaaGreatDoor.T
open Go.RowKit M
attribute [local go_sem] run_store_float
set_option maxHeartbeats 4000000 in
theorem doLoad_const (pm : Value) (g i cb co cn ccap : Nat) (v : VD) (n : ID) (c : CallD) (w : World) (h : CallAt w g c) (hr : c.regs.length = 250) (hop : n.op = 4) (ha : n.a = i) (hi : i < 250) (hb0 : n.b = 0)
  (hcon : c.consts = .slice (some ⟨cb,co,none⟩) (cn + 1) ccap) (hlt : cb < w.heap.size) (hcv : ∀ j u,v.cells[j]? = some u→w.cell? ⟨cb,co + j,none⟩ = some u) :
  Calls Tryz.prog 81 #[pm,.pointer (some ⟨g,0,none⟩),insV n] w fun e w'=>e = .returned .nilIface∧CallAt w' g { c with regs:=c.regs.set i (sdV v) }∧ButL [g] w w':=by
 obtain ⟨op,a,b,cc,d⟩:=n
 dsimp only [insV] at hop ha hb0 ⊢
 subst hop ha hb0
 obtain ⟨W,hW⟩ : ∃ W,(w.alloc (InO ⟨4,i,0,cc,d⟩)).alloc ZvO = W:=⟨_,rfl⟩
 have hb : Below w.heap.size w W:=by rw [← hW]; exact bw2 _ _ _
 have b0 : W.heap[w.heap.size]? = some (InO ⟨4,i,0,cc,d⟩):=by rw [← hW]; exact blk_old (blk_new _ _) _
 have b1 : W.heap[w.heap.size + 1]? = some ZvO:=by rw [← hW]; exact blk_newn (by simp) _
 have h':=h.later hb
 have hgl:=blk_lt h
 have c7 : W.cell? ⟨g,7,none⟩ = some (.slice (some ⟨cb,co,none⟩) (cn + 1) ccap):=by rw [h'.cell 7 (by omega),← hcon]; rfl
 have d0 : W.cell? ⟨w.heap.size,0,none⟩ = some (.int .i64 4):=by rw [blk_cell b0]; rfl
 have d1 : W.cell? ⟨w.heap.size,1,none⟩ = some (.int .i64 (i : Int)):=by rw [blk_cell b0]; rfl
 have d2 : W.cell? ⟨w.heap.size,2,none⟩ = some (.int .i64 0):=by rw [blk_cell b0]; rfl
 have r0 : W.cell? ⟨w.heap.size + 1,0,none⟩ = some (.int .i64 0):=by rw [blk_cell b1]; rfl
 have r1 : W.cell? ⟨w.heap.size + 1,1,none⟩ = some (.int .i64 0):=by rw [blk_cell b1]; rfl
 have r2 : W.cell? ⟨w.heap.size + 1,2,none⟩ = some (.float .f64 0):=by rw [blk_cell b1]; rfl
 have r3 : W.cell? ⟨w.heap.size + 1,3,none⟩ = some (.string ⟨#[]⟩):=by rw [blk_cell b1]; rfl
 have r4 : W.cell? ⟨w.heap.size + 1,4,none⟩ = some (.int .i64 0):=by rw [blk_cell b1]; rfl
 have z1:=blk_frozen b1
 have k0 : W.cell? ⟨cb,co,none⟩ = some (.int .i64 v.k):=cell_later hb (hcv 0 _ rfl)
 have k1 : W.cell? ⟨cb,co + 1,none⟩ = some (.int .i64 v.n):=cell_later hb (hcv 1 _ rfl)
 have k2 : W.cell? ⟨cb,co + 2,none⟩ = some (.float .f64 v.f):=cell_later hb (hcv 2 _ rfl)
 have k3 : W.cell? ⟨cb,co + 3,none⟩ = some (.string v.s):=cell_later hb (hcv 3 _ rfl)
 have k4 : W.cell? ⟨cb,co + 4,none⟩ = some (.int .i64 v.r):=cell_later hb (hcv 4 _ rfl)
 have hne : w.heap.size + 1 ≠ g:=by omega
 obtain ⟨W5,hW5⟩ : ∃ W5,((((W.setCell ⟨w.heap.size + 1,0,none⟩ (.int .i64 v.k)).setCell ⟨w.heap.size + 1,1,none⟩ (.int .i64 v.n)).setCell ⟨w.heap.size + 1,2,none⟩ (.float .f64 v.f)).setCell ⟨w.heap.size + 1,3,none⟩ (.string v.s)).setCell ⟨w.heap.size + 1,4,none⟩ (.int .i64 v.r) = W5:=⟨_,rfl⟩
 have hb5 : W5.heap[w.heap.size + 1]? = some (.cells #[.int .i64 v.k,.int .i64 v.n,.float .f64 v.f,.string v.s,.int .i64 v.r] 70):=by
  rw [← hW5]
  exact blk_set (blk_set (blk_set (blk_set (blk_set b1 0 _) 1 _) 2 _) 3 _) 4 _
 have hc5 : CallAt W5 g c:=by rw [← hW5]; exact blk5 h' hne _ _ _ _ _
 have hi5 : W5.heap[w.heap.size]? = some (InO ⟨4,i,0,cc,d⟩):=by rw [← hW5]; exact blk5 b0 (by omega) _ _ _ _ _
 have hx5 : ButL [g] w W5:=by rw [← hW5]; exact but5 (ButL.of_below hb) (by omega) _ _ _ _ _
 have e0 : W5.cell? ⟨w.heap.size + 1,0,none⟩ = some (.int .i64 v.k):=by rw [blk_cell hb5]; rfl
 have e1 : W5.cell? ⟨w.heap.size + 1,1,none⟩ = some (.int .i64 v.n):=by rw [blk_cell hb5]; rfl
 have e2 : W5.cell? ⟨w.heap.size + 1,2,none⟩ = some (.float .f64 v.f):=by rw [blk_cell hb5]; rfl
 have e3 : W5.cell? ⟨w.heap.size + 1,3,none⟩ = some (.string v.s):=by rw [blk_cell hb5]; rfl
 have e4 : W5.cell? ⟨w.heap.size + 1,4,none⟩ = some (.int .i64 v.r):=by rw [blk_cell hb5]; rfl
 have e5 : W5.cell? ⟨w.heap.size,1,none⟩ = some (.int .i64 (i : Int)):=by rw [blk_cell hi5]; rfl
 have HC5 : Hid (CallAt W5 g c):=hc5
 have HX5 : Hid (ButL [g] w W5):=hx5
 have hcp : (0 : Int) < (cn : Int) + 1:=by omega
 clear h h' hb b0 b1 hb5 hc5 hi5 hx5 hcv
 go_enter Tryz.func81,Tryz.ntmps81
 go_wp2_with fail
 clear hW
 go_region
 clear r0 r1 r2 r3 r4 k0 k1 k2 k3 k4 d0 d1 d2 z1 c7
 go_wp2_with fail
 refine (put_any g i v c W5.drew HC5.out hr hi).mono ?_
 rintro e w6 ⟨rfl,hc6,hb6⟩
 have HC6 : Hid _:=hc6
 have HB6 : Hid _:=hb6
 clear hc6 hb6
 go_wp2_with fail
 go_ret
 exact ⟨rfl,HC6.out,HX5.out.drew.trans HB6.out⟩
end Go.Proofs.YtjglgbepobmjhaaGreatDoor.T
namespace Go.Proofs.YtjglgbepobmjhaaGreatDoor
open Go.RowKit
def tabL {α : Type} (n : Nat) (f : Nat→α) : List α:=(List.range n).map f
theorem tabL_len {α : Type} (n : Nat) (f : Nat→α) : (tabL n f).length = n:=by simp [tabL]
theorem tabL_at {α : Type} (n : Nat) (f : Nat→α) (i : Nat) : (tabL n f)[i]? = if i < n then some (f i) else none:=by
 unfold tabL
 rw [List.getElem?_map]
 by_cases h : i < n
 ·rw [List.getElem?_range h,if_pos h]; rfl
 ·rw [List.getElem?_eq_none (by simpa using Nat.le_of_not_lt h),if_neg h]; rfl
theorem tabL_getD {α : Type} (n : Nat) (f : Nat→α) (i : Nat) (d : α) : (tabL n f).getD i d = if i < n then f i else d:=by
 rw [List.getD_eq_getElem?_getD,tabL_at]; split <;> rfl
theorem tabL_set {α : Type} (n : Nat) (f : Nat→α) (i : Nat) (x : α) : (tabL n f).set i x = tabL n (fun j=>if j = i then x else f j):=by
 apply List.ext_getElem?
 intro j
 rw [List.getElem?_set,tabL_at,tabL_at,tabL_len]
 by_cases h : i = j
 ·subst h; simp
 ·simp [h,Ne.symm h]
theorem tabL_ext {α : Type} {n : Nat} {f g : Nat→α} (h : ∀ i,i < n→f i = g i) : tabL n f = tabL n g:=by
 apply List.ext_getElem?
 intro j
 rw [tabL_at,tabL_at]
 split
 ·rw [h j (by assumption)]
 ·rfl
theorem tabL_succ {α : Type} (n : Nat) (f : Nat→α) : tabL (n + 1) f = tabL n f ++ [f n]:=by
 unfold tabL
 rw [List.range_succ,List.map_append]; rfl
def tin (i : Nat) : ID :=
 if i = 0 then ⟨4,0,0,0,0⟩ else if i = 1 then ⟨3,0,0,0,0⟩
 else if i % 4 = 2 then ⟨31,(i : Int) + 2,4,0,0⟩ else if i % 4 = 3 then ⟨30,0,0,0,0⟩
 else if i % 4 = 0 then ⟨42,4,0,0,0⟩ else ⟨42,5,0,0,0⟩
def tinK (k i : Nat) : ID:=if i = 2 + 4 * k then ⟨19,1,0,0,0⟩ else tin i
def throwsI (k : Nat) : List ID:=tabL (3 + 4 * k) (tinK k)
def seven : VD:=⟨2,7,0,ByteArray.empty,0⟩
def throwsD (k : Nat) : FD:=⟨⟨#[109,97,105,110]⟩,0,0,false,8,[],[seven],throwsI k,[]⟩
def tst (i : Nat) : SD :=
 if i = 0 then ⟨[0,0,0,0,0,0,0,0],[]⟩ else if i = 1 then ⟨[1,0,0,0,0,0,0,0],[]⟩
 else if i % 4 = 2 then ⟨[1,0,0,0,0,0,0,0],[]⟩ else if i % 4 = 3 then ⟨[1,0,0,0,0,0,0,0],[⟨true,4,(i : Int) + 1⟩]⟩
 else if i % 4 = 0 then ⟨[1,0,0,0,1,1,0,0],[]⟩ else ⟨[1,0,0,0,0,1,0,0],[]⟩
def wst (n m : Nat) (d : Nat→Bool) : WkS:=⟨tabL n (fun i=>if i ≤ m then some (tst i) else none),tabL n d⟩
theorem wst_reach {n m : Nat} {d : Nat→Bool} (t : Nat) (ht : t = m + 1) (hn : t < n) : reachW (wst n m d) t (tst t) = some (wst n t (fun j=>if j = t then true else d j)):=by
 subst ht
 unfold reachW wst
 simp only [tabL_getD,if_pos hn,if_neg (show ¬ m + 1 ≤ m by omega)]
 rw [tabL_set,tabL_set]
 congr 2
 apply tabL_ext
 intro i _
 by_cases h : i = m + 1
 ·subst h; simp
 ·by_cases h2 : i ≤ m
  ·simp [h,h2,show i ≤ m + 1 by omega]
  ·simp [h,h2,show ¬ i ≤ m + 1 by omega]
theorem wst_again {n m : Nat} {d : Nat→Bool} (t : Nat) (x : SD) (hx : x = tst t) (ht : t ≤ m) (hn : t < n) : reachW (wst n m d) t x = some (wst n m d):=by
 subst hx
 unfold reachW
 rw [show (wst n m d).st.getD t none = some (tst t) by unfold wst; simp only [tabL_getD,if_pos hn,if_pos ht]]
 simp only [(sEq_iff _ _).2 rfl,if_true]
theorem wst_off {n m : Nat} {d : Nat→Bool} (a : Nat) : (⟨(wst n m d).st,(wst n m d).due.set a false⟩ : WkS) = wst n m (fun j=>if j = a then false else d j):=by
 unfold wst
 rw [tabL_set]
theorem wst_get {n m : Nat} {d : Nat→Bool} (a : Nat) (ha : a ≤ m) (hn : a < n) : (wst n m d).st.getD a none = some (tst a):=by
 unfold wst; simp only [tabL_getD,if_pos hn,if_pos ha]
theorem wst_least {n m : Nat} {d : Nat→Bool} (a : Nat) (hn : a < n) (h1 : d a = true) (h2 : ∀ b,b < a→d b = false) : IsLeast (wst n m d).due a:=by
 refine ⟨by unfold wst; simp only [tabL_at,if_pos hn,h1],fun b hb=>?_⟩
 unfold wst
 simp only [tabL_at,if_pos (Nat.lt_trans hb hn),h2 b hb]
 simp
theorem pass_of {c : List FD} {ins : List ID} {n m : Nat} {d : Nat→Bool} {a : Nat} {y : SD} {s' : WkS} (ha : a ≤ m) (hn : a < n) (hb : behindV c (ins.getD a id0) (tst a) = .ok y)
  (hl : leadW (followV (ins.getD a id0) a (tst a) y) (wst n m (fun j=>if j = a then false else d j)) = .ok s') : passW c ins a (wst n m d) = .ok s':=by
 unfold passW
 rw [wst_get a ha hn]
 simp only [hb,wst_off,hl]
theorem throws_ins {k i : Nat} (h : i < 3 + 4 * k) : (throwsI k).getD i id0 = tinK k i:=by
 unfold throwsI; rw [tabL_getD,if_pos h]
def due1 (m : Nat) (j : Nat) : Bool:=decide (j = m)
theorem throws_block {k b : Nat} (hb : b < k) {r : Except (Nat × Nat) WkS} {q : Nat} (h : Runs [throwsD k] (throwsI k) q (wst (3 + 4 * k) (2 + 4 * (b + 1)) (due1 (2 + 4 * (b + 1)))) r) :
  Runs [throwsD k] (throwsI k) (q + 4) (wst (3 + 4 * k) (2 + 4 * b) (due1 (2 + 4 * b))) r:=by
 have e2 : tst (2 + 4 * b) = ⟨[1,0,0,0,0,0,0,0],[]⟩:=by unfold tst; rw [if_neg (by omega),if_neg (by omega),if_pos (by omega)]
 have e3 : tst (3 + 4 * b) = ⟨[1,0,0,0,0,0,0,0],[⟨true,4,(2 + 4 * b : Nat) + 2⟩]⟩:=by
  unfold tst; rw [if_neg (by omega),if_neg (by omega),if_neg (by omega),if_pos (by omega)]
  congr 3; omega
 have e4 : tst (4 + 4 * b) = ⟨[1,0,0,0,1,1,0,0],[]⟩:=by unfold tst; rw [if_neg (by omega),if_neg (by omega),if_neg (by omega),if_neg (by omega),if_pos (by omega)]
 have e5 : tst (5 + 4 * b) = ⟨[1,0,0,0,0,1,0,0],[]⟩:=by unfold tst; rw [if_neg (by omega),if_neg (by omega),if_neg (by omega),if_neg (by omega),if_neg (by omega)]
 have e6 : tst (2 + 4 * (b + 1)) = ⟨[1,0,0,0,0,0,0,0],[]⟩:=by unfold tst; rw [if_neg (by omega),if_neg (by omega),if_pos (by omega)]
 have i2 : (throwsI k).getD (2 + 4 * b) id0 = ⟨31,(2 + 4 * b : Nat) + 2,4,0,0⟩:=by
  rw [throws_ins (by omega)]; unfold tinK tin; rw [if_neg (by omega),if_neg (by omega),if_neg (by omega),if_pos (by omega)]
 have i3 : (throwsI k).getD (3 + 4 * b) id0 = ⟨30,0,0,0,0⟩:=by
  rw [throws_ins (by omega)]; unfold tinK tin; rw [if_neg (by omega),if_neg (by omega),if_neg (by omega),if_neg (by omega),if_pos (by omega)]
 have i4 : (throwsI k).getD (4 + 4 * b) id0 = ⟨42,4,0,0,0⟩:=by
  rw [throws_ins (by omega)]; unfold tinK tin; rw [if_neg (by omega),if_neg (by omega),if_neg (by omega),if_neg (by omega),if_neg (by omega),if_pos (by omega)]
 have i5 : (throwsI k).getD (5 + 4 * b) id0 = ⟨42,5,0,0,0⟩:=by
  rw [throws_ins (by omega)]; unfold tinK tin; rw [if_neg (by omega),if_neg (by omega),if_neg (by omega),if_neg (by omega),if_neg (by omega),if_neg (by omega)]
 refine ⟨2 + 4 * b,wst (3 + 4 * k) (4 + 4 * b) (fun j=>decide (j = 3 + 4 * b) || decide (j = 4 + 4 * b)),wst_least _ (by omega) (by simp [due1]) (fun x hx=>by simp [due1] <;> omega),?_,?_⟩
 ·refine pass_of (y:=tst (3 + 4 * b)) (by omega) (by omega) (by rw [i2,e2,e3]; rfl) ?_
  rw [i2,e2]
  have hf : followV ⟨31,(2 + 4 * b : Nat) + 2,4,0,0⟩ (2 + 4 * b) ⟨[1,0,0,0,0,0,0,0],[]⟩ (tst (3 + 4 * b)) = [(3 + 4 * b,tst (3 + 4 * b)),(4 + 4 * b,tst (4 + 4 * b))]:=by
   rw [e4]
   unfold followV
   rw [show goesV 31 = true from rfl,show targetV ⟨31,(2 + 4 * b : Nat) + 2,4,0,0⟩ = some (4 + 4 * b) by unfold targetV; rw [if_pos (by simp)]; congr 1; simp only []; omega]
   simp only [if_true,List.singleton_append]
   rw [show 2 + 4 * b + 1 = 3 + 4 * b by omega]
   rfl
  rw [hf]
  unfold leadW
  simp only []
  rw [wst_reach _ (by omega) (by omega)]
  unfold leadW
  simp only []
  rw [wst_reach _ (by omega) (by omega)]
  unfold leadW
  show Except.ok _ = Except.ok _
  congr 2
  funext j
  simp only [due1]
  by_cases h1 : j = 4 + 4 * b
  ·simp [h1]
  ·by_cases h2 : j = 3 + 4 * b
   ·simp [h2]
   ·by_cases h3 : j = 2 + 4 * b
    ·simp [h3] <;> omega
    ·simp [h1,h2,h3]
 refine ⟨3 + 4 * b,wst (3 + 4 * k) (4 + 4 * b) (due1 (4 + 4 * b)),wst_least _ (by omega) (by simp) (fun x hx=>by simp <;> omega),?_,?_⟩
 ·refine pass_of (y:=tst (3 + 4 * b)) (by omega) (by omega) (by rw [i3,e3]; rfl) ?_
  rw [i3]
  rw [show followV ⟨30,0,0,0,0⟩ (3 + 4 * b) (tst (3 + 4 * b)) (tst (3 + 4 * b)) = [] from rfl]
  unfold leadW
  show Except.ok _ = Except.ok _
  congr 2
  funext j
  simp only [due1]
  by_cases h1 : j = 3 + 4 * b
  ·simp [h1]
  ·simp [h1]
 refine ⟨4 + 4 * b,wst (3 + 4 * k) (5 + 4 * b) (due1 (5 + 4 * b)),wst_least _ (by omega) (by simp [due1]) (fun x hx=>by simp [due1] <;> omega),?_,?_⟩
 ·refine pass_of (y:=tst (5 + 4 * b)) (by omega) (by omega) (by rw [i4,e4,e5]; rfl) ?_
  rw [i4]
  rw [show followV ⟨42,4,0,0,0⟩ (4 + 4 * b) (tst (4 + 4 * b)) (tst (5 + 4 * b)) = [(5 + 4 * b,tst (5 + 4 * b))] by
   rw [show 5 + 4 * b = 4 + 4 * b + 1 by omega]; rfl]
  unfold leadW
  simp only []
  rw [wst_reach _ (by omega) (by omega)]
  unfold leadW
  show Except.ok _ = Except.ok _
  congr 2
  funext j
  simp only [due1]
  by_cases h1 : j = 5 + 4 * b
  ·simp [h1]
  ·by_cases h2 : j = 4 + 4 * b
   ·simp [h2] <;> omega
   ·simp [h1,h2]
 refine ⟨5 + 4 * b,_,wst_least _ (by omega) (by simp [due1]) (fun x hx=>by simp [due1] <;> omega),?_,h⟩
 ·refine pass_of (y:=tst (2 + 4 * (b + 1))) (by omega) (by omega) (by rw [i5,e5,e6]; rfl) ?_
  rw [i5]
  rw [show followV ⟨42,5,0,0,0⟩ (5 + 4 * b) (tst (5 + 4 * b)) (tst (2 + 4 * (b + 1))) = [(2 + 4 * (b + 1),tst (2 + 4 * (b + 1)))] by
   rw [show 2 + 4 * (b + 1) = 5 + 4 * b + 1 by omega]; rfl]
  unfold leadW
  simp only []
  rw [wst_reach _ (by omega) (by omega)]
  unfold leadW
  show Except.ok _ = Except.ok _
  congr 2
  funext j
  simp only [due1]
  by_cases h1 : j = 2 + 4 * (b + 1)
  ·simp [h1]
  ·by_cases h2 : j = 5 + 4 * b
   ·simp [h2] <;> omega
   ·simp [h1,h2]
theorem throws_start (k : Nat) : startS (throwsD k) = wst (3 + 4 * k) 0 (due1 0):=by
 unfold startS wst
 have hl : (throwsD k).ins.length = 3 + 4 * k:=tabL_len _ _
 rw [hl]
 congr 1
 ·apply List.ext_getElem?
  intro j
  rw [tabL_at]
  cases j with
  | zero=>simp [tst,throwsD,startT]
  | succ j =>
   rw [List.getElem?_cons_succ,List.getElem?_replicate]
   by_cases h : j < 3 + 4 * k - 1
   ·rw [if_pos h,if_pos (by omega),if_neg (by omega)]
   ·rw [if_neg h,if_neg (by omega)]
 ·apply List.ext_getElem?
  intro j
  rw [tabL_at]
  cases j with
  | zero=>simp [due1]
  | succ j =>
   rw [List.getElem?_cons_succ,List.getElem?_replicate]
   by_cases h : j < 3 + 4 * k - 1
   ·rw [if_pos h,if_pos (by omega)]; simp [due1]
   ·rw [if_neg h,if_neg (by omega)]
theorem throws_runs (k : Nat) : ∃ q s,Runs [throwsD k] (throwsI k) q (startS (throwsD k)) (.ok s):=by
 have hend : Runs [throwsD k] (throwsI k) 1 (wst (3 + 4 * k) (2 + 4 * k) (due1 (2 + 4 * k))) (.ok (wst (3 + 4 * k) (2 + 4 * k) (fun _=>false))):=by
  have e2 : tst (2 + 4 * k) = ⟨[1,0,0,0,0,0,0,0],[]⟩:=by unfold tst; rw [if_neg (by omega),if_neg (by omega),if_pos (by omega)]
  have i2 : (throwsI k).getD (2 + 4 * k) id0 = ⟨19,1,0,0,0⟩:=by rw [throws_ins (by omega)]; unfold tinK; rw [if_pos rfl]
  refine ⟨2 + 4 * k,_,wst_least _ (by omega) (by simp [due1]) (fun x hx=>by simp [due1] <;> omega),?_,.inl ⟨fun b=>?_,rfl⟩⟩
  ·refine pass_of (y:=tst 1) (by omega) (by omega) (by rw [i2,e2]; rfl) ?_
   rw [i2,show followV ⟨19,1,0,0,0⟩ (2 + 4 * k) (tst (2 + 4 * k)) (tst 1) = [(1,tst 1)] from rfl]
   unfold leadW
   simp only []
   rw [wst_again 1 _ rfl (by omega) (by omega)]
   unfold leadW
   show Except.ok _ = Except.ok _
   congr 2
   funext j
   simp only [due1]
   by_cases h1 : j = 2 + 4 * k
   ·simp [h1]
   ·simp [h1]
  ·unfold wst
   simp only [tabL_at]
   split <;> simp
 have hmid : ∀ d b : Nat,b + d = k→∃ q,Runs [throwsD k] (throwsI k) q (wst (3 + 4 * k) (2 + 4 * b) (due1 (2 + 4 * b))) (.ok (wst (3 + 4 * k) (2 + 4 * k) (fun _=>false))):=by
  intro d
  induction d with
  | zero=>intro b hb; obtain rfl : b = k:=by omega
          exact ⟨1,hend⟩
  | succ d ih =>
   intro b hb
   obtain ⟨q,hq⟩:=ih (b + 1) (by omega)
   exact ⟨_,throws_block (by omega) hq⟩
 obtain ⟨q,hq⟩:=hmid k 0 (by omega)
 have i0 : (throwsI k).getD 0 id0 = ⟨4,0,0,0,0⟩:=by rw [throws_ins (by omega)]; unfold tinK; rw [if_neg (by omega)]; rfl
 have i1 : (throwsI k).getD 1 id0 = ⟨3,0,0,0,0⟩:=by rw [throws_ins (by omega)]; unfold tinK; rw [if_neg (by omega)]; rfl
 refine ⟨q + 2,wst (3 + 4 * k) (2 + 4 * k) (fun _=>false),?_⟩
 rw [throws_start]
 refine ⟨0,wst (3 + 4 * k) 1 (due1 1),wst_least _ (by omega) (by simp [due1]) (fun x hx=>by omega),?_,1,_,wst_least _ (by omega) (by simp [due1]) (fun x hx=>by simp [due1] <;> omega),?_,hq⟩
 ·refine pass_of (y:=tst 1) (by omega) (by omega) (by rw [i0]; rfl) ?_
  rw [i0,show followV ⟨4,0,0,0,0⟩ 0 (tst 0) (tst 1) = [(1,tst 1)] from rfl]
  unfold leadW
  simp only []
  rw [wst_reach 1 (by omega) (by omega)]
  unfold leadW
  show Except.ok _ = Except.ok _
  congr 2
  funext j
  simp only [due1]
  by_cases h1 : j = 1
  ·simp [h1]
  ·by_cases h2 : j = 0
   ·simp [h2]
   ·simp [h1,h2]
 ·refine pass_of (y:=tst 2) (by omega) (by omega) (by rw [i1]; rfl) ?_
  rw [i1,show followV ⟨3,0,0,0,0⟩ 1 (tst 1) (tst 2) = [(2,tst 2)] from rfl]
  unfold leadW
  simp only []
  rw [wst_reach 2 (by omega) (by omega)]
  unfold leadW
  show Except.ok _ = Except.ok _
  congr 2
  funext j
  simp only [due1]
  by_cases h1 : j = 2
  ·simp [h1]
  ·by_cases h2 : j = 1
   ·simp [h2]
   ·simp [h1,h2]
theorem rank_rn {E : Nat→List Nat} {rk : Nat→Nat} (h : ∀ x,∀ y ∈ E x,rk x < rk y) : ∀ {n x y : Nat},TJ.RN E n x y→rk x ≤ rk y
 | 0,x,y,hr=>by cases (show x = y from hr); exact Nat.le_refl _
 | n + 1,x,y,hr=>by
  obtain ⟨z,h1,h2⟩:=hr
  have:=h x z h1
  have:=rank_rn h h2
  omega
theorem rank_cyc {E : Nat→List Nat} {rk : Nat→Nat} (h : ∀ x,∀ y ∈ E x,rk x < rk y) (x : Nat) : ¬ TJ.Cyc E x:=by
 rintro ⟨y,h1,n,hn⟩
 have:=h x y h1
 have:=rank_rn h hn
 omega
theorem throws_ee (k : Nat) : ∀ x,∀ y ∈ EE (throwsD k) x,(if x = 1 then 3 + 4 * k else x) < (if y = 1 then 3 + 4 * k else y):=by
 intro x y hy
 unfold EE at hy
 by_cases hx : x < 3 + 4 * k
 ·rw [show (throwsD k).ins.getD x id0 = tinK k x from throws_ins hx] at hy
  unfold tinK at hy
  split at hy
  ·obtain rfl : y = 1:=by simpa [silS] using hy
   rw [if_neg (by omega),if_pos rfl]
   omega
  unfold tin at hy
  split at hy
  ·obtain rfl : y = x + 1:=by simpa [silS] using hy
   split <;> split <;> omega
  split at hy
  ·simp [silS] at hy
  split at hy
  ·have : y = x + 2 ∨ y = x + 1:=by
    have h0 : y = ((x : Int) + 2).toNat ∨ y = x + 1:=by simpa [silS] using hy
    omega
   split <;> split <;> omega
  split at hy
  ·simp [silS] at hy
  split at hy
  ·obtain rfl : y = x + 1:=by simpa [silS] using hy
   split <;> split <;> omega
  ·obtain rfl : y = x + 1:=by simpa [silS] using hy
   split <;> split <;> omega
 ·rw [show (throwsD k).ins.getD x id0 = id0 by
   show (throwsI k).getD x id0 = id0
   unfold throwsI; rw [tabL_getD,if_neg hx]] at hy
  obtain rfl : y = x + 1:=by simpa [silS,id0] using hy
  split <;> split <;> omega
theorem ff_all {α : Type} {ok : Nat→α→Bool} : ∀ {xs : List α} {i : Nat},(∀ j x,xs[j]? = some x→ok (i + j) x = true)→ff ok xs i = none
 | [],i,h=>rfl
 | x :: xs,i,h=>by
  unfold ff
  rw [if_pos (by simpa using h 0 x rfl)]
  exact ff_all fun j y hj=>by
   have:=h (j + 1) y (by simpa using hj)
   rwa [show i + (j + 1) = i + 1 + j by omega] at this
theorem f6i_skip {c : List FD} {p : Nat} {f : FD} : ∀ {ns : List ID} {i : Nat} {made : List Bool},(∀ n ∈ ns,n.op ≠ 11)→f6i c p f ns i made = (none,made)
 | [],i,made,h=>rfl
 | n :: ns,i,made,h=>by
  unfold f6i
  rw [if_neg (h n (by simp))]
  exact f6i_skip fun m hm=>h m (by simp [hm])
theorem throws_fields {k i : Nat} (hk : k ≤ 250) (hi : i < 3 + 4 * k) : insB 1 (throwsD k) i (tinK k i) = true:=by
 have hl : (throwsD k).ins.length = 3 + 4 * k:=tabL_len _ _
 unfold insB
 rw [hl]
 unfold tinK
 split
 ·subst_vars
  simp [fieldsB,fitsB,lohi,rl,rolesL,roleT,inR,hl,endsB]
  omega
 ·rename_i hn
  have hlast : (i + 1 == 3 + 4 * k) = false:=by simp; omega
  rw [hlast]
  unfold tin
  split
  ·simp [fieldsB,fitsB,lohi,rl,rolesL,roleT,inR,hl,throwsD]
  split
  ·simp [fieldsB,fitsB,lohi,rl,rolesL,roleT,inR,hl,throwsD]
  split
  ·simp [fieldsB,fitsB,lohi,rl,rolesL,roleT,inR,hl,throwsD]
   have:=tabL_len (3 + 4 * k) (tinK k)
   simp only [throwsI,this]
   omega
  split
  ·simp [fieldsB,fitsB,lohi,rl,rolesL,roleT,inR,hl,throwsD]
  split
  ·simp [fieldsB,fitsB,lohi,rl,rolesL,roleT,inR,hl,throwsD]
  ·simp [fieldsB,fitsB,lohi,rl,rolesL,roleT,inR,hl,throwsD]
theorem throws_op {k i : Nat} : (tinK k i).op ≠ 11:=by
 unfold tinK tin
 repeat' split
 all_goals simp
theorem throws_shape {k : Nat} (hk : k ≤ 250) : shapeV [throwsD k] = (0,0,0):=by
 have hl : (throwsD k).ins.length = 3 + 4 * k:=tabL_len _ _
 have h0 : fp hd0 [throwsD k] 0 = none:=by simp [fp,hd0,headB,throwsD,inR]; rfl
 have h1 : fp co0 [throwsD k] 0 = none:=by
  unfold fp co0
  rw [show ff (fun _=>constB) (throwsD k).consts 0 = none by
   show ff (fun _=>constB) [seven] 0 = none
   decide +kernel]
  rfl
 have h2 : fp na0 [throwsD k] 0 = none:=rfl
 have h3 : fp (in0 [throwsD k].length) [throwsD k] 0 = none:=by
  unfold fp in0
  rw [hl,if_neg (by omega),ff_all (fun j x hj=>by
   have hj' : (tabL (3 + 4 * k) (tinK k))[j]? = some x:=hj
   rw [tabL_at] at hj'
   split at hj'
   ·cases hj'
    rw [Nat.zero_add]
    exact throws_fields hk (by assumption)
   ·cases hj')]
  rfl
 have hp : partsV [throwsD k] = (0,0,0):=by
  unfold partsV
  rw [if_neg (by simp [total,hl]; omega),h0,h1,h2,h3]
 unfold shapeV
 rw [hp,if_pos rfl]
 unfold fnsV f6
 rw [f6i_skip (fun n hn=>by
  obtain ⟨i,_,rfl⟩:=List.mem_map.1 (show n ∈ (List.range (3 + 4 * k)).map (tinK k) from hn)
  exact throws_op)]
 rfl
end Go.Proofs.YtjglgbepobmjhaaGreatDoor
namespace Go.Proofs.YtjglgbepobmjhaaGreatDoor.M
open Go.RowKit
attribute [local go_sem] run_store_float
def instA : Array Value:=instT.toArray
def buiA : Array Value:=buiT.toArray
theorem wpList_store_new {P : Program} {w : World} {ops : Array Oper} {rest : List Oper} {o : Oper} {a : Act} {Q : Exit→Act→World→Prop} (hgd : o.guard = none) (t : TypeId) (x y : Operand) (ho : o.op = .store t x y) (c c' : Array Value)
  (hx : a.eval x = .pointer (some ⟨w.heap.size,0,none⟩)) (hy : a.eval y = .agg c') (hi : (P.info? t).map (·.size) = some c'.size) (hs : c.size = c'.size) (h1 : c'.all (·.oneCell') = true)
  (h : wpList P ops Q rest (a.put o.dst undef) (w.alloc (.cells c' t))) : wpList P ops Q (o :: rest) a (w.alloc (.cells c t)) :=
 wpList_plain hgd fun _ hK=>by
  unfold Oper.wp
  simp only [execOp,ho,hx,hy,Sem.run_bind,run_storeAt_new w t c c' hi hs h1,Result.andThen_ok,Sem.run_pure,Oper.upon_skip]
  exact hK _ _ h
theorem results_new {P : Program} {fn : Func} {w : World} {tmps : Array Value} (k : Nat) (t : TypeId) (c : Array Value) (n : Nat) (e : TypeId) (hres : fn.results = #[.cell k t]) (hk : tmps.getD k undef = .pointer (some ⟨w.heap.size,0,none⟩)) (hu : P.underlying t = some (.array n e)) (hi : (P.info? t).map (·.size) = some c.size) :
  (results fn tmps).run P (w.alloc (.cells c t)) = .ok (.agg c) (w.alloc (.cells c t)):=by
 have hl:=run_loadVar_new (P:=P) w t c n e hu hi
 have hk' : tmps[k]?.getD undef = .pointer (some ⟨w.heap.size,0,none⟩):=by rw [← hk]; simp [Array.getD_eq_getD_getElem?]
 simp [results,hres,hk',asAddr,hl,Result.andThen]
theorem built_any (w : World) : Calls Tryz.prog 46 #[] w fun e w'=>e = .returned (.agg buiA)∧Below w.heap.size w w':=by
 go_enter Tryz.func46,Tryz.ntmps46
 go_wp2_with (refine wpList_store_new rfl 93 _ _ rfl _ _ rfl rfl (by kernel_rfl) (by kernel_rfl) (by kernel_rfl) ?_)
 exact bodyPost_ret (v:=.agg buiA) (results_new 0 93 _ 15 92 Tryz.results46 rfl Tryz.underlying93 (by kernel_rfl)) rfl ⟨rfl,bw1 _ _⟩
theorem instr_any (w : World) : Calls Tryz.prog 45 #[] w fun e w'=>e = .returned (.agg instA)∧Below w.heap.size w w':=by
 go_enter Tryz.func45,Tryz.ntmps45
 go_wp2_with (refine wpList_store_new rfl 89 _ _ rfl _ _ rfl rfl (by kernel_rfl) (by kernel_rfl) (by kernel_rfl) ?_)
 exact bodyPost_ret (v:=.agg instA) (results_new 0 89 _ 43 88 Tryz.results45 rfl Tryz.underlying89 (by kernel_rfl)) rfl ⟨rfl,bw1 _ _⟩
attribute [irreducible] instA buiA
end Go.Proofs.YtjglgbepobmjhaaGreatDoor.M
