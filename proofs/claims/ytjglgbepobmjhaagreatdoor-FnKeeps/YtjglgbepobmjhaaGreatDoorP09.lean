import Derived.Test.YtjglgbepobmjhaaGreatDoorP08
import Derived.Test.YtjglgbepobmjhaaGreatDoorP02
import Derived.Test.YtjglgbepobmjhaaGreatDoorP07
import Derived.Deep.CutRange
import Derived.Deep.RegionLaw
set_option linter.unusedVariables false
set_option linter.unusedSimpArgs false
set_option maxRecDepth 20000
set_option maxHeartbeats 8000000
namespace Go.Proofs.YtjglgbepobmjhaaGreatDoor.M
open Go.RowKit
attribute [local go_sem] run_store_float
def insV (n : ID) : Value:=.agg #[.int .i64 n.op,.int .i64 n.a,.int .i64 n.b,.int .i64 n.c,.int .i64 n.d]
abbrev InO (n : ID) : Obj:=.cells #[.int .i64 n.op,.int .i64 n.a,.int .i64 n.b,.int .i64 n.c,.int .i64 n.d] 47
set_option maxHeartbeats 4000000 in
theorem doList_any (pm : Value) (g i : Nat) (n : ID) (c : CallD) (w : World) (h : CallAt w g c) (hr : c.regs.length = 250) (hi : i < 250) (ha : n.a = i) :
  Calls Tryz.prog 94 #[pm,.pointer (some ⟨g,0,none⟩),insV n] w fun e w'=>e = .returned .nilIface∧CallAt w' g { c with regs:=c.regs.set i (sdL (.slice none 0 0)) }∧ButL [g] w w':=by
 obtain ⟨op,a,b,cc,d⟩:=n
 dsimp only [insV] at ha ⊢
 subst ha
 have HB : Hid _:=bw1 w (InO ⟨op,i,b,cc,d⟩)
 have HC : Hid (CallAt (w.alloc (InO ⟨op,i,b,cc,d⟩)) g c):=h.later HB.out
 clear h
 go_enter Tryz.func94,Tryz.ntmps94
 go_wp2_with fail
 refine (putList_any g i 0 0 none c _ HC.out hr hi).mono ?_
 rintro e w1 ⟨rfl,h1,hb1⟩
 have H1 : Hid _:=h1
 have HB1 : Hid _:=hb1
 clear h1 hb1
 go_wp2_with fail
 go_ret
 exact ⟨rfl,H1.out,(ButL.of_below HB.out).trans HB1.out⟩
set_option maxHeartbeats 4000000 in
theorem doEndTry_any (pm : Value) (g m cap : Nat) (a0 : Option Addr) (n : ID) (c : CallD) (w : World) (h : CallAt w g c) (hg : c.guards = .slice a0 (m + 1) cap) (hcap : m + 1 ≤ cap) (hm : m ≤ 1000) :
  Calls Tryz.prog 101 #[pm,.pointer (some ⟨g,0,none⟩),insV n] w fun e w'=>e = .returned .nilIface∧CallAt w' g { c with guards:=.slice a0 m cap }∧ButL [g] w w':=by
 obtain ⟨op,a,b,cc,d⟩:=n
 dsimp only [insV]
 have HB : Hid _:=bw1 w (InO ⟨op,a,b,cc,d⟩)
 have HC : Hid (CallAt (w.alloc (InO ⟨op,a,b,cc,d⟩)) g c):=h.later HB.out
 clear h
 go_enter Tryz.func101,Tryz.ntmps101
 go_wp2_with fail
 refine (takeOff_any g m cap a0 c _ HC.out hg hcap hm).mono ?_
 rintro e w1 ⟨rfl,h1,hb1⟩
 have H1 : Hid _:=h1
 have HB1 : Hid _:=hb1
 clear h1 hb1
 go_wp2_with fail
 go_ret
 exact ⟨rfl,H1.out,(ButL.of_below HB.out).trans HB1.out⟩
set_option maxHeartbeats 4000000 in
theorem doJump_any (pm : Value) (g : Nat) (n : ID) (c : CallD) (w : World) (h : CallAt w g c) (hop : n.op = 19) :
  Calls Tryz.prog 93 #[pm,.pointer (some ⟨g,0,none⟩),insV n] w fun e w'=>e = .returned .nilIface∧CallAt w' g { c with next:=n.a }∧ButL [g] w w':=by
 obtain ⟨op,a,b,cc,d⟩:=n
 dsimp only [insV] at hop ⊢
 subst hop
 obtain ⟨W,hW⟩ : ∃ W,w.alloc (InO ⟨19,a,b,cc,d⟩) = W:=⟨_,rfl⟩
 have hb:=bw1 w (InO ⟨19,a,b,cc,d⟩)
 have bn:=blk_new w (InO ⟨19,a,b,cc,d⟩)
 rw [hW] at hb bn
 have h' : CallAt W g c:=h.later hb
 have c10 : W.cell? ⟨g,10,none⟩ = some (.int .i64 c.next):=by rw [h'.cell 10 (by omega)]; rfl
 have z:=blk_frozen h'
 have d0 : W.cell? ⟨w.heap.size,0,none⟩ = some (.int .i64 19):=by rw [blk_cell bn]; rfl
 have d1 : W.cell? ⟨w.heap.size,1,none⟩ = some (.int .i64 a):=by rw [blk_cell bn]; rfl
 have HC : Hid (CallAt W g c):=h'
 have HB : Hid (ButL [g] w W):=ButL.of_below hb
 clear h h' hb bn
 go_enter Tryz.func93,Tryz.ntmps93
 go_wp2_with fail
 go_ret
 refine ⟨rfl,?_,HB.out.set (by simp) _ _⟩
 have:=blk_set HC.out 10 (.int .i64 a)
 rw [CallD.set_next] at this
 exact this
set_option maxHeartbeats 4000000 in
theorem doDrop_any (pm : Value) (g i : Nat) (n : ID) (c : CallD) (w : World) (h : CallAt w g c) (hr : c.regs.length = 250) (hi : i < 250) (ha : n.a = i) :
  Calls Tryz.prog 110 #[pm,.pointer (some ⟨g,0,none⟩),insV n] w fun e w'=>e = .returned .nilIface∧CallAt w' g { c with regs:=c.regs.set i sd0 }∧ButL [g] w w':=by
 obtain ⟨op,a,b,cc,d⟩:=n
 dsimp only [insV] at ha ⊢
 subst ha
 obtain ⟨W,hW⟩ : ∃ W,w.alloc (InO ⟨op,i,b,cc,d⟩) = W:=⟨_,rfl⟩
 have hb:=bw1 w (InO ⟨op,i,b,cc,d⟩)
 have bn:=blk_new w (InO ⟨op,i,b,cc,d⟩)
 rw [hW] at hb bn
 have h' : CallAt W g c:=h.later hb
 obtain ⟨s,hs⟩ : ∃ s,c.regs[i]? = some s:=⟨c.regs[i]'(by omega),by simp⟩
 have c0 : W.cell? ⟨g,14 + i * 8,none⟩ = some (.int .i64 s.h):=by have:=h'.reg hs (j:=0) rfl; simpa using this
 have c1 : W.cell? ⟨g,14 + i * 8 + 1,none⟩ = some (.int .i64 s.v.k):=by have:=h'.reg hs (j:=1) rfl; rwa [← Nat.add_assoc] at this
 have c2 : W.cell? ⟨g,14 + i * 8 + 2,none⟩ = some (.int .i64 s.v.n):=by have:=h'.reg hs (j:=2) rfl; rwa [← Nat.add_assoc] at this
 have c3 : W.cell? ⟨g,14 + i * 8 + 3,none⟩ = some (.float .f64 s.v.f):=by have:=h'.reg hs (j:=3) rfl; rwa [← Nat.add_assoc] at this
 have c4 : W.cell? ⟨g,14 + i * 8 + 4,none⟩ = some (.string s.v.s):=by have:=h'.reg hs (j:=4) rfl; rwa [← Nat.add_assoc] at this
 have c5 : W.cell? ⟨g,14 + i * 8 + 5,none⟩ = some (.int .i64 s.v.r):=by have:=h'.reg hs (j:=5) rfl; rwa [← Nat.add_assoc] at this
 have c6 : W.cell? ⟨g,14 + i * 8 + 6,none⟩ = some s.b:=by have:=h'.reg hs (j:=6) rfl; rwa [← Nat.add_assoc] at this
 have c7 : W.cell? ⟨g,14 + i * 8 + 7,none⟩ = some s.l:=by have:=h'.reg hs (j:=7) rfl; rwa [← Nat.add_assoc] at this
 have z:=blk_frozen h'
 have d1 : W.cell? ⟨w.heap.size,1,none⟩ = some (.int .i64 (i : Int)):=by rw [blk_cell bn]; rfl
 have HC : Hid (CallAt W g c):=h'
 have HB : Hid (ButL [g] w W):=ButL.of_below hb
 clear h h' hb bn
 go_enter Tryz.func110,Tryz.ntmps110
 go_wp2_with fail
 clear hW
 go_region
 go_wp2_with fail
 go_ret
 exact ⟨rfl,(HC.out.set8 (by omega) sd0).drew,(but8 HB.out (.inl (by simp)) sd0).drew⟩
theorem run_fldL (h0 : Int) (v : VD) (pb la : Option Addr) (ln lc : Nat) (w : World) : (Instr.field 207 (.agg #[.int .i64 h0,.int .i64 v.k,.int .i64 v.n,.float .f64 v.f,.string v.s,.int .i64 v.r,.pointer pb,.slice la ln lc]) 3).run Tryz.prog w = .ok (.slice la ln lc) w:=by kernel_rfl
set_option maxHeartbeats 4000000 in
theorem list_neg (g i : Nat) (x : Int) (h0 : Int) (v : VD) (pb la : Option Addr) (ln lc : Nat) (c : CallD) (w : World) (h : CallAt w g c) (hr : c.regs.length = 250) (hi : i < 250) (hx : x < 0) (hxi : -1 - x = (i : Int)) (hs : c.regs[i]? = some ⟨h0,v,.pointer pb,.slice la ln lc⟩) :
  Calls Tryz.prog 168 #[.pointer (some ⟨g,0,none⟩),.int .i64 x] w fun e w'=>e = .returned (.slice la ln lc)∧CallAt w' g { c with regs:=c.regs.set i sd0 }∧ButL [g] w w':=by
 have hx0 : ¬ (0 : Int) ≤ x:=by omega
 have hF:=run_fldL h0 v pb la ln lc
 have HC : Hid (CallAt w g c):=h
 clear h
 go_enter Tryz.func168,Tryz.ntmps168
 go_wp2_with fail
 refine (operand_neg g i x h0 v pb la ln lc c _ HC.out hr hi hx hxi hs).mono ?_
 rintro e w1 ⟨rfl,h1,hb1⟩
 have H1 : Hid _:=h1
 have HB1 : Hid _:=hb1
 clear h1 hb1
 go_wp2_with fail
 go_ret
 exact ⟨rfl,H1.out,HB1.out⟩
set_option maxHeartbeats 4000000 in
theorem doReturn_any (pm : Value) (g i : Nat) (n : ID) (h0 : Int) (v : VD) (pb la : Option Addr) (ln lc : Nat) (c : CallD) (w : World) (h : CallAt w g c) (hr : c.regs.length = 250) (hi : i < 250) (hx : n.a < 0) (hxi : -1 - n.a = (i : Int)) (hs : c.regs[i]? = some ⟨h0,v,.pointer pb,.slice la ln lc⟩) :
  Calls Tryz.prog 98 #[pm,.pointer (some ⟨g,0,none⟩),insV n] w fun e w'=>∃ gr,e = .returned (.iface 154 (.pointer (some ⟨gr,0,none⟩)))∧w.heap.size ≤ gr∧w'.heap[gr]? = some (.cells #[.slice la ln lc] 156)∧CallAt w' g { c with regs:=c.regs.set i sd0 }∧ButL [g] w w':=by
 obtain ⟨op,a,b,cc,d⟩:=n
 dsimp only [insV] at hx hxi ⊢
 have HB : Hid _:=bw1 w (InO ⟨op,a,b,cc,d⟩)
 have HC : Hid (CallAt (w.alloc (InO ⟨op,a,b,cc,d⟩)) g c):=h.later HB.out
 clear h
 go_enter Tryz.func98,Tryz.ntmps98
 go_wp2_with fail
 refine (list_neg g i a h0 v pb la ln lc c _ HC.out hr hi hx hxi hs).mono ?_
 rintro e w1 ⟨rfl,h1,hb1⟩
 have H1 : Hid _:=h1
 have HB1 : Hid _:=(ButL.of_below HB.out).trans hb1
 clear h1 hb1
 go_wp2_with fail
 go_ret
 refine ⟨w1.heap.size,rfl,HB1.out.size,blk_new _ _,CallAt.later H1.out (bw1 _ _),HB1.out.alloc _⟩
end Go.Proofs.YtjglgbepobmjhaaGreatDoor.M
namespace Go.Proofs.YtjglgbepobmjhaaGreatDoor
open Go.RowKit
theorem above_keep {gs : List GD} {k : Int} (hk : 0 ≤ k) : aboveB gs k = !decide (k < keepV gs):=by
 have h:=keep_le gs 0 k
 rw [Bool.eq_iff_iff]
 unfold keepV aboveB
 simp only [List.all_eq_true,Bool.not_eq_true',Bool.and_eq_false_imp,decide_eq_false_iff_not,Int.not_lt]
 rw [h]
 exact ⟨fun q=>⟨hk,q⟩,fun q=>q.2⟩
theorem keepV_drop {gs : List GD} {g : GD} (h : gs.getLast? = some g) (ht : g.t = false) : keepV gs.dropLast = keepV gs:=by
 obtain ⟨ys,rfl⟩:=List.getLast?_eq_some_iff.1 h
 rw [List.dropLast_concat]
 unfold keepV
 rw [List.foldl_append]
 simp [ht]
def GZ (gs : List GD) : Prop:=∀ g ∈ gs,g.t = false→g.h = 0
theorem GZ.drop {gs : List GD} (h : GZ gs) : GZ gs.dropLast:=fun g hg=>h g (List.dropLast_subset _ hg)
theorem GZ.app {gs : List GD} (h : GZ gs) {g : GD} (hg : g.t = false→g.h = 0) : GZ (gs ++ [g]):=fun x hx=>by
 rcases List.mem_append.1 hx with hx | hx
 ·exact h x hx
 ·simp at hx; subst hx; exact hg
theorem changeV_gz {n : ID} {gs gs' : List GD} (h : GZ gs) (hc : changeV n gs = some gs') : GZ gs':=by
 unfold changeV at hc
 repeat' split at hc
 all_goals first
  | (cases hc; done)
  | (cases hc; exact h)
  | (cases hc; exact h.drop)
  | (cases hc; exact h.app (fun _=>Eq.refl (0 : Int)))
  | (cases hc; exact h.app (fun e=>Bool.noConfusion e))
  | (cases hc; rename_i g hg hq; exact h.drop.app (fun _=>h g (List.mem_of_getLast? hg) hq.1))
def withV (g : GD) (gs : List GD) : Option (List GD):=if gs.length < 50∧keepV gs ≤ g.k then some (gs ++ [g]) else none
def GA (w : World) (gv : Value) (gs : List GD) : Prop:=∃ a cap,gv = .slice a gs.length cap∧gs.length ≤ cap∧SlA w 3 GD.cells a gs∧∀ b off,gs ≠ []→a = some ⟨b,off,none⟩→∃ cur,w.heap[b]? = some (.cells cur 172)
theorem GA.of_own {w : World} {B : Nat} {gv : Value} {gs : List GD} (h : ORow w B 172 3 GD.cells gv gs) : GA w gv gs:=by
 obtain ⟨a,cap,e,hs⟩:=h.lies GD.len
 rcases h.2 with ⟨e1,e2⟩ | ⟨g,c,cur,e1,_,e3,e4,_⟩
 ·have e':=e
  rw [e1] at e'
  injection e' with q1 q2 q3
  refine ⟨a,cap,e,by omega,hs,fun b off hne ea=>?_⟩
  rw [ea] at q1; cases q1
 ·have e':=e
  rw [e1] at e'
  injection e' with q1 q2 q3
  refine ⟨a,cap,e,by omega,hs,fun b off _ ea=>?_⟩
  rw [ea] at q1; cases q1; exact ⟨cur,e3⟩
theorem GA.nil (w : World) : GA w (.slice none 0 0) []:=⟨none,0,rfl,Nat.le_refl _,SlA.nil _ _ _ _,fun b off hne=>absurd rfl hne⟩
theorem SlA.but' {α : Type} {S : List Nat} {w w' : World} {k : Nat} {cells : α→List Value} {a : Option Addr} {xs : List α} (h : SlA w k cells a xs) (hS : ∀ b off,xs ≠ []→a = some ⟨b,off,none⟩→b ∉ S) (hb : ButL S w w') : SlA w' k cells a xs:=by
 intro i x hx
 obtain ⟨b,off,e,hl,hc⟩:=h i x hx
 have hn : b ∉ S:=hS b off (by rintro rfl; simp at hx) e
 refine ⟨b,off,e,Nat.lt_of_lt_of_le hl hb.size,fun j v hv=>?_⟩
 have:=hc j v hv
 unfold World.cell? at this ⊢
 rw [hb.block b hl hn]
 exact this
theorem GA.butl {S : List Nat} {w w' : World} {gv : Value} {gs : List GD} (h : GA w gv gs) (hb : ButL S w w') (hS : ∀ g ∈ S,∀ cur,w.heap[g]? ≠ some (.cells cur 172)) : GA w' gv gs:=by
 obtain ⟨a,cap,e,h0,h1,h2⟩:=h
 have hn : ∀ b off,gs ≠ []→a = some ⟨b,off,none⟩→b ∉ S:=fun b off hne ea hm=>by obtain ⟨cur,hc⟩:=h2 b off hne ea; exact hS b hm cur hc
 exact ⟨a,cap,e,h0,h1.but' hn hb,fun b off hne ea=>by obtain ⟨cur,hc⟩:=h2 b off hne ea; exact ⟨cur,hb.blk hc (hn b off hne ea)⟩⟩
theorem GA.later {w w' : World} {gv : Value} {gs : List GD} (h : GA w gv gs) (hb : Below w.heap.size w w') : GA w' gv gs:=h.butl (S:=[]) (ButL.of_below hb) (fun g hg=>by cases hg)
theorem GA.take {w : World} {a : Option Addr} {n cap : Nat} {gs : List GD} (h : GA w (.slice a n cap) gs) (m : Nat) (hm : m ≤ gs.length) : GA w (.slice a m cap) (gs.take m):=by
 obtain ⟨a',cap',e,h0,h1,h2⟩:=h
 cases e
 refine ⟨a,cap,by rw [List.length_take,Nat.min_eq_left hm],by rw [List.length_take]; omega,?_,fun b off hne ea=>h2 b off (by rintro rfl; simp at hne) ea⟩
 intro i x hx
 rw [List.getElem?_take] at hx
 split at hx
 ·exact h1 i x hx
 ·cases hx
def ChP (o : Option (List GD)) (e : Ending) (w' : World) : Prop:=match o with
 | none=>e = .returned (.tuple #[.slice none 0 0,.bool false])
 | some gs'=>∃ gv',e = .returned (.tuple #[gv',.bool true])∧GA w' gv' gs'
theorem keptBy_v {a : Option Addr} {len cap : Nat} {gs : List GD} {w : World} {k : Int} (hl : gs.length = len) (hp : SlA w 3 GD.cells a gs) (hlen : len ≤ 1048576) (hk : keepV gs = k) :
  Calls Tryz.prog 70 #[.slice a len cap] w fun e w'=>e = .returned (.int .i64 k)∧Below w.heap.size w w':=by
 have h:=keptBy_any a len cap gs w hl hp hlen
 rw [hk] at h
 exact h
theorem push_gd (x : GD) {B nb : Nat} {gs : List GD} {w1 : World} {sv : Value} (ho : ORow w1 B 172 3 GD.cells sv gs) (hn : w1.heap[nb]? = some (.cells #[.bool x.t,.int .i64 x.k,.int .i64 x.h] 172)) (hlen : gs.length ≤ 50) (hB : B ≤ w1.heap.size) :
  ∃ g' cap' w2,(Builtin.append_ #[116,116] 116 #[sv,.slice (some ⟨nb,0,none⟩) 1 1]).run Tryz.prog w1 = .ok (.slice (some ⟨g',0,none⟩) (gs.length + 1) cap') w2 ∧
   Hid (ORow w2 B 172 3 GD.cells (.slice (some ⟨g',0,none⟩) (gs.length + 1) cap') (gs ++ [x]))∧Hid (w1.grownBy w2 sv.ownBlock):=by
 obtain ⟨g',cap',w2,hr,ho2,hg⟩:=ho.app 116 24 Tryz.underlying116 (by kernel_rfl) (by omega) (by omega) x nb 116 hn rfl (by intro u hu; simp [GD.cells] at hu; rcases hu with rfl | rfl | rfl <;> rfl) (by omega) hB
 exact ⟨g',cap',w2,hr,ho2,hg⟩
theorem step_append_run {P : Program} {ops : Array Oper} {o : Oper} {a : Act} {w : World} {K : Act→World→Prop} {Q : Exit→Act→World→Prop} {E : Prop}
  (hg : o.guard = none) (s x : Operand) (t : TypeId) (hop : o.op = Op.call { callee:=Callee.builtin Builtin.append,args:=#[s,x],argTypes:=#[t,t] })
  (sv xv v' : Value) (w' : World) (hs : a.eval s = sv) (hx : a.eval x = xv) (hrun : (Builtin.append_ #[t,t] o.type #[sv,xv]).run P w = .ok v' w') (hK : K (a.put o.dst v') w') :
  if Region.wanted o (yielded ops a.tmps) = true then Oper.wp P o a w K Q else E:=by
 have hw : Region.wanted o (yielded ops a.tmps) = true:=by simp [Region.wanted,hg]
 rw [if_pos hw]
 unfold Oper.wp
 simp [execOp,hop,resolve,invoke,builtin,hs,hx,hrun,Result.andThen]
 exact hK
theorem below_d {w w' : World} (h : Below w.drew.heap.size w.drew w') : Below w.heap.size w w':=⟨h.os,h.tape,h.output,h.size,h.block⟩
theorem below_ad {w w' : World} {o : Obj} (h : Below (w.alloc o).drew.heap.size (w.alloc o).drew w') : Below w.heap.size w w':=(bw1 w o).trans ((below_d h).mono (by simp))
theorem ButL.nil {w w' : World} (h : ButL [] w w') : Below w.heap.size w w':=⟨h.os,h.tape,h.output,h.size,fun k hk=>h.block k hk (by simp)⟩
theorem gwith_any (g : GD) (a : Option Addr) (cap : Nat) (gs : List GD) (w : World) (hp : SlA w 3 GD.cells a gs) (hlen : gs.length ≤ 50) :
  Calls Tryz.prog 149 #[.agg #[.bool g.t,.int .i64 g.k,.int .i64 g.h],.slice a gs.length cap] w fun e w'=>ChP (withV g gs) e w'∧Below w.heap.size w w':=by
 have hy:=bw1 w (.cells #[.bool g.t,.int .i64 g.k,.int .i64 g.h] 172)
 obtain ⟨W1,hW1⟩ : ∃ W1,w.alloc (.cells #[.bool g.t,.int .i64 g.k,.int .i64 g.h] 172) = W1:=⟨_,rfl⟩
 have hbk : W1.heap[w.heap.size]? = some (.cells #[.bool g.t,.int .i64 g.k,.int .i64 g.h] 172):=by rw [← hW1]; exact blk_new _ _
 rw [hW1] at hy
 have HY : Hid (Below w.heap.size w W1):=hy
 have HP : Hid (SlA W1 3 GD.cells a gs):=hp.later hy
 have HBK : Hid (W1.heap[w.heap.size]? = some (.cells #[.bool g.t,.int .i64 g.k,.int .i64 g.h] 172)):=hbk
 have c0 : W1.cell? ⟨w.heap.size,0,none⟩ = some (.bool g.t):=by rw [blk_cell hbk]; rfl
 have c1 : W1.cell? ⟨w.heap.size,1,none⟩ = some (.int .i64 g.k):=by rw [blk_cell hbk]; rfl
 have c2 : W1.cell? ⟨w.heap.size,2,none⟩ = some (.int .i64 g.h):=by rw [blk_cell hbk]; rfl
 clear hp hy hbk
 obtain ⟨kp,hkp⟩ : ∃ kp,keepV gs = kp:=⟨_,rfl⟩
 have HKP : Hid (keepV gs = kp):=hkp
 by_cases hk : gs.length < 50
 ·have t : decide ((50 : Int) ≤ (gs.length : Int)) = false:=by simp; omega
  by_cases hq : g.k < kp
  ·have HV : Hid (withV g gs = none):=by show withV _ _ = _; unfold withV; rw [if_neg (by omega)]
   clear hkp
   go_enter Tryz.func149,Tryz.ntmps149
   go_wp2_with fail
   clear hW1
   have e0:=lat_cell c0
   have e1:=lat_cell c1
   have e2:=lat_cell c2
   haveI:=lat_some W1
   refine wp_region_lat (by kernel_rfl) (by kernel_rfl) ?_
   repeat (go_big_quiet_step ((go_at_call 70; exact lat_calls (keptBy_v rfl (HP.out.later (Lat.below _)) (by omega) HKP.out))))
   refine wpQuiet_nil ?_
   rintro _ ⟨nq,rfl⟩
   go_wp2_with fail
   refine bodyPost_ret (v:=.tuple #[.slice none 0 0,.bool false]) (by simp [results,Tryz.results149,go_sem]) rfl ⟨?_,HY.out.trans (nq.below.mono HY.out.size)⟩
   rw [HV.out]
   exact rfl
  ·have HV : Hid (withV g gs = some (gs ++ [g])):=by show withV _ _ = _; unfold withV; rw [if_pos (by omega)]
   clear hkp
   go_enter Tryz.func149,Tryz.ntmps149
   go_wp2_with fail
   clear hW1
   have e0:=lat_cell c0
   have e1:=lat_cell c1
   have e2:=lat_cell c2
   haveI:=lat_some W1
   refine wp_region_lat (by kernel_rfl) (by kernel_rfl) ?_
   repeat (go_big_quiet_step ((go_at_call 70; exact lat_calls (keptBy_v rfl (HP.out.later (Lat.below _)) (by omega) HKP.out))))
   refine wpQuiet_nil ?_
   rintro _ ⟨nq,rfl⟩
   obtain ⟨w2,hw2⟩ : ∃ w2,nq.wd = w2:=⟨_,rfl⟩
   have hb2 : Below W1.heap.size W1 w2:=hw2 ▸ nq.below
   rw [hw2]
   clear hw2 nq e0 e1 e2 c0 c1 c2
   have HP2 : Hid (SlA w2 3 GD.cells a gs):=HP.out.later hb2
   have hbk:=blk_later hb2 HBK.out
   have HBK2 : Hid _:=hbk
   have c0 : w2.cell? ⟨w.heap.size,0,none⟩ = some (.bool g.t):=by rw [blk_cell hbk]; rfl
   have c1 : w2.cell? ⟨w.heap.size,1,none⟩ = some (.int .i64 g.k):=by rw [blk_cell hbk]; rfl
   have c2 : w2.cell? ⟨w.heap.size,2,none⟩ = some (.int .i64 g.h):=by rw [blk_cell hbk]; rfl
   have HB2 : Hid (Below W1.heap.size W1 w2):=hb2
   clear hbk hb2
   go_wp2_with fail
   go_cut [4,5] from 16 to 20 (fun s4 s5 wx=>s5 = .bool true∧∃ g' cap',s4 = .slice (some ⟨g',0,none⟩) (gs.length + 1) cap'∧Hid (ORow wx w2.heap.size 172 3 GD.cells (.slice (some ⟨g',0,none⟩) (gs.length + 1) cap') (gs ++ [g]))∧Hid (Below w2.heap.size w2 wx))
   case first =>
    go_region_law (first
     | (go_simp; go_at_call 61; refine (clone_gd a gs.length cap gs _ rfl (by first | exact HP2.out.later (Below.refl _ _).drew | exact HP2.out.later (bw1 _ _).drew) (by omega)).mono ?_; rintro e w3 ⟨⟨sv,rfl,ho⟩,hb3⟩; obtain ⟨a1,k1,rfl⟩:=ho.val; have HB3 : Hid (Below w2.heap.size w2 w3):=(by first | exact (below_d hb3) | exact (below_ad hb3)); have HO3 : Hid (ORow w3 w2.heap.size 172 3 GD.cells (.slice a1 gs.length k1) gs):=(by first | exact ho | exact ORow.mono ho (by show w2.heap.size ≤ (w2.alloc _).heap.size; simp)); (first | (have hnb : Hid (w3.heap[w2.heap.size]? = some (.cells #[.bool g.t,.int .i64 g.k,.int .i64 g.h] 172)):=blk_later (below_d hb3) (blk_new _ _)) | skip); have d0:=cell_later HB3.out c0; have d1:=cell_later HB3.out c1; have d2:=cell_later HB3.out c2; clear ho hb3 c0 c1 c2)
     | (first
       | (have hp9:=push_gd g HO3.out hnb.out (by omega) HB3.out.size; obtain ⟨g',cap',w4,hr,ho4,hg4⟩:=hp9; refine step_append_run rfl _ _ _ rfl _ _ _ _ rfl rfl hr ?_; have HB4 : Hid (Below w2.heap.size w2 w4):=ButL.nil (ButL.grown (S:=[]) (ButL.of_below HB3.out) hg4.out (fun b e=>.inr (HO3.out.own_lt e).1)); clear hr hg4)
       | (have hp9:=push_gd g (HO3.out.later (bw1 w3 (.cells #[.bool g.t,.int .i64 g.k,.int .i64 g.h] 172))) (blk_new _ _) (by omega) (by have:=HB3.out.size; simp; omega); obtain ⟨g',cap',w4,hr,ho4,hg4⟩:=hp9; refine step_append_run rfl _ _ _ rfl _ _ _ _ rfl rfl hr ?_; have HB4 : Hid (Below w2.heap.size w2 w4):=ButL.nil (ButL.grown (S:=[]) ((ButL.of_below HB3.out).alloc (.cells #[.bool g.t,.int .i64 g.k,.int .i64 g.h] 172)) hg4.out (fun b e=>.inr (HO3.out.own_lt e).1)); clear hr hg4)))
    all_goals
     go_wp2_with fail
     go_meet
     exact ⟨rfl,g',cap',rfl,ho4,HB4⟩
   case rest =>
    obtain ⟨rfl,g',cap',rfl,ho4,HB4⟩:=hcut
    clear c0 c1 c2
    go_wp2_with fail
    refine bodyPost_ret (v:=.tuple #[.slice (some ⟨g',0,none⟩) (gs.length + 1) cap',.bool true]) (by simp [results,Tryz.results149,go_sem]) rfl ⟨?_,?_⟩
    ·rw [HV.out]
     exact ⟨_,rfl,GA.of_own ho4.out⟩
    ·have h1:=HY.out.trans (HB2.out.mono HY.out.size)
     exact h1.trans (HB4.out.mono h1.size)
 ·have t : decide ((50 : Int) ≤ (gs.length : Int)) = true:=by simp; omega
  have HV : Hid (withV g gs = none):=by show withV _ _ = _; unfold withV; rw [if_neg (by omega)]
  clear hkp
  go_enter Tryz.func149,Tryz.ntmps149
  go_wp2_with fail
  clear hW1
  have e0:=lat_cell c0
  have e1:=lat_cell c1
  have e2:=lat_cell c2
  haveI:=lat_some W1
  refine wp_region_lat (by kernel_rfl) (by kernel_rfl) ?_
  repeat (go_big_quiet_step ((go_at_call 70; exact lat_calls (keptBy_v rfl (HP.out.later (Lat.below _)) (by omega) HKP.out))))
  refine wpQuiet_nil ?_
  rintro _ ⟨nq,rfl⟩
  go_wp2_with fail
  refine bodyPost_ret (v:=.tuple #[.slice none 0 0,.bool false]) (by simp [results,Tryz.results149,go_sem]) rfl ⟨?_,HY.out.trans (nq.below.mono HY.out.size)⟩
  rw [HV.out]
  exact rfl
theorem gwith_e (t : Bool) (k h : Int) {a : Option Addr} {cap : Nat} {gs : List GD} {w : World} {o : Option (List GD)} (hp : SlA w 3 GD.cells a gs) (hlen : gs.length ≤ 50) (ho : withV ⟨t,k,h⟩ gs = o) :
  Calls Tryz.prog 149 #[.agg #[.bool t,.int .i64 k,.int .i64 h],.slice a gs.length cap] w fun e w'=>ChP o e w'∧Below w.heap.size w w':=by
 have h9:=gwith_any ⟨t,k,h⟩ a cap gs w hp hlen
 rw [ho] at h9
 exact h9
end Go.Proofs.YtjglgbepobmjhaaGreatDoor
