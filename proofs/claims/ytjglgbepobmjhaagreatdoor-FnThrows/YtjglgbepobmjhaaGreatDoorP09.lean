import Derived.Test.YtjglgbepobmjhaaGreatDoorP07
import Derived.Test.YtjglgbepobmjhaaGreatDoorP08
import Derived.Test.YtjglgbepobmjhaaGreatDoorP02
import Derived.Deep.CutRange
import Derived.Deep.RegionLaw
import Derived.Test.YtjglgbepobmjhaaGreatDoorP01
set_option linter.unusedVariables false
set_option linter.unusedSimpArgs false
set_option maxRecDepth 20000
set_option maxHeartbeats 8000000
namespace Go.Proofs.YtjglgbepobmjhaaGreatDoor
open Go.RowKit
theorem above_keep {gs : List GD} {k : Int} (hk : 0 ≤ k) : aboveB gs k = !decide (k < keepV gs):=by
 have h:=keep_le gs 0 k
 rw [Bool.eq_iff_iff]
 unfold keepV aboveB
 simp only [List.all_eq_true,Bool.not_eq_true',Bool.and_eq_false_imp,decide_eq_false_iff_not,Int.not_lt]
 rw [h]
 exact ⟨fun q=>⟨hk,q⟩,fun q=>q.2⟩
theorem keepV_drop {gs : List GD} {g : GD} (h : gs.getLast? = some g) (ht : g.t = false) : keepV gs.dropLast = keepV gs:=by
 obtain ⟨ys,rfl⟩:=List.getLast?_eq_some_iff.1 h
 rw [List.dropLast_concat]
 unfold keepV
 rw [List.foldl_append]
 simp [ht]
def GZ (gs : List GD) : Prop:=∀ g ∈ gs,g.t = false→g.h = 0
theorem GZ.drop {gs : List GD} (h : GZ gs) : GZ gs.dropLast:=fun g hg=>h g (List.dropLast_subset _ hg)
theorem GZ.app {gs : List GD} (h : GZ gs) {g : GD} (hg : g.t = false→g.h = 0) : GZ (gs ++ [g]):=fun x hx=>by
 rcases List.mem_append.1 hx with hx | hx
 ·exact h x hx
 ·simp at hx; subst hx; exact hg
theorem changeV_gz {n : ID} {gs gs' : List GD} (h : GZ gs) (hc : changeV n gs = some gs') : GZ gs':=by
 unfold changeV at hc
 repeat' split at hc
 all_goals first
  | (cases hc; done)
  | (cases hc; exact h)
  | (cases hc; exact h.drop)
  | (cases hc; exact h.app (fun _=>Eq.refl (0 : Int)))
  | (cases hc; exact h.app (fun e=>Bool.noConfusion e))
  | (cases hc; rename_i g hg hq; exact h.drop.app (fun _=>h g (List.mem_of_getLast? hg) hq.1))
def withV (g : GD) (gs : List GD) : Option (List GD):=if gs.length < 50∧keepV gs ≤ g.k then some (gs ++ [g]) else none
def GA (w : World) (gv : Value) (gs : List GD) : Prop:=∃ a cap,gv = .slice a gs.length cap∧gs.length ≤ cap∧SlA w 3 GD.cells a gs∧∀ b off,gs ≠ []→a = some ⟨b,off,none⟩→∃ cur,w.heap[b]? = some (.cells cur 172)
theorem GA.of_own {w : World} {B : Nat} {gv : Value} {gs : List GD} (h : ORow w B 172 3 GD.cells gv gs) : GA w gv gs:=by
 obtain ⟨a,cap,e,hs⟩:=h.lies GD.len
 rcases h.2 with ⟨e1,e2⟩ | ⟨g,c,cur,e1,_,e3,e4,_⟩
 ·have e':=e
  rw [e1] at e'
  injection e' with q1 q2 q3
  refine ⟨a,cap,e,by omega,hs,fun b off hne ea=>?_⟩
  rw [ea] at q1; cases q1
 ·have e':=e
  rw [e1] at e'
  injection e' with q1 q2 q3
  refine ⟨a,cap,e,by omega,hs,fun b off _ ea=>?_⟩
  rw [ea] at q1; cases q1; exact ⟨cur,e3⟩
theorem GA.nil (w : World) : GA w (.slice none 0 0) []:=⟨none,0,rfl,Nat.le_refl _,SlA.nil _ _ _ _,fun b off hne=>absurd rfl hne⟩
theorem SlA.but' {α : Type} {S : List Nat} {w w' : World} {k : Nat} {cells : α→List Value} {a : Option Addr} {xs : List α} (h : SlA w k cells a xs) (hS : ∀ b off,xs ≠ []→a = some ⟨b,off,none⟩→b ∉ S) (hb : ButL S w w') : SlA w' k cells a xs:=by
 intro i x hx
 obtain ⟨b,off,e,hl,hc⟩:=h i x hx
 have hn : b ∉ S:=hS b off (by rintro rfl; simp at hx) e
 refine ⟨b,off,e,Nat.lt_of_lt_of_le hl hb.size,fun j v hv=>?_⟩
 have:=hc j v hv
 unfold World.cell? at this ⊢
 rw [hb.block b hl hn]
 exact this
theorem GA.butl {S : List Nat} {w w' : World} {gv : Value} {gs : List GD} (h : GA w gv gs) (hb : ButL S w w') (hS : ∀ g ∈ S,∀ cur,w.heap[g]? ≠ some (.cells cur 172)) : GA w' gv gs:=by
 obtain ⟨a,cap,e,h0,h1,h2⟩:=h
 have hn : ∀ b off,gs ≠ []→a = some ⟨b,off,none⟩→b ∉ S:=fun b off hne ea hm=>by obtain ⟨cur,hc⟩:=h2 b off hne ea; exact hS b hm cur hc
 exact ⟨a,cap,e,h0,h1.but' hn hb,fun b off hne ea=>by obtain ⟨cur,hc⟩:=h2 b off hne ea; exact ⟨cur,hb.blk hc (hn b off hne ea)⟩⟩
theorem GA.later {w w' : World} {gv : Value} {gs : List GD} (h : GA w gv gs) (hb : Below w.heap.size w w') : GA w' gv gs:=h.butl (S:=[]) (ButL.of_below hb) (fun g hg=>by cases hg)
theorem GA.take {w : World} {a : Option Addr} {n cap : Nat} {gs : List GD} (h : GA w (.slice a n cap) gs) (m : Nat) (hm : m ≤ gs.length) : GA w (.slice a m cap) (gs.take m):=by
 obtain ⟨a',cap',e,h0,h1,h2⟩:=h
 cases e
 refine ⟨a,cap,by rw [List.length_take,Nat.min_eq_left hm],by rw [List.length_take]; omega,?_,fun b off hne ea=>h2 b off (by rintro rfl; simp at hne) ea⟩
 intro i x hx
 rw [List.getElem?_take] at hx
 split at hx
 ·exact h1 i x hx
 ·cases hx
def ChP (o : Option (List GD)) (e : Ending) (w' : World) : Prop:=match o with
 | none=>e = .returned (.tuple #[.slice none 0 0,.bool false])
 | some gs'=>∃ gv',e = .returned (.tuple #[gv',.bool true])∧GA w' gv' gs'
theorem keptBy_v {a : Option Addr} {len cap : Nat} {gs : List GD} {w : World} {k : Int} (hl : gs.length = len) (hp : SlA w 3 GD.cells a gs) (hlen : len ≤ 1048576) (hk : keepV gs = k) :
  Calls Tryz.prog 70 #[.slice a len cap] w fun e w'=>e = .returned (.int .i64 k)∧Below w.heap.size w w':=by
 have h:=keptBy_any a len cap gs w hl hp hlen
 rw [hk] at h
 exact h
theorem push_gd (x : GD) {B nb : Nat} {gs : List GD} {w1 : World} {sv : Value} (ho : ORow w1 B 172 3 GD.cells sv gs) (hn : w1.heap[nb]? = some (.cells #[.bool x.t,.int .i64 x.k,.int .i64 x.h] 172)) (hlen : gs.length ≤ 50) (hB : B ≤ w1.heap.size) :
  ∃ g' cap' w2,(Builtin.append_ #[116,116] 116 #[sv,.slice (some ⟨nb,0,none⟩) 1 1]).run Tryz.prog w1 = .ok (.slice (some ⟨g',0,none⟩) (gs.length + 1) cap') w2 ∧
   Hid (ORow w2 B 172 3 GD.cells (.slice (some ⟨g',0,none⟩) (gs.length + 1) cap') (gs ++ [x]))∧Hid (w1.grownBy w2 sv.ownBlock):=by
 obtain ⟨g',cap',w2,hr,ho2,hg⟩:=ho.app 116 24 Tryz.underlying116 (by kernel_rfl) (by omega) (by omega) x nb 116 hn rfl (by intro u hu; simp [GD.cells] at hu; rcases hu with rfl | rfl | rfl <;> rfl) (by omega) hB
 exact ⟨g',cap',w2,hr,ho2,hg⟩
theorem step_append_run {P : Program} {ops : Array Oper} {o : Oper} {a : Act} {w : World} {K : Act→World→Prop} {Q : Exit→Act→World→Prop} {E : Prop}
  (hg : o.guard = none) (s x : Operand) (t : TypeId) (hop : o.op = Op.call { callee:=Callee.builtin Builtin.append,args:=#[s,x],argTypes:=#[t,t] })
  (sv xv v' : Value) (w' : World) (hs : a.eval s = sv) (hx : a.eval x = xv) (hrun : (Builtin.append_ #[t,t] o.type #[sv,xv]).run P w = .ok v' w') (hK : K (a.put o.dst v') w') :
  if Region.wanted o (yielded ops a.tmps) = true then Oper.wp P o a w K Q else E:=by
 have hw : Region.wanted o (yielded ops a.tmps) = true:=by simp [Region.wanted,hg]
 rw [if_pos hw]
 unfold Oper.wp
 simp [execOp,hop,resolve,invoke,builtin,hs,hx,hrun,Result.andThen]
 exact hK
theorem below_d {w w' : World} (h : Below w.drew.heap.size w.drew w') : Below w.heap.size w w':=⟨h.os,h.tape,h.output,h.size,h.block⟩
theorem below_ad {w w' : World} {o : Obj} (h : Below (w.alloc o).drew.heap.size (w.alloc o).drew w') : Below w.heap.size w w':=(bw1 w o).trans ((below_d h).mono (by simp))
theorem ButL.nil {w w' : World} (h : ButL [] w w') : Below w.heap.size w w':=⟨h.os,h.tape,h.output,h.size,fun k hk=>h.block k hk (by simp)⟩
theorem gwith_any (g : GD) (a : Option Addr) (cap : Nat) (gs : List GD) (w : World) (hp : SlA w 3 GD.cells a gs) (hlen : gs.length ≤ 50) :
  Calls Tryz.prog 149 #[.agg #[.bool g.t,.int .i64 g.k,.int .i64 g.h],.slice a gs.length cap] w fun e w'=>ChP (withV g gs) e w'∧Below w.heap.size w w':=by
 have hy:=bw1 w (.cells #[.bool g.t,.int .i64 g.k,.int .i64 g.h] 172)
 obtain ⟨W1,hW1⟩ : ∃ W1,w.alloc (.cells #[.bool g.t,.int .i64 g.k,.int .i64 g.h] 172) = W1:=⟨_,rfl⟩
 have hbk : W1.heap[w.heap.size]? = some (.cells #[.bool g.t,.int .i64 g.k,.int .i64 g.h] 172):=by rw [← hW1]; exact blk_new _ _
 rw [hW1] at hy
 have HY : Hid (Below w.heap.size w W1):=hy
 have HP : Hid (SlA W1 3 GD.cells a gs):=hp.later hy
 have HBK : Hid (W1.heap[w.heap.size]? = some (.cells #[.bool g.t,.int .i64 g.k,.int .i64 g.h] 172)):=hbk
 have c0 : W1.cell? ⟨w.heap.size,0,none⟩ = some (.bool g.t):=by rw [blk_cell hbk]; rfl
 have c1 : W1.cell? ⟨w.heap.size,1,none⟩ = some (.int .i64 g.k):=by rw [blk_cell hbk]; rfl
 have c2 : W1.cell? ⟨w.heap.size,2,none⟩ = some (.int .i64 g.h):=by rw [blk_cell hbk]; rfl
 clear hp hy hbk
 obtain ⟨kp,hkp⟩ : ∃ kp,keepV gs = kp:=⟨_,rfl⟩
 have HKP : Hid (keepV gs = kp):=hkp
 by_cases hk : gs.length < 50
 ·have t : decide ((50 : Int) ≤ (gs.length : Int)) = false:=by simp; omega
  by_cases hq : g.k < kp
  ·have HV : Hid (withV g gs = none):=by show withV _ _ = _; unfold withV; rw [if_neg (by omega)]
   clear hkp
   go_enter Tryz.func149,Tryz.ntmps149
   go_wp2_with fail
   clear hW1
   have e0:=lat_cell c0
   have e1:=lat_cell c1
   have e2:=lat_cell c2
   haveI:=lat_some W1
   refine wp_region_lat (by kernel_rfl) (by kernel_rfl) ?_
   repeat (go_big_quiet_step ((go_at_call 70; exact lat_calls (keptBy_v rfl (HP.out.later (Lat.below _)) (by omega) HKP.out))))
   refine wpQuiet_nil ?_
   rintro _ ⟨nq,rfl⟩
   go_wp2_with fail
   refine bodyPost_ret (v:=.tuple #[.slice none 0 0,.bool false]) (by simp [results,Tryz.results149,go_sem]) rfl ⟨?_,HY.out.trans (nq.below.mono HY.out.size)⟩
   rw [HV.out]
   exact rfl
  ·have HV : Hid (withV g gs = some (gs ++ [g])):=by show withV _ _ = _; unfold withV; rw [if_pos (by omega)]
   clear hkp
   go_enter Tryz.func149,Tryz.ntmps149
   go_wp2_with fail
   clear hW1
   have e0:=lat_cell c0
   have e1:=lat_cell c1
   have e2:=lat_cell c2
   haveI:=lat_some W1
   refine wp_region_lat (by kernel_rfl) (by kernel_rfl) ?_
   repeat (go_big_quiet_step ((go_at_call 70; exact lat_calls (keptBy_v rfl (HP.out.later (Lat.below _)) (by omega) HKP.out))))
   refine wpQuiet_nil ?_
   rintro _ ⟨nq,rfl⟩
   obtain ⟨w2,hw2⟩ : ∃ w2,nq.wd = w2:=⟨_,rfl⟩
   have hb2 : Below W1.heap.size W1 w2:=hw2 ▸ nq.below
   rw [hw2]
   clear hw2 nq e0 e1 e2 c0 c1 c2
   have HP2 : Hid (SlA w2 3 GD.cells a gs):=HP.out.later hb2
   have hbk:=blk_later hb2 HBK.out
   have HBK2 : Hid _:=hbk
   have c0 : w2.cell? ⟨w.heap.size,0,none⟩ = some (.bool g.t):=by rw [blk_cell hbk]; rfl
   have c1 : w2.cell? ⟨w.heap.size,1,none⟩ = some (.int .i64 g.k):=by rw [blk_cell hbk]; rfl
   have c2 : w2.cell? ⟨w.heap.size,2,none⟩ = some (.int .i64 g.h):=by rw [blk_cell hbk]; rfl
   have HB2 : Hid (Below W1.heap.size W1 w2):=hb2
   clear hbk hb2
   go_wp2_with fail
   go_cut [4,5] from 16 to 20 (fun s4 s5 wx=>s5 = .bool true∧∃ g' cap',s4 = .slice (some ⟨g',0,none⟩) (gs.length + 1) cap'∧Hid (ORow wx w2.heap.size 172 3 GD.cells (.slice (some ⟨g',0,none⟩) (gs.length + 1) cap') (gs ++ [g]))∧Hid (Below w2.heap.size w2 wx))
   case first =>
    go_region_law (first
     | (go_simp; go_at_call 61; refine (clone_gd a gs.length cap gs _ rfl (by first | exact HP2.out.later (Below.refl _ _).drew | exact HP2.out.later (bw1 _ _).drew) (by omega)).mono ?_; rintro e w3 ⟨⟨sv,rfl,ho⟩,hb3⟩; obtain ⟨a1,k1,rfl⟩:=ho.val; have HB3 : Hid (Below w2.heap.size w2 w3):=(by first | exact (below_d hb3) | exact (below_ad hb3)); have HO3 : Hid (ORow w3 w2.heap.size 172 3 GD.cells (.slice a1 gs.length k1) gs):=(by first | exact ho | exact ORow.mono ho (by show w2.heap.size ≤ (w2.alloc _).heap.size; simp)); (first | (have hnb : Hid (w3.heap[w2.heap.size]? = some (.cells #[.bool g.t,.int .i64 g.k,.int .i64 g.h] 172)):=blk_later (below_d hb3) (blk_new _ _)) | skip); have d0:=cell_later HB3.out c0; have d1:=cell_later HB3.out c1; have d2:=cell_later HB3.out c2; clear ho hb3 c0 c1 c2)
     | (first
       | (have hp9:=push_gd g HO3.out hnb.out (by omega) HB3.out.size; obtain ⟨g',cap',w4,hr,ho4,hg4⟩:=hp9; refine step_append_run rfl _ _ _ rfl _ _ _ _ rfl rfl hr ?_; have HB4 : Hid (Below w2.heap.size w2 w4):=ButL.nil (ButL.grown (S:=[]) (ButL.of_below HB3.out) hg4.out (fun b e=>.inr (HO3.out.own_lt e).1)); clear hr hg4)
       | (have hp9:=push_gd g (HO3.out.later (bw1 w3 (.cells #[.bool g.t,.int .i64 g.k,.int .i64 g.h] 172))) (blk_new _ _) (by omega) (by have:=HB3.out.size; simp; omega); obtain ⟨g',cap',w4,hr,ho4,hg4⟩:=hp9; refine step_append_run rfl _ _ _ rfl _ _ _ _ rfl rfl hr ?_; have HB4 : Hid (Below w2.heap.size w2 w4):=ButL.nil (ButL.grown (S:=[]) ((ButL.of_below HB3.out).alloc (.cells #[.bool g.t,.int .i64 g.k,.int .i64 g.h] 172)) hg4.out (fun b e=>.inr (HO3.out.own_lt e).1)); clear hr hg4)))
    all_goals
     go_wp2_with fail
     go_meet
     exact ⟨rfl,g',cap',rfl,ho4,HB4⟩
   case rest =>
    obtain ⟨rfl,g',cap',rfl,ho4,HB4⟩:=hcut
    clear c0 c1 c2
    go_wp2_with fail
    refine bodyPost_ret (v:=.tuple #[.slice (some ⟨g',0,none⟩) (gs.length + 1) cap',.bool true]) (by simp [results,Tryz.results149,go_sem]) rfl ⟨?_,?_⟩
    ·rw [HV.out]
     exact ⟨_,rfl,GA.of_own ho4.out⟩
    ·have h1:=HY.out.trans (HB2.out.mono HY.out.size)
     exact h1.trans (HB4.out.mono h1.size)
 ·have t : decide ((50 : Int) ≤ (gs.length : Int)) = true:=by simp; omega
  have HV : Hid (withV g gs = none):=by show withV _ _ = _; unfold withV; rw [if_neg (by omega)]
  clear hkp
  go_enter Tryz.func149,Tryz.ntmps149
  go_wp2_with fail
  clear hW1
  have e0:=lat_cell c0
  have e1:=lat_cell c1
  have e2:=lat_cell c2
  haveI:=lat_some W1
  refine wp_region_lat (by kernel_rfl) (by kernel_rfl) ?_
  repeat (go_big_quiet_step ((go_at_call 70; exact lat_calls (keptBy_v rfl (HP.out.later (Lat.below _)) (by omega) HKP.out))))
  refine wpQuiet_nil ?_
  rintro _ ⟨nq,rfl⟩
  go_wp2_with fail
  refine bodyPost_ret (v:=.tuple #[.slice none 0 0,.bool false]) (by simp [results,Tryz.results149,go_sem]) rfl ⟨?_,HY.out.trans (nq.below.mono HY.out.size)⟩
  rw [HV.out]
  exact rfl
theorem gwith_e (t : Bool) (k h : Int) {a : Option Addr} {cap : Nat} {gs : List GD} {w : World} {o : Option (List GD)} (hp : SlA w 3 GD.cells a gs) (hlen : gs.length ≤ 50) (ho : withV ⟨t,k,h⟩ gs = o) :
  Calls Tryz.prog 149 #[.agg #[.bool t,.int .i64 k,.int .i64 h],.slice a gs.length cap] w fun e w'=>ChP o e w'∧Below w.heap.size w w':=by
 have h9:=gwith_any ⟨t,k,h⟩ a cap gs w hp hlen
 rw [ho] at h9
 exact h9
end Go.Proofs.YtjglgbepobmjhaaGreatDoor
namespace Go.Proofs.YtjglgbepobmjhaaGreatDoor.M
open Go.RowKit
attribute [local go_sem] run_store_float
def pC (g : Nat) : List Value:=[.pointer (some ⟨g,0,none⟩)]
theorem pC_len (g : Nat) : (pC g).length = 1:=rfl
abbrev ShO : Obj:=.cells #[.int .i64 0,.pointer none,.int .i64 0,.int .i64 0,.float .f64 0,.string ⟨#[]⟩,.int .i64 0] 300
theorem blk5 {W : World} {g q : Nat} {o : Obj} (h : W.heap[g]? = some o) (hne : q ≠ g) (v0 v1 v2 v3 v4 : Value) : (((((W.setCell ⟨q,0,none⟩ v0).setCell ⟨q,1,none⟩ v1).setCell ⟨q,2,none⟩ v2).setCell ⟨q,3,none⟩ v3).setCell ⟨q,4,none⟩ v4).heap[g]? = some o :=
 blk_other (blk_other (blk_other (blk_other (blk_other h hne _ _) hne _ _) hne _ _) hne _ _) hne _ _
theorem but5 {S : List Nat} {w0 W : World} {q : Nat} (h : ButL S w0 W) (hq : w0.heap.size ≤ q) (v0 v1 v2 v3 v4 : Value) : ButL S w0 (((((W.setCell ⟨q,0,none⟩ v0).setCell ⟨q,1,none⟩ v1).setCell ⟨q,2,none⟩ v2).setCell ⟨q,3,none⟩ v3).setCell ⟨q,4,none⟩ v4) :=
 ((((h.setn hq _ _).setn hq _ _).setn hq _ _).setn hq _ _).setn hq _ _
def tabV (n : Nat) : VD:=⟨5,0,0,⟨#[]⟩,n⟩
theorem run_fldV (c k n : Int) (f : Nat) (s : ByteArray) (r : Int) (w : World) : (Instr.field 260 (.agg #[.int .i64 c,.int .i64 k,.int .i64 n,.float .f64 f,.string s,.int .i64 r]) 1).run Tryz.prog w = .ok (.agg #[.int .i64 k,.int .i64 n,.float .f64 f,.string s,.int .i64 r]) w:=by kernel_rfl
end Go.Proofs.YtjglgbepobmjhaaGreatDoor.M
namespace Go.Proofs.YtjglgbepobmjhaaGreatDoor.T
open Go.RowKit M
attribute [local go_sem] run_store_float
set_option maxHeartbeats 1000000 in
theorem small7 (w : World) : Calls Tryz.prog 339 #[.int .i64 7] w fun e w'=>e = .returned (.string ⟨#[55]⟩)∧w' = w:=by
 go_enter Tryz.func339,Tryz.ntmps339
 go_wp2_with fail
 go_ret
 exact ⟨rfl,rfl⟩
set_option maxHeartbeats 1000000 in
theorem small0 (w : World) : Calls Tryz.prog 339 #[.int .i64 0] w fun e w'=>e = .returned (.string ⟨#[48]⟩)∧w' = w:=by
 go_enter Tryz.func339,Tryz.ntmps339
 go_wp2_with fail
 go_ret
 exact ⟨rfl,rfl⟩
set_option maxHeartbeats 1000000 in
theorem format7 (w : World) : Calls Tryz.prog 331 #[.int .i64 7,.int .i64 10] w fun e w'=>e = .returned (.string ⟨#[55]⟩)∧w' = w:=by
 go_enter Tryz.func331,Tryz.ntmps331
 go_wp2_with fail
 refine (small7 _).mono ?_
 rintro e w1 ⟨rfl,rfl⟩
 go_wp2_with fail
 go_ret
 exact ⟨rfl,rfl⟩
set_option maxHeartbeats 1000000 in
theorem format0 (w : World) : Calls Tryz.prog 331 #[.int .i64 0,.int .i64 10] w fun e w'=>e = .returned (.string ⟨#[48]⟩)∧w' = w:=by
 go_enter Tryz.func331,Tryz.ntmps331
 go_wp2_with fail
 refine (small0 _).mono ?_
 rintro e w1 ⟨rfl,rfl⟩
 go_wp2_with fail
 go_ret
 exact ⟨rfl,rfl⟩
set_option maxHeartbeats 1000000 in
theorem iitoa0 (w : World) : Calls Tryz.prog 314 #[.int .i64 0] w fun e w'=>e = .returned (.string ⟨#[48]⟩)∧w' = w:=by
 go_enter Tryz.func314,Tryz.ntmps314
 go_wp2_with fail
 refine (format0 _).mono ?_
 rintro e w1 ⟨rfl,rfl⟩
 go_wp2_with fail
 go_ret
 exact ⟨rfl,rfl⟩
set_option maxHeartbeats 1000000 in
theorem itoa0 (w : World) : Calls Tryz.prog 276 #[.int .i64 0] w fun e w'=>e = .returned (.string ⟨#[48]⟩)∧w' = w:=by
 go_enter Tryz.func276,Tryz.ntmps276
 go_wp2_with fail
 refine (iitoa0 _).mono ?_
 rintro e w1 ⟨rfl,rfl⟩
 go_wp2_with fail
 go_ret
 exact ⟨rfl,rfl⟩
set_option maxHeartbeats 1000000 in
theorem sformat7 (w : World) : Calls Tryz.prog 405 #[.int .i64 7,.int .i64 10] w fun e w'=>e = .returned (.string ⟨#[55]⟩)∧w' = w:=by
 go_enter Tryz.func405,Tryz.ntmps405
 go_wp2_with fail
 refine (format7 _).mono ?_
 rintro e w1 ⟨rfl,rfl⟩
 go_wp2_with fail
 go_ret
 exact ⟨rfl,rfl⟩
set_option maxHeartbeats 1000000 in
theorem text7 (w : World) : Calls Tryz.prog 403 #[.int .i64 7] w fun e w'=>e = .returned (.string ⟨#[55]⟩)∧w' = w:=by
 go_enter Tryz.func403,Tryz.ntmps403
 go_wp2_with fail
 refine (sformat7 _).mono ?_
 rintro e w1 ⟨rfl,rfl⟩
 go_wp2_with fail
 go_ret
 exact ⟨rfl,rfl⟩
theorem m_int_text (d : Nat) (v : Value) (w : World) : (method (d + 1) 326 v "loop.example/punch/impl.text").run Tryz.prog w = .ok (403,v) w:=by kernel_rfl
theorem tm7 : tmV 2 7 0 ⟨#[]⟩ 0 = .iface 326 (.int .i64 7):=by
 have h : vok 2 7 0 ⟨#[]⟩ 0 = true:=by simp [vok,zr,fz]; first | done | rfl | decide
 unfold tmV
 rw [if_neg (by simp [h])]
 simp
attribute [local go_sem] m_int_text
set_option maxHeartbeats 1000000 in
theorem Text7 (w : World) : Calls Tryz.prog 51 #[.agg #[.int .i64 2,.int .i64 7,.float .f64 0,.string ⟨#[]⟩,.int .i64 0]] w fun e w'=>e = .returned (.string ⟨#[55]⟩)∧Below w.heap.size w w':=by
 go_enter Tryz.func51,Tryz.ntmps51
 go_wp2_with fail
 refine (term_any 2 7 0 ⟨#[]⟩ 0 _).mono ?_
 rintro e w1 ⟨rfl,hx⟩
 rw [tm7]
 go_wp2_with (go_at_call 403; refine (text7 _).mono ?_; rintro e w2 ⟨rfl,rfl⟩)
 go_ret
 exact ⟨rfl,(bw1 _ _).trans (hx.mono (by simp))⟩
set_option maxHeartbeats 4000000 in
theorem entry7 (pm : Value) (name : ByteArray) (w : World) : Calls Tryz.prog 132 #[pm,.agg #[.int .i64 2,.int .i64 7,.float .f64 0,.string ⟨#[]⟩,.int .i64 0],.string name] w fun e w'=>e = .returned (.agg #[.int .i64 0,.int .i64 0,.float .f64 0,.string ⟨#[]⟩,.int .i64 0])∧Below w.heap.size w w':=by
 go_enter Tryz.func132,Tryz.ntmps132
 go_wp2_with fail
 exact bodyPost_ret (v:=.agg #[.int .i64 0,.int .i64 0,.float .f64 0,.string ⟨#[]⟩,.int .i64 0]) (by simp [results,Tryz.results132,go_sem]) rfl ⟨rfl,bw2 _ _ _⟩
set_option maxHeartbeats 4000000 in
theorem told7 (pm : Value) (w : World) : Calls Tryz.prog 52 #[pm,.agg #[.int .i64 2,.int .i64 7,.float .f64 0,.string ⟨#[]⟩,.int .i64 0]] w fun e w'=>e = .returned (.string ⟨#[55]⟩)∧Below w.heap.size w w':=by
 obtain ⟨W,hW⟩ : ∃ W,w.alloc (.cells #[.int .i64 2,.int .i64 7,.float .f64 0,.string ⟨#[]⟩,.int .i64 0] 70) = W:=⟨_,rfl⟩
 have hb : Below w.heap.size w W:=by rw [← hW]; exact bw1 _ _
 have bn : W.heap[w.heap.size]? = some (.cells #[.int .i64 2,.int .i64 7,.float .f64 0,.string ⟨#[]⟩,.int .i64 0] 70):=by rw [← hW]; exact blk_new _ _
 have d0 : W.cell? ⟨w.heap.size,0,none⟩ = some (.int .i64 2):=by rw [blk_cell bn]; rfl
 have d1 : W.cell? ⟨w.heap.size,1,none⟩ = some (.int .i64 7):=by rw [blk_cell bn]; rfl
 have d2 : W.cell? ⟨w.heap.size,2,none⟩ = some (.float .f64 0):=by rw [blk_cell bn]; rfl
 have d3 : W.cell? ⟨w.heap.size,3,none⟩ = some (.string ⟨#[]⟩):=by rw [blk_cell bn]; rfl
 have d4 : W.cell? ⟨w.heap.size,4,none⟩ = some (.int .i64 0):=by rw [blk_cell bn]; rfl
 have HB : Hid (Below w.heap.size w W):=hb
 have HN : Hid (W.heap[w.heap.size]? = some (.cells #[.int .i64 2,.int .i64 7,.float .f64 0,.string ⟨#[]⟩,.int .i64 0] 70)):=bn
 clear hb bn
 go_enter Tryz.func52,Tryz.ntmps52
 go_wp2_with fail
 refine (entry7 _ _ _).mono ?_
 rintro e w1 ⟨rfl,hx⟩
 have hb2 : Below W.heap.size W (w1.alloc (.cells #[.int .i64 0,.int .i64 0,.float .f64 0,.string ⟨#[]⟩,.int .i64 0] 70)):=hx.trans ((bw1 _ _).mono hx.size)
 have bn2:=blk_later hb2 HN.out
 have f0 : (w1.alloc (.cells #[.int .i64 0,.int .i64 0,.float .f64 0,.string ⟨#[]⟩,.int .i64 0] 70)).cell? ⟨w.heap.size,0,none⟩ = some (.int .i64 2):=by rw [blk_cell bn2]; rfl
 have f1 : (w1.alloc (.cells #[.int .i64 0,.int .i64 0,.float .f64 0,.string ⟨#[]⟩,.int .i64 0] 70)).cell? ⟨w.heap.size,1,none⟩ = some (.int .i64 7):=by rw [blk_cell bn2]; rfl
 have f2 : (w1.alloc (.cells #[.int .i64 0,.int .i64 0,.float .f64 0,.string ⟨#[]⟩,.int .i64 0] 70)).cell? ⟨w.heap.size,2,none⟩ = some (.float .f64 0):=by rw [blk_cell bn2]; rfl
 have f3 : (w1.alloc (.cells #[.int .i64 0,.int .i64 0,.float .f64 0,.string ⟨#[]⟩,.int .i64 0] 70)).cell? ⟨w.heap.size,3,none⟩ = some (.string ⟨#[]⟩):=by rw [blk_cell bn2]; rfl
 have f4 : (w1.alloc (.cells #[.int .i64 0,.int .i64 0,.float .f64 0,.string ⟨#[]⟩,.int .i64 0] 70)).cell? ⟨w.heap.size,4,none⟩ = some (.int .i64 0):=by rw [blk_cell bn2]; rfl
 have HX : Hid (Below w.heap.size w (w1.alloc (.cells #[.int .i64 0,.int .i64 0,.float .f64 0,.string ⟨#[]⟩,.int .i64 0] 70))):=HB.out.trans (hb2.mono HB.out.size)
 clear hx hb2 bn2 d0 d1 d2 d3 d4 hW
 go_wp2_with fail
 refine (Text7 _).mono ?_
 rintro e w2 ⟨rfl,hx2⟩
 have HX2 : Hid (Below w.heap.size w w2):=HX.out.trans (hx2.mono HX.out.size)
 clear hx2
 go_wp2_with fail
 go_ret
 exact ⟨rfl,HX2.out⟩
end Go.Proofs.YtjglgbepobmjhaaGreatDoor.T
namespace Go.Proofs.YtjglgbepobmjhaaGreatDoor.T
open Go.RowKit M
attribute [local go_sem] run_store_float
def ovI (p : Option Addr) : Value:=.iface 484 (.pointer p)
def OvV (w : World) (p : Option Addr) : Prop:=w.cell? ⟨2,0,none⟩ = some (ovI p)
theorem OvV.later {w w' : World} {p : Option Addr} (h : OvV w p) (hb : Below w.heap.size w w') : OvV w' p:=cell_later hb h
set_option maxHeartbeats 4000000 in
theorem tick_over (g : Nat) (m : MachD) (p : Option Addr) (w : World) (h : MachAt w g m) (ho : OvV w p) (he : m.rticks = m.ticks) :
  Calls Tryz.prog 158 #[.pointer (some ⟨g,0,none⟩)] w fun e w'=>e = .returned (ovI p)∧Below w.heap.size w w':=by
 have c12 : w.cell? ⟨g,12,none⟩ = some (.int .i64 m.ticks):=by rw [h.cell,← he]; rfl
 have c3 : w.cell? ⟨g,3,none⟩ = some (.int .i64 m.ticks):=by rw [h.cell]; rfl
 have c0 : w.cell? ⟨2,0,none⟩ = some (.iface 484 (.pointer p)):=ho
 clear h he ho
 go_enter Tryz.func158,Tryz.ntmps158
 go_wp2_with fail
 go_region
 go_wp2_with fail
 go_ret
 exact ⟨rfl,(Below.refl _ _).drew⟩
set_option maxHeartbeats 4000000 in
theorem tick_go (g : Nat) (m : MachD) (w : World) (h : MachAt w g m) (he : m.rticks < m.ticks) (h0 : 0 ≤ m.rticks) (h1 : m.ticks ≤ 100000) :
  Calls Tryz.prog 158 #[.pointer (some ⟨g,0,none⟩)] w fun e w'=>e = .returned .nilIface∧MachAt w' g { m with rticks:=m.rticks + 1 }∧ButL [g] w w':=by
 have c12 : w.cell? ⟨g,12,none⟩ = some (.int .i64 m.rticks):=by rw [h.cell]; rfl
 have c3 : w.cell? ⟨g,3,none⟩ = some (.int .i64 m.ticks):=by rw [h.cell]; rfl
 have hne : ¬ m.rticks = m.ticks:=by omega
 have z:=blk_frozen h
 have HM : Hid (MachAt w g m):=h
 clear h
 go_enter Tryz.func158,Tryz.ntmps158
 go_wp2_with fail
 go_region
 go_wp2_with fail
 go_ret
 refine ⟨rfl,?_,((ButL.refl _ _).drew).set (by simp) _ _⟩
 have h9:=blk_set (w:=w.drew) HM.out 12 (.int .i64 (m.rticks + 1))
 rw [MachD.set_ticks] at h9
 exact h9
set_option maxHeartbeats 4000000 in
theorem doTick_over (g gf : Nat) (n : ID) (m : MachD) (p : Option Addr) (w : World) (h : MachAt w g m) (ho : OvV w p) (he : m.rticks = m.ticks) :
  Calls Tryz.prog 80 #[.pointer (some ⟨g,0,none⟩),.pointer (some ⟨gf,0,none⟩),insV n] w fun e w'=>e = .returned (ovI p)∧Below w.heap.size w w':=by
 obtain ⟨op,a,b,cc,d⟩:=n
 dsimp only [insV]
 have HB : Hid _:=bw1 w (InO ⟨op,a,b,cc,d⟩)
 have HC : Hid (MachAt (w.alloc (InO ⟨op,a,b,cc,d⟩)) g m):=h.later HB.out
 have HO : Hid (OvV (w.alloc (InO ⟨op,a,b,cc,d⟩)) p):=ho.later HB.out
 clear h ho
 go_enter Tryz.func80,Tryz.ntmps80
 go_wp2_with fail
 refine (tick_over g m p _ HC.out HO.out he).mono ?_
 rintro e w1 ⟨rfl,hb1⟩
 have HB1 : Hid _:=hb1
 clear hb1
 go_wp2_with fail
 go_ret
 exact ⟨rfl,HB.out.trans (HB1.out.mono (by simp))⟩
set_option maxHeartbeats 4000000 in
theorem doTick_go (g gf : Nat) (n : ID) (m : MachD) (w : World) (h : MachAt w g m) (he : m.rticks < m.ticks) (h0 : 0 ≤ m.rticks) (h1 : m.ticks ≤ 100000) :
  Calls Tryz.prog 80 #[.pointer (some ⟨g,0,none⟩),.pointer (some ⟨gf,0,none⟩),insV n] w fun e w'=>e = .returned .nilIface∧MachAt w' g { m with rticks:=m.rticks + 1 }∧ButL [g] w w':=by
 obtain ⟨op,a,b,cc,d⟩:=n
 dsimp only [insV]
 have HB : Hid _:=bw1 w (InO ⟨op,a,b,cc,d⟩)
 have HC : Hid (MachAt (w.alloc (InO ⟨op,a,b,cc,d⟩)) g m):=h.later HB.out
 clear h
 go_enter Tryz.func80,Tryz.ntmps80
 go_wp2_with fail
 refine (tick_go g m _ HC.out he h0 h1).mono ?_
 rintro e w1 ⟨rfl,hm1,hb1⟩
 have HM1 : Hid _:=hm1
 have HB1 : Hid _:=hb1
 clear hb1 hm1
 go_wp2_with fail
 go_ret
 exact ⟨rfl,HM1.out,(ButL.of_below HB.out).trans HB1.out⟩
structure TkAt (w : World) (gt gc gf : Nat) : Prop where
 calls : ∃ cap,w.cell? ⟨gt,8,none⟩ = some (.slice (some ⟨gc,0,none⟩) 1 cap)∧1 ≤ cap
 num : w.cell? ⟨gt,1,none⟩ = some (.int .i64 0)
 call : w.cell? ⟨gc,0,none⟩ = some (.pointer (some ⟨gf,0,none⟩))
set_option maxHeartbeats 4000000 in
theorem topen_any (gt gc gf : Nat) (w : World) (h : TkAt w gt gc gf) :
  Calls Tryz.prog 218 #[.pointer (some ⟨gt,0,none⟩)] w fun e w'=>e = .returned (.pointer (some ⟨gf,0,none⟩))∧∃ n,w' = w.drewN n:=by
 obtain ⟨cap,c8,hcap⟩:=h.calls
 have c0:=h.call
 clear h
 go_enter Tryz.func218,Tryz.ntmps218
 go_wp2_with fail
 go_region
 go_wp2_with fail
 go_ret
 exact ⟨rfl,1,rfl⟩
end Go.Proofs.YtjglgbepobmjhaaGreatDoor.T
namespace Go.Proofs.YtjglgbepobmjhaaGreatDoor.M
open Go.RowKit
attribute [local go_sem] run_store_float
theorem ne_ty {w : World} {g g' : Nat} {a a' : Array Value} {t t' : TypeId} (h : w.heap[g]? = some (.cells a t)) (h' : w.heap[g']? = some (.cells a' t')) (ht : t ≠ t') : g ≠ g':=by
 rintro rfl
 rw [h] at h'
 injection h' with h'
 injection h' with _ h'
 exact ht h'
theorem own_ne {α : Type} {w : World} {B : Nat} {et : TypeId} {k : Nat} {cells : α→List Value} {sv : Value} {xs : List α} (ho : ORow w B et k cells sv xs) {g : Nat} {a : Array Value} {t : TypeId} (h : w.heap[g]? = some (.cells a t)) (ht : t ≠ et) : sv.ownBlock ≠ some g:=by
 intro e
 rcases ho.2 with ⟨e1,_⟩ | ⟨g0,c0,cur,e1,_,e3,_⟩
 ·rw [e1] at e; cases e
 ·rw [e1] at e
  have e' : g0 = g:=Option.some.inj e
  subst e'
  exact ne_ty h e3 ht rfl
theorem _root_.Go.Proofs.YtjglgbepobmjhaaGreatDoor.ButL.undrew {S : List Nat} {w w' : World} (h : ButL S w.drew w') : ButL S w w':=⟨h.os,h.tape,h.output,h.size,h.block⟩
def intD (n : Int) : VD:=⟨2,n,0,⟨#[]⟩,0⟩
end Go.Proofs.YtjglgbepobmjhaaGreatDoor.M
