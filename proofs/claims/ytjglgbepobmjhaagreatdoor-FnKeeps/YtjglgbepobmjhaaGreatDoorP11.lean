import Derived.Test.YtjglgbepobmjhaaGreatDoorP07
import Derived.Test.YtjglgbepobmjhaaGreatDoorP10
import Derived.Test.YtjglgbepobmjhaaGreatDoorP02
import Derived.Deep.CutRange
import Derived.Deep.RegionLaw
import Derived.Test.YtjglgbepobmjhaaGreatDoorP04
import Derived.BigRegion
import Derived.BigQuiet
import Derived.Deep.QuietTactic
set_option linter.unusedVariables false
set_option linter.unusedSimpArgs false
set_option maxRecDepth 20000
set_option maxHeartbeats 8000000
namespace Go.Proofs.YtjglgbepobmjhaaGreatDoor
open Go.RowKit
theorem above_keep {gs:List GD} {k:Int} (hk:0≤k):aboveB gs k=!decide (k<keepV gs):=by
 have h:=keep_le gs 0 k
 rw[Bool.eq_iff_iff]
 unfold keepV aboveB
 simp only[List.all_eq_true,Bool.not_eq_true',Bool.and_eq_false_imp,decide_eq_false_iff_not,Int.not_lt]
 rw[h]
 exact⟨fun q=>⟨hk,q⟩,fun q=>q.2⟩
theorem keepV_drop {gs:List GD} {g:GD} (h:gs.getLast?=some g) (ht:g.t=false):keepV gs.dropLast=keepV gs:=by
 obtain⟨ys,rfl⟩:=List.getLast?_eq_some_iff.1 h
 rw[List.dropLast_concat]
 unfold keepV
 rw[List.foldl_append]
 simp[ht]
def GZ (gs:List GD):Prop:=∀g∈gs,g.t=false→g.h=0
theorem GZ.drop {gs:List GD} (h:GZ gs):GZ gs.dropLast:=fun g hg=>h g (List.dropLast_subset _ hg)
theorem GZ.app {gs:List GD} (h:GZ gs) {g:GD} (hg:g.t=false→g.h=0):GZ (gs++[g]):=fun x hx=>by
 rcases List.mem_append.1 hx with hx | hx
 ·exact h x hx
 ·simp at hx;subst hx;exact hg
theorem changeV_gz {n:ID} {gs gs':List GD} (h:GZ gs) (hc:changeV n gs=some gs'):GZ gs':=by
 unfold changeV at hc
 repeat' split at hc
 all_goals first
  | (cases hc;done)
  | (cases hc;exact h)
  | (cases hc;exact h.drop)
  | (cases hc;exact h.app (fun _=>Eq.refl (0:Int)))
  | (cases hc;exact h.app (fun e=>Bool.noConfusion e))
  | (cases hc;rename_i g hg hq;exact h.drop.app (fun _=>h g (List.mem_of_getLast? hg) hq.1))
def withV (g:GD) (gs:List GD):Option (List GD):=if gs.length<50∧keepV gs≤g.k then some (gs++[g]) else none
def GA (w:World) (gv:Value) (gs:List GD):Prop:=∃a cap,gv=.slice a gs.length cap∧gs.length≤cap∧SlA w 3 GD.cells a gs∧∀b off,gs≠[]→a=some ⟨b,off,none⟩→∃cur,w.heap[b]?=some (.cells cur 172)
theorem GA.of_own {w:World} {B:Nat} {gv:Value} {gs:List GD} (h:ORow w B 172 3 GD.cells gv gs):GA w gv gs:=by
 obtain⟨a,cap,e,hs⟩:=h.lies GD.len
 rcases h.2 with ⟨e1,e2⟩ | ⟨g,c,cur,e1,_,e3,e4,_⟩
 ·have e':=e
  rw[e1]at e'
  injection e' with q1 q2 q3
  refine⟨a,cap,e,by omega,hs,fun b off hne ea=>?_⟩
  rw[ea]at q1;cases q1
 ·have e':=e
  rw[e1]at e'
  injection e' with q1 q2 q3
  refine⟨a,cap,e,by omega,hs,fun b off _ ea=>?_⟩
  rw[ea]at q1;cases q1;exact⟨cur,e3⟩
theorem GA.nil (w:World):GA w (.slice none 0 0) []:=⟨none,0,rfl,Nat.le_refl _,SlA.nil _ _ _ _,fun b off hne=>absurd rfl hne⟩
theorem SlA.but' {α:Type} {S:List Nat} {w w':World} {k:Nat} {cells:α→List Value} {a:Option Addr} {xs:List α} (h:SlA w k cells a xs) (hS:∀b off,xs≠[]→a=some ⟨b,off,none⟩→b∉S) (hb:ButL S w w'):SlA w' k cells a xs:=by
 intro i x hx
 obtain⟨b,off,e,hl,hc⟩:=h i x hx
 have hn:b∉S:=hS b off (by rintro rfl;simp at hx) e
 refine⟨b,off,e,Nat.lt_of_lt_of_le hl hb.size,fun j v hv=>?_⟩
 have:=hc j v hv
 unfold World.cell? at this ⊢
 rw[hb.block b hl hn]
 exact this
theorem GA.butl {S:List Nat} {w w':World} {gv:Value} {gs:List GD} (h:GA w gv gs) (hb:ButL S w w') (hS:∀g∈S,∀cur,w.heap[g]?≠some (.cells cur 172)):GA w' gv gs:=by
 obtain⟨a,cap,e,h0,h1,h2⟩:=h
 have hn:∀b off,gs≠[]→a=some ⟨b,off,none⟩→b∉S:=fun b off hne ea hm=>by obtain⟨cur,hc⟩:=h2 b off hne ea;exact hS b hm cur hc
 exact⟨a,cap,e,h0,h1.but' hn hb,fun b off hne ea=>by obtain⟨cur,hc⟩:=h2 b off hne ea;exact⟨cur,hb.blk hc (hn b off hne ea)⟩⟩
theorem GA.later {w w':World} {gv:Value} {gs:List GD} (h:GA w gv gs) (hb:Below w.heap.size w w'):GA w' gv gs:=h.butl (S:=[]) (ButL.of_below hb) (fun g hg=>by cases hg)
theorem GA.take {w:World} {a:Option Addr} {n cap:Nat} {gs:List GD} (h:GA w (.slice a n cap) gs) (m:Nat) (hm:m≤gs.length):GA w (.slice a m cap) (gs.take m):=by
 obtain⟨a',cap',e,h0,h1,h2⟩:=h
 cases e
 refine⟨a,cap,by rw[List.length_take,Nat.min_eq_left hm],by rw[List.length_take];omega,?_,fun b off hne ea=>h2 b off (by rintro rfl;simp at hne) ea⟩
 intro i x hx
 rw[List.getElem?_take]at hx
 split at hx
 ·exact h1 i x hx
 ·cases hx
def ChP (o:Option (List GD)) (e:Ending) (w':World):Prop:=match o with
 | none=>e=.returned (.tuple #[.slice none 0 0,.bool false])
 | some gs'=>∃gv',e=.returned (.tuple #[gv',.bool true])∧GA w' gv' gs'
theorem keptBy_v {a:Option Addr} {len cap:Nat} {gs:List GD} {w:World} {k:Int} (hl:gs.length=len) (hp:SlA w 3 GD.cells a gs) (hlen:len≤1048576) (hk:keepV gs=k) :
  Calls Tryz.prog 70 #[.slice a len cap] w fun e w'=>e=.returned (.int .i64 k)∧Below w.heap.size w w':=by
 have h:=keptBy_any a len cap gs w hl hp hlen
 rw[hk]at h
 exact h
theorem push_gd (x:GD) {B nb:Nat} {gs:List GD} {w1:World} {sv:Value} (ho:ORow w1 B 172 3 GD.cells sv gs) (hn:w1.heap[nb]?=some (.cells #[.bool x.t,.int .i64 x.k,.int .i64 x.h] 172)) (hlen:gs.length≤50) (hB:B≤w1.heap.size) :
  ∃g' cap' w2,(Builtin.append_ #[116,116] 116 #[sv,.slice (some ⟨nb,0,none⟩) 1 1]).run Tryz.prog w1=.ok (.slice (some ⟨g',0,none⟩) (gs.length+1) cap') w2 ∧
   Hid (ORow w2 B 172 3 GD.cells (.slice (some ⟨g',0,none⟩) (gs.length+1) cap') (gs++[x]))∧Hid (w1.grownBy w2 sv.ownBlock):=by
 obtain⟨g',cap',w2,hr,ho2,hg⟩:=ho.app 116 24 Tryz.underlying116 (by kernel_rfl) (by omega) (by omega) x nb 116 hn rfl (by intro u hu;simp[GD.cells]at hu;rcases hu with rfl | rfl | rfl<;>rfl) (by omega) hB
 exact⟨g',cap',w2,hr,ho2,hg⟩
theorem step_append_run {P:Program} {ops:Array Oper} {o:Oper} {a:Act} {w:World} {K:Act→World→Prop} {Q:Exit→Act→World→Prop} {E:Prop}
  (hg:o.guard=none) (s x:Operand) (t:TypeId) (hop:o.op=Op.call { callee:=Callee.builtin Builtin.append,args:=#[s,x],argTypes:=#[t,t] })
  (sv xv v':Value) (w':World) (hs:a.eval s=sv) (hx:a.eval x=xv) (hrun:(Builtin.append_ #[t,t] o.type #[sv,xv]).run P w=.ok v' w') (hK:K (a.put o.dst v') w') :
  if Region.wanted o (yielded ops a.tmps)=true then Oper.wp P o a w K Q else E:=by
 have hw:Region.wanted o (yielded ops a.tmps)=true:=by simp[Region.wanted,hg]
 rw[if_pos hw]
 unfold Oper.wp
 simp[execOp,hop,resolve,invoke,builtin,hs,hx,hrun,Result.andThen]
 exact hK
theorem below_d {w w':World} (h:Below w.drew.heap.size w.drew w'):Below w.heap.size w w':=⟨h.os,h.tape,h.output,h.size,h.block⟩
theorem below_ad {w w':World} {o:Obj} (h:Below (w.alloc o).drew.heap.size (w.alloc o).drew w'):Below w.heap.size w w':=(bw1 w o).trans ((below_d h).mono (by simp))
theorem ButL.nil {w w':World} (h:ButL [] w w'):Below w.heap.size w w':=⟨h.os,h.tape,h.output,h.size,fun k hk=>h.block k hk (by simp)⟩
theorem gwith_any (g:GD) (a:Option Addr) (cap:Nat) (gs:List GD) (w:World) (hp:SlA w 3 GD.cells a gs) (hlen:gs.length≤50) :
  Calls Tryz.prog 149 #[.agg #[.bool g.t,.int .i64 g.k,.int .i64 g.h],.slice a gs.length cap] w fun e w'=>ChP (withV g gs) e w'∧Below w.heap.size w w':=by
 have hy:=bw1 w (.cells #[.bool g.t,.int .i64 g.k,.int .i64 g.h] 172)
 obtain⟨W1,hW1⟩:∃W1,w.alloc (.cells #[.bool g.t,.int .i64 g.k,.int .i64 g.h] 172)=W1:=⟨_,rfl⟩
 have hbk:W1.heap[w.heap.size]?=some (.cells #[.bool g.t,.int .i64 g.k,.int .i64 g.h] 172):=by rw[←hW1];exact blk_new _ _
 rw[hW1]at hy
 have HY:Hid (Below w.heap.size w W1):=hy
 have HP:Hid (SlA W1 3 GD.cells a gs):=hp.later hy
 have HBK:Hid (W1.heap[w.heap.size]?=some (.cells #[.bool g.t,.int .i64 g.k,.int .i64 g.h] 172)):=hbk
 have c0:W1.cell? ⟨w.heap.size,0,none⟩=some (.bool g.t):=by rw[blk_cell hbk];rfl
 have c1:W1.cell? ⟨w.heap.size,1,none⟩=some (.int .i64 g.k):=by rw[blk_cell hbk];rfl
 have c2:W1.cell? ⟨w.heap.size,2,none⟩=some (.int .i64 g.h):=by rw[blk_cell hbk];rfl
 clear hp hy hbk
 obtain⟨kp,hkp⟩:∃kp,keepV gs=kp:=⟨_,rfl⟩
 have HKP:Hid (keepV gs=kp):=hkp
 by_cases hk:gs.length<50
 ·have t:decide ((50:Int)≤(gs.length:Int))=false:=by simp;omega
  by_cases hq:g.k<kp
  ·have HV:Hid (withV g gs=none):=by show withV _ _=_;unfold withV;rw[if_neg (by omega)]
   clear hkp
   go_enter Tryz.func149,Tryz.ntmps149
   go_wp2_with fail
   clear hW1
   have e0:=lat_cell c0
   have e1:=lat_cell c1
   have e2:=lat_cell c2
   haveI:=lat_some W1
   refine wp_region_lat (by kernel_rfl) (by kernel_rfl) ?_
   repeat (go_big_quiet_step ((go_at_call 70;exact lat_calls (keptBy_v rfl (HP.out.later (Lat.below _)) (by omega) HKP.out))))
   refine wpQuiet_nil ?_
   rintro _ ⟨nq,rfl⟩
   go_wp2_with fail
   refine bodyPost_ret (v:=.tuple #[.slice none 0 0,.bool false]) (by simp[results,Tryz.results149,go_sem]) rfl ⟨?_,HY.out.trans (nq.below.mono HY.out.size)⟩
   rw[HV.out]
   exact rfl
  ·have HV:Hid (withV g gs=some (gs++[g])):=by show withV _ _=_;unfold withV;rw[if_pos (by omega)]
   clear hkp
   go_enter Tryz.func149,Tryz.ntmps149
   go_wp2_with fail
   clear hW1
   have e0:=lat_cell c0
   have e1:=lat_cell c1
   have e2:=lat_cell c2
   haveI:=lat_some W1
   refine wp_region_lat (by kernel_rfl) (by kernel_rfl) ?_
   repeat (go_big_quiet_step ((go_at_call 70;exact lat_calls (keptBy_v rfl (HP.out.later (Lat.below _)) (by omega) HKP.out))))
   refine wpQuiet_nil ?_
   rintro _ ⟨nq,rfl⟩
   obtain⟨w2,hw2⟩:∃w2,nq.wd=w2:=⟨_,rfl⟩
   have hb2:Below W1.heap.size W1 w2:=hw2▸nq.below
   rw[hw2]
   clear hw2 nq e0 e1 e2 c0 c1 c2
   have HP2:Hid (SlA w2 3 GD.cells a gs):=HP.out.later hb2
   have hbk:=blk_later hb2 HBK.out
   have HBK2:Hid _:=hbk
   have c0:w2.cell? ⟨w.heap.size,0,none⟩=some (.bool g.t):=by rw[blk_cell hbk];rfl
   have c1:w2.cell? ⟨w.heap.size,1,none⟩=some (.int .i64 g.k):=by rw[blk_cell hbk];rfl
   have c2:w2.cell? ⟨w.heap.size,2,none⟩=some (.int .i64 g.h):=by rw[blk_cell hbk];rfl
   have HB2:Hid (Below W1.heap.size W1 w2):=hb2
   clear hbk hb2
   go_wp2_with fail
   go_cut [4,5] from 16 to 20 (fun s4 s5 wx=>s5=.bool true∧∃g' cap',s4=.slice (some ⟨g',0,none⟩) (gs.length+1) cap'∧Hid (ORow wx w2.heap.size 172 3 GD.cells (.slice (some ⟨g',0,none⟩) (gs.length+1) cap') (gs++[g]))∧Hid (Below w2.heap.size w2 wx))
   case first =>
    go_region_law (first
     | (go_simp;go_at_call 61;refine (clone_gd a gs.length cap gs _ rfl (by first | exact HP2.out.later (Below.refl _ _).drew | exact HP2.out.later (bw1 _ _).drew) (by omega)).mono ?_;rintro e w3 ⟨⟨sv,rfl,ho⟩,hb3⟩;obtain⟨a1,k1,rfl⟩:=ho.val;have HB3:Hid (Below w2.heap.size w2 w3):=(by first | exact (below_d hb3) | exact (below_ad hb3));have HO3:Hid (ORow w3 w2.heap.size 172 3 GD.cells (.slice a1 gs.length k1) gs):=(by first | exact ho | exact ORow.mono ho (by show w2.heap.size≤(w2.alloc _).heap.size;simp));(first | (have hnb:Hid (w3.heap[w2.heap.size]?=some (.cells #[.bool g.t,.int .i64 g.k,.int .i64 g.h] 172)):=blk_later (below_d hb3) (blk_new _ _)) | skip);have d0:=cell_later HB3.out c0;have d1:=cell_later HB3.out c1;have d2:=cell_later HB3.out c2;clear ho hb3 c0 c1 c2)
     | (first
       | (have hp9:=push_gd g HO3.out hnb.out (by omega) HB3.out.size;obtain⟨g',cap',w4,hr,ho4,hg4⟩:=hp9;refine step_append_run rfl _ _ _ rfl _ _ _ _ rfl rfl hr ?_;have HB4:Hid (Below w2.heap.size w2 w4):=ButL.nil (ButL.grown (S:=[]) (ButL.of_below HB3.out) hg4.out (fun b e=>.inr (HO3.out.own_lt e).1));clear hr hg4)
       | (have hp9:=push_gd g (HO3.out.later (bw1 w3 (.cells #[.bool g.t,.int .i64 g.k,.int .i64 g.h] 172))) (blk_new _ _) (by omega) (by have:=HB3.out.size;simp;omega);obtain⟨g',cap',w4,hr,ho4,hg4⟩:=hp9;refine step_append_run rfl _ _ _ rfl _ _ _ _ rfl rfl hr ?_;have HB4:Hid (Below w2.heap.size w2 w4):=ButL.nil (ButL.grown (S:=[]) ((ButL.of_below HB3.out).alloc (.cells #[.bool g.t,.int .i64 g.k,.int .i64 g.h] 172)) hg4.out (fun b e=>.inr (HO3.out.own_lt e).1));clear hr hg4)))
    all_goals
     go_wp2_with fail
     go_meet
     exact⟨rfl,g',cap',rfl,ho4,HB4⟩
   case rest =>
    obtain⟨rfl,g',cap',rfl,ho4,HB4⟩:=hcut
    clear c0 c1 c2
    go_wp2_with fail
    refine bodyPost_ret (v:=.tuple #[.slice (some ⟨g',0,none⟩) (gs.length+1) cap',.bool true]) (by simp[results,Tryz.results149,go_sem]) rfl ⟨?_,?_⟩
    ·rw[HV.out]
     exact⟨_,rfl,GA.of_own ho4.out⟩
    ·have h1:=HY.out.trans (HB2.out.mono HY.out.size)
     exact h1.trans (HB4.out.mono h1.size)
 ·have t:decide ((50:Int)≤(gs.length:Int))=true:=by simp;omega
  have HV:Hid (withV g gs=none):=by show withV _ _=_;unfold withV;rw[if_neg (by omega)]
  clear hkp
  go_enter Tryz.func149,Tryz.ntmps149
  go_wp2_with fail
  clear hW1
  have e0:=lat_cell c0
  have e1:=lat_cell c1
  have e2:=lat_cell c2
  haveI:=lat_some W1
  refine wp_region_lat (by kernel_rfl) (by kernel_rfl) ?_
  repeat (go_big_quiet_step ((go_at_call 70;exact lat_calls (keptBy_v rfl (HP.out.later (Lat.below _)) (by omega) HKP.out))))
  refine wpQuiet_nil ?_
  rintro _ ⟨nq,rfl⟩
  go_wp2_with fail
  refine bodyPost_ret (v:=.tuple #[.slice none 0 0,.bool false]) (by simp[results,Tryz.results149,go_sem]) rfl ⟨?_,HY.out.trans (nq.below.mono HY.out.size)⟩
  rw[HV.out]
  exact rfl
theorem gwith_e (t:Bool) (k h:Int) {a:Option Addr} {cap:Nat} {gs:List GD} {w:World} {o:Option (List GD)} (hp:SlA w 3 GD.cells a gs) (hlen:gs.length≤50) (ho:withV ⟨t,k,h⟩ gs=o) :
  Calls Tryz.prog 149 #[.agg #[.bool t,.int .i64 k,.int .i64 h],.slice a gs.length cap] w fun e w'=>ChP o e w'∧Below w.heap.size w w':=by
 have h9:=gwith_any ⟨t,k,h⟩ a cap gs w hp hlen
 rw[ho]at h9
 exact h9
theorem with_31 {n:ID} {gs:List GD} (e:n.op=31) (hb:0≤n.b):changeV n gs=withV ⟨true,n.b,n.a⟩ gs:=by
 unfold changeV withV
 rw[if_pos e,above_keep hb]
 by_cases h:gs.length<50∧keepV gs≤n.b
 ·rw[if_pos h,if_pos ⟨h.1,by simpa using h.2⟩]
 ·rw[if_neg h,if_neg (fun q=>h ⟨q.1,by simpa using q.2⟩)]
theorem with_33 {n:ID} {gs:List GD} (e:n.op=33) (ha:0≤n.a):changeV n gs=withV ⟨false,n.a,0⟩ gs:=by
 unfold changeV withV
 rw[if_neg (by omega),if_pos e,above_keep ha]
 by_cases h:gs.length<50∧keepV gs≤n.a
 ·rw[if_pos h,if_pos ⟨h.1,by simpa using h.2⟩]
 ·rw[if_neg h,if_neg (fun q=>h ⟨q.1,by simpa using q.2⟩)]
theorem with_34 {n:ID} {ys:List GD} {g:GD} (e:n.op=34) (ha:0≤n.a) (hl:(ys++[g]).length≤50) (hz:GZ (ys++[g])) (ht:g.t=false):changeV n (ys++[g])=withV ⟨false,n.a,0⟩ ys:=by
 have hk:keepV ys=keepV (ys++[g]):=by
  have:=keepV_drop (gs:=ys++[g]) (g:=g) (by simp) ht
  rwa [List.dropLast_concat]at this
 have hh:g.h=0:=hz g (by simp) ht
 simp at hl
 unfold changeV withV
 rw[if_neg (by omega),if_neg (by omega),if_neg (by omega),if_pos e,above_keep ha,←hk]
 simp only[List.getLast?_append,List.getLast?_singleton,Option.some_or,List.dropLast_concat,ht,hh,true_and]
 by_cases h:keepV ys≤n.a
 ·have h':(!decide (n.a<keepV ys))=true:=by simpa using h
  rw[if_pos h',if_pos ⟨by omega,h⟩]
 ·have h':¬(!decide (n.a<keepV ys))=true:=by simpa using h
  rw[if_neg h',if_neg (fun q=>h q.2)]
theorem below_dN {w w':World} {n:Nat} (h:Below (w.drewN n).heap.size (w.drewN n) w'):Below w.heap.size w w':=⟨h.os,h.tape,h.output,h.size,h.block⟩
abbrev IOb (n:ID):Obj:=.cells #[.int .i64 n.op,.int .i64 n.a,.int .i64 n.b,.int .i64 n.c,.int .i64 n.d] 47
theorem gb_with (n:ID) (a:Option Addr) (cap:Nat) (gs:List GD) (w:World) (hp:GA w (.slice a gs.length cap) gs) (hlen:gs.length≤50) (e:n.op=31∨n.op=33) (hb:n.op=31→0≤n.b) (ha:n.op=33→0≤n.a) :
  Calls Tryz.prog 67 #[IV n,.slice a gs.length cap] w fun e w'=>ChP (changeV n gs) e w'∧Below w.heap.size w w':=by
 obtain⟨a',c',e',_,hsl,_⟩:=hp
 injection e' with q1 q2 q3
 subst q1
 have HS:Hid (SlA w 3 GD.cells a gs):=hsl
 obtain⟨op,na,nb,nc,nd⟩:=n
 dsimp only at e hb ha
 rcases e with rfl | rfl
 ·rw[with_31 rfl (hb rfl)]
  obtain⟨o,ho⟩:∃o,withV ⟨true,nb,na⟩ gs=o:=⟨_,rfl⟩
  have HO:Hid (withV ⟨true,nb,na⟩ gs=o):=ho
  dsimp only
  rw[ho]
  clear hsl hb ha ho
  go_enter Tryz.func67,Tryz.ntmps67
  go_wp2_with fail
  refine (gwith_e true nb na (HS.out.later (bw1 _ _)) hlen HO.out).mono ?_
  clear HO
  cases o with
  | none =>
   rintro e w1 ⟨rfl,hb⟩
   go_wp2_with fail
   refine bodyPost_ret (v:=.tuple #[.slice none 0 0,.bool false]) (by simp[results,Tryz.results67,go_sem]) rfl ⟨rfl,(bw1 _ _).trans (hb.mono (by simp))⟩
  | some gs' =>
   rintro e w1 ⟨⟨gv',rfl,hg⟩,hb⟩
   have HG:Hid (GA w1 gv' gs'):=hg
   obtain⟨a9,c9,rfl,_⟩:=hg
   go_wp2_with fail
   refine bodyPost_ret (v:=.tuple #[.slice a9 gs'.length c9,.bool true]) (by simp[results,Tryz.results67,go_sem]) rfl ⟨⟨_,rfl,HG.out⟩,(bw1 _ _).trans (hb.mono (by simp))⟩
 ·rw[with_33 rfl (ha rfl)]
  obtain⟨o,ho⟩:∃o,withV ⟨false,na,0⟩ gs=o:=⟨_,rfl⟩
  have HO:Hid (withV ⟨false,na,0⟩ gs=o):=ho
  dsimp only
  rw[ho]
  clear hsl hb ha ho
  go_enter Tryz.func67,Tryz.ntmps67
  go_wp2_with fail
  refine (gwith_e false na 0 (HS.out.later (bw1 _ _)) hlen HO.out).mono ?_
  clear HO
  cases o with
  | none =>
   rintro e w1 ⟨rfl,hb⟩
   go_wp2_with fail
   refine bodyPost_ret (v:=.tuple #[.slice none 0 0,.bool false]) (by simp[results,Tryz.results67,go_sem]) rfl ⟨rfl,(bw1 _ _).trans (hb.mono (by simp))⟩
  | some gs' =>
   rintro e w1 ⟨⟨gv',rfl,hg⟩,hb⟩
   have HG:Hid (GA w1 gv' gs'):=hg
   obtain⟨a9,c9,rfl,_⟩:=hg
   go_wp2_with fail
   refine bodyPost_ret (v:=.tuple #[.slice a9 gs'.length c9,.bool true]) (by simp[results,Tryz.results67,go_sem]) rfl ⟨⟨_,rfl,HG.out⟩,(bw1 _ _).trans (hb.mono (by simp))⟩
theorem gb_other (op na nb nc nd:Int) (a:Option Addr) (cap:Nat) (gs:List GD) (w:World) (hp:GA w (.slice a gs.length cap) gs) (h31:(op == 31)=false) (h33:(op == 33)=false) (h32:(op == 32)=false) (h34:(op == 34)=false) (h35:(op == 35)=false) (h36:(op == 36)=false) :
  Calls Tryz.prog 67 #[IV ⟨op,na,nb,nc,nd⟩,.slice a gs.length cap] w fun e w'=>ChP (changeV ⟨op,na,nb,nc,nd⟩ gs) e w'∧Below w.heap.size w w':=by
 have HV:Hid (changeV ⟨op,na,nb,nc,nd⟩ gs=some gs):=by
  show changeV ⟨op,na,nb,nc,nd⟩ gs=some gs
  unfold changeV
  rw[if_neg (by simpa using h31),if_neg (by simpa using h33),if_neg (by simpa using h32),if_neg (by simpa using h34),if_neg (by simpa using h35),if_neg (by simpa using h36)]
 have HP:Hid (GA w (.slice a gs.length cap) gs):=hp
 clear hp
 go_enter Tryz.func67,Tryz.ntmps67
 go_wp2_with fail
 refine bodyPost_ret (v:=.tuple #[.slice a gs.length cap,.bool true]) (by simp[results,Tryz.results67,go_sem]) rfl ⟨?_,bw1 _ _⟩
 rw[HV.out]
 exact⟨_,rfl,HP.out.later (bw1 _ _)⟩
theorem gb_none (op na nb nc nd:Int) (a:Option Addr) (cap:Nat) (w:World) (he:op=32∨op=34∨op=35∨op=36) :
  Calls Tryz.prog 67 #[IV ⟨op,na,nb,nc,nd⟩,.slice a 0 cap] w fun e w'=>ChP (changeV ⟨op,na,nb,nc,nd⟩ []) e w'∧Below w.heap.size w w':=by
 have HV:Hid (changeV ⟨op,na,nb,nc,nd⟩ []=none):=by
  show changeV ⟨op,na,nb,nc,nd⟩ []=none
  rcases he with rfl | rfl | rfl | rfl<;>simp[changeV]
 rcases he with rfl | rfl | rfl | rfl
 all_goals
  go_enter Tryz.func67,Tryz.ntmps67
  go_wp2_with fail
  go_quiet (fail)
  go_wp2_with fail
  refine bodyPost_ret (v:=.tuple #[.slice none 0 0,.bool false]) (by simp[results,Tryz.results67,go_sem]) rfl ⟨?_,Below.drewN (bw1 _ _) _⟩
  rw[HV.out]
  exact rfl
theorem gb_last (op na nb nc nd:Int) (a:Option Addr) (cap:Nat) (ys:List GD) (g:GD) (w:World) (hp:GA w (.slice a (ys++[g]).length cap) (ys++[g])) (hlen:(ys++[g]).length≤50) (he:op=32∨op=35∨op=36) :
  Calls Tryz.prog 67 #[IV ⟨op,na,nb,nc,nd⟩,.slice a (ys++[g]).length cap] w fun e w'=>ChP (changeV ⟨op,na,nb,nc,nd⟩ (ys++[g])) e w'∧Below w.heap.size w w':=by
 have HP:Hid (GA w (.slice a (ys++[g]).length cap) (ys++[g])):=hp
 obtain⟨a',c',e',hcap,hsl,_⟩:=hp
 injection e' with q1 q2 q3
 subst q1 q3
 obtain⟨b,off,rfl,hbl,hc⟩:=hsl ys.length g (by simp)
 have HT:Hid (GA w (.slice (some ⟨b,off,none⟩) ys.length cap) ys):=by
  have:=HP.out.take ys.length (by simp)
  show GA _ _ _
  simpa using this
 have hl1:(ys++[g]).length=ys.length+1:=by simp
 rw[hl1]at hlen hcap HP ⊢
 obtain⟨m,hm⟩:∃m,ys.length=m:=⟨_,rfl⟩
 have HM:Hid (ys.length=m):=hm
 rw[hm]at hlen hcap HP HT hc ⊢
 have c0:(w.alloc (IOb ⟨op,na,nb,nc,nd⟩)).cell? ⟨b,off+m*3,none⟩=some (.bool g.t):=cell_later (bw1 _ _) (hc 0 _ rfl)
 have c1:(w.alloc (IOb ⟨op,na,nb,nc,nd⟩)).cell? ⟨b,off+m*3+1,none⟩=some (.int .i64 g.k):=cell_later (bw1 _ _) (hc 1 _ rfl)
 have c2:(w.alloc (IOb ⟨op,na,nb,nc,nd⟩)).cell? ⟨b,off+m*3+2,none⟩=some (.int .i64 g.h):=cell_later (bw1 _ _) (hc 2 _ rfl)
 clear hc hsl hm hl1
 dsimp only[IOb]at c0 c1 c2
 have b0:(0:Int)≤(m:Int):=by omega
 have b1:(m:Int)<(m:Int)+1:=by omega
 have b2:decide ((m:Int)<0)=false:=by simp
 obtain⟨gt,hgt⟩:∃gt,g.t=gt:=⟨_,rfl⟩
 rw[hgt]at c0
 have HGT:Hid (g.t=gt):=hgt
 clear hgt
 rcases he with rfl | rfl | rfl
 ·cases gt
  ·have HV:Hid (changeV ⟨32,na,nb,nc,nd⟩ (ys++[g])=none):=by show changeV _ _=_;simp[changeV,HGT.out]
   go_enter Tryz.func67,Tryz.ntmps67
   go_wp2_with fail
   go_quiet (fail)
   go_wp2_with fail
   refine bodyPost_ret (v:=.tuple #[.slice none 0 0,.bool false]) (by simp[results,Tryz.results67,go_sem]) rfl ⟨?_,Below.drewN (bw1 _ _) _⟩
   rw[HV.out]
   exact rfl
  ·have HV:Hid (changeV ⟨32,na,nb,nc,nd⟩ (ys++[g])=some ys):=by show changeV _ _=_;simp[changeV,HGT.out]
   go_enter Tryz.func67,Tryz.ntmps67
   go_wp2_with fail
   go_quiet (fail)
   go_wp2_with fail
   refine bodyPost_ret (v:=.tuple #[.slice (some ⟨b,off,none⟩) m cap,.bool true]) (by simp[results,Tryz.results67,go_sem]) rfl ⟨?_,Below.drewN (bw1 _ _) _⟩
   rw[HV.out]
   exact⟨_,rfl,HT.out.later (Below.drewN (bw1 _ _) _)⟩
 ·cases gt
  ·have HV:Hid (changeV ⟨35,na,nb,nc,nd⟩ (ys++[g])=some (ys++[g])):=by show changeV _ _=_;simp[changeV,HGT.out]
   go_enter Tryz.func67,Tryz.ntmps67
   go_wp2_with fail
   go_quiet (fail)
   go_wp2_with fail
   refine bodyPost_ret (v:=.tuple #[.slice (some ⟨b,off,none⟩) (m+1) cap,.bool true]) (by simp[results,Tryz.results67,go_sem]) rfl ⟨?_,Below.drewN (bw1 _ _) _⟩
   rw[HV.out]
   exact⟨_,rfl,HP.out.later (Below.drewN (bw1 _ _) _)⟩
  ·have HV:Hid (changeV ⟨35,na,nb,nc,nd⟩ (ys++[g])=none):=by show changeV _ _=_;simp[changeV,HGT.out]
   go_enter Tryz.func67,Tryz.ntmps67
   go_wp2_with fail
   go_quiet (fail)
   go_wp2_with fail
   refine bodyPost_ret (v:=.tuple #[.slice none 0 0,.bool false]) (by simp[results,Tryz.results67,go_sem]) rfl ⟨?_,Below.drewN (bw1 _ _) _⟩
   rw[HV.out]
   exact rfl
 ·cases gt
  ·have HV:Hid (changeV ⟨36,na,nb,nc,nd⟩ (ys++[g])=some ys):=by show changeV _ _=_;simp[changeV,HGT.out]
   go_enter Tryz.func67,Tryz.ntmps67
   go_wp2_with fail
   go_quiet (fail)
   go_wp2_with fail
   refine bodyPost_ret (v:=.tuple #[.slice (some ⟨b,off,none⟩) m cap,.bool true]) (by simp[results,Tryz.results67,go_sem]) rfl ⟨?_,Below.drewN (bw1 _ _) _⟩
   rw[HV.out]
   exact⟨_,rfl,HT.out.later (Below.drewN (bw1 _ _) _)⟩
  ·have HV:Hid (changeV ⟨36,na,nb,nc,nd⟩ (ys++[g])=none):=by show changeV _ _=_;simp[changeV,HGT.out]
   go_enter Tryz.func67,Tryz.ntmps67
   go_wp2_with fail
   go_quiet (fail)
   go_wp2_with fail
   refine bodyPost_ret (v:=.tuple #[.slice none 0 0,.bool false]) (by simp[results,Tryz.results67,go_sem]) rfl ⟨?_,Below.drewN (bw1 _ _) _⟩
   rw[HV.out]
   exact rfl
end Go.Proofs.YtjglgbepobmjhaaGreatDoor
