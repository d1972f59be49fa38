import Derived.Test.YtjglgbepobmjhaaGreatDoorP11
import Derived.BigRegion
import Derived.BigQuiet
import Derived.Deep.QuietTactic
import Derived.Test.YtjglgbepobmjhaaGreatDoorP06
import Derived.Test.YtjglgbepobmjhaaGreatDoorP10
import Derived.Test.YtjglgbepobmjhaaGreatDoorP03
import Derived.Test.YtjglgbepobmjhaaGreatDoorP01
import Derived.Deep.RegionWith
set_option linter.unusedVariables false
set_option linter.unusedSimpArgs false
set_option maxRecDepth 20000
set_option maxHeartbeats 8000000
namespace Go.Proofs.YtjglgbepobmjhaaGreatDoor
open Go.RowKit
theorem gb_keep (na nb nc nd:Int) (a:Option Addr) (cap:Nat) (ys:List GD) (g:GD) (w:World) (hp:GA w (.slice a (ys++[g]).length cap) (ys++[g])) (hlen:(ys++[g]).length≤50) (hz:GZ (ys++[g])) (ha:0≤na) :
  Calls Tryz.prog 67 #[IV ⟨34,na,nb,nc,nd⟩,.slice a (ys++[g]).length cap] w fun e w'=>ChP (changeV ⟨34,na,nb,nc,nd⟩ (ys++[g])) e w'∧Below w.heap.size w w':=by
 have HP:Hid (GA w (.slice a (ys++[g]).length cap) (ys++[g])):=hp
 obtain⟨a',c',e',hcap,hsl,_⟩:=hp
 injection e' with q1 q2 q3
 subst q1 q3
 obtain⟨b,off,rfl,hbl,hc⟩:=hsl ys.length g (by simp)
 have HS:Hid (SlA w 3 GD.cells (some ⟨b,off,none⟩) ys):=by
  have:=hsl.take ys.length
  rw[List.take_left']at this
  ·exact this
  ·rfl
 have HW:Hid (g.t=false→changeV ⟨34,na,nb,nc,nd⟩ (ys++[g])=withV ⟨false,na,0⟩ ys):=fun ht=>with_34 (n:=⟨34,na,nb,nc,nd⟩) rfl ha hlen hz ht
 have hl1:(ys++[g]).length=ys.length+1:=by simp
 rw[hl1]at hlen hcap HP ⊢
 have hl2:ys.length≤50:=by omega
 have c0:(w.alloc (IOb ⟨34,na,nb,nc,nd⟩)).cell? ⟨b,off+ys.length*3,none⟩=some (.bool g.t):=cell_later (bw1 _ _) (hc 0 _ rfl)
 have c1:(w.alloc (IOb ⟨34,na,nb,nc,nd⟩)).cell? ⟨b,off+ys.length*3+1,none⟩=some (.int .i64 g.k):=cell_later (bw1 _ _) (hc 1 _ rfl)
 have c2:(w.alloc (IOb ⟨34,na,nb,nc,nd⟩)).cell? ⟨b,off+ys.length*3+2,none⟩=some (.int .i64 g.h):=cell_later (bw1 _ _) (hc 2 _ rfl)
 clear hc hsl hl1 hz
 dsimp only[IOb]at c0 c1 c2
 have b0:(0:Int)≤(ys.length:Int):=by omega
 have b1:(ys.length:Int)<(ys.length:Int)+1:=by omega
 have b2:decide ((ys.length:Int)<0)=false:=by simp
 obtain⟨gt,hgt⟩:∃gt,g.t=gt:=⟨_,rfl⟩
 rw[hgt]at c0
 have HGT:Hid (g.t=gt):=hgt
 clear hgt
 cases gt
 ·rw[HW.out HGT.out]
  obtain⟨o,ho⟩:∃o,withV ⟨false,na,0⟩ ys=o:=⟨_,rfl⟩
  have HO:Hid (withV ⟨false,na,0⟩ ys=o):=ho
  rw[ho]
  clear ho HW
  have b4:ys.length≤cap:=by omega
  go_enter Tryz.func67,Tryz.ntmps67
  go_wp2_with fail
  go_quiet (fail)
  go_wp2_with fail
  clear c0 c1 c2
  cases o with
  | none =>
   go_region_with (go_at_call 149;refine (gwith_e false na 0 (HS.out.later ((Below.drewN (bw1 _ _) _).drew)) hl2 HO.out).mono ?_;rintro e w1 ⟨rfl,hb⟩)
   all_goals
    go_wp2_with fail
    refine bodyPost_ret (v:=.tuple #[.slice none 0 0,.bool false]) (by simp[results,Tryz.results67,go_sem]) rfl ⟨rfl,(bw1 _ _).trans ((below_dN (below_d hb)).mono (by simp))⟩
  | some gs' =>
   go_region_with (go_at_call 149;refine (gwith_e false na 0 (HS.out.later ((Below.drewN (bw1 _ _) _).drew)) hl2 HO.out).mono ?_;rintro e w1 ⟨⟨gv',rfl,hg⟩,hb⟩;have HG:Hid (GA w1 gv' gs'):=hg;obtain⟨a9,c9,rfl,_⟩:=hg)
   all_goals
    go_wp2_with fail
    refine bodyPost_ret (v:=.tuple #[.slice a9 gs'.length c9,.bool true]) (by simp[results,Tryz.results67,go_sem]) rfl ⟨⟨_,rfl,HG.out⟩,(bw1 _ _).trans ((below_dN (below_d hb)).mono (by simp))⟩
 ·have HV:Hid (changeV ⟨34,na,nb,nc,nd⟩ (ys++[g])=none):=by show changeV _ _=_;simp[changeV,HGT.out]
  go_enter Tryz.func67,Tryz.ntmps67
  go_wp2_with fail
  go_quiet (fail)
  go_wp2_with fail
  refine bodyPost_ret (v:=.tuple #[.slice none 0 0,.bool false]) (by simp[results,Tryz.results67,go_sem]) rfl ⟨?_,Below.drewN (bw1 _ _) _⟩
  rw[HV.out]
  exact rfl
theorem gb_any (nI regs:Nat) (n:ID) (gv:Value) (gs:List GD) (w:World) (hn:InsOk regs nI n) (hp:GA w gv gs) (hlen:gs.length≤50) (hz:GZ gs) :
  Calls Tryz.prog 67 #[IV n,gv] w fun e w'=>ChP (changeV n gs) e w'∧Below w.heap.size w w':=by
 have hp':=hp
 obtain⟨a,cap,rfl,_⟩:=hp'
 by_cases h1:n.op=31∨n.op=33
 ·exact gb_with n a cap gs w hp hlen h1 (fun e=>(hn.k31 e).1) (fun e=>(hn.k33 (.inl e)).1)
 ·have hk:=hn.k33
  obtain⟨op,na,nb,nc,nd⟩:=n
  dsimp only at h1 hk
  by_cases h2:op=32∨op=34∨op=35∨op=36
  ·rcases List.eq_nil_or_concat gs with rfl | ⟨ys,g,e⟩
   ·exact gb_none op na nb nc nd a cap w h2
   ·rw[List.concat_eq_append]at e
    subst e
    by_cases h3:op=34
    ·subst h3;exact gb_keep na nb nc nd a cap ys g w hp hlen hz (hk (.inr rfl)).1
    ·exact gb_last op na nb nc nd a cap ys g w hp hlen (by omega)
  ·have f:∀k:Int,op≠k→(op == k)=false:=fun k h=>by simpa using h
   exact gb_other op na nb nc nd a cap gs w hp (f _ (by omega)) (f _ (by omega)) (f _ (by omega)) (f _ (by omega)) (f _ (by omega)) (f _ (by omega))
def sr0:SR:=⟨none,.slice none 0 0,.slice none 0 0⟩
theorem toList_madeCells_three (a b c:Value) (n:Nat):(madeCells #[a,b,c] (n*3)).toList=(List.replicate n [a,b,c]).flatten:=by
 apply List.ext_getElem?
 intro i
 have hs:(madeCells #[a,b,c] (n*3)).size=n*3:=size_madeCells _ _
 rw[Array.getElem?_toList]
 by_cases hi:i<n*3
 ·have h1:(madeCells #[a,b,c] (n*3))[i]?=some (#[a,b,c][i % 3]!):=by
   unfold madeCells
   simp[hi]
  rw[h1]
  have h2:∀(n i:Nat),i<n*3→((List.replicate n [a,b,c]).flatten)[i]?=some (#[a,b,c][i % 3]!):=by
   intro n
   induction n with
   | zero=>intro i h;omega
   | succ n ih =>
    intro i h
    rw[List.replicate_succ,List.flatten_cons]
    match i,h with
    | 0,_=>rfl
    | 1,_=>rfl
    | 2,_=>rfl
    | i+3,h =>
     rw[List.getElem?_append_right (by simp)]
     rw[show i+3 - [a,b,c].length=i by simp,ih i (by omega),Nat.add_mod_right]
  rw[h2 n i hi]
 ·rw[Array.getElem?_eq_none (by omega),List.getElem?_eq_none (by simp;omega)]
theorem make_state (len:Nat) (hlen:len≤1048576) (w:World):(Instr.makeSlice 73 (.int .i64 (len:Int)) (.int .i64 (len:Int))).run Tryz.prog w=.ok (.slice (some ⟨w.heap.size,0,none⟩) len len) (w.alloc (.cells ((List.replicate len sr0).flatMap SR.cells).toArray 118)):=by
 have hc:(Tryz.prog.info? 118).map (fun i=>(i.zero.map (fun z=>z.cells),i.size,i.bytes))=some (some #[.bool false,.slice none 0 0,.slice none 0 0],3,56):=by kernel_rfl
 cases hi:Tryz.prog.info? 118 with
 | none=>rw[hi]at hc;cases hc
 | some i =>
  rw[hi]at hc
  simp only[Option.map_some,Option.some.injEq,Prod.mk.injEq]at hc
  obtain⟨h1,h2,h3⟩:=hc
  cases hz:i.zero with
  | none=>rw[hz]at h1;cases h1
  | some z =>
   rw[hz]at h1
   simp only[Option.map_some,Option.some.injEq]at h1
   have hr:=run_make (P:=Tryz.prog) w 73 118 i z Tryz.underlying73 hi hz .i64 .i64 (len:Int) (len:Int) (by omega) (by omega) (by rw[h3];omega) (by omega)
   have he:madeCells #[.bool false,.slice none 0 0,.slice none 0 0] (len*3)=((List.replicate len sr0).flatMap SR.cells).toArray:=by
    apply Array.toList_inj.1
    rw[toList_madeCells_three,List.toList_toArray,List.flatMap_def,List.map_replicate]
    rfl
   simp only[Int.toNat_natCast,h2,h1]at hr
   rw[←he]
   exact hr
theorem make_int (len:Nat) (hlen:len≤1048576) (w:World):(Instr.makeSlice 54 (.int .i64 (len:Int)) (.int .i64 (len:Int))).run Tryz.prog w=.ok (.slice (some ⟨w.heap.size,0,none⟩) len len) (w.alloc (.cells (List.replicate len (Value.int .i64 0)).toArray 3)):=by
 have hc:(Tryz.prog.info? 3).map (fun i=>(i.zero,i.size,i.bytes))=some (some (.int .i64 0),1,8):=by kernel_rfl
 cases hi:Tryz.prog.info? 3 with
 | none=>rw[hi]at hc;cases hc
 | some i =>
  rw[hi]at hc
  simp only[Option.map_some,Option.some.injEq,Prod.mk.injEq]at hc
  obtain⟨h1,h2,h3⟩:=hc
  have hr:=run_make (P:=Tryz.prog) w 54 3 i (.int .i64 0) Tryz.underlying54 hi h1 .i64 .i64 (len:Int) (len:Int) (by omega) (by omega) (by rw[h3];omega) (by omega)
  have he:madeCells #[.int .i64 0] len=(List.replicate len (Value.int .i64 0)).toArray:=by
   apply Array.toList_inj.1
   rw[toList_madeCells_one]
  simp only[Int.toNat_natCast,h2,Nat.mul_one]at hr
  rw[←he]
  exact hr
theorem ty_made (n:Nat) {w:World} {g:Nat} (h:w.heap[g]?=some (.cells (List.replicate n (Value.int .i64 0)).toArray 3)):TyAt w g n (List.replicate n 0):=by
 refine⟨_,h,by simp,by simp,fun i hi=>?_⟩
 simp at hi
 simp[hi,List.getD_eq_getElem?_getD]
def startT (P R:Nat) (rest:Bool):List Int:=if rest=true then (List.replicate P (1:Int)++List.replicate (R-P) 0).set P 3 else List.replicate P (1:Int)++List.replicate (R-P) 0
theorem startT_len (P R:Nat) (rest:Bool) (h:P≤R):(startT P R rest).length=R:=by unfold startT;split<;>simp<;>omega
def startS (f:FD):WkS:=⟨some ⟨startT f.params.toNat f.regs.toNat f.rest,[]⟩ :: List.replicate (f.ins.length-1) none,true :: List.replicate (f.ins.length-1) false⟩
theorem ones_set (m R:Nat) (h:m<R):(List.replicate m (1:Int)++List.replicate (R-m) 0).set m 1=List.replicate (m+1) 1++List.replicate (R-(m+1)) 0:=by
 rw[List.set_append_right _ _ (by simp),List.length_replicate,Nat.sub_self,show R-m=(R-(m+1))+1 by omega,List.replicate_succ,List.set_cons_zero,List.replicate_succ']
 simp
def LeastRd (s:WkS) (E:Nat→List Nat) (i:Nat):Prop:=(∃x,s.st[i]?=some (some x))∧TJ.Cyc E i∧∀j:Nat,j<i→(∃x,s.st[j]?=some (some x))→¬TJ.Cyc E j
structure PrOk (xs:List FC) (d:FD) (nR nI nP:Nat) (E:Nat→List Nat):Prop where
 regs:d.regs=nR
 reg1:nR≤250
 ins:d.ins.length=nI
 ins0:0<nI
 ins1:nI≤6000
 par:d.params=nP
 par1:nP+(if d.rest=true then 1 else 0)≤nR
 ok:∀n∈d.ins,InsOk nR nI n
 goes:∀(a:Nat) n,d.ins[a]?=some n→goesV n.op=true→a+1<nI
 ups:∀n∈d.ins,n.op=11→∃(q:Nat) (f:FC),n.b=q∧xs[q]?=some f∧∀u∈f.d.ups,u.l=true→0≤u.i∧u.i<nR
 sil:∀(a:Nat) n,d.ins[a]?=some n→E a=silS n a
theorem TyAt.own {w:World} {g cap B:Nat} {ts:List Int} (h:TyAt w g cap ts) (hB:B≤g) (hc:cap≤1000):ORow w B 3 1 intC (.slice (some ⟨g,0,none⟩) ts.length cap) ts:=by
 obtain⟨cur,h1,h2,h3,h4⟩:=h
 refine⟨by rw[flat_int];simp,.inr ⟨g,cap,cur,rfl,hB,h1,h2,by unfold maxLen;omega,by omega,?_⟩⟩
 rw[flat_int]
 apply List.ext_getElem?
 intro i
 rw[List.getElem?_take,List.getElem?_map]
 by_cases hi:i<ts.length
 ·rw[if_pos (by omega),Array.getElem?_toList,h4 i hi,List.getElem?_eq_getElem hi,List.getD_eq_getElem?_getD,List.getElem?_eq_getElem hi]
  rfl
 ·rw[if_neg (by omega),List.getElem?_eq_none (by omega)]
  rfl
structure WkI (xs:List FC) (ins:List ID) (R:Except (Nat × Nat) WkS) (nR nI:Nat) (w:World) (o0 o2:Obj) (wr:World) (zs:List SR) (due:List Bool):Prop where
 bel:Below w.heap.size w wr
 code:wr.heap[w.heap.size]?=some o0
 flt:wr.heap[w.heap.size+1]?=some (FO 0 0 0)
 pro:wr.heap[w.heap.size+1+1]?=some o2
 st:StA wr w.heap.size (w.heap.size+1+1+1) zs
 dub:wr.heap[w.heap.size+1+1+1+1]?=some (.cells (mb due) 4)
 ok:WOk nR nI ⟨zs.map SR.o,due⟩
 run:∃k,Runs (xs.map FC.d) ins k ⟨zs.map SR.o,due⟩ R
theorem cnt_sr {w:World} {B:Nat}:∀(zs:List SR),(∀z∈zs,z.ok w B)→(zs.flatMap SR.cells).countP (isB false)=(zs.map SR.o).countP (·.isNone)
 | [],_=>rfl
 | z :: zs,h=>by
  have ih:=cnt_sr zs fun y hy=>h y (List.mem_cons_of_mem _ hy)
  have hz:=h z (by simp)
  rw[List.flatMap_cons,List.countP_append,ih,List.map_cons,List.countP_cons]
  have e:z.cells.countP (isB false)=if z.o.isNone=true then 1 else 0:=by
   obtain⟨o,tv,gv⟩:=z
   unfold SR.ok at hz
   cases o with
   | none=>obtain⟨h1,h2⟩:=hz;dsimp only at h1 h2;subst h1 h2;rfl
   | some x =>
    obtain⟨a1,c1,e1⟩:=hz.1.val
    obtain⟨a2,c2,e2⟩:=hz.2.val
    dsimp only at e1 e2
    subst e1 e2
    rfl
  rw[e,Nat.add_comm]
theorem StA.cnt {w:World} {B gS:Nat} {zs:List SR} (h:StA w B gS zs):cntB false w gS=(zs.map SR.o).countP (·.isNone):=by
 rw[cntB_of h.blk]
 exact cnt_sr zs h.ok
theorem cnt_due {w:World} {g:Nat} {l:List Bool} {t:TypeId} (h:w.heap[g]?=some (.cells (mb l) t)):cntB true w g=l.countP (· == true):=by
 rw[cntB_of h,mb_cnt]
 congr 1
 funext c
 cases c<;>rfl
theorem WkI.mu {xs:List FC} {ins:List ID} {R:Except (Nat × Nat) WkS} {nR nI:Nat} {w wr:World} {o0 o2:Obj} {zs:List SR} {due:List Bool} (h:WkI xs ins R nR nI w o0 o2 wr zs due):2*cntB false wr (w.heap.size+1+1+1)+cntB true wr (w.heap.size+1+1+1+1)=mu ⟨zs.map SR.o,due⟩:=by
 rw[h.st.cnt,cnt_due h.dub]
 rfl
theorem TyV.lt {w:World} {tv:Value} {ts:List Int} (h:TyV w tv ts):∀g,tv.ownBlock=some g→g<w.heap.size:=by
 intro g hg
 rcases h with ⟨_,rfl⟩ | ⟨g',cap,rfl,h⟩
 ·cases hg
 ·cases hg;exact h.lt
theorem TyV.len {w:World} {tv:Value} {ts:List Int} (h:TyV w tv ts):∃a cap,tv=.slice a ts.length cap:=by
 obtain⟨a,cap,e,_⟩:=h.sl
 exact⟨a,cap,e⟩
structure FoI (w:World) (o0 o2:Obj) (wx:World) (nR nI:Nat) (ys:List NX) (S0:WkS) (k:Nat) (wi:World) (zs:List SR) (due:List Bool):Prop where
 bel:Below w.heap.size w wi
 code:wi.heap[w.heap.size]?=some o0
 flt:wi.heap[w.heap.size+1]?=some (FO 0 0 0)
 pro:wi.heap[w.heap.size+1+1]?=some o2
 st:StA wi w.heap.size (w.heap.size+1+1+1) zs
 dub:wi.heap[w.heap.size+1+1+1+1]?=some (.cells (mb due) 4)
 ok:WOk nR nI ⟨zs.map SR.o,due⟩
 bl:ButL [w.heap.size+1+1+1,w.heap.size+1+1+1+1] wx wi
 lead:leadW ((ys.drop k).map fun y=>(y.t,y.x)) ⟨zs.map SR.o,due⟩=leadW (ys.map fun y=>(y.t,y.x)) S0
theorem ORow.butl {α:Type} {S:List Nat} {w w':World} {B k:Nat} {et:TypeId} {cells:α→List Value} {sv:Value} {xs:List α} (h:ORow w B et k cells sv xs) (hb:ButL S w w') (hS:∀g∈S,∀arr,w.heap[g]?≠some (.cells arr et)):ORow w' B et k cells sv xs :=
 h.keep fun j arr _ hj=>hb.block j (blk_lt hj) fun hm=>hS j hm arr hj
theorem FoI.later {w:World} {o0 o2:Obj} {wx:World} {nR nI:Nat} {ys:List NX} {S0:WkS} {k:Nat} {wi wj:World} {zs:List SR} {due:List Bool} (h:FoI w o0 o2 wx nR nI ys S0 k wi zs due) (hb:Below wi.heap.size wi wj):FoI w o0 o2 wx nR nI ys S0 k wj zs due :=
 ⟨h.bel.trans (hb.mono h.bel.size),blk_later hb h.code,blk_later hb h.flt,blk_later hb h.pro,h.st.later hb,blk_later hb h.dub,h.ok,h.bl.trans (ButL.of_below hb),h.lead⟩
theorem lead_drop {ys:List NX} {k:Nat} {y:NX} {s:WkS} {r:Except Nat WkS} (hy:ys[k]?=some y) (h:leadW ((ys.drop k).map fun y=>(y.t,y.x)) s=r):(match reachW s y.t y.x with | some s'=>leadW ((ys.drop (k+1)).map fun y=>(y.t,y.x)) s' | none=>.error y.t)=r:=by
 have hk:=(List.getElem?_eq_some_iff.1 hy).1
 rw[List.drop_eq_getElem_cons hk,(List.getElem?_eq_some_iff.1 hy).2]at h
 exact h
theorem FoI.new {w:World} {o0 o2:Obj} {wx:World} {nR nI:Nat} {ys:List NX} {S0:WkS} {k:Nat} {wi wj wz:World} {zs:List SR} {due:List Bool} {y:NX} {tv gv:Value} (h:FoI w o0 o2 wx nR nI ys S0 k wi zs due) (hy:ys[k]?=some y) (hz:(zs.map SR.o)[y.t]?=some none) (hx:SOk nR y.x) (hb:Below wi.heap.size wi wj)
  (ht:ORow wj wi.heap.size 3 1 intC tv y.x.ts) (hg:ORow wj wi.heap.size 172 3 GD.cells gv y.x.gs)
  (e:wz=(((wj.setCell ⟨w.heap.size+1+1+1,y.t*3,none⟩ (.bool true)).setCell ⟨w.heap.size+1+1+1,y.t*3+1,none⟩ tv).setCell ⟨w.heap.size+1+1+1,y.t*3+2,none⟩ gv).setCell ⟨w.heap.size+1+1+1+1,y.t,none⟩ (.bool true)) :
  FoI w o0 o2 wx nR nI ys S0 (k+1) wz (zs.set y.t ⟨some y.x,tv,gv⟩) (due.set y.t true):=by
 have h':=h.later hb
 have htl:y.t<zs.length:=by have:=(List.getElem?_eq_some_iff.1 hz).1;simpa using this
 have hbase:w.heap.size≤wi.heap.size:=h.bel.size
 have hS:=h'.st.put (i:=y.t) (z:=⟨some y.x,tv,gv⟩) htl ⟨ht.mono hbase,hg.mono hbase⟩ (fun j z hj hzj=>by
  have hok:=h.st.ok z (List.mem_of_getElem? hzj)
  unfold SR.ok at hok
  constructor
  ·intro b hb1 hb2
   have h2:=(ht.own_lt hb2).1
   split at hok
   ·rw[hok.1]at hb1;cases hb1
   ·have:=(hok.1.own_lt hb1).2;omega
  ·intro b hb1 hb2
   have h2:=(hg.own_lt hb2).1
   split at hok
   ·rw[hok.2]at hb1;cases hb1
   ·have:=(hok.2.own_lt hb1).2;omega)
 have hl:=lead_drop hy h.lead
 have hgd:(zs.map SR.o).getD y.t none=none:=by rw[List.getD_eq_getElem?_getD,hz];rfl
 have hrw:reachW ⟨zs.map SR.o,due⟩ y.t y.x=some ⟨(zs.map SR.o).set y.t (some y.x),due.set y.t true⟩:=by unfold reachW;dsimp only;rw[hgd]
 rw[hrw]at hl
 dsimp only at hl
 have hmap:(zs.set y.t ⟨some y.x,tv,gv⟩).map SR.o=(zs.map SR.o).set y.t (some y.x):=by rw[List.map_set]
 obtain⟨wm,hwm⟩:∃wm,wm=((wj.setCell ⟨w.heap.size+1+1+1,y.t*3,none⟩ (.bool true)).setCell ⟨w.heap.size+1+1+1,y.t*3+1,none⟩ tv).setCell ⟨w.heap.size+1+1+1,y.t*3+2,none⟩ gv:=⟨_,rfl⟩
 have B:∀(g:Nat) (o:Obj),g≠w.heap.size+1+1+1→wj.heap[g]?=some o→wm.heap[g]?=some o:=fun g o hne ho=>by rw[hwm];exact blk_other (blk_other (blk_other ho (by omega) _ _) (by omega) _ _) (by omega) _ _
 have hd4:=B _ _ (by omega) h'.dub
 have key:FoI w o0 o2 wx nR nI ys S0 (k+1) (wm.setCell ⟨w.heap.size+1+1+1+1,y.t,none⟩ (.bool true)) (zs.set y.t ⟨some y.x,tv,gv⟩) (due.set y.t true):=by
  refine⟨?_,?_,?_,?_,?_,?_,?_,?_,?_⟩
  ·rw[hwm];exact (((h'.bel.setCell (by simp;omega) _).setCell (by simp;omega) _).setCell (by simp;omega) _).setCell (by simp;omega) _
  ·exact blk_other (B _ _ (by omega) h'.code) (by omega) _ _
  ·exact blk_other (B _ _ (by omega) h'.flt) (by omega) _ _
  ·exact blk_other (B _ _ (by omega) h'.pro) (by omega) _ _
  ·exact StA.set_bool (by rw[hwm];exact hS) hd4 _ _
  ·have hq:=blk_set hd4 y.t (.bool true);rw[mb_set]at hq;exact hq
  ·rw[hmap];exact reachW_ok h.ok hx hrw
  ·rw[hwm];exact (((h'.bl.set (by simp) _ _).set (by simp) _ _).set (by simp) _ _).set (by simp) _ _
  ·rw[hmap];exact hl
 rw[e,←hwm]
 exact key
theorem count_set:∀(l:List Bool) (i:Nat),l[i]?=some false→(l.set i true).count false+1=l.count false
 | [],i,h=>by simp at h
 | b :: l,0,h=>by
  simp at h
  subst h
  simp
 | b :: l,i+1,h=>by
  simp at h
  have:=count_set l i h
  simp only[List.set_cons_succ,List.count_cons]
  omega
theorem wpAny_inv {P:Program} {ops:Array Oper} {Q:Exit→Act→World→Prop} {md:Region.Mode} (Inv:Array Bool→Act→World→Prop)
  (hstep:∀i listed a w,Inv listed a w→i∈Region.ready md ops listed→wpOp P ops Q i (Inv (listed.setIfInBounds i true)) a w)
  (hend:∀listed a w,Inv listed a w→Region.ready md ops listed=[]→Q .normal a w) :
  ∀(fuel:Nat) (listed:Array Bool) (a:Act) (w:World),listed.toList.count false≤fuel→Inv listed a w→wpAny P md ops Q fuel listed a w:=by
 have hin:∀(listed:Array Bool) (i:Nat),i∈Region.ready md ops listed→listed.toList[i]?=some false:=by
  intro listed i hi
  have h:=(mem_ready.1 hi).1
  rw[Array.getElem?_toList]
  rcases Nat.lt_or_ge i listed.size with h' | h'
  ·simp[h']at h ⊢;exact h
  ·simp[Array.getElem?_eq_none h']at h
 intro fuel
 induction fuel with
 | zero =>
  intro listed a w hc hI
  have hr:Region.ready md ops listed=[]:=by
   cases hr:Region.ready md ops listed with
   | nil=>rfl
   | cons i r =>
    have h:=hin listed i (by rw[hr];simp)
    have:=count_set _ i h
    omega
  exact⟨hr,hend _ _ _ hI hr⟩
 | succ fuel ih =>
  intro listed a w hc hI
  refine⟨hend _ _ _ hI,fun i hi=>?_⟩
  refine wpOp_mono (fun a' w' h=>ih _ a' w' ?_ h) (hstep i listed a w hI hi)
  have:=count_set _ i (hin listed i hi)
  rw[Array.toList_setIfInBounds]
  omega
theorem wp_region_inv {P:Program} {id:Nat} {ops:Array Oper} {Q:Exit→Act→World→Prop} {a:Act} {w:World} (hm:P.follows .mixedOrders=true) (F:Act→Array Bool→Act→World→Prop)
  (h0:F a (Array.replicate ops.size false) a w.drew)
  (hstep:∀i listed a' w',F a listed a' w'→i∈Region.ready .any ops listed→wpOp P ops Q i (F a (listed.setIfInBounds i true)) a' w')
  (hend:∀listed a' w',F a listed a' w'→Region.ready .any ops listed=[]→Q .normal a' w'):(Code.region id ops true).wp P Q a w :=
 wp_region_any hm (wpAny_inv (F a) hstep hend ops.size _ a w.drew (by simp) h0)
theorem ready_next {md:Region.Mode} {ops:Array Oper} {listed:Array Bool} (hr:Region.ready md ops listed=[]) (i:Nat) {o:Oper} (ho:ops[i]?=some o) (hd:∀e∈o.after.toList,listed.getD e.on false=true):listed.getD i true=true:=by
 by_cases h:listed.getD i true=true
 ·exact h
 ·have:i∈Region.ready md ops listed:=mem_ready.2 ⟨by simpa using h,o,ho,fun e he _=>hd e (Array.mem_toList_iff.2 he)⟩
  rw[hr]at this
  cases this
theorem ready_dep {md:Region.Mode} {ops:Array Oper} {listed:Array Bool} {i:Nat} (hr:i∈Region.ready md ops listed) {o:Oper} (ho:ops[i]?=some o) (e:Edge) (he:e∈o.after.toList) (hb:Region.binds md e=true):listed.getD e.on false=true:=by
 obtain⟨_,o',ho',h⟩:=mem_ready.1 hr
 rw[ho]at ho'
 cases ho'
 exact h e (Array.mem_toList_iff.1 he) hb
theorem ready_lt {md:Region.Mode} {ops:Array Oper} {listed:Array Bool} {i:Nat} (hr:i∈Region.ready md ops listed):i<ops.size:=by
 obtain⟨_,o',ho',h⟩:=mem_ready.1 hr
 exact (Array.getElem?_eq_some_iff.1 ho').1
structure R40 (wi:World) (g xb nI:Nat) (y:NX) (w':World) (b0 b1 b2 b3 b4 b5 b6 b7 b8 b9 b10 b11:Bool) (x0 x1 x2 x3 x4 x5 x6 x7 x8 x9 x10 x11:Value):Prop where
 hb:Below wi.heap.size wi w'
 h0:b0=true→x0=.slice (some ⟨g,0,none⟩) nI nI
 h1:b1=true→x1=.pointer (some ⟨xb,0,none⟩)
 h2:b2=true→x2=.int .i64 (y.t:Int)
 h3:b3=true→x3=.pointer (some ⟨xb,1,none⟩)
 h4:b4=true→x4=.pointer (some ⟨xb,2,none⟩)
 h5:b5=true→x5=.slice y.a y.x.ts.length y.c
 h6:b6=true→∃a c,x6=.slice a y.x.ts.length c∧ORow w' wi.heap.size 3 1 intC (.slice a y.x.ts.length c) y.x.ts
 h7:b7=true→x7=.pointer (some ⟨xb,1,none⟩)
 h8:b8=true→x8=.pointer (some ⟨xb,3,none⟩)
 h9:b9=true→x9=.slice y.b y.x.gs.length y.d
 h10:b10=true→∃a c,x10=.slice a y.x.gs.length c∧ORow w' wi.heap.size 172 3 GD.cells (.slice a y.x.gs.length c) y.x.gs
 h11:b11=true→b6=true∧b10=true∧x11=.agg #[.bool true,x6,x10]
theorem R40.later {wi:World} {g xb nI:Nat} {y:NX} {w' w2:World} {b0 b1 b2 b3 b4 b5 b6 b7 b8 b9 b10 b11:Bool} {x0 x1 x2 x3 x4 x5 x6 x7 x8 x9 x10 x11:Value} (h:R40 wi g xb nI y w' b0 b1 b2 b3 b4 b5 b6 b7 b8 b9 b10 b11 x0 x1 x2 x3 x4 x5 x6 x7 x8 x9 x10 x11) (hx:Below w'.heap.size w' w2):R40 wi g xb nI y w2 b0 b1 b2 b3 b4 b5 b6 b7 b8 b9 b10 b11 x0 x1 x2 x3 x4 x5 x6 x7 x8 x9 x10 x11 :=
 { h with
  hb:=h.hb.trans (hx.mono h.hb.size)
  h6:=fun e=>by obtain⟨a,c,e1,e2⟩:=h.h6 e;exact⟨a,c,e1,e2.later hx⟩
  h10:=fun e=>by obtain⟨a,c,e1,e2⟩:=h.h10 e;exact⟨a,c,e1,e2.later hx⟩ }
theorem PrOk.lt {xs:List FC} {d:FD} {nR nI nP:Nat} {E:Nat→List Nat} (h:PrOk xs d nR nI nP E):∀x,x<nI→∀y∈E x,y<nI:=by
 intro x hx y hy
 have hxi:x<d.ins.length:=by rw[h.ins];exact hx
 have h0:d.ins[x]?=some (d.ins[x]'hxi):=List.getElem?_eq_getElem hxi
 have hn:=h.ok _ (List.getElem_mem hxi)
 rw[h.sil x _ h0,silS_mem]at hy
 unfold silentV at hy
 rcases List.mem_append.1 hy with hy | hy
 ·split at hy
  ·rename_i e
   simp at hy
   rw[hy]
   exact h.goes x _ h0 (by simp only[Bool.and_eq_true]at e;exact e.1)
  ·cases hy
 ·split at hy
  ·rename_i t ht
   simp at hy
   subst hy
   unfold targetV at ht
   split at ht
   ·rename_i e;have:=hn.ta e;simp at ht;omega
   ·split at ht
    ·rename_i e;have:=hn.tb e;simp at ht;omega
    ·cases ht
  ·cases hy
end Go.Proofs.YtjglgbepobmjhaaGreatDoor
