import Derived.Test.YtfejmalmnjmanaaGreatDoorS22
import Derived.Test.YtfejmalmnjmanaaGreatDoorS21
import Derived.Test.YtfejmalmnjmanaaGreatDoorS08
set_option linter.unusedVariables false
set_option linter.unusedSimpArgs false
set_option maxRecDepth 20000
set_option maxHeartbeats 8000000
namespace Go.Proofs.YtfejmalmnjmanaaGreatDoor
open Go.RowKit
def LeastRd (s:WkS) (E:Nat→List Nat) (i:Nat):Prop:=(∃ x,s.st[i]?=some (some x))∧TJ.Cyc E i∧∀ j:Nat,j<i→(∃ x,s.st[j]?=some (some x))→¬ TJ.Cyc E j
def WkP (p nI:Nat) (E:Nat→List Nat) (R:Except (Nat × Nat) WkS) (B:Nat) (e:Ending) (w':World):Prop:=match R with
 | .error x=>e=.returned (.tuple #[.slice none 0 0,FV x.1 p x.2])
 | .ok s=>(∃ i:Nat,LeastRd s E i∧e=.returned (.tuple #[.slice none 0 0,FV 14 p i])) ∨
   ((∀ i:Nat,(∃ x,s.st[i]?=some (some x))→¬ TJ.Cyc E i)∧∃ gS zs,e=.returned (.tuple #[.slice (some ⟨gS,0,none⟩) nI nI,FV 0 0 0])∧StA w' B gS zs∧B≤gS∧zs.map SR.o=s.st)
structure PrOk (xs:List FC) (d:FD) (nR nI nP:Nat) (E:Nat→List Nat):Prop where
 regs:d.regs=nR
 reg1:nR≤250
 ins:d.ins.length=nI
 ins0:0<nI
 ins1:nI≤6000
 par:d.params=nP
 par1:nP+(if d.rest=true then 1 else 0)≤nR
 ok:∀ n∈d.ins,InsOk nR nI n
 goes:∀ (a:Nat) n,d.ins[a]?=some n→goesV n.op=true→a+1<nI
 ups:∀ n∈d.ins,n.op=11→∃ (q:Nat) (f:FC),n.b=q∧xs[q]?=some f∧∀ u∈f.d.ups,u.l=true→0≤u.i∧u.i<nR
 sil:∀ (a:Nat) n,d.ins[a]?=some n→E a=silS n a
theorem w6_at (w:World) (o0 o1 o2 o3 o4 o5:Obj):((((((w.alloc o0).alloc o1).alloc o2).alloc o3).alloc o4).alloc o5).heap[w.heap.size]?=some o0∧((((((w.alloc o0).alloc o1).alloc o2).alloc o3).alloc o4).alloc o5).heap[w.heap.size+1]?=some o1∧((((((w.alloc o0).alloc o1).alloc o2).alloc o3).alloc o4).alloc o5).heap[w.heap.size+1+1]?=some o2∧((((((w.alloc o0).alloc o1).alloc o2).alloc o3).alloc o4).alloc o5).heap[w.heap.size+1+1+1]?=some o3∧((((((w.alloc o0).alloc o1).alloc o2).alloc o3).alloc o4).alloc o5).heap[w.heap.size+1+1+1+1]?=some o4∧((((((w.alloc o0).alloc o1).alloc o2).alloc o3).alloc o4).alloc o5).heap[w.heap.size+1+1+1+1+1]?=some o5∧Below w.heap.size w ((((((w.alloc o0).alloc o1).alloc o2).alloc o3).alloc o4).alloc o5) :=
 ⟨qIz (qIz (qIz (qIz (qIz (qKz _ _) _) _) _) _) _,qIz (qIz (qIz (qIz (qNz (by simp) _) _) _) _) _,qIz (qIz (qIz (qNz (by simp) _) _) _) _,qIz (qIz (qNz (by simp) _) _) _,qIz (qNz (by simp) _) _,qNz (by simp) _,qJz (qJz (qJz (bw3 _ _ _ _) _) _) _⟩
theorem TyAt.own {w:World}{g cap B:Nat}{ts:List Int} (h:TyAt w g cap ts) (hB:B≤g) (hc:cap≤1000):ORow w B 3 1 intC (.slice (some ⟨g,0,none⟩) ts.length cap) ts:=by
 obtain ⟨cur,h1,h2,h3,h4⟩:=h
 refine ⟨by rw[flat_int];simp,.inr ⟨g,cap,cur,rfl,hB,h1,h2,by unfold maxLen;omega,by omega,?_⟩⟩
 rw[flat_int]
 apply List.ext_getElem?
 intro i
 rw[List.getElem?_take,List.getElem?_map]
 by_cases hi:i<ts.length
 ·rw[if_pos (by omega),Array.getElem?_toList,h4 i hi,List.getElem?_eq_getElem hi,List.getD_eq_getElem?_getD,List.getElem?_eq_getElem hi]
  rfl
 ·rw[if_neg (by omega),List.getElem?_eq_none (by omega)]
  rfl
structure WkI (xs:List FC) (ins:List ID) (R:Except (Nat × Nat) WkS) (nR nI:Nat) (w:World) (o0 o2:Obj) (wr:World) (zs:List SR) (due:List Bool):Prop where
 bel:Below w.heap.size w wr
 code:wr.heap[w.heap.size]?=some o0
 flt:wr.heap[w.heap.size+1]?=some (FO 0 0 0)
 pro:wr.heap[w.heap.size+1+1]?=some o2
 st:StA wr w.heap.size (w.heap.size+1+1+1) zs
 dub:wr.heap[w.heap.size+1+1+1+1]?=some (.cells (mb due) 4)
 ok:WOk nR nI ⟨zs.map SR.o,due⟩
 run:∃ k,Runs (xs.map FC.d) ins k ⟨zs.map SR.o,due⟩ R
theorem cnt_sr {w:World}{B:Nat}:∀ (zs:List SR),(∀ z∈zs,z.ok w B)→(zs.flatMap SR.cells).countP (isB false)=(zs.map SR.o).countP (·.isNone)
 | [],_=>rfl
 | z::zs,h=>by
  have ih:=cnt_sr zs fun y hy=>h y (List.mem_cons_of_mem _ hy)
  have hz:=h z (by simp)
  rw[List.flatMap_cons,List.countP_append,ih,List.map_cons,List.countP_cons]
  have e:z.cells.countP (isB false)=if z.o.isNone=true then 1 else 0:=by
   obtain ⟨o,tv,gv⟩:=z
   unfold SR.ok at hz
   cases o with
   | none=>obtain ⟨h1,h2⟩:=hz;dsimp only at h1 h2;subst h1 h2;rfl
   | some x =>
    obtain ⟨a1,c1,e1⟩:=hz.1.val
    obtain ⟨a2,c2,e2⟩:=hz.2.val
    dsimp only at e1 e2
    subst e1 e2
    rfl
  rw[e,Nat.add_comm]
theorem StA.cnt {w:World}{B gS:Nat}{zs:List SR} (h:StA w B gS zs):cntB false w gS=(zs.map SR.o).countP (·.isNone):=by
 rw[cntB_of h.blk]
 exact cnt_sr zs h.ok
theorem cnt_due {w:World}{g:Nat}{l:List Bool}{t:TypeId} (h:w.heap[g]?=some (.cells (mb l) t)):cntB true w g=l.countP (·==true):=by
 rw[cntB_of h,mb_cnt]
 congr 1
 funext c
 cases c <;> rfl
theorem WkI.mu {xs:List FC}{ins:List ID}{R:Except (Nat × Nat) WkS}{nR nI:Nat}{w wr:World}{o0 o2:Obj}{zs:List SR}{due:List Bool} (h:WkI xs ins R nR nI w o0 o2 wr zs due):2*cntB false wr (w.heap.size+1+1+1)+cntB true wr (w.heap.size+1+1+1+1)=mu ⟨zs.map SR.o,due⟩:=by
 rw[h.st.cnt,cnt_due h.dub]
 rfl
theorem startS_ok {xs:List FC}{d:FD}{nR nI nP:Nat}{E:Nat→List Nat} (h:PrOk xs d nR nI nP E):WOk nR nI (startS d):=by
 have h1:=h.ins
 have h2:=h.ins0
 have hr:d.regs.toNat=nR:=by rw[h.regs];simp
 have hp:d.params.toNat=nP:=by rw[h.par];simp
 have h3:=h.par1
 refine ⟨by simp[startS];omega,by simp[startS];omega,fun a x hx=>?_,fun a ha=>?_⟩
 ·cases a with
  | zero =>
   simp[startS] at hx
   subst hx
   exact ⟨by rw[startT_len _ _ _ (by rw[hr,hp];split at h3 <;> omega),hr],by simp,fun g hg=>by cases hg⟩
  | succ a =>
   simp only[startS,List.getElem?_cons_succ,List.getElem?_replicate] at hx
   split at hx <;> cases hx
 ·cases a with
  | zero=>exact ⟨_,rfl⟩
  | succ a =>
   simp only[startS,List.getElem?_cons_succ,List.getElem?_replicate] at ha
   split at ha <;> cases ha
theorem last_row {op na nb nc nd:Int}{gs:List GD}{g:GD}{m:Nat}{w w1:World}{a1:Option Addr}{c1:Nat} (hm:gs.length=m) (hb:Below (w.alloc (InOb ⟨op,na,nb,nc,nd⟩)).heap.size (w.alloc (InOb ⟨op,na,nb,nc,nd⟩)) w1)
  (ho:ORow w1 (w.alloc (InOb ⟨op,na,nb,nc,nd⟩)).heap.size 113 3 GD.cells (.slice a1 (m+1) c1) (gs++[g])) :
  ∃ b,a1=some ⟨b,0,none⟩∧m+1≤c1∧(w.alloc (InOb ⟨op,na,nb,nc,nd⟩)).heap.size≤b∧w1.cell? ⟨b,m*3,none⟩=some (.bool g.t)∧w1.cell? ⟨b,m*3+1,none⟩=some (.int .i64 g.k)∧w1.cell? ⟨b,m*3+2,none⟩=some (.int .i64 g.h)∧Hid (SlA w1 3 GD.cells (some ⟨b,0,none⟩) (gs++[g]))∧(∀ i,w1.frozen? ⟨b,i,none⟩=false)∧Hid (∃ cur,w1.heap[b]?=some (.cells cur 113)):=by
 have hcur:∀ b cap,(Value.slice a1 (m+1) c1)=.slice (some ⟨b,0,none⟩) (m+1) cap→∃ cur,w1.heap[b]?=some (.cells cur 113):=by
  intro b cap e
  rcases ho.2 with ⟨h,_⟩|⟨b',cap',cur,e1,_,e3,_⟩
  ·rw[e] at h;cases h
  ·rw[e] at e1
   injection e1 with e1 _ _
   cases e1
   exact ⟨cur,e3⟩
 obtain ⟨b,cap,e,h1,h2,h3,h4,h5⟩:=ho.open GD.len (by simp)
 injection e with e1 e2 e3
 obtain ⟨b',off,e6,_,hc⟩:=h3 m g (by rw[List.getElem?_append_right (by omega),hm,Nat.sub_self];rfl)
 cases e6
 refine ⟨b,e1,?_,h1,?_,?_,?_,h3,h4,hcur b c1 (by rw[e1])⟩
 ·rw[e3];simp at h2;omega
 ·have:=hc 0 _ rfl;simpa using this
 ·have:=hc 1 _ rfl;simpa using this
 ·have:=hc 2 _ rfl;simpa using this
theorem keep_row {gs:List GD}{g:GD}{m b:Nat}{w1:World} (hm:gs.length=m) (z:Int) (hs:SlA w1 3 GD.cells (some ⟨b,0,none⟩) (gs++[g])) (hcur:∃ cur,w1.heap[b]?=some (.cells cur 113)) :
  SlA (w1.setCell ⟨b,m*3+1,none⟩ (.int .i64 z)) 3 GD.cells (some ⟨b,0,none⟩) (gs++[⟨g.t,z,g.h⟩]):=by
 obtain ⟨cur,hc⟩:=hcur
 have old:∀ i x,(gs++[g])[i]?=some x→∀ j v,x.cells[j]?=some v→cur[i*3+j]?=some v:=by
  intro i x hi j v hv
  obtain ⟨b',off,e,_,h⟩:=hs i x hi
  cases e
  have:=h j v hv
  rw[qAz hc,Nat.zero_add] at this
  exact this
 have lastg:(gs++[g])[m]?=some g:=by rw[List.getElem?_append_right (by omega),hm,Nat.sub_self];rfl
 have hin:m*3+1<cur.size:=by
  have:=old m g lastg 1 _ rfl
  rcases Nat.lt_or_ge (m*3+1) cur.size with h|h
  ·exact h
  ·rw[Array.getElem?_eq_none h] at this;cases this
 intro i x hi
 refine ⟨b,0,rfl,by simpa using blk_lt hc,fun j v hv=>?_⟩
 rw[qAz (qLz hc _ _),Nat.zero_add,Array.getElem?_setIfInBounds]
 by_cases him:i<m
 ·rw[List.getElem?_append_left (by omega)] at hi
  have hj:j<3:=(List.getElem?_eq_some_iff.1 hv).1
  rw[if_neg (by omega)]
  exact old i x (by rw[List.getElem?_append_left (by omega)];exact hi) j v hv
 ·rw[List.getElem?_append_right (by omega),hm] at hi
  have hi0:i-m=0:=by
   have:=(List.getElem?_eq_some_iff.1 hi).1
   simp at this;omega
  obtain rfl:i=m:=by omega
  rw[Nat.sub_self] at hi
  obtain rfl:(⟨g.t,z,g.h⟩:GD)=x:=by simpa using hi
  match j,hv with
  | 0,hv =>
   rw[if_neg (by omega)]
   exact old i g lastg 0 v hv
  | 1,hv =>
   rw[if_pos rfl,if_pos hin]
   exact hv
  | 2,hv =>
   rw[if_neg (by omega)]
   exact old i g lastg 2 v hv
theorem bwx {op na nb nc nd:Int}{w w1:World} (hb:Below (w.alloc (InOb ⟨op,na,nb,nc,nd⟩)).heap.size (w.alloc (InOb ⟨op,na,nb,nc,nd⟩)) w1):Below w.heap.size w w1:=by
 have hy:=bw1 w (InOb ⟨op,na,nb,nc,nd⟩)
 exact hy.trans (hb.mono hy.size)
theorem frozen_later {w w':World}{b i:Nat} (hb:Below w.heap.size w w') (hc:∃ cur,w.heap[b]?=some (.cells cur 113)) (h:w.frozen? ⟨b,i,none⟩=false):w'.frozen? ⟨b,i,none⟩=false:=by
 obtain ⟨cur,hc⟩:=hc
 exact qGz (qBz hb hc) i
theorem change_end_t (na nb nc nd:Int) (a:Option Addr) (cap m:Nat) (gs:List GD) (g:GD) (hm:gs.length=m) (w:World) (hp:SlA w 3 GD.cells a (gs++[g])) (hlen:m+1≤50) (hg:g.t=true) :
  Calls Tryz.prog 38 #[IV ⟨32,na,nb,nc,nd⟩,.slice a (m+1) cap] w fun e w'=>ChgP ⟨32,na,nb,nc,nd⟩ (gs++[g]) w.heap.size e w'∧Below w.heap.size w w':=by
 have HP:Hid (SlA w 3 GD.cells a (gs++[g])):=hp
 have HL:Hid ((gs++[g]).length=m+1):=by show _=_;simp[hm]
 clear hp
 have t:(((m+1:Nat):Int)==0)=false:=by simp;omega
 have HV:Hid (changeV ⟨32,na,nb,nc,nd⟩ (gs++[g])=some gs):=by show changeV _ _=_;simp[changeV,hg]
 go_enter Tryz.func38,Tryz.ntmps38
 go_wp2_with (go_at_call 42;refine Calls.mono (HL.out ▸ guards_row a cap (gs++[g]) _ (HP.out.later (bw1 _ _)) (by rw[HL.out];omega)) ?_;rintro e w1 ⟨a1,c1,rfl,ho,hb⟩;obtain ⟨n0,n1,n2⟩:=ins_cells hb;obtain ⟨b,rfl,hc1,hbb,g0,g1,g2,hs,hf,hcur⟩:=last_row hm hb ho.out;rw[hg] at g0)
 refine bodyPost_ret (v:=.tuple #[.slice (some ⟨b,0,none⟩) m c1,.bool true]) (by simp[results,Tryz.results38,go_sem]) rfl ⟨.inr ⟨gs,some ⟨b,0,none⟩,c1,HV.out,by rw[hm],?_,fun b' off e=>by cases e;simp at hbb;omega⟩,bwx hb⟩
 have h:=hs.out.dropLast
 rwa [List.dropLast_concat] at h
theorem change_end_f (na nb nc nd:Int) (a:Option Addr) (cap m:Nat) (gs:List GD) (g:GD) (hm:gs.length=m) (w:World) (hp:SlA w 3 GD.cells a (gs++[g])) (hlen:m+1≤50) (hg:g.t=false) :
  Calls Tryz.prog 38 #[IV ⟨32,na,nb,nc,nd⟩,.slice a (m+1) cap] w fun e w'=>ChgP ⟨32,na,nb,nc,nd⟩ (gs++[g]) w.heap.size e w'∧Below w.heap.size w w':=by
 have HP:Hid (SlA w 3 GD.cells a (gs++[g])):=hp
 have HL:Hid ((gs++[g]).length=m+1):=by show _=_;simp[hm]
 clear hp
 have t:(((m+1:Nat):Int)==0)=false:=by simp;omega
 have HV:Hid (changeV ⟨32,na,nb,nc,nd⟩ (gs++[g])=none):=by show changeV _ _=_;simp[changeV,hg]
 go_enter Tryz.func38,Tryz.ntmps38
 go_wp2_with (go_at_call 42;refine Calls.mono (HL.out ▸ guards_row a cap (gs++[g]) _ (HP.out.later (bw1 _ _)) (by rw[HL.out];omega)) ?_;rintro e w1 ⟨a1,c1,rfl,ho,hb⟩;obtain ⟨n0,n1,n2⟩:=ins_cells hb;obtain ⟨b,rfl,hc1,hbb,g0,g1,g2,hs,hf,hcur⟩:=last_row hm hb ho.out;rw[hg] at g0)
 exact bodyPost_ret (v:=.tuple #[.slice none 0 0,.bool false]) (by simp[results,Tryz.results38,go_sem]) rfl ⟨.inl ⟨HV.out,_,rfl⟩,bwx hb⟩
theorem change_leave_f (na nb nc nd:Int) (a:Option Addr) (cap m:Nat) (gs:List GD) (g:GD) (hm:gs.length=m) (w:World) (hp:SlA w 3 GD.cells a (gs++[g])) (hlen:m+1≤50) (hg:g.t=false) :
  Calls Tryz.prog 38 #[IV ⟨36,na,nb,nc,nd⟩,.slice a (m+1) cap] w fun e w'=>ChgP ⟨36,na,nb,nc,nd⟩ (gs++[g]) w.heap.size e w'∧Below w.heap.size w w':=by
 have HP:Hid (SlA w 3 GD.cells a (gs++[g])):=hp
 have HL:Hid ((gs++[g]).length=m+1):=by show _=_;simp[hm]
 clear hp
 have t:(((m+1:Nat):Int)==0)=false:=by simp;omega
 have HV:Hid (changeV ⟨36,na,nb,nc,nd⟩ (gs++[g])=some gs):=by show changeV _ _=_;simp[changeV,hg]
 go_enter Tryz.func38,Tryz.ntmps38
 go_wp2_with (go_at_call 42;refine Calls.mono (HL.out ▸ guards_row a cap (gs++[g]) _ (HP.out.later (bw1 _ _)) (by rw[HL.out];omega)) ?_;rintro e w1 ⟨a1,c1,rfl,ho,hb⟩;obtain ⟨n0,n1,n2⟩:=ins_cells hb;obtain ⟨b,rfl,hc1,hbb,g0,g1,g2,hs,hf,hcur⟩:=last_row hm hb ho.out;rw[hg] at g0)
 refine bodyPost_ret (v:=.tuple #[.slice (some ⟨b,0,none⟩) m c1,.bool true]) (by simp[results,Tryz.results38,go_sem]) rfl ⟨.inr ⟨gs,some ⟨b,0,none⟩,c1,HV.out,by rw[hm],?_,fun b' off e=>by cases e;simp at hbb;omega⟩,bwx hb⟩
 have h:=hs.out.dropLast
 rwa [List.dropLast_concat] at h
theorem change_leave_t (na nb nc nd:Int) (a:Option Addr) (cap m:Nat) (gs:List GD) (g:GD) (hm:gs.length=m) (w:World) (hp:SlA w 3 GD.cells a (gs++[g])) (hlen:m+1≤50) (hg:g.t=true) :
  Calls Tryz.prog 38 #[IV ⟨36,na,nb,nc,nd⟩,.slice a (m+1) cap] w fun e w'=>ChgP ⟨36,na,nb,nc,nd⟩ (gs++[g]) w.heap.size e w'∧Below w.heap.size w w':=by
 have HP:Hid (SlA w 3 GD.cells a (gs++[g])):=hp
 have HL:Hid ((gs++[g]).length=m+1):=by show _=_;simp[hm]
 clear hp
 have t:(((m+1:Nat):Int)==0)=false:=by simp;omega
 have HV:Hid (changeV ⟨36,na,nb,nc,nd⟩ (gs++[g])=none):=by show changeV _ _=_;simp[changeV,hg]
 go_enter Tryz.func38,Tryz.ntmps38
 go_wp2_with (go_at_call 42;refine Calls.mono (HL.out ▸ guards_row a cap (gs++[g]) _ (HP.out.later (bw1 _ _)) (by rw[HL.out];omega)) ?_;rintro e w1 ⟨a1,c1,rfl,ho,hb⟩;obtain ⟨n0,n1,n2⟩:=ins_cells hb;obtain ⟨b,rfl,hc1,hbb,g0,g1,g2,hs,hf,hcur⟩:=last_row hm hb ho.out;rw[hg] at g0)
 exact bodyPost_ret (v:=.tuple #[.slice none 0 0,.bool false]) (by simp[results,Tryz.results38,go_sem]) rfl ⟨.inl ⟨HV.out,_,rfl⟩,bwx hb⟩
theorem change_defer_f (na nb nc nd:Int) (a:Option Addr) (cap m:Nat) (gs:List GD) (g:GD) (hm:gs.length=m) (w:World) (hp:SlA w 3 GD.cells a (gs++[g])) (hlen:m+1≤50) (hg:g.t=false) :
  Calls Tryz.prog 38 #[IV ⟨35,na,nb,nc,nd⟩,.slice a (m+1) cap] w fun e w'=>ChgP ⟨35,na,nb,nc,nd⟩ (gs++[g]) w.heap.size e w'∧Below w.heap.size w w':=by
 have HP:Hid (SlA w 3 GD.cells a (gs++[g])):=hp
 have HL:Hid ((gs++[g]).length=m+1):=by show _=_;simp[hm]
 clear hp
 have t:(((m+1:Nat):Int)==0)=false:=by simp;omega
 have HV:Hid (changeV ⟨35,na,nb,nc,nd⟩ (gs++[g])=some (gs++[g])):=by show changeV _ _=_;simp[changeV,hg]
 go_enter Tryz.func38,Tryz.ntmps38
 go_wp2_with (go_at_call 42;refine Calls.mono (HL.out ▸ guards_row a cap (gs++[g]) _ (HP.out.later (bw1 _ _)) (by rw[HL.out];omega)) ?_;rintro e w1 ⟨a1,c1,rfl,ho,hb⟩;obtain ⟨n0,n1,n2⟩:=ins_cells hb;obtain ⟨b,rfl,hc1,hbb,g0,g1,g2,hs,hf,hcur⟩:=last_row hm hb ho.out;rw[hg] at g0)
 exact bodyPost_ret (v:=.tuple #[.slice (some ⟨b,0,none⟩) (m+1) c1,.bool true]) (by simp[results,Tryz.results38,go_sem]) rfl ⟨.inr ⟨gs++[g],some ⟨b,0,none⟩,c1,HV.out,by rw[HL.out],hs.out,fun b' off e=>by cases e;simp at hbb;omega⟩,bwx hb⟩
theorem change_defer_t (na nb nc nd:Int) (a:Option Addr) (cap m:Nat) (gs:List GD) (g:GD) (hm:gs.length=m) (w:World) (hp:SlA w 3 GD.cells a (gs++[g])) (hlen:m+1≤50) (hg:g.t=true) :
  Calls Tryz.prog 38 #[IV ⟨35,na,nb,nc,nd⟩,.slice a (m+1) cap] w fun e w'=>ChgP ⟨35,na,nb,nc,nd⟩ (gs++[g]) w.heap.size e w'∧Below w.heap.size w w':=by
 have HP:Hid (SlA w 3 GD.cells a (gs++[g])):=hp
 have HL:Hid ((gs++[g]).length=m+1):=by show _=_;simp[hm]
 clear hp
 have t:(((m+1:Nat):Int)==0)=false:=by simp;omega
 have HV:Hid (changeV ⟨35,na,nb,nc,nd⟩ (gs++[g])=none):=by show changeV _ _=_;simp[changeV,hg]
 go_enter Tryz.func38,Tryz.ntmps38
 go_wp2_with (go_at_call 42;refine Calls.mono (HL.out ▸ guards_row a cap (gs++[g]) _ (HP.out.later (bw1 _ _)) (by rw[HL.out];omega)) ?_;rintro e w1 ⟨a1,c1,rfl,ho,hb⟩;obtain ⟨n0,n1,n2⟩:=ins_cells hb;obtain ⟨b,rfl,hc1,hbb,g0,g1,g2,hs,hf,hcur⟩:=last_row hm hb ho.out;rw[hg] at g0)
 exact bodyPost_ret (v:=.tuple #[.slice none 0 0,.bool false]) (by simp[results,Tryz.results38,go_sem]) rfl ⟨.inl ⟨HV.out,_,rfl⟩,bwx hb⟩
theorem change_keep_t (na nb nc nd:Int) (a:Option Addr) (cap m:Nat) (gs:List GD) (g:GD) (hm:gs.length=m) (w:World) (hp:SlA w 3 GD.cells a (gs++[g])) (hlen:m+1≤50) (hg:g.t=true) :
  Calls Tryz.prog 38 #[IV ⟨34,na,nb,nc,nd⟩,.slice a (m+1) cap] w fun e w'=>ChgP ⟨34,na,nb,nc,nd⟩ (gs++[g]) w.heap.size e w'∧Below w.heap.size w w':=by
 have HP:Hid (SlA w 3 GD.cells a (gs++[g])):=hp
 have HL:Hid ((gs++[g]).length=m+1):=by show _=_;simp[hm]
 clear hp
 have t:(((m+1:Nat):Int)==0)=false:=by simp;omega
 have HV:Hid (changeV ⟨34,na,nb,nc,nd⟩ (gs++[g])=none):=by show changeV _ _=_;simp[changeV,hg]
 go_enter Tryz.func38,Tryz.ntmps38
 go_wp2_with (go_at_call 42;refine Calls.mono (HL.out ▸ guards_row a cap (gs++[g]) _ (HP.out.later (bw1 _ _)) (by rw[HL.out];omega)) ?_;rintro e w1 ⟨a1,c1,rfl,ho,hb⟩;obtain ⟨n0,n1,n2⟩:=ins_cells hb;obtain ⟨b,rfl,hc1,hbb,g0,g1,g2,hs,hf,hcur⟩:=last_row hm hb ho.out;rw[hg] at g0)
 exact bodyPost_ret (v:=.tuple #[.slice none 0 0,.bool false]) (by simp[results,Tryz.results38,go_sem]) rfl ⟨.inl ⟨HV.out,_,rfl⟩,bwx hb⟩
theorem change_keep_n (na nb nc nd:Int) (a:Option Addr) (cap m:Nat) (gs:List GD) (g:GD) (hm:gs.length=m) (w:World) (hp:SlA w 3 GD.cells a (gs++[g])) (hlen:m+1≤50) (hg:g.t=false) (hab:aboveB (gs++[g]) na=false) :
  Calls Tryz.prog 38 #[IV ⟨34,na,nb,nc,nd⟩,.slice a (m+1) cap] w fun e w'=>ChgP ⟨34,na,nb,nc,nd⟩ (gs++[g]) w.heap.size e w'∧Below w.heap.size w w':=by
 have HP:Hid (SlA w 3 GD.cells a (gs++[g])):=hp
 have HL:Hid ((gs++[g]).length=m+1):=by show _=_;simp[hm]
 clear hp
 have t:(((m+1:Nat):Int)==0)=false:=by simp;omega
 have HV:Hid (changeV ⟨34,na,nb,nc,nd⟩ (gs++[g])=none):=by show changeV _ _=_;simp[changeV,hg,hab]
 go_enter Tryz.func38,Tryz.ntmps38
 go_wp2_with (first|(go_at_call 42;refine Calls.mono (HL.out ▸ guards_row a cap (gs++[g]) _ (HP.out.later (bw1 _ _)) (by rw[HL.out];omega)) ?_;rintro e w1 ⟨a1,c1,rfl,ho,hb⟩;obtain ⟨n0,n1,n2⟩:=ins_cells hb;obtain ⟨b,rfl,hc1,hbb,g0,g1,g2,hs,hf,hcur⟩:=last_row hm hb ho.out;rw[hg] at g0)|(go_at_call 69;refine (above_any a (m+1) cap (gs++[g]) na _ HL.out (HP.out.later (bwx hb)) (by omega)).mono ?_;rintro e w3 ⟨rfl,hb3⟩;obtain ⟨n0',n1',n2'⟩:=ins_cells (hb.trans (hb3.mono hb.size));have g0':=cell_later hb3 g0;have g1':=cell_later hb3 g1;have hf':=fun i=>frozen_later hb3 hcur.out (hf i)))
 exact bodyPost_ret (v:=.tuple #[.slice none 0 0,.bool false]) (by simp[results,Tryz.results38,go_sem]) rfl ⟨.inl ⟨HV.out,_,rfl⟩,(bwx hb).trans (hb3.mono (bwx hb).size)⟩
theorem change_keep_y (na nb nc nd:Int) (a:Option Addr) (cap m:Nat) (gs:List GD) (g:GD) (hm:gs.length=m) (w:World) (hp:SlA w 3 GD.cells a (gs++[g])) (hlen:m+1≤50) (hg:g.t=false) (hab:aboveB (gs++[g]) na=true) :
  Calls Tryz.prog 38 #[IV ⟨34,na,nb,nc,nd⟩,.slice a (m+1) cap] w fun e w'=>ChgP ⟨34,na,nb,nc,nd⟩ (gs++[g]) w.heap.size e w'∧Below w.heap.size w w':=by
 have HP:Hid (SlA w 3 GD.cells a (gs++[g])):=hp
 have HL:Hid ((gs++[g]).length=m+1):=by show _=_;simp[hm]
 clear hp
 have t:(((m+1:Nat):Int)==0)=false:=by simp;omega
 have HV:Hid (changeV ⟨34,na,nb,nc,nd⟩ (gs++[g])=some (gs++[⟨false,na,g.h⟩])):=by show changeV _ _=_;simp[changeV,hg,hab]
 go_enter Tryz.func38,Tryz.ntmps38
 go_wp2_with (first|(go_at_call 42;refine Calls.mono (HL.out ▸ guards_row a cap (gs++[g]) _ (HP.out.later (bw1 _ _)) (by rw[HL.out];omega)) ?_;rintro e w1 ⟨a1,c1,rfl,ho,hb⟩;obtain ⟨n0,n1,n2⟩:=ins_cells hb;obtain ⟨b,rfl,hc1,hbb,g0,g1,g2,hs,hf,hcur⟩:=last_row hm hb ho.out;rw[hg] at g0)|(go_at_call 69;refine (above_any a (m+1) cap (gs++[g]) na _ HL.out (HP.out.later (bwx hb)) (by omega)).mono ?_;rintro e w3 ⟨rfl,hb3⟩;obtain ⟨n0',n1',n2'⟩:=ins_cells (hb.trans (hb3.mono hb.size));have g0':=cell_later hb3 g0;have g1':=cell_later hb3 g1;have hf':=fun i=>frozen_later hb3 hcur.out (hf i)))
 have hB3:Below w.heap.size w w3:=(bwx hb).trans (hb3.mono (bwx hb).size)
 have hbb':w.heap.size≤b:=by simp at hbb;omega
 refine bodyPost_ret (v:=.tuple #[.slice (some ⟨b,0,none⟩) (m+1) c1,.bool true]) (by simp[results,Tryz.results38,go_sem]) rfl ⟨.inr ⟨gs++[⟨false,na,g.h⟩],some ⟨b,0,none⟩,c1,HV.out,by simp[hm],?_,fun b' off e=>by cases e;exact hbb'⟩,((But.of_below (Below.refl _ _)).set _ _).below hB3 hbb' hB3.size⟩
 have h:=keep_row hm na (hs.out.later hb3) (by obtain ⟨cur,hc⟩:=hcur.out;exact ⟨cur,qBz hb3 hc⟩)
 rwa [hg] at h
theorem change_nil32 (na nb nc nd:Int) (a:Option Addr) (cap:Nat) (w:World) :
  Calls Tryz.prog 38 #[IV ⟨32,na,nb,nc,nd⟩,.slice a 0 cap] w fun e w'=>ChgP ⟨32,na,nb,nc,nd⟩ [] w.heap.size e w'∧Below w.heap.size w w':=by
 have HV:Hid (changeV ⟨32,na,nb,nc,nd⟩ []=none):=by show changeV _ _=_;simp[changeV]
 go_enter Tryz.func38,Tryz.ntmps38
 go_wp2_with (go_at_call 42;refine (guards_row a cap [] _ (SlA.nil _ _ _ _) (by simp)).mono ?_;rintro e w1 ⟨a1,c1,rfl,ho,hb⟩;obtain ⟨n0,n1,n2⟩:=ins_cells hb)
 exact bodyPost_ret (v:=.tuple #[.slice none 0 0,.bool false]) (by simp[results,Tryz.results38,go_sem]) rfl ⟨.inl ⟨HV.out,_,rfl⟩,bwx hb⟩
theorem change_nil34 (na nb nc nd:Int) (a:Option Addr) (cap:Nat) (w:World) :
  Calls Tryz.prog 38 #[IV ⟨34,na,nb,nc,nd⟩,.slice a 0 cap] w fun e w'=>ChgP ⟨34,na,nb,nc,nd⟩ [] w.heap.size e w'∧Below w.heap.size w w':=by
 have HV:Hid (changeV ⟨34,na,nb,nc,nd⟩ []=none):=by show changeV _ _=_;simp[changeV]
 go_enter Tryz.func38,Tryz.ntmps38
 go_wp2_with (go_at_call 42;refine (guards_row a cap [] _ (SlA.nil _ _ _ _) (by simp)).mono ?_;rintro e w1 ⟨a1,c1,rfl,ho,hb⟩;obtain ⟨n0,n1,n2⟩:=ins_cells hb)
 exact bodyPost_ret (v:=.tuple #[.slice none 0 0,.bool false]) (by simp[results,Tryz.results38,go_sem]) rfl ⟨.inl ⟨HV.out,_,rfl⟩,bwx hb⟩
theorem change_nil35 (na nb nc nd:Int) (a:Option Addr) (cap:Nat) (w:World) :
  Calls Tryz.prog 38 #[IV ⟨35,na,nb,nc,nd⟩,.slice a 0 cap] w fun e w'=>ChgP ⟨35,na,nb,nc,nd⟩ [] w.heap.size e w'∧Below w.heap.size w w':=by
 have HV:Hid (changeV ⟨35,na,nb,nc,nd⟩ []=none):=by show changeV _ _=_;simp[changeV]
 go_enter Tryz.func38,Tryz.ntmps38
 go_wp2_with (go_at_call 42;refine (guards_row a cap [] _ (SlA.nil _ _ _ _) (by simp)).mono ?_;rintro e w1 ⟨a1,c1,rfl,ho,hb⟩;obtain ⟨n0,n1,n2⟩:=ins_cells hb)
 exact bodyPost_ret (v:=.tuple #[.slice none 0 0,.bool false]) (by simp[results,Tryz.results38,go_sem]) rfl ⟨.inl ⟨HV.out,_,rfl⟩,bwx hb⟩
theorem change_nil36 (na nb nc nd:Int) (a:Option Addr) (cap:Nat) (w:World) :
  Calls Tryz.prog 38 #[IV ⟨36,na,nb,nc,nd⟩,.slice a 0 cap] w fun e w'=>ChgP ⟨36,na,nb,nc,nd⟩ [] w.heap.size e w'∧Below w.heap.size w w':=by
 have HV:Hid (changeV ⟨36,na,nb,nc,nd⟩ []=none):=by show changeV _ _=_;simp[changeV]
 go_enter Tryz.func38,Tryz.ntmps38
 go_wp2_with (go_at_call 42;refine (guards_row a cap [] _ (SlA.nil _ _ _ _) (by simp)).mono ?_;rintro e w1 ⟨a1,c1,rfl,ho,hb⟩;obtain ⟨n0,n1,n2⟩:=ins_cells hb)
 exact bodyPost_ret (v:=.tuple #[.slice none 0 0,.bool false]) (by simp[results,Tryz.results38,go_sem]) rfl ⟨.inl ⟨HV.out,_,rfl⟩,bwx hb⟩
theorem change_any (n:ID) (a:Option Addr) (cap:Nat) (gs:List GD) (w:World) (hp:SlA w 3 GD.cells a gs) (hlen:gs.length≤50) :
  Calls Tryz.prog 38 #[IV n,.slice a gs.length cap] w fun e w'=>ChgP n gs w.heap.size e w'∧Below w.heap.size w w':=by
 obtain ⟨op,na,nb,nc,nd⟩:=n
 by_cases h31:op=31
 ·subst h31;exact change_try na nb nc nd a cap gs w hp hlen
 by_cases h33:op=33
 ·subst h33;exact change_scope na nb nc nd a cap gs w hp hlen
 by_cases hl:op=32∨op=34∨op=35∨op=36
 ·rcases List.eq_nil_or_concat gs with rfl|⟨gs',g,rfl⟩
  ·rcases hl with rfl|rfl|rfl|rfl
   ·exact change_nil32 na nb nc nd a cap w
   ·exact change_nil34 na nb nc nd a cap w
   ·exact change_nil35 na nb nc nd a cap w
   ·exact change_nil36 na nb nc nd a cap w
  ·rw[List.concat_eq_append] at hp hlen ⊢
   have hl':(gs'++[g]).length=gs'.length+1:=by simp
   rw[hl'] at hlen ⊢
   cases hg:g.t <;> rcases hl with rfl|rfl|rfl|rfl
   ·exact change_end_f na nb nc nd a cap _ gs' g rfl w hp hlen hg
   ·cases hab:aboveB (gs'++[g]) na
    ·exact change_keep_n na nb nc nd a cap _ gs' g rfl w hp hlen hg hab
    ·exact change_keep_y na nb nc nd a cap _ gs' g rfl w hp hlen hg hab
   ·exact change_defer_f na nb nc nd a cap _ gs' g rfl w hp hlen hg
   ·exact change_leave_f na nb nc nd a cap _ gs' g rfl w hp hlen hg
   ·exact change_end_t na nb nc nd a cap _ gs' g rfl w hp hlen hg
   ·exact change_keep_t na nb nc nd a cap _ gs' g rfl w hp hlen hg
   ·exact change_defer_t na nb nc nd a cap _ gs' g rfl w hp hlen hg
   ·exact change_leave_t na nb nc nd a cap _ gs' g rfl w hp hlen hg
 ·have f:∀ k:Int,op≠k→(op==k)=false:=fun k hk=>by simpa using hk
  exact change_other op na nb nc nd a cap gs w hp hlen (f 31 h31) (f 33 h33) (f 32 (by omega)) (f 34 (by omega)) (f 35 (by omega)) (f 36 (by omega))
end Go.Proofs.YtfejmalmnjmanaaGreatDoor
