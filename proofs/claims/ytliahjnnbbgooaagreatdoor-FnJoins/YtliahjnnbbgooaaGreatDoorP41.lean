import Derived.Test.YtliahjnnbbgooaaGreatDoorP40
import Derived.Test.YtliahjnnbbgooaaGreatDoorP33
import Derived.Test.YtliahjnnbbgooaaGreatDoorP31
import Derived.Test.YtliahjnnbbgooaaGreatDoorP39
import Derived.Test.YtliahjnnbbgooaaGreatDoorP29
set_option linter.unusedVariables false
set_option linter.unusedSimpArgs false
set_option maxRecDepth 20000
set_option maxHeartbeats 8000000
namespace Go.Proofs.YtliahjnnbbgooaaGreatDoor.U
open Go.RowKit M T
section
variable {w0:World} {K:UK} {kind n t a tk nr:Nat} {ln:Int} {rs:List M.SD} {gl:List (Nat × Int)} {i:ID} {s s':AS} {k:Nat} {w:World} {xs:List RcD} {rv gv:Value}
theorem told0 (pm:Value) (W:World):Calls Tryz.prog 35 #[pm,.agg #[.int .i64 nothing.k,.int .i64 nothing.n,.float .f64 nothing.f,.string nothing.s,.int .i64 nothing.r]] W fun e w'=>e=.returned (.string ⟨#[]⟩)∧Below W.heap.size W w':=toldS pm ⟨#[]⟩ (by decide) W
theorem hcD_eq (K:UK) (l a n hd:Int) (g:Value) (r:List M.SD):hcD (K.c l a n g r) hd=K.c 0 hd hd g r:=rfl
theorem u30 (ok:UKok w0 K) (H:Here kind n t a tk xs.length ln rs gl i s s' k) (hop:i.op=30) (h:UX w0 K w tk xs ln (a:Int) ((a:Int)+1) rs gl rv gv) :
  Calls Tryz.prog 72 (args K i) w (ThP w0 K kind n t (mu kind n t tk a)):=by
 have hd:=H.hd
 have hlen:=H.hb
 unfold absD at hd
 rw[if_neg (by omega),if_neg (by omega),if_neg (by omega),if_neg (by omega),if_neg (by omega),if_neg (by omega),if_neg (by omega),if_neg (by omega),if_neg (by omega),if_neg (by omega),if_pos hop]at hd
 split at hd
 case isFalse=>cases hd
 rename_i hc
 obtain⟨ha0,hr0,hr4,hr5,hl0⟩:=hc
 split at hd
 case h_2=>cases hd
 rename_i hdl hgd
 cases hd
 have hln:ln=0:=H.hl hl0
 subst hln
 obtain⟨gn,rfl⟩:∃gn:Nat,gl=[(gn,(hdl:Int))]:=by have:=H.hg;rw[hgd]at this;exact this
 have hR:((rs.set 4 (sdV nothing)).set 5 sd0).length=250:=by rw[List.length_set,List.length_set];exact h.lr
 refine (dothrowg_any K.gm K.gt K.gc K.gf K.bp K.op K.capP (K.m tk rv) (K.c 0 a ((a:Int)+1) gv rs) i nothing ⟨#[]⟩ (fun wk w'=>∃rv',MachAt w' K.gm (K.m tk rv')∧ORow w' w0.heap.size 67 5 rgC rv' (xs++[⟨4,0,⟨#[]⟩⟩])∧ButL (K.gm :: rv.ownBlock.toList) wk w') w (h.thr ok rfl) h.lr ha0 (reg_emp H hr0) (fun W _=>told0 _ W) (fun wk hwk=>?_)).mono ?_
 ·have hx:=h.later ok hwk
  refine (recg_go w0.heap.size K.gm ⟨4,0,⟨#[]⟩⟩ (K.m tk rv) xs wk hx.mac ok.wat hx.rc (by omega) hx.bel.size).mono ?_
  rintro e w' ⟨rfl,rv',q1,q2,q3⟩
  exact⟨rfl,rv',q1,q2,q3⟩
 ·rintro e w1 ⟨gr,tr,wk,rfl,hgr,hth,hwk,rv1,q1,q2,q3⟩
  have hxk:=h.later ok hwk
  have hx1:UX w0 K w1 tk (xs++[⟨4,0,⟨#[]⟩⟩]) 0 (a:Int) ((a:Int)+1) rs [(gn,(hdl:Int))] rv1 gv:=hxk.recd ok q3 q1 q2
  have hth1:w1.heap[gr]?=some (ThG nothing tr):=hxk.keep ok (hxk.sub q3 (fun g hg=>by
   simp only[List.mem_cons,Option.mem_toList]at hg
   simp only[twr,List.mem_cons,List.mem_append,Option.mem_toList]
   rcases hg with e | e
   ·exact .inl e
   ·exact .inr (.inr (.inr e)))) hth (by decide) (by decide) (by decide) (by decide)
  refine⟨gr,rfl,?_⟩
  obtain⟨ga,cap,hgv,hga,_,hsl,_,hcap⟩:=hx1.gu.open vC_len (by simp)
  have hgc:w1.cell? ⟨ga,0,none⟩=some (caV gn):=by
   obtain⟨b9,o9,e9,_,hc9⟩:=hsl 0 _ rfl
   have e3:ga=b9∧0=o9:=by injection e9 with e9;injection e9 with e9 e2;exact⟨e9,e2⟩
   obtain⟨rfl,rfl⟩:=e3
   exact hc9 0 _ rfl
  have hgv1:gv=.slice (some ⟨ga,0,none⟩) 1 cap:=hgv
  have hgu0:ORow w1 w0.heap.size 277 1 vC (.slice (some ⟨ga,0,none⟩) 0 cap) []:=by
   have hq:ORow w1 w0.heap.size 277 1 vC (.slice (some ⟨ga,0,none⟩) [caV gn].length cap) [caV gn]:=by have h9:=hx1.gu;rw[hgv1]at h9;exact h9
   exact vrow_shrink hq (m:=0) (by omega)
  have hcap1:1≤cap:=by
   have h9:=hx1.gu
   rw[hgv1]at h9
   rcases h9.2 with ⟨e9,_⟩ | ⟨g9,c9,cur,e9,_,_,hl9,_⟩
   ·cases e9
   ·have e8:cap=c9:=by injection e9 with _ _ e9
    have h8:1≤c9:=by simpa using hl9
    omega
  have hgnb:=hx1.gb (gn,(hdl:Int)) (by simp)
  have hlow:Low (K.c 0 a ((a:Int)+1) (.slice (some ⟨ga,0,none⟩) 0 cap) rs):=⟨h.lr,H.rp.low hr4 hr5⟩
  refine (leave_catch K.gm K.gf gn gr ga cap (some K.ov) (K.c 0 a ((a:Int)+1) gv rs) .nilIface (fun w2 w'=>∃wk w5,ButL [K.gf] w2 wk∧CallAt wk K.gf (K.c 0 hdl hdl (.slice (some ⟨ga,0,none⟩) 0 cap) rs)∧(∃rv2,MachAt w5 K.gm (K.m tk rv2)∧ORow w5 w0.heap.size 67 5 rgC rv2 ((xs++[⟨4,0,⟨#[]⟩⟩])++[⟨5,0,⟨#[]⟩⟩])∧ButL (K.gm :: rv1.ownBlock.toList) wk w5)∧CallAt w' K.gf (K.c 0 hdl hdl (.slice (some ⟨ga,0,none⟩) 0 cap) ((rs.set 4 (sdV nothing)).set 5 (sdV (strD tr))))∧ButL [K.gf] w5 w') w1 hx1.cal hgv1 hcap1 hgc (hx1.ov ok) (fun w2 hb2 hc2=>?_)).mono ?_
  ·have hgu2:ORow w2 w0.heap.size 277 1 vC (.slice (some ⟨ga,0,none⟩) 0 cap) []:=ORow.butn hgu0 hb2 (fun g e hg=>by simp at hg;subst hg;exact own_ne hgu0 hx1.cal (by decide) e)
   have hx2:UX w0 K w2 tk (xs++[⟨4,0,⟨#[]⟩⟩]) 0 (a:Int) ((a:Int)+1) rs [] rv1 (.slice (some ⟨ga,0,none⟩) 0 cap):=hx1.guard ok (hb2.mono (fun g hg=>.inl (by simp at hg;subst hg;simp))) hc2 hgu2 (fun g hg=>by cases hg)
   have hth2:w2.heap[gr]?=some (ThG nothing tr):=hb2.blk hth1 (by simp;exact ne_ty hth1 hx1.cal (by decide))
   have hgn2:w2.heap[gn]?=some (CtO (hdl:Int) 0):=hb2.blk hgnb (by simp;exact ne_ty hgnb hx1.cal (by decide))
   refine (handleg_go K.gm K.gt K.gc K.gf gn gr (hdl:Int) nothing ⟨#[]⟩ tr (K.m tk rv1) (K.c 0 a ((a:Int)+1) (.slice (some ⟨ga,0,none⟩) 0 cap) rs) _ _ (K.gm :: rv1.ownBlock.toList) (fun wk w5=>∃rv2,MachAt w5 K.gm (K.m tk rv2)∧ORow w5 w0.heap.size 67 5 rgC rv2 ((xs++[⟨4,0,⟨#[]⟩⟩])++[⟨5,0,⟨#[]⟩⟩])∧ButL (K.gm :: rv1.ownBlock.toList) wk w5) w2 hx2.mac ok.run (hx2.tka ok) hx2.tsk hx2.cro hx2.cal hlow ok.pro hgn2 hth2 ?_ ?_ ?_ (fun W _=>told0 _ W) (fun wk hbk hck=>?_)).mono ?_
   ·simp only[List.mem_cons,Option.mem_toList,not_or]
    exact⟨hx2.mf.symm,own_ne hx2.rc hx2.cal (by decide)⟩
   ·simp only[List.mem_cons,Option.mem_toList,not_or]
    exact⟨ne_ty hgn2 hx2.mac (by decide),own_ne hx2.rc hgn2 (by decide)⟩
   ·simp only[List.mem_cons,Option.mem_toList,not_or]
    exact⟨ne_ty hth2 hx2.mac (by decide),own_ne hx2.rc hth2 (by decide)⟩
   ·rw[hcD_eq]at hck
    have hxk2:=hx2.call ok hbk hck h.lr
    refine (recg_go w0.heap.size K.gm ⟨5,0,⟨#[]⟩⟩ (K.m tk rv1) (xs++[(⟨4,0,⟨#[]⟩⟩:RcD)]) wk hxk2.mac ok.wat hxk2.rc (by simp;omega) hxk2.bel.size).mono ?_
    rintro e w' ⟨rfl,rv',p1,p2,p3⟩
    exact⟨rfl,p3,rv',p1,p2,p3⟩
   ·rintro e w' ⟨rfl,wk2,w5,p1,p2,p3,p4,p5,p6⟩
    rw[hcD_eq]at p2
    have p5':CallAt w' K.gf { K.c 0 hdl hdl (.slice (some ⟨ga,0,none⟩) 0 cap) rs with regs:=(rs.set 4 (sdV nothing)).set 5 (sdV (strD tr)) }:=by rw[hcD_eq]at p5;exact p5
    exact⟨rfl,wk2,w5,p1,p2,p4,p5',p6⟩
  ·rintro e w' ⟨rfl,w2,hb2,hc2,wk2,w5,p1,p2,⟨rv2,p3,p4,p5⟩,p6,p7⟩
   have hgu2:ORow w2 w0.heap.size 277 1 vC (.slice (some ⟨ga,0,none⟩) 0 cap) []:=ORow.butn hgu0 hb2 (fun g e hg=>by simp at hg;subst hg;exact own_ne hgu0 hx1.cal (by decide) e)
   have hx2:UX w0 K w2 tk (xs++[⟨4,0,⟨#[]⟩⟩]) 0 (a:Int) ((a:Int)+1) rs [] rv1 (.slice (some ⟨ga,0,none⟩) 0 cap):=hx1.guard ok (hb2.mono (fun g hg=>.inl (by simp at hg;subst hg;simp))) hc2 hgu2 (fun g hg=>by cases hg)
   have hx3:=hx2.call ok p1 p2 h.lr
   have hx4:UX w0 K w5 tk ((xs++[⟨4,0,⟨#[]⟩⟩])++[⟨5,0,⟨#[]⟩⟩]) 0 (hdl:Int) (hdl:Int) rs [] rv2 (.slice (some ⟨ga,0,none⟩) 0 cap):=hx3.recd ok p5 p3 p4
   have hx5:=hx4.call ok p7 p6 (by rw[List.length_set,List.length_set];exact h.lr)
   exact GoP.of H hx5 rfl rfl H.htk (by simp) ((H.rp.set (by omega) (r:=.emp) rfl).set (by omega) ⟨tr,rfl⟩) (fun _=>rfl) rfl
end
end Go.Proofs.YtliahjnnbbgooaaGreatDoor.U
namespace Go.Proofs.YtliahjnnbbgooaaGreatDoor.M
open Go.RowKit
def OvAt (w:World):Prop:=∃v,w.cell? ⟨1,0,none⟩=some (.iface 484 v)
theorem neq_ro (p:Option Addr) (v:Value) (w:World):(binOp BinOp.neq 41 (.iface 124 (.pointer p)) (.iface 484 v)).run Tryz.prog w=.ok (.bool true) w:=by kernel_rfl
theorem leave_ret (pm:Value) (g cap:Nat) (a p:Option Addr) (c:CallD) (w:World) (h:CallAt w g c) (hg:c.guards=.slice a 0 cap) (ho:OvAt w) :
  Calls Tryz.prog 103 #[pm,.pointer (some ⟨g,0,none⟩),.iface 124 (.pointer p)] w fun e w'=>e=.returned (.iface 124 (.pointer p))∧w'=w:=by
 obtain⟨v,hv⟩:=ho
 have c12:w.cell? ⟨g,12,none⟩=some (.slice a 0 cap):=by rw[h.cell 12 (by omega),←hg];rfl
 have hne:=neq_ro p v
 clear h
 go_enter Tryz.func103,Tryz.ntmps103
 go_wp2_with fail
 go_loopw [2] (fun s wr=>s=.iface 124 (.pointer p)∧wr=w) (fun _ _=>0)
 case atStart=>exact⟨rfl,rfl⟩
 case round =>
  obtain⟨rfl,rfl⟩:=hrel
  go_wp2_with fail
  go_ret
  exact⟨rfl,rfl⟩
theorem MX.drew {w0:World} {K:MK} {w:World} {nt:Nat} {at' next:Int} {regs:List RD} {vs:List Value} {gs:List Nat} {tv gv:Value} (h:MX w0 K w nt at' next regs vs gs tv gv):MX w0 K w.drew nt at' next regs vs gs tv gv :=
 ⟨h.bel.drew,h.geM,h.geF,h.mac,h.cal,h.tsk,h.row,h.cha,h.gu,h.tb,h.sh,h.lg,h.lr⟩
theorem MX.next {w0:World} {K:MK} {w:World} {nt:Nat} {at' next:Int} {regs:List RD} {vs:List Value} {gs:List Nat} {tv gv:Value} (h:MX w0 K w nt at' next regs vs gs tv gv) (o:Obj) (z:Int):MX w0 K ((w.setCell ⟨K.gf,10,none⟩ (.int .i64 z)).alloc o) nt at' z regs vs gs tv gv:=by
 have hb:ButL [K.gf] w ((w.setCell ⟨K.gf,10,none⟩ (.int .i64 z)).alloc o):=((ButL.refl _ _).set (by simp) _ _).alloc o
 refine h.call hb ?_ h.lr
 have h9:=blk_set h.cal 10 (.int .i64 z)
 rw[CallD.set_next]at h9
 exact CallAt.later (c:=K.c at' z gv (regs.map RD.sd)) h9 (bw1 _ o)
theorem MachD.inst (m:MachD) {op:Nat} (hop:op<43):m.arr[14+op]?=instT[op]?:=by
 unfold MachD.arr
 have hl:instT.length=43:=rfl
 rw[List.getElem?_toArray,List.getElem?_append_left (by simp only[List.length_append,hl,List.length_cons,List.length_nil];omega),List.getElem?_append_left (by simp only[List.length_append,hl,List.length_cons,List.length_nil];omega),List.getElem?_append_right (by simp only[List.length_cons,List.length_nil];omega)]
 congr 1
 simp only[List.length_cons,List.length_nil]
 omega
end Go.Proofs.YtliahjnnbbgooaaGreatDoor.M
namespace Go.Proofs.YtliahjnnbbgooaaGreatDoor.U
open Go.RowKit M T
attribute [local irreducible] R0
theorem uf4 (args:Array Value) (W:World):(callFunc 54 args).run Tryz.prog W=.ok (.enter 54 args) W:=by kernel_rfl
theorem uf28 (args:Array Value) (W:World):(callFunc 70 args).run Tryz.prog W=.ok (.enter 70 args) W:=by kernel_rfl
section
variable {w0:World} {K:UK} {kind n t a tk nr:Nat} {ln:Int} {rs:List M.SD} {gl:List (Nat × Int)} {i:ID} {s s':AS} {k:Nat} {w:World} {xs:List RcD} {rv gv:Value}
theorem UX.next {ax nx:Int} (ok:UKok w0 K) (h:UX w0 K w tk xs ln ax nx rs gl rv gv) (o:Obj) (z:Int):UX w0 K ((w.setCell ⟨K.gf,10,none⟩ (.int .i64 z)).alloc o).drew tk xs ln ax z rs gl rv gv:=by
 have hb:ButL [K.gf] w ((w.setCell ⟨K.gf,10,none⟩ (.int .i64 z)).alloc o).drew:=(((ButL.refl _ _).set (by simp) _ _).alloc o).drew
 refine h.call ok hb ?_ h.lr
 have h9:=blk_set h.cal 10 (.int .i64 z)
 rw[CallD.set_next]at h9
 exact CallAt.later (c:=K.c ln ax z gv rs) h9 (bw1 _ o).drew
theorem UX.drew {ax nx:Int} (ok:UKok w0 K) (h:UX w0 K w tk xs ln ax nx rs gl rv gv):UX w0 K w.drew tk xs ln ax nx rs gl rv gv:=h.call ok (ButL.refl _ _).drew h.cal h.lr
end
end Go.Proofs.YtliahjnnbbgooaaGreatDoor.U
namespace Go.Proofs.YtliahjnnbbgooaaGreatDoor.J
open Go.RowKit M T U
attribute [local irreducible] R0
def JoinC:Prop:=∀(W:World) (q n cap:Nat),(∀j,j<n→W.cell? ⟨q,j,none⟩=some (.string ⟨#[49]⟩))→q<W.heap.size→2≤n→n≤250→n≤cap→Calls Tryz.prog 168 #[.slice (some ⟨q,0,none⟩) n cap,.string ⟨#[32]⟩] W fun e w'=>e=.returned (.string (onesB n))∧Below W.heap.size W w'
theorem sRow {W:World} {B n cap:Nat} {a':Option Addr} {ss:List ByteArray} (ho:ORow W B 9 1 sC (.slice a' n cap) ss) (h1:1≤n):∃g,a'=some ⟨g,0,none⟩∧g<W.heap.size∧n≤cap∧ss.length=n∧∀(j:Nat) s,ss[j]?=some s→W.cell? ⟨g,j,none⟩=some (.string s):=by
 obtain⟨a0,c0,e0⟩:=ORow.val ho
 have hl:ss.length=n:=by injection e0 with _ e0 _;exact e0.symm
 obtain⟨g,c2,e2,_,hc,hs,_,hlt⟩:=ORow.open ho sC_len (by omega)
 injection e2 with e2 _ e3
 refine⟨g,e2,hlt,by omega,hl,fun j s hj=>?_⟩
 obtain⟨b,off,e,_,hcl⟩:=hs j s hj
 injection e with e;injection e with e4 e5
 subst e4 e5
 have:=hcl 0 _ rfl
 simpa using this
theorem join_ones (HJ:JoinC) (n:Nat) (h1:1≤n) (hn:n≤250) (B:Nat) (W:World) (a':Option Addr) (cap':Nat) (ho:ORow W B 9 1 sC (.slice a' n cap') ((List.replicate n oneD).map fun _=>⟨#[49]⟩)) :
  Calls Tryz.prog 168 #[.slice a' n cap',.string ⟨#[32]⟩] W fun e w'=>e=.returned (.string (onesB n))∧Below W.heap.size W w':=by
 obtain⟨g,rfl,hlt,hc,_,hs⟩:=sRow ho h1
 have hj:∀j,j<n→W.cell? ⟨g,j,none⟩=some (.string ⟨#[49]⟩):=fun j hj=>hs j _ (by simp[hj])
 by_cases e:n=1
 ·subst e
  refine (join1 g cap' ⟨#[49]⟩ ⟨#[32]⟩ W (hj 0 (by omega))).mono ?_
  rintro e w' ⟨rfl,rfl⟩
  exact⟨rfl,Below.refl _ _⟩
 ·exact HJ W g n cap' hj hlt (by omega) hn hc
theorem join_tab (B:Nat) (W:World) (a':Option Addr) (cap':Nat) (ho:ORow W B 9 1 sC (.slice a' 1 cap') ([errD].map fun _=>⟨#[116,97,98,108,101]⟩)) :
  Calls Tryz.prog 168 #[.slice a' 1 cap',.string ⟨#[32]⟩] W fun e w'=>e=.returned (.string ⟨#[116,97,98,108,101]⟩)∧Below W.heap.size W w':=by
 obtain⟨g,rfl,hlt,hc,_,hs⟩:=sRow ho (by omega)
 refine (join1 g cap' ⟨#[116,97,98,108,101]⟩ ⟨#[32]⟩ W (hs 0 _ rfl)).mono ?_
 rintro e w' ⟨rfl,rfl⟩
 exact⟨rfl,Below.refl _ _⟩
theorem onesL_len:∀n,(onesL (n+1)).length=2*n+1
 | 0=>rfl
 | n+1=>by
  show (49 :: 32 :: onesL (n+1)).length=_
  simp[onesL_len n]
  omega
theorem onesB_size {n:Nat} (h0:1≤n) (h:n≤250):(onesB n).size≤4000:=by
 obtain⟨m,rfl⟩:∃m,n=m+1:=⟨n-1,by omega⟩
 show (onesL (m+1)).toArray.size≤4000
 rw[List.size_toArray,onesL_len]
 omega
theorem pow_le7 {j:Nat} (h:j≤7):1≤2^j∧2^j≤128:=by
 have h1:2^j≤2^7:=Nat.pow_le_pow_right (by omega) h
 have h2:0<2^j:=Nat.two_pow_pos j
 exact⟨h2,by omega⟩
theorem pf23 (args:Array Value) (W:World):(callFunc 68 args).run Tryz.prog W=.ok (.enter 68 args) W:=by kernel_rfl
section
variable {w0:World} {K:UK} {k a tk:Nat} {rs:List M.SD} {gl:List (Nat × Int)} {w:World} {xs:List RcD} {rv gv tv:Value} {ts:List Nat}
abbrev OutJ (w0:World) (K:UK) (k a fid:Nat) (i:ID) (w:World):Prop:=Calls Tryz.prog fid (argj K i) w (GoJ w0 K k a)∨Calls Tryz.prog fid (argj K i) w (ThJ w0 K k a)∨Calls Tryz.prog fid (argj K i) w (ReJ w0 K k)
theorem do_j (ok:UKok w0 K) (con:ConJ w0 K) (hT:K.m0.ticks=9) (HJ:JoinC) (hp:JP k w a tk xs rs gl ts) (h:JX w0 K w tk xs 0 (a:Int) ((a:Int)+1) rs gl rv gv tv ts) :
  ∃(i:ID) (op fid:Nat),(joiI k)[a]?=some i∧i.op=op∧op<43∧instT[op]?=some (.func (.func fid) #[] #[])∧(∀args W,(callFunc fid args).run Tryz.prog W=.ok (.enter fid args) W)∧OutJ w0 K k a fid i w:=by
 cases hp with
 | p0=>exact⟨_,31,_,joi_lo (by omega),rfl,by omega,rfl,cf31,.inl (g31 ok h _ (fun w1 g=>.p1 g))⟩
 | p1 g=>exact⟨_,4,_,joi_lo (by omega),rfl,by omega,rfl,uf4,.inl (g4 ok con h 0 oneD rfl (fun w1 _=>by rw[Rg_set3];exact .p2 g))⟩
 | p2 g=>exact⟨_,22,_,joi_lo (by omega),rfl,by omega,rfl,cf22,.inl (g22 ok h 4 (by omega) (fun w1 _=>by rw[Rg_set4];exact .p3 g))⟩
 | p3 g=>exact⟨_,23,_,joi_lo (by omega),rfl,by omega,rfl,pf23,.inl (g23n ok h oneD (Rg3 R0_len) (Rg4 R0_len) (fun w1 q cap hc hl=>by rw[Rg_set3,Rg_set4];exact .p4 g 0 q cap (by omega) (by omega) hc hl))⟩
 | p4 g j q cap hjk hj7 hc hl =>
  by_cases e:j=k
  ·subst e
   exact⟨_,4,_,joi_hi (j:=0),rfl,by omega,rfl,uf4,.inl (g4 ok con h 1 priD rfl (fun w1 hk=>by rw[Rg_set3];exact .p5 g q cap hj7 hc (hk _ _ hl)))⟩
  ·obtain⟨p1,p2⟩:=pow_le7 hj7
   by_cases e7:j=7
   ·subst e7
    exact⟨_,24,_,joi_mid (by omega),rfl,by omega,rfl,pf23,.inr (.inl (g24x ok g (10+k) q (2^7) cap h (Rg4 R0_len) hc (by decide) (by decide) (by omega) (fun w1 tr gt=>by rw[Hb_rg,show 10+k=4+k+6 by omega];exact .q0 gt tr (by omega))))⟩
   ·have h6:j≤6:=by omega
    have h64:2^j≤2^6:=Nat.pow_le_pow_right (by omega) h6
    have e2:2^j+2^j=2^(j+1):=by rw[Nat.pow_succ];omega
    refine⟨_,24,_,joi_mid (by omega),rfl,by omega,rfl,pf23,.inl (g24 ok h q (2^j) cap _ (Rg4 R0_len) hc p1 (by omega) hl List.length_replicate (fun w1 q' cap' hc' hl'=>?_))⟩
    rw[Rg_set4,e2]
    rw[List.replicate_append_replicate,e2]at hl'
    rw[e2]at hc'
    exact .p4 g (j+1) q' cap' (by omega) (by omega) hc' hl'
 | p5 g q cap hk7 hc hl =>
  obtain⟨p1,p2⟩:=pow_le7 hk7
  refine⟨_,28,_,joi_hi (j:=1),rfl,by omega,rfl,uf28,.inl (g28 ok hT h q (2^k) cap _ (fun _=>⟨#[49]⟩) (onesB (2^k)) (Rg3 R0_len) (Rg4 R0_len) List.length_replicate (by omega) hl (by simp) (fun x hx W=>?_) (fun B W a' cap' ho=>join_ones HJ (2^k) p1 (by omega) B W a' cap' ho) (onesB_size p1 (by omega)) (fun w1=>?_))⟩
  ·obtain rfl:=(List.mem_replicate.1 hx).2
   exact Text1 W
  ·rw[Rg_set3,Rg_set4,Rg_set4]
   exact .p6 g hk7
 | p6 g hk7=>exact⟨_,42,_,joi_hi (j:=2),rfl,by omega,rfl,cf42,.inl (g42 ok h (fun w1=>by rw[Rg_set4];exact .p7 g hk7))⟩
 | p7 g hk7=>exact⟨_,32,_,joi_hi (j:=3),rfl,by omega,rfl,cf32,.inl (g32 ok _ h (fun w1=>.p8 hk7))⟩
 | p8 hk7=>exact⟨_,22,_,joi_hi (j:=4),rfl,by omega,rfl,cf22,.inl (g22 ok h 3 (by omega) (fun w1 _=>by rw[Rg_set3];exact .p9 hk7))⟩
 | p9 hk7=>exact⟨_,29,_,joi_hi (j:=5),rfl,by omega,rfl,cf29,.inr (.inr (g29 ok (by have e:endX k=[prR k]:=if_pos hk7;rw[e];exact h) (Rg3 R0_len)))⟩
 | q0 gt tr hk7=>exact⟨_,4,_,joi_hi (j:=6),rfl,by omega,rfl,uf4,.inl (g4 ok con h 1 priD rfl (fun w1 _=>by rw[Rg_set3];exact .q1 gt tr hk7))⟩
 | q1 gt tr hk7=>exact⟨_,22,_,joi_hi (j:=7),rfl,by omega,rfl,cf22,.inl (g22 ok h 4 (by omega) (fun w1 _=>by rw[Rg_set4];exact .q2 gt tr hk7))⟩
 | q2 gt tr hk7=>exact⟨_,23,_,joi_hi (j:=8),rfl,by omega,rfl,pf23,.inl (g23p ok h errD (by rw[Rg0];exact Hb0 tr) (Rg4 (Hb_len tr)) (fun w1 q cap hc hl=>by rw[Rg_set4];exact .q3 gt tr q cap hk7 hc hl))⟩
 | q3 gt tr q cap hk7 hc hl =>
  refine⟨_,28,_,joi_hi (j:=9),rfl,by omega,rfl,uf28,.inl (g28 ok hT h q 1 cap _ (fun _=>⟨#[116,97,98,108,101]⟩) ⟨#[116,97,98,108,101]⟩ (Rg3 (Hb_len tr)) (Rg4 (Hb_len tr)) rfl (by omega) hl (by simp) (fun x hx W=>?_) (fun B W a' cap' ho=>join_tab B W a' cap' ho) (by decide) (fun w1=>?_))⟩
  ·obtain rfl:=List.mem_singleton.1 hx
   exact TextT 0 W
  ·rw[Rg_set3,Rg_set4,Rg_set4]
   exact .q4 gt tr hk7
 | q4 gt tr hk7=>exact⟨_,42,_,joi_hi (j:=10),rfl,by omega,rfl,cf42,.inl (g42 ok h (fun w1=>by rw[Rg_set4];exact .q5 gt tr hk7))⟩
 | q5 gt tr hk7=>exact⟨_,22,_,joi_hi (j:=11),rfl,by omega,rfl,cf22,.inl (g22 ok h 3 (by omega) (fun w1 _=>by rw[Rg_set3];exact .q6 gt tr hk7))⟩
 | q6 gt tr hk7=>exact⟨_,29,_,joi_hi (j:=12),rfl,by omega,rfl,cf29,.inr (.inr (g29 ok (by have e:endX k=[thR,caR,prT]:=if_neg (by omega);rw[e];exact h) (Rg3 (Hb_len tr))))⟩
end
end Go.Proofs.YtliahjnnbbgooaaGreatDoor.J
namespace Go.Proofs.YtliahjnnbbgooaaGreatDoor.J
open Go.RowKit M T U
attribute [local irreducible] R0
section
variable {w0:World} {K:UK} {k a tk:Nat} {ln:Int} {rs:List M.SD} {gl:List (Nat × Int)} {w:World} {xs:List RcD} {rv gv tv:Value} {ts:List Nat}
theorem JX.next {ax nx:Int} (ok:UKok w0 K) (h:JX w0 K w tk xs ln ax nx rs gl rv gv tv ts) (o:Obj) (z:Int):JX w0 K ((w.setCell ⟨K.gf,10,none⟩ (.int .i64 z)).alloc o).drew tk xs ln ax z rs gl rv gv tv ts:=by
 have hb:ButL [K.gf] w ((w.setCell ⟨K.gf,10,none⟩ (.int .i64 z)).alloc o).drew:=(((ButL.refl _ _).set (by simp) _ _).alloc o).drew
 refine h.call ok hb ?_ h.lr
 have h9:=blk_set h.cal 10 (.int .i64 z)
 rw[CallD.set_next]at h9
 exact CallAt.later (c:=K.c ln ax z gv rs) h9 (bw1 _ o).drew
theorem JX.drew {ax nx:Int} (ok:UKok w0 K) (h:JX w0 K w tk xs ln ax nx rs gl rv gv tv ts):JX w0 K w.drew tk xs ln ax nx rs gl rv gv tv ts:=h.call ok (ButL.refl _ _).drew h.cal h.lr
theorem JX.atW {ax nx:Int} (ok:UKok w0 K) (h:JX w0 K w tk xs ln ax nx rs gl rv gv tv ts) (z:Int):JX w0 K (w.setCell ⟨K.gf,9,none⟩ (.int .i64 z)) tk xs ln z nx rs gl rv gv tv ts:=by
 have hb:ButL [K.gf] w (w.setCell ⟨K.gf,9,none⟩ (.int .i64 z)):=(ButL.refl _ _).set (by simp) _ _
 refine h.call ok hb ?_ h.lr
 have:=blk_set h.cal 9 (.int .i64 z)
 rw[CallD.set_at]at this
 exact this
end
theorem run_j (w0:World) (K:UK) (ok:UKok w0 K) (con:ConJ w0 K) (HJ:JoinC) (k:Nat) (hk:k≤12) (ht:K.m0.ticks=9) (b off ci:Nat) (w:World) (hins:K.c0.ins=.slice (some ⟨b,off,none⟩) (17+k) ci) (hsl:SlA w0 5 ID.cells (some ⟨b,off,none⟩) (joiI k)) (nx:Int) (rv0 gv0 tv0:Value) (h:JX w0 K w 0 [] 0 0 nx R0 [] rv0 gv0 tv0 []) :
  Calls Tryz.prog 33 #[.pointer (some ⟨K.gm,0,none⟩),.pointer (some ⟨K.gf,0,none⟩)] w (ReJ w0 K k):=by
 obtain⟨L,hL⟩:∃L,17+k=L:=⟨_,rfl⟩
 rw[hL]at hins
 have HP0:Hid (JP k w 0 0 [] R0 [] []):=by
  have h9:JP k w 0 0 [] (Rg R0 sd0 sd0) [] []:=.p0
  rw[←R0_rg]at h9
  exact h9
 have HX0:Hid (JX w0 K w 0 [] 0 0 nx R0 [] rv0 gv0 tv0 []):=h
 have HSL:Hid (SlA w0 5 ID.cells (some ⟨b,off,none⟩) (joiI k)):=hsl
 have HOK:Hid (UKok w0 K):=ok
 have HCN:Hid (ConJ w0 K):=con
 have HT:Hid (K.m0.ticks=9):=ht
 have HJC:Hid JoinC:=HJ
 clear h hsl ok con ht HJ
 go_enter Tryz.func33,Tryz.ntmps33
 go_wp2_with fail
 go_loopw [] (fun wr=>∃(tk:Nat) (xs:List RcD) (at':Nat) (nx:Int) (rs:List M.SD) (gl:List (Nat × Int)) (rv gv tv:Value) (ts:List Nat),Hid (JX w0 K wr tk xs 0 at' nx rs gl rv gv tv ts)∧Hid (JP k wr at' tk xs rs gl ts)) (fun wr=>30-(intOf ((wr.cell? ⟨K.gf,9,none⟩).getD undef)).toNat)
 case atStart=>exact⟨0,[],0,nx,R0,[],rv0,gv0,tv0,[],HX0,HP0⟩
 case round =>
  clear HX0 HP0
  obtain⟨tk,xs,at',nx,rs,gl,rv,gv,tv,ts,HX,HP⟩:=hrel
  have hx:=HX.out
  have hle:at'≤16+k:=HP.out.le
  have hat:at'<L:=by omega
  have c6:wr.cell? ⟨K.gf,6,none⟩=some (.slice (some ⟨b,off,none⟩) L ci):=by rw[hx.cal.cell 6 (by omega),←hins];rfl
  have c9:wr.cell? ⟨K.gf,9,none⟩=some (.int .i64 (at':Int)):=by rw[hx.cal.cell 9 (by omega)];rfl
  have c10:wr.cell? ⟨K.gf,10,none⟩=some (.int .i64 nx):=by rw[hx.cal.cell 10 (by omega)];rfl
  obtain⟨i0',hi0'⟩:∃i,(joiI k)[at']?=some i:=⟨(joiI k)[at']'(by rw[joi_len];omega),by simp⟩
  obtain⟨nop,na,nb,nc,nd⟩:=i0'
  obtain⟨b',off',e0,hbl,hc⟩:=HSL.out at' ⟨nop,na,nb,nc,nd⟩ hi0'
  have e1:b=b'∧off=off':=by injection e0 with e0;injection e0 with e1 e2;exact⟨e1,e2⟩
  obtain⟨rfl,rfl⟩:=e1
  have i0:wr.cell? ⟨b,off+at'*5,none⟩=some (.int .i64 nop):=by have:=cell_later hx.bel (hc 0 _ rfl);simpa using this
  have i1:wr.cell? ⟨b,off+at'*5+1,none⟩=some (.int .i64 na):=cell_later hx.bel (hc 1 _ rfl)
  have i2:wr.cell? ⟨b,off+at'*5+2,none⟩=some (.int .i64 nb):=cell_later hx.bel (hc 2 _ rfl)
  have i3:wr.cell? ⟨b,off+at'*5+3,none⟩=some (.int .i64 nc):=cell_later hx.bel (hc 3 _ rfl)
  have i4:wr.cell? ⟨b,off+at'*5+4,none⟩=some (.int .i64 nd):=cell_later hx.bel (hc 4 _ rfl)
  have hfl:=blk_lt hx.cal
  have hbl2:b<wr.heap.size:=Nat.lt_of_lt_of_le hbl hx.bel.size
  have b1:(0:Int)≤(at':Int):=by omega
  have b2:(at':Int)<(L:Int):=by omega
  have b3:(at':Int)≤10000:=by omega
  have z9:=blk_frozen hx.cal
  have HC9:Hid _:=c9
  obtain⟨W2,hW2⟩:∃W2,((wr.setCell ⟨K.gf,10,none⟩ (.int .i64 ((at':Int)+1))).alloc (InO ⟨nop,na,nb,nc,nd⟩)).drew=W2:=⟨_,rfl⟩
  have hx2:JX w0 K W2 tk xs 0 at' (at'+1) rs gl rv gv tv ts:=by rw[←hW2];exact hx.next HOK.out _ _
  have hx2d:=hx2.drew HOK.out
  have hbw:ButL [K.gf] wr W2.drew:=by rw[←hW2];exact ((((ButL.refl _ _).set (by simp) _ _).alloc _).drew).drew
  have hp2:JP k W2.drew at' tk xs rs gl ts:=HP.out.keep (hx.lsf HOK.out hbw)
  have hbi:W2.heap[wr.heap.size]?=some (InO ⟨nop,na,nb,nc,nd⟩):=by rw[←hW2];exact blk_newn (by simp) _
  have d0:W2.cell? ⟨wr.heap.size,0,none⟩=some (.int .i64 nop):=by rw[blk_cell hbi];rfl
  have d1:W2.cell? ⟨wr.heap.size,1,none⟩=some (.int .i64 na):=by rw[blk_cell hbi];rfl
  have d2:W2.cell? ⟨wr.heap.size,2,none⟩=some (.int .i64 nb):=by rw[blk_cell hbi];rfl
  have d3:W2.cell? ⟨wr.heap.size,3,none⟩=some (.int .i64 nc):=by rw[blk_cell hbi];rfl
  have d4:W2.cell? ⟨wr.heap.size,4,none⟩=some (.int .i64 nd):=by rw[blk_cell hbi];rfl
  obtain⟨i9,op,fid,hi9,hop,hop43,hT,hcf,hcall⟩:=do_j HOK.out HCN.out HT.out HJC.out hp2 hx2d
  rw[hi0']at hi9
  cases hi9
  dsimp only at hop
  subst hop
  have mT:W2.cell? ⟨K.gm,14+op,none⟩=some (.func (.func fid) #[] #[]):=by rw[hx2.mac.cell,MachD.inst _ hop43,hT]
  have o1:(0:Int)≤(op:Int):=by omega
  have o2:(op:Int)<43:=by omega
  clear hx hx2 hx2d hc e0 hbi hT hop43 hi0' hbw hp2 HP HX
  rcases hcall with hcall | hcall | hcall
  ·have HCA:Hid (Calls Tryz.prog fid #[.pointer (some ⟨K.gm,0,none⟩),.pointer (some ⟨K.gf,0,none⟩),.agg #[.int .i64 (op:Int),.int .i64 na,.int .i64 nb,.int .i64 nc,.int .i64 nd]] W2.drew (GoJ w0 K k at')):=hcall
   clear hcall
   go_wp2_with fail
   go_region
   go_wp2_with fail
   clear hW2 c6 c9 c10 i0 i1 i2 i3 i4 z9
   go_region_with (refine (HCA.out).mono ?_;rintro e w3 ⟨rfl,tk',xs',at2,ax,rs',gl',rv',gv',tv',ts',hx3,hp3,hmu⟩)
   all_goals
    have c10:w3.cell? ⟨K.gf,10,none⟩=some (.int .i64 (at2:Int)):=by rw[hx3.cal.cell 10 (by omega)];rfl
    have c9:w3.cell? ⟨K.gf,9,none⟩=some (.int .i64 ax):=by rw[hx3.cal.cell 9 (by omega)];rfl
    have z9:=blk_frozen hx3.cal
    have HX3:Hid (JX w0 K (w3.setCell ⟨K.gf,9,none⟩ (.int .i64 (at2:Int))) tk' xs' 0 at2 at2 rs' gl' rv' gv' tv' ts'):=hx3.atW HOK.out _
    have HP3:Hid (JP k (w3.setCell ⟨K.gf,9,none⟩ (.int .i64 (at2:Int))) at2 tk' xs' rs' gl' ts'):=hp3.keep (hx3.lsf HOK.out ((ButL.refl _ _).set (by simp) _ _))
    have HMU:Hid (at'<at2∧at2≤16+k):=⟨hmu,hp3.le⟩
    clear hx3 hp3 hmu
    go_wp2_with fail
    go_roundw
    case rel=>exact⟨tk',xs',at2,_,rs',gl',rv',gv',tv',ts',HX3,HP3⟩
    case measure =>
     have h9:(w3.setCell ⟨K.gf,9,none⟩ (.int .i64 (at2:Int))).cell? ⟨K.gf,9,none⟩=some (.int .i64 (at2:Int)):=by rw[HX3.out.cal.cell 9 (by omega)];rfl
     rw[h9,HC9.out]
     simp only[Option.getD_some,intOf,Int.toNat_natCast]
     have:=HMU.out
     omega
  ·have HCA:Hid (Calls Tryz.prog fid #[.pointer (some ⟨K.gm,0,none⟩),.pointer (some ⟨K.gf,0,none⟩),.agg #[.int .i64 (op:Int),.int .i64 na,.int .i64 nb,.int .i64 nc,.int .i64 nd]] W2.drew (ThJ w0 K k at')):=hcall
   clear hcall
   go_wp2_with fail
   go_region
   go_wp2_with fail
   clear hW2 c6 c9 c10 i0 i1 i2 i3 i4 z9
   go_region_with (refine (HCA.out).mono ?_;rintro e w3 ⟨gr,rfl,hlv⟩)
   all_goals
    have HLV:Hid (Calls Tryz.prog 103 #[.pointer (some ⟨K.gm,0,none⟩),.pointer (some ⟨K.gf,0,none⟩),.iface 112 (.pointer (some ⟨gr,0,none⟩))] w3 (GoJ w0 K k at')):=hlv
    clear hlv
    go_wp2_with fail
    refine (HLV.out).mono ?_
    rintro e w4 ⟨rfl,tk',xs',at2,ax,rs',gl',rv',gv',tv',ts',hx3,hp3,hmu⟩
    have c10:w4.cell? ⟨K.gf,10,none⟩=some (.int .i64 (at2:Int)):=by rw[hx3.cal.cell 10 (by omega)];rfl
    have c9:w4.cell? ⟨K.gf,9,none⟩=some (.int .i64 ax):=by rw[hx3.cal.cell 9 (by omega)];rfl
    have z9:=blk_frozen hx3.cal
    have HX3:Hid (JX w0 K (w4.setCell ⟨K.gf,9,none⟩ (.int .i64 (at2:Int))) tk' xs' 0 at2 at2 rs' gl' rv' gv' tv' ts'):=hx3.atW HOK.out _
    have HP3:Hid (JP k (w4.setCell ⟨K.gf,9,none⟩ (.int .i64 (at2:Int))) at2 tk' xs' rs' gl' ts'):=hp3.keep (hx3.lsf HOK.out ((ButL.refl _ _).set (by simp) _ _))
    have HMU:Hid (at'<at2∧at2≤16+k):=⟨hmu,hp3.le⟩
    clear hx3 hp3 hmu
    go_wp2_with fail
    go_roundw
    case rel=>exact⟨tk',xs',at2,_,rs',gl',rv',gv',tv',ts',HX3,HP3⟩
    case measure =>
     have h9:(w4.setCell ⟨K.gf,9,none⟩ (.int .i64 (at2:Int))).cell? ⟨K.gf,9,none⟩=some (.int .i64 (at2:Int)):=by rw[HX3.out.cal.cell 9 (by omega)];rfl
     rw[h9,HC9.out]
     simp only[Option.getD_some,intOf,Int.toNat_natCast]
     have:=HMU.out
     omega
  ·have HCA:Hid (Calls Tryz.prog fid #[.pointer (some ⟨K.gm,0,none⟩),.pointer (some ⟨K.gf,0,none⟩),.agg #[.int .i64 (op:Int),.int .i64 na,.int .i64 nb,.int .i64 nc,.int .i64 nd]] W2.drew (ReJ w0 K k)):=hcall
   clear hcall
   go_wp2_with fail
   go_region
   go_wp2_with fail
   clear hW2 c6 c9 c10 i0 i1 i2 i3 i4 z9
   go_region_with (refine (HCA.out).mono ?_;rintro e w3 ⟨gr,rfl,hgr,hb3,hx3⟩)
   all_goals
    have HE3:Hid (w0.heap.size≤gr∧w3.heap[gr]?=some (.cells #[.slice none 0 0] 126)∧∃(ax nx:Int) (rs:List M.SD) (rv gv tv:Value) (ts:List Nat),JX w0 K w3 1 (endX k) 0 ax nx rs [] rv gv tv ts):=⟨hgr,hb3,hx3⟩
    have HL:Hid (Calls Tryz.prog 103 #[.pointer (some ⟨K.gm,0,none⟩),.pointer (some ⟨K.gf,0,none⟩),.iface 124 (.pointer (some ⟨gr,0,none⟩))] w3 fun e w'=>e=.returned (.iface 124 (.pointer (some ⟨gr,0,none⟩)))∧w'=w3):=by
     obtain⟨_,_,_,_,gv9,_,_,hx9⟩:=hx3
     obtain⟨ag,cg,hgv⟩:=hx9.gu.val
     exact leave_ret (.pointer (some ⟨K.gm,0,none⟩)) K.gf cg ag (some ⟨gr,0,none⟩) _ w3 hx9.cal hgv ⟨_,cell_later hx9.bel HOK.out.ovr⟩
    clear hb3 hx3 hgr
    go_wp2_with fail
    refine (HL.out).mono ?_
    rintro e w4 ⟨rfl,rfl⟩
    go_wp2_with fail
    go_ret
    exact⟨gr,rfl,HE3.out⟩
end Go.Proofs.YtliahjnnbbgooaaGreatDoor.J
