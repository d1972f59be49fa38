import Derived.Test.YtjglgbepobmjhaaGreatDoorP33
import Derived.Test.YtjglgbepobmjhaaGreatDoorP12
import Derived.RangeFuncCalls
import Derived.OwnWalkIn
import Derived.OrdersIn
set_option linter.unusedVariables false
set_option linter.unusedSimpArgs false
set_option maxRecDepth 20000
set_option maxHeartbeats 8000000
namespace Go.Proofs.YtjglgbepobmjhaaGreatDoor.T
open Go.RowKit M
attribute [local go_sem] run_store_float
def ovI (p:Option Addr):Value:=.iface 484 (.pointer p)
def OvV (w:World) (p:Option Addr):Prop:=w.cell? ⟨2,0,none⟩=some (ovI p)
theorem OvV.later {w w':World} {p:Option Addr} (h:OvV w p) (hb:Below w.heap.size w w'):OvV w' p:=cell_later hb h
theorem tick_over (g:Nat) (m:MachD) (p:Option Addr) (w:World) (h:MachAt w g m) (ho:OvV w p) (he:m.rticks=m.ticks) :
  Calls Tryz.prog 158 #[.pointer (some ⟨g,0,none⟩)] w fun e w'=>e=.returned (ovI p)∧Below w.heap.size w w':=by
 have c12:w.cell? ⟨g,12,none⟩=some (.int .i64 m.ticks):=by rw[h.cell,←he];rfl
 have c3:w.cell? ⟨g,3,none⟩=some (.int .i64 m.ticks):=by rw[h.cell];rfl
 have c0:w.cell? ⟨2,0,none⟩=some (.iface 484 (.pointer p)):=ho
 clear h he ho
 go_enter Tryz.func158,Tryz.ntmps158
 go_wp2_with fail
 go_region
 go_wp2_with fail
 go_ret
 exact⟨rfl,(Below.refl _ _).drew⟩
theorem tick_go (g:Nat) (m:MachD) (w:World) (h:MachAt w g m) (he:m.rticks<m.ticks) (h0:0≤m.rticks) (h1:m.ticks≤100000) :
  Calls Tryz.prog 158 #[.pointer (some ⟨g,0,none⟩)] w fun e w'=>e=.returned .nilIface∧MachAt w' g { m with rticks:=m.rticks+1 }∧ButL [g] w w':=by
 have c12:w.cell? ⟨g,12,none⟩=some (.int .i64 m.rticks):=by rw[h.cell];rfl
 have c3:w.cell? ⟨g,3,none⟩=some (.int .i64 m.ticks):=by rw[h.cell];rfl
 have hne:¬m.rticks=m.ticks:=by omega
 have z:=blk_frozen h
 have HM:Hid (MachAt w g m):=h
 clear h
 go_enter Tryz.func158,Tryz.ntmps158
 go_wp2_with fail
 go_region
 go_wp2_with fail
 go_ret
 refine⟨rfl,?_,((ButL.refl _ _).drew).set (by simp) _ _⟩
 have h9:=blk_set (w:=w.drew) HM.out 12 (.int .i64 (m.rticks+1))
 rw[MachD.set_ticks]at h9
 exact h9
theorem doTick_over (g gf:Nat) (n:ID) (m:MachD) (p:Option Addr) (w:World) (h:MachAt w g m) (ho:OvV w p) (he:m.rticks=m.ticks) :
  Calls Tryz.prog 80 #[.pointer (some ⟨g,0,none⟩),.pointer (some ⟨gf,0,none⟩),insV n] w fun e w'=>e=.returned (ovI p)∧Below w.heap.size w w':=by
 obtain⟨op,a,b,cc,d⟩:=n
 dsimp only[insV]
 have HB:Hid _:=bw1 w (InO ⟨op,a,b,cc,d⟩)
 have HC:Hid (MachAt (w.alloc (InO ⟨op,a,b,cc,d⟩)) g m):=h.later HB.out
 have HO:Hid (OvV (w.alloc (InO ⟨op,a,b,cc,d⟩)) p):=ho.later HB.out
 clear h ho
 go_enter Tryz.func80,Tryz.ntmps80
 go_wp2_with fail
 refine (tick_over g m p _ HC.out HO.out he).mono ?_
 rintro e w1 ⟨rfl,hb1⟩
 have HB1:Hid _:=hb1
 clear hb1
 go_wp2_with fail
 go_ret
 exact⟨rfl,HB.out.trans (HB1.out.mono (by simp))⟩
theorem doTick_go (g gf:Nat) (n:ID) (m:MachD) (w:World) (h:MachAt w g m) (he:m.rticks<m.ticks) (h0:0≤m.rticks) (h1:m.ticks≤100000) :
  Calls Tryz.prog 80 #[.pointer (some ⟨g,0,none⟩),.pointer (some ⟨gf,0,none⟩),insV n] w fun e w'=>e=.returned .nilIface∧MachAt w' g { m with rticks:=m.rticks+1 }∧ButL [g] w w':=by
 obtain⟨op,a,b,cc,d⟩:=n
 dsimp only[insV]
 have HB:Hid _:=bw1 w (InO ⟨op,a,b,cc,d⟩)
 have HC:Hid (MachAt (w.alloc (InO ⟨op,a,b,cc,d⟩)) g m):=h.later HB.out
 clear h
 go_enter Tryz.func80,Tryz.ntmps80
 go_wp2_with fail
 refine (tick_go g m _ HC.out he h0 h1).mono ?_
 rintro e w1 ⟨rfl,hm1,hb1⟩
 have HM1:Hid _:=hm1
 have HB1:Hid _:=hb1
 clear hb1 hm1
 go_wp2_with fail
 go_ret
 exact⟨rfl,HM1.out,(ButL.of_below HB.out).trans HB1.out⟩
structure TkAt (w:World) (gt gc gf:Nat):Prop where
 calls:∃cap,w.cell? ⟨gt,8,none⟩=some (.slice (some ⟨gc,0,none⟩) 1 cap)∧1≤cap
 num:w.cell? ⟨gt,1,none⟩=some (.int .i64 0)
 call:w.cell? ⟨gc,0,none⟩=some (.pointer (some ⟨gf,0,none⟩))
theorem topen_any (gt gc gf:Nat) (w:World) (h:TkAt w gt gc gf) :
  Calls Tryz.prog 218 #[.pointer (some ⟨gt,0,none⟩)] w fun e w'=>e=.returned (.pointer (some ⟨gf,0,none⟩))∧∃n,w'=w.drewN n:=by
 obtain⟨cap,c8,hcap⟩:=h.calls
 have c0:=h.call
 clear h
 go_enter Tryz.func218,Tryz.ntmps218
 go_wp2_with fail
 go_region
 go_wp2_with fail
 go_ret
 exact⟨rfl,1,rfl⟩
end Go.Proofs.YtjglgbepobmjhaaGreatDoor.T
namespace Go.Proofs.YtjglgbepobmjhaaGreatDoor.M
open Go.RowKit
attribute [local go_sem] run_store_float
theorem ne_ty {w:World} {g g':Nat} {a a':Array Value} {t t':TypeId} (h:w.heap[g]?=some (.cells a t)) (h':w.heap[g']?=some (.cells a' t')) (ht:t≠t'):g≠g':=by
 rintro rfl
 rw[h]at h'
 injection h' with h'
 injection h' with _ h'
 exact ht h'
theorem own_ne {α:Type} {w:World} {B:Nat} {et:TypeId} {k:Nat} {cells:α→List Value} {sv:Value} {xs:List α} (ho:ORow w B et k cells sv xs) {g:Nat} {a:Array Value} {t:TypeId} (h:w.heap[g]?=some (.cells a t)) (ht:t≠et):sv.ownBlock≠some g:=by
 intro e
 rcases ho.2 with ⟨e1,_⟩ | ⟨g0,c0,cur,e1,_,e3,_⟩
 ·rw[e1]at e;cases e
 ·rw[e1]at e
  have e':g0=g:=Option.some.inj e
  subst e'
  exact ne_ty h e3 ht rfl
theorem _root_.Go.Proofs.YtjglgbepobmjhaaGreatDoor.ButL.undrew {S:List Nat} {w w':World} (h:ButL S w.drew w'):ButL S w w':=⟨h.os,h.tape,h.output,h.size,h.block⟩
def intD (n:Int):VD:=⟨2,n,0,⟨#[]⟩,0⟩
end Go.Proofs.YtjglgbepobmjhaaGreatDoor.M
namespace Go.Proofs.YtjglgbepobmjhaaGreatDoor.T
open Go.RowKit M
attribute [local go_sem] run_store_float
def rcC (k:Int):List Value:=[.int .i64 k,.int .i64 0,.int .i64 0,.int .i64 0,.string ⟨#[55]⟩]
theorem rcC_len (k:Int):(rcC k).length=5:=rfl
abbrev RcO (k:Int):Obj:=.cells #[.int .i64 k,.int .i64 0,.int .i64 0,.int .i64 0,.string ⟨#[55]⟩] 41
theorem ORow.drew {α:Type} {w:World} {B:Nat} {et:TypeId} {k:Nat} {cells:α→List Value} {sv:Value} {xs:List α} (h:ORow w B et k cells sv xs):ORow w.drew B et k cells sv xs:=h
theorem watch_any (p i:Value) (w:World):Calls Tryz.prog 17 #[p,i] w fun e w'=>e=.returned .nilIface∧w'=w:=by
 go_enter Tryz.func17,Tryz.ntmps17
 go_wp2_with fail
 go_ret
 exact⟨rfl,rfl⟩
theorem record_over (B gm:Nat) (k:Int) (m:MachD) (ks:List Int) (p:Option Addr) (w:World) (h:MachAt w gm m) (ho:ORow w B 41 5 rcC m.recs ks) (hl:ks.length=100000) (hv:OvV w p) :
  Calls Tryz.prog 219 #[.pointer (some ⟨gm,0,none⟩),.agg #[.int .i64 k,.int .i64 0,.int .i64 0,.int .i64 0,.string ⟨#[55]⟩]] w fun e w'=>e=.returned (ovI p)∧Below w.heap.size w w':=by
 obtain⟨ag,cg,hgv⟩:=ho.val
 rw[hl]at hgv
 have hb:=bw1 w (RcO k)
 have c8:(w.alloc (RcO k)).cell? ⟨gm,8,none⟩=some (.slice ag 100000 cg):=by rw[(h.later hb).cell,←hgv];rfl
 have c0:(w.alloc (RcO k)).cell? ⟨2,0,none⟩=some (.iface 484 (.pointer p)):=hv.later hb
 clear h ho hv hb
 go_enter Tryz.func219,Tryz.ntmps219
 go_wp2_with fail
 go_ret
 exact⟨rfl,bw1 _ _⟩
theorem record_go (B gm:Nat) (k:Int) (m:MachD) (ks:List Int) (w:World) (h:MachAt w gm m) (hw:m.watch=.func (.func 17) #[] #[]) (ho:ORow w B 41 5 rcC m.recs ks) (hl:ks.length<100000) (hB:B≤w.heap.size) :
  Calls Tryz.prog 219 #[.pointer (some ⟨gm,0,none⟩),.agg #[.int .i64 k,.int .i64 0,.int .i64 0,.int .i64 0,.string ⟨#[55]⟩]] w fun e w'=>e=.returned .nilIface∧∃rv,MachAt w' gm { m with recs:=rv }∧ORow w' B 41 5 rcC rv (ks++[k])∧ButL (gm :: m.recs.ownBlock.toList) w w':=by
 obtain⟨ag,cg,hgv⟩:=ho.val
 obtain⟨W,hW⟩:∃W,w.alloc (RcO k)=W:=⟨_,rfl⟩
 have hb:=bw1 w (RcO k)
 have bn:=blk_new w (RcO k)
 have hsz:W.heap.size=w.heap.size+1:=by rw[←hW];simp
 rw[hW]at hb bn
 have h':MachAt W gm m:=h.later hb
 have hgl:=blk_lt h
 have c8:W.cell? ⟨gm,8,none⟩=some (.slice ag ks.length cg):=by rw[h'.cell,←hgv];rfl
 have d0:W.cell? ⟨w.heap.size,0,none⟩=some (.int .i64 k):=by rw[blk_cell bn];rfl
 have d1:W.cell? ⟨w.heap.size,1,none⟩=some (.int .i64 0):=by rw[blk_cell bn];rfl
 have d2:W.cell? ⟨w.heap.size,2,none⟩=some (.int .i64 0):=by rw[blk_cell bn];rfl
 have d3:W.cell? ⟨w.heap.size,3,none⟩=some (.int .i64 0):=by rw[blk_cell bn];rfl
 have d4:W.cell? ⟨w.heap.size,4,none⟩=some (.string ⟨#[55]⟩):=by rw[blk_cell bn];rfl
 have hb2:=bw1 W (RcO k)
 have ho2:=ORow.drew ((ho.later hb).later hb2)
 rw[hgv]at ho2
 obtain⟨g',cap',w2,hr,ho3,hg3⟩:=ho2.app 31 48 Tryz.underlying31 (by kernel_rfl) (by omega) (by omega) k (w.heap.size+1) 31 (show (W.alloc (RcO k)).heap[w.heap.size+1]?=_ from blk_newn (by omega) _) rfl (by intro u hu;simp[rcC]at hu;rcases hu with rfl | rfl | rfl<;>rfl) (by omega) (by simp;omega)
 have hne:(Value.slice ag ks.length cg).ownBlock≠some gm:=by rw[←hgv];exact own_ne ho h (by decide)
 have hx:∀(q:Nat) o,(W.alloc (RcO k)).heap[q]?=some o→(Value.slice ag ks.length cg).ownBlock≠some q→w2.heap[q]?=some o:=fun q o hq hn=>(hg3.block q (blk_lt hq) (fun e=>hn e.symm)).trans hq
 have h2:MachAt w2 gm m:=hx gm _ (blk_old h' _) hne
 have p8:w2.cell? ⟨gm,8,none⟩=some (.slice ag ks.length cg):=by rw[h2.cell,←hgv];rfl
 have z2:=blk_frozen h2
 obtain⟨W3,hW3⟩:∃W3,w2.setCell ⟨gm,8,none⟩ (.slice (some ⟨g',0,none⟩) (ks.length+1) cap')=W3:=⟨_,rfl⟩
 have HE:Hid (MachAt W3 gm { m with recs:=.slice (some ⟨g',0,none⟩) (ks.length+1) cap' }∧ORow W3 B 41 5 rcC (.slice (some ⟨g',0,none⟩) (ks.length+1) cap') (ks++[k])∧ButL (gm :: m.recs.ownBlock.toList) w W3):=by
  rw[←hW3]
  refine⟨?_,ORow.set_own ho3 (own_ne ho3 h2 (by decide)) _ _,?_⟩
  ·have:=blk_set h2 8 (.slice (some ⟨g',0,none⟩) (ks.length+1) cap')
   rw[MachD.set_recs]at this
   exact this
  ·refine ButL.set ?_ (by simp) _ _
   rw[hgv]
   exact ButL.grown (((ButL.of_below hb).thenB hb2).drew) hg3 (fun q e=>.inl (by rw[e];simp))
 have q8:W3.cell? ⟨gm,8,none⟩=some (.slice (some ⟨g',0,none⟩) (ks.length+1) cap'):=by rw[HE.out.1.cell];rfl
 have q6:W3.cell? ⟨gm,6,none⟩=some (.func (.func 17) #[] #[]):=by rw[HE.out.1.cell,←hw];rfl
 have c8a:(W.alloc (RcO k)).cell? ⟨gm,8,none⟩=some (.slice ag ks.length cg):=cell_later (bw1 _ _) c8
 have hne2:¬(ks.length:Int)=100000:=by omega
 have HR:Hid _:=hr
 clear hr ho3 hg3 hx h2 ho2 hb2 ho h' h bn hb hne
 go_enter Tryz.func219,Tryz.ntmps219
 go_wp2_with fail
 clear hW
 go_region_law (refine step_append_run rfl _ _ _ rfl _ _ _ _ rfl rfl HR.out ?_)
 all_goals
  go_wp2_with fail
  clear HR
  go_region_with (go_at_call 17;refine (watch_any _ _ _).mono ?_;rintro e w5 ⟨rfl,rfl⟩)
 all_goals
  go_wp2_with fail
  go_ret
  refine⟨rfl,_,(HE.out.1:MachAt W3.drew gm _),HE.out.2.1,HE.out.2.2.drew⟩
end Go.Proofs.YtjglgbepobmjhaaGreatDoor.T
namespace Go.Proofs.YtjglgbepobmjhaaGreatDoor.T
open Go.RowKit M
attribute [local go_sem] run_store_float
theorem TkAt.drewN {w:World} {gt gc gf:Nat} (h:TkAt w gt gc gf) (n:Nat):TkAt (w.drewN n) gt gc gf:=⟨h.calls,h.num,h.call⟩
theorem TkAt.later {w w':World} {gt gc gf:Nat} (h:TkAt w gt gc gf) (hb:Below w.heap.size w w'):TkAt w' gt gc gf:=by
 obtain⟨⟨cap,h1,h2⟩,h3,h4⟩:=h
 exact⟨⟨cap,cell_later hb h1,h2⟩,cell_later hb h3,cell_later hb h4⟩
theorem line_any (gt gc gf:Nat) (c:CallD) (w:World) (h:TkAt w gt gc gf) (hc:CallAt w gf c) :
  Calls Tryz.prog 191 #[.pointer (some ⟨gt,0,none⟩)] w fun e w'=>e=.returned (.int .i64 c.line)∧∃n,w'=w.drewN n:=by
 have HT:Hid (TkAt w gt gc gf):=h
 have HC:Hid (CallAt w gf c):=hc
 clear h hc
 go_enter Tryz.func191,Tryz.ntmps191
 go_wp2_with fail
 refine (topen_any gt gc gf _ HT.out).mono ?_
 rintro e w1 ⟨rfl,n,rfl⟩
 have c11:(w.drewN n).cell? ⟨gf,11,none⟩=some (.int .i64 c.line):=by rw[(HC.out.drewN n).cell 11 (by omega)];rfl
 go_wp2_with fail
 go_ret
 exact⟨rfl,n,rfl⟩
theorem tell_any (gm gt gc gf:Nat) (k:Int) (m:MachD) (c:CallD) (R:Value) (Q:World→Prop) (w:World) (h:MachAt w gm m) (hr:m.running=.pointer (some ⟨gt,0,none⟩)) (ht:TkAt w gt gc gf) (hc:CallAt w gf c) (hp:c.proto=0)
  (HQ:∀n,Calls Tryz.prog 219 #[.pointer (some ⟨gm,0,none⟩),.agg #[.int .i64 k,.int .i64 0,.int .i64 0,.int .i64 0,.string ⟨#[55]⟩]] (w.drewN n) fun e w'=>e=.returned R∧Q w') :
  Calls Tryz.prog 159 #[.pointer (some ⟨gm,0,none⟩),.int .i64 k,.int .i64 0,.string ⟨#[55]⟩] w fun e w'=>e=.returned R∧Q w':=by
 have c75:w.cell? ⟨gm,75,none⟩=some (.pointer (some ⟨gt,0,none⟩)):=by rw[h.cell,←hr];rfl
 have HT:Hid (TkAt w gt gc gf):=ht
 have HC:Hid (CallAt w gf c):=hc
 have HQ':Hid (∀n,Calls Tryz.prog 219 #[.pointer (some ⟨gm,0,none⟩),.agg #[.int .i64 k,.int .i64 0,.int .i64 0,.int .i64 0,.string ⟨#[55]⟩]] (w.drewN n) fun e w'=>e=.returned R∧Q w'):=HQ
 clear h ht hc HQ
 go_enter Tryz.func159,Tryz.ntmps159
 go_wp2_with fail
 refine (topen_any gt gc gf _ HT.out).mono ?_
 rintro e w1 ⟨rfl,n,rfl⟩
 have d5:(w.drewN n).cell? ⟨gf,5,none⟩=some (.int .i64 0):=by rw[(HC.out.drewN n).cell 5 (by omega),←hp];rfl
 have d75:(w.drewN n).cell? ⟨gm,75,none⟩=some (.pointer (some ⟨gt,0,none⟩)):=c75
 have d1:(w.drewN n).cell? ⟨gt,1,none⟩=some (.int .i64 0):=HT.out.num
 clear c75
 go_wp2_with fail
 refine (HQ'.out n).mono ?_
 rintro e w2 ⟨rfl,hq⟩
 have HQ2:Hid (Q w2):=hq
 clear hq
 go_wp2_with fail
 go_ret
 exact⟨rfl,HQ2.out⟩
theorem join1 (ga cap:Nat) (s sep:ByteArray) (w:World) (h:w.cell? ⟨ga,0,none⟩=some (.string s)) :
  Calls Tryz.prog 190 #[.slice (some ⟨ga,0,none⟩) 1 cap,.string sep] w fun e w'=>e=.returned (.string s)∧w'=w:=by
 go_enter Tryz.func190,Tryz.ntmps190
 go_wp2_with fail
 go_ret
 exact⟨rfl,rfl⟩
end Go.Proofs.YtjglgbepobmjhaaGreatDoor.T
namespace Go.Proofs.YtjglgbepobmjhaaGreatDoor
open Go.RowKit
theorem oper_in {P:Program} {o:Oper} {a:Act} {w:World} {K:Act→World→Prop} {Q:Exit→Act→World→Prop} (l n:Nat) (hd:∀c,o.op≠.defer c) (h:o.wp P a w K Q):o.wpIn (Fence.wide.inRound l) n P a w K Q:=by
 refine⟨fun _ _=>trivial,?_⟩
 rw[Oper.semAt_plain _ _ _ hd]
 unfold Oper.wp at h
 generalize (execOp a.eval o).run P w=r at *
 cases r with
 | ok x w' =>
  cases x<;>simp only[Oper.upon,Oper.uponIn]at h ⊢
  all_goals first
   | exact h
   | exact⟨(fun e=>by cases e),CallsIn.inRound l (callsIn_wide.2 h)⟩
   | exact⟨(fun e=>by cases e),(fun c cs _=>(let ⟨v,w9,r9,s9⟩:=h c cs;⟨v,w9,r9,stepsIn_wide.2 s9⟩))⟩
 | halt x w'=>cases x<;>simp only[Oper.upon,Oper.uponIn]at h ⊢<;>exact h
theorem wpOpIn_step {P:Program} {ops:Array Oper} {Q:Exit→Act→World→Prop} {l n i:Nat} {o:Oper} {K:Act→World→Prop} {a:Act} {w:World} (ho:ops[i]?=some o) (hd:∀c,o.op≠.defer c)
  (h:∀K':Act→World→Prop,(∀a w,K a w→K' a w)→if Region.wanted o (yielded ops a.tmps)=true then Oper.wp P o a w K' Q else K' (a.put o.dst undef) w):wpOpIn (Fence.wide.inRound l) n P ops Q i K a w:=by
 have h:=h K (fun _ _ h=>h)
 unfold wpOpIn
 rw[ho]
 show if Region.wanted o (yielded ops a.tmps)=true then _ else _
 split
 ·rename_i hw;rw[if_pos hw]at h;exact oper_in l n hd h
 ·rename_i hw;rw[if_neg hw]at h;exact⟨fun _ _=>trivial,h⟩
theorem wpAnyIn_inv {G:Fence} {n:Nat} {P:Program} {ops:Array Oper} {Q:Exit→Act→World→Prop} {md:Region.Mode} (Inv:Array Bool→Act→World→Prop)
  (hstep:∀i listed a w,Inv listed a w→i∈Region.ready md ops listed→wpOpIn G n P ops Q i (Inv (listed.setIfInBounds i true)) a w)
  (hend:∀listed a w,Inv listed a w→Region.ready md ops listed=[]→Q .normal a w) :
  ∀(fuel:Nat) (listed:Array Bool) (a:Act) (w:World),listed.toList.count false≤fuel→Inv listed a w→wpAnyIn G n P md ops Q fuel listed a w:=by
 have hin:∀(listed:Array Bool) (i:Nat),i∈Region.ready md ops listed→listed.toList[i]?=some false:=by
  intro listed i hi
  have h:=(mem_ready.1 hi).1
  rw[Array.getElem?_toList]
  rcases Nat.lt_or_ge i listed.size with h' | h'
  ·simp[h']at h ⊢;exact h
  ·simp[Array.getElem?_eq_none h']at h
 intro fuel
 induction fuel with
 | zero =>
  intro listed a w hc hI
  have hr:Region.ready md ops listed=[]:=by
   cases hr:Region.ready md ops listed with
   | nil=>rfl
   | cons i r =>
    have h:=hin listed i (by rw[hr];simp)
    have:=count_set _ i h
    omega
  exact⟨hr,hend _ _ _ hI hr⟩
 | succ fuel ih =>
  intro listed a w hc hI
  refine⟨hend _ _ _ hI,fun i hi=>?_⟩
  refine wpOpIn_mono (fun a' w' h=>ih _ a' w' ?_ h) (hstep i listed a w hI hi)
  have:=count_set _ i (hin listed i hi)
  rw[Array.toList_setIfInBounds]
  omega
theorem wpIn_region_inv {P:Program} {id l n:Nat} {ops:Array Oper} {Q:Exit→Act→World→Prop} {a:Act} {w:World} (hm:P.follows .mixedOrders=true) (F:Act→Array Bool→Act→World→Prop)
  (h0:F a (Array.replicate ops.size false) a w.drew)
  (hstep:∀i listed a' w',F a listed a' w'→i∈Region.ready .any ops listed→wpOpIn (Fence.wide.inRound l) n P ops Q i (F a (listed.setIfInBounds i true)) a' w')
  (hend:∀listed a' w',F a listed a' w'→Region.ready .any ops listed=[]→Q .normal a' w'):(Code.region id ops true).wpIn (Fence.wide.inRound l) n P Q a w :=
 wpIn_region_any hm (wpAnyIn_inv (F a) hstep hend ops.size _ a w.drew (by simp) h0)
end Go.Proofs.YtjglgbepobmjhaaGreatDoor
