import Derived.RangeFuncNested
import Derived.RangeFuncBound
import Derived.RangeFuncCalls
import Derived.RangeFuncLeaves
import Derived.Shelf.Abstract
import Derived.OwnWalkIn
import Derived.TacticsInMore
import Derived.LoopNIn
import Derived.LoopIn
import Derived.Maps.AppendAt
import Derived.Test.YtjglgbepobmjhaaGreatDoorP34
import Derived.Test.YtjglgbepobmjhaaGreatDoorP17
set_option linter.unusedVariables false
set_option linter.unusedSimpArgs false
set_option maxRecDepth 20000
set_option maxHeartbeats 8000000
namespace Go.Proofs.YtjglgbepobmjhaaGreatDoor.T
open Go.RowKit Go.Shelf M
attribute [local go_sem] run_store_float Oper.semAt_some
set_option maxRecDepth 100000 in
theorem back_in (n l bs gc gf cap n₀:Nat) (J Jx:List Unit→World→Prop) (hn:1≤n)
  (hY:∀pre x W,J pre W→pre.length<1→YieldAt Fence.wide (n-1) Tryz.prog l #[.int .i64 0,.pointer (some ⟨gf,0,none⟩)] W fun e W' =>
   (e=.returned (.bool true)∧J (pre++[x]) W'∧Below n₀ W W')∨(e=.returned (.bool false)∧Jx (pre++[x]) W'))
  (W:World) (hJ:AbidesFrom W.heap.size J) (c0:W.cell? ⟨bs,0,none⟩=some (.slice (some ⟨gc,0,none⟩) 1 cap)) (c1:W.cell? ⟨gc,0,none⟩=some (.pointer (some ⟨gf,0,none⟩))) (h0:J [] W) :
  CallsIn Fence.wide n Tryz.prog 313 #[.func (.yield l) #[] #[],.pointer (some ⟨bs,0,none⟩)] W fun e W'=>(∃v,e=.returned v) ∧
   ((∃ys,ys=[()]∧J ys W')∨(∃pre,pre <+: [()]∧Jx pre W')):=by
 have HJ0:Hid (J [] W):=h0
 have HY:Hid (∀pre x W,J pre W→pre.length<1→YieldAt Fence.wide (n-1) Tryz.prog l #[.int .i64 0,.pointer (some ⟨gf,0,none⟩)] W fun e W' =>
   (e=.returned (.bool true)∧J (pre++[x]) W'∧Below n₀ W W')∨(e=.returned (.bool false)∧Jx (pre++[x]) W')):=hY
 clear hY h0 hJ
 refine callsIn_of_wp Tryz.func313 rfl trivial ?_ rfl
 simp only[Tryz.ntmps313,List.size_toArray,List.length_cons,List.length_nil,Nat.reduceAdd,Nat.reduceSub,Array.replicate_succ,Array.replicate_zero,List.push_toArray,List.append_toArray,List.nil_append,List.cons_append]
 gi_wp2_with fail
 gi_loopw [3] (fun i wr=>(i=.int .i64 0∧wr=W)∨(i=.int .i64 (-1)∧Hid (J [()] wr))) (fun i _=>(intOf i+1).toNat)
 case atStart=>exact .inl ⟨rfl,rfl⟩
 case round =>
  rcases hrel with ⟨rfl,rfl⟩ | ⟨rfl,HJ1⟩
  ·obtain⟨fn,tmps,assign,body,hy,hR⟩:=HY.out _ () _ HJ0.out (by simp)
   gi_wp2_with fail
   refine hR.mono ?_
   clear hR hy
   rintro e W3 (⟨rfl,hJ3,hk3⟩ | ⟨rfl,hJx3⟩)
   ·have HJ3:Hid (J [()] W3):=hJ3
    clear hk3 hJ3
    gi_wp2_with fail
    go_roundw
    case rel=>exact .inr ⟨rfl,HJ3⟩
    case measure=>simp[intOf]
   ·have HX:Hid (Jx [()] W3):=hJx3
    clear hJx3
    gi_wp2_with fail
    refine bodyPost_ret (results_none rfl _ _ _) rfl ?_
    exact⟨⟨_,rfl⟩,.inr ⟨_,List.prefix_refl _,HX.out⟩⟩
  ·gi_wp2_with fail
   go_end0
   exact⟨⟨_,rfl⟩,.inl ⟨_,rfl,HJ1.out⟩⟩
theorem backward_any (gc cap:Nat) (w:World):Calls Tryz.prog 275 #[.slice (some ⟨gc,0,none⟩) 1 cap] w fun e w'=>e=.returned (.func (.func 313) #[] #[.pointer (some ⟨w.heap.size,0,none⟩)])∧w'=w.alloc (.cells #[.slice (some ⟨gc,0,none⟩) 1 cap] 140):=by
 go_enter Tryz.func275,Tryz.ntmps275
 go_wp2_with fail
 go_ret
 exact⟨rfl,rfl⟩
structure TrI (w:World) (gm gf:Nat) (pre:List Unit) (W:World):Prop where
 box:W.heap[w.heap.size]?=some (.cells #[.pointer (some ⟨gm,0,none⟩)] 65)
 all:∃v,W.heap[w.heap.size+1]?=some (.cells #[v] 32)∧((pre=[]∧v=.slice none 0 0)∨(pre≠[]∧∃ga cap s cur,v=.slice (some ⟨ga,0,none⟩) 1 cap∧W.heap[ga]?=some (.cells cur 9)∧cur[0]?=some (.string s)))
 bel:Below w.heap.size w W
theorem blk_cells_kept {X Y:World} {row:Option Nat} {B g:Nat} {a:Array Value} {t:TypeId} (h:X.heap[g]?=some (.cells a t)) (hg:X.grownBy Y row) (hr:∀r,row=some r→B≤r∧∃o:Obj,X.heap[r]?=some o∧o.isCells=false):Y.heap[g]?=some (.cells a t) :=
 (hg.block g (Array.getElem?_eq_some_iff.1 h).1 (fun e=>by obtain⟨_,o,ho,hc⟩:=hr g e.symm;rw[h]at ho;cases ho;cases hc)).trans h
theorem TrI.own {w:World} {gm gf B:Nat} (hB:w.heap.size≤B):OwnFrom B (TrI w gm gf):=by
 intro s X Y row hs hg hr
 obtain⟨h1,⟨v,h2,h3⟩,h4⟩:=hs
 refine⟨blk_cells_kept h1 hg hr,⟨v,blk_cells_kept h2 hg hr,?_⟩,?_⟩
 ·rcases h3 with h3 | ⟨h3,ga,cap,s',cur,e1,e2,e3⟩
  ·exact .inl h3
  ·exact .inr ⟨h3,ga,cap,s',cur,e1,blk_cells_kept e2 hg hr,e3⟩
 ·exact (ownFrom_below (β:=Unit) (Nat.le_refl _) hB) () X Y row h4 hg hr
theorem own_blk {α:Type} {w:World} {B:Nat} {et:TypeId} {k:Nat} {cells:α→List Value} {sv:Value} {xs:List α} (ho:ORow w B et k cells sv xs) {g:Nat} (h:sv.ownBlock=some g):B≤g∧∃cur,w.heap[g]?=some (.cells cur et):=by
 rcases ho.2 with ⟨e1,_⟩ | ⟨g0,c0,cur,e1,e2,e3,_⟩
 ·rw[e1]at h;cases h
 ·rw[e1]at h
  have e':g0=g:=Option.some.inj h
  subst e'
  exact⟨e2,cur,e3⟩
def sC (v:Value):List Value:=[v]
structure Tr4 (W:World) (gm gf bp op capP:Nat) (w':World) (b0 b1 b2 b3 b4 b5 b6 b7 b8 b9 b10 b11:Bool) (x0 x1 x2 x3 x4 x5 x6 x7 x8 x9 x10 x11:Value):Prop where
 P:w'=W.drew
 f0:b0=true→x0=.pointer (some ⟨gm,0,none⟩)
 f1:b1=true→x1=.pointer (some ⟨gm,0,none⟩)
 f2:b2=true→x2=.pointer (some ⟨gm,0,none⟩)
 f3:b3=true→x3=.slice (some ⟨bp,op,none⟩) 1 capP
 f4:b4=true→x4=.pointer (some ⟨gf,0,none⟩)
 f5:b5=true→x5=.pointer (some ⟨gf,0,none⟩)
 f6:b6=true→x6=.pointer (some ⟨gf,5,none⟩)
 f7:b7=true→x7=.int .i64 0
 f8:b8=true→x8=.pointer (some ⟨bp,op,none⟩)
 f9:b9=true→x9=.pointer (some ⟨bp,op,none⟩)
 f10:b10=true→x10=.string ⟨#[109,97,105,110]⟩
 f11:b11=true→x11=.string ⟨#[109,97,105,110]⟩
structure Tr7 (W2 w2:World) (wz gf g' cap':Nat) (w':World) (b0 b1 b2 b3 b4 b5 b6 b7 b8 b9 b10 b11:Bool) (x0 x1 x2 x3 x4 x5 x6 x7 x8 x9 x10:Value):Prop where
 c0:W2.cell? ⟨wz+1,0,none⟩=some (.slice none 0 0)
 c1:(W2.alloc (.cells #[.string (⟨#[109,97,105,110]⟩++⟨#[58]⟩++⟨#[48]⟩)] 9)).cell? ⟨wz+1,0,none⟩=some (.slice none 0 0)
 c6:W2.cell? ⟨gf,11,none⟩=some (.int .i64 0)
 c2:w2.cell? ⟨wz+1,0,none⟩=some (.slice none 0 0)
 z2:∀q,w2.frozen? ⟨wz+1,q,none⟩=false
 run:(Builtin.append_ #[32,32] 32 #[.slice none 0 0,.slice (some ⟨W2.heap.size,0,none⟩) 1 1]).run Tryz.prog (W2.alloc (.cells #[.string (⟨#[109,97,105,110]⟩++⟨#[58]⟩++⟨#[48]⟩)] 9))=.ok (.slice (some ⟨g',0,none⟩) 1 cap') w2
 a2:b2=true→b1=true
 a4:b4=true→b3=true
 a5:b5=true→b4=true
 a6:b6=true→b5=true
 a7:b7=true→b6=true
 a8:b8=true→b2=true∧b7=true
 m9:b9=true→b1=true∧b2=true∧b3=true∧b4=true∧b5=true∧b6=true∧b7=true∧b8=true
 m10:b10=true→b9=true∧b0=true
 m11:b11=true→b10=true
 P0:b9=false→w'=W2
 P1:b9=true→b10=false→w'=W2.alloc (.cells #[.string (⟨#[109,97,105,110]⟩++⟨#[58]⟩++⟨#[48]⟩)] 9)
 P2:b10=true→b11=false→w'=w2
 P3:b11=true→w'=w2.setCell ⟨wz+1,0,none⟩ (.slice (some ⟨g',0,none⟩) 1 cap')
 f0:b0=true→x0=.slice none 0 0
 f1:b1=true→x1=.string ⟨#[109,97,105,110]⟩
 f2:b2=true→x2=.string (⟨#[109,97,105,110]⟩++⟨#[58]⟩)
 f3:b3=true→x3=.pointer (some ⟨gf,0,none⟩)
 f4:b4=true→x4=.pointer (some ⟨gf,0,none⟩)
 f5:b5=true→x5=.pointer (some ⟨gf,11,none⟩)
 f6:b6=true→x6=.int .i64 0
 f7:b7=true→x7=.string ⟨#[48]⟩
 f8:b8=true→x8=.string (⟨#[109,97,105,110]⟩++⟨#[58]⟩++⟨#[48]⟩)
 f9:b9=true→x9=.slice (some ⟨W2.heap.size,0,none⟩) 1 1
 f10:b10=true→x10=.slice (some ⟨g',0,none⟩) 1 cap'
set_option maxRecDepth 100000 in
theorem trace_any (gm gt gc gf bp op capP:Nat) (m:MachD) (c:CallD) (w:World) (h:MachAt w gm m) (hr:m.running=.pointer (some ⟨gt,0,none⟩)) (ht:TkAt w gt gc gf) (hc:CallAt w gf c) (hp:c.proto=0) (hl:c.line=0) (hpr:m.protos=.slice (some ⟨bp,op,none⟩) 1 capP) (hn:w.cell? ⟨bp,op,none⟩=some (.string ⟨#[109,97,105,110]⟩)) :
  Calls Tryz.prog 232 #[.pointer (some ⟨gm,0,none⟩)] w fun e w'=>(∃s,e=.returned (.string s))∧Below w.heap.size w w':=by
 obtain⟨⟨cap,t8,hcap⟩,t1,t0⟩:=ht
 have HK:Hid (∀wk,Below w.heap.size w wk→wk.cell? ⟨gm,75,none⟩=some (.pointer (some ⟨gt,0,none⟩))∧wk.cell? ⟨gm,0,none⟩=some (.slice (some ⟨bp,op,none⟩) 1 capP)∧wk.cell? ⟨gt,8,none⟩=some (.slice (some ⟨gc,0,none⟩) 1 cap)∧wk.cell? ⟨gc,0,none⟩=some (.pointer (some ⟨gf,0,none⟩))∧wk.cell? ⟨gf,5,none⟩=some (.int .i64 0)∧wk.cell? ⟨gf,11,none⟩=some (.int .i64 0)∧wk.cell? ⟨bp,op,none⟩=some (.string ⟨#[109,97,105,110]⟩)):=by
  intro wk hb
  refine⟨?_,?_,cell_later hb t8,cell_later hb t0,?_,?_,cell_later hb hn⟩
  ·rw[(h.later hb).cell,←hr];rfl
  ·rw[(h.later hb).cell,←hpr];rfl
  ·rw[(hc.later hb).cell 5 (by omega),←hp];rfl
  ·rw[(hc.later hb).cell 11 (by omega),←hl];rfl
 clear h hr hc hp hl hpr hn t8 t1 t0
 obtain⟨W,hW⟩:∃W,(w.alloc (.cells #[.pointer (some ⟨gm,0,none⟩)] 65)).alloc (.cells #[.slice none 0 0] 32)=W:=⟨_,rfl⟩
 have hb:Below w.heap.size w W:=by rw[←hW];exact bw2 _ _ _
 have hsz:W.heap.size=w.heap.size+2:=by rw[←hW];simp
 have b0:W.heap[w.heap.size]?=some (.cells #[.pointer (some ⟨gm,0,none⟩)] 65):=by rw[←hW];exact blk_old (blk_new _ _) _
 have b1:W.heap[w.heap.size+1]?=some (.cells #[.slice none 0 0] 32):=by rw[←hW];exact blk_newn (by simp) _
 have x0:W.cell? ⟨w.heap.size,0,none⟩=some (.pointer (some ⟨gm,0,none⟩)):=by rw[blk_cell b0];rfl
 obtain⟨k0,k1,k2,k3,k4,k5,k6⟩:=HK.out W hb
 have HB:Hid (Below w.heap.size w W):=hb
 have HB0:Hid (W.heap[w.heap.size]?=some (.cells #[.pointer (some ⟨gm,0,none⟩)] 65)):=b0
 have HB1:Hid (W.heap[w.heap.size+1]?=some (.cells #[.slice none 0 0] 32)):=b1
 clear hb b0 b1
 refine (callsIn_wide (n:=5)).1 ?_
 refine callsIn_of_wp_marks Tryz.func232 rfl trivial ?_ rfl
 simp only[Tryz.ntmps232,List.size_toArray,List.length_cons,List.length_nil,Nat.reduceAdd,Nat.reduceSub,Array.replicate_succ,Array.replicate_zero,List.push_toArray,List.append_toArray,List.nil_append,List.cons_append]
 gi_wp2_with fail
 refine⟨trivial,(callsIn_wide.2 (backward_any gc cap _)).mono ?_⟩
 rintro e W0 ⟨rfl,rfl⟩
 gi_wp2_with fail
 have hS1:(W.alloc (.cells #[.slice (some ⟨gc,0,none⟩) 1 cap] 140)).heap.size=w.heap.size+3:=by simp;omega
 obtain⟨W0,hW0⟩:∃W0,W.alloc (.cells #[.slice (some ⟨gc,0,none⟩) 1 cap] 140)=W0:=⟨_,rfl⟩
 have hbx:W0.heap[w.heap.size+2]?=some (.cells #[.slice (some ⟨gc,0,none⟩) 1 cap] 140):=by rw[←hW0];exact blk_newn (by omega) _
 have hb0:Below w.heap.size w W0:=by rw[←hW0];exact HB.out.trans ((bw1 _ _).mono HB.out.size)
 have hI0:TrI w gm gf [] W0:=⟨by rw[←hW0];exact blk_old HB0.out _,⟨_,by rw[←hW0];exact blk_old HB1.out _,.inl ⟨rfl,rfl⟩⟩,hb0⟩
 rw[hW0]at hS1 ⊢
 have e0:W0.cell? ⟨w.heap.size+2,0,none⟩=some (.slice (some ⟨gc,0,none⟩) 1 cap):=by rw[blk_cell hbx];rfl
 have e1:=(HK.out W0 hb0).2.2.2.1
 clear hW0 hbx x0 k0 k1 k2 k3 k4 k5 k6 hW
 refine wpIn_rangeFunc_ownF (F:=Fence.wide) (n:=5) (α:=Unit) rfl (by omega) (gf:=313) (lb:=#[.pointer (some ⟨w.heap.size+2,0,none⟩)]) rfl trivial (enters_of Tryz.func313 (by kernel_rfl) rfl)
  (encs:=fun _=>#[.int .i64 0,.pointer (some ⟨gf,0,none⟩)]) (Kp:=Below w.heap.size) (S:=fun xs=>xs=[()]) (Sp:=fun pre=>pre <+: [()]) (N:=1) (w0:=W0)
  (fun l J Jx W hW hJ hJx hY h0=>back_in (5-1) l (w.heap.size+2) gc gf cap w.heap.size J Jx (by omega) hY W hJ (cell_later hW e0) (cell_later hW e1) h0)
  belowK_t (belowK_b (by omega)) (Below.refl _ _) (fun _=>rfl)
  (TrI w gm gf) (fun _ _ _=>False) (TrI.own (by omega)) (fun _ _ _ _ _ hs _ _=>hs) hI0
  (fun _=>{ tmps:=#[.pointer (some ⟨gm,0,none⟩),.pointer (some ⟨w.heap.size,0,none⟩),.string ⟨#[]⟩,.pointer (some ⟨w.heap.size+1,0,none⟩),undef,.pointer (some ⟨gf,0,none⟩),undef,.pointer (some ⟨gm,0,none⟩),.pointer (some ⟨gm,0,none⟩),.pointer (some ⟨gm,75,none⟩),.pointer (some ⟨gt,0,none⟩),.pointer (some ⟨gt,0,none⟩),.pointer (some ⟨gt,8,none⟩),.slice (some ⟨gc,0,none⟩) 1 cap,.func (.func 313) #[] #[.pointer (some ⟨w.heap.size+2,0,none⟩)],.int .i64 0,.pointer (some ⟨gf,0,none⟩),undef,undef,undef,undef,undef,undef,undef,undef,undef,undef,undef,undef,undef,undef,undef,undef,undef,undef,undef,undef,undef,undef,undef,undef,undef,undef],defers:=[] }) ?assign ?body ?done ?stop
 case assign =>
  intro l x W K hK
  gi_wp2
  exact hK
 case body =>
  rintro l pre x W hI hlen
  have hpre:pre=[]:=by cases pre with | nil=>rfl | cons a b=>simp at hlen
  subst hpre
  obtain⟨hi0,⟨v,hi1,hv⟩,hib⟩:=hI
  obtain rfl:v=.slice none 0 0:=by rcases hv with ⟨_,e⟩ | ⟨e,_⟩;exact e;exact absurd rfl e
  obtain⟨k0,k1,k2,k3,k4,k5,k6⟩:=HK.out W hib
  have x0:W.cell? ⟨w.heap.size,0,none⟩=some (.pointer (some ⟨gm,0,none⟩)):=by rw[blk_cell hi0];rfl
  have x1:W.cell? ⟨w.heap.size+1,0,none⟩=some (.slice none 0 0):=by rw[blk_cell hi1];rfl
  have hs0:w.heap.size≤W.heap.size:=hib.size
  have hl1:=blk_lt hi1
  obtain⟨g',cap',w2,hr,ho2,hg2⟩:=(ORow.nil (W.drew.drew.alloc (.cells #[.string (⟨#[109,97,105,110]⟩++⟨#[58]⟩++⟨#[48]⟩)] 9)) w.heap.size 9 1 sC).app 32 16 Tryz.underlying32 (by kernel_rfl) (by omega) (by omega) (.string (⟨#[109,97,105,110]⟩++⟨#[58]⟩++⟨#[48]⟩)) W.heap.size 32 (blk_newn rfl _) rfl (by intro u hu;simp[sC]at hu;subst hu;rfl) (by simp) (by simp;omega)
  have hi2:w2.heap[w.heap.size+1]?=some (.cells #[.slice none 0 0] 32):=(hg2.block _ (by simp;omega) (fun e=>by cases e)).trans (blk_old (w:=W.drew.drew) hi1 _)
  have hi20:w2.heap[w.heap.size]?=some (.cells #[.pointer (some ⟨gm,0,none⟩)] 65):=(hg2.block _ (by simp;omega) (fun e=>by cases e)).trans (blk_old (w:=W.drew.drew) hi0 _)
  have q0:W.drew.drew.cell? ⟨w.heap.size+1,0,none⟩=some (.slice none 0 0):=x1
  have q1:(W.drew.drew.alloc (.cells #[.string (⟨#[109,97,105,110]⟩++⟨#[58]⟩++⟨#[48]⟩)] 9)).cell? ⟨w.heap.size+1,0,none⟩=some (.slice none 0 0):=by rw[blk_cell (blk_old (w:=W.drew.drew) hi1 _)];rfl
  have q6:W.drew.drew.cell? ⟨gf,11,none⟩=some (.int .i64 0):=k5
  have q2:w2.cell? ⟨w.heap.size+1,0,none⟩=some (.slice none 0 0):=by rw[blk_cell hi2];rfl
  have z2:=blk_frozen hi2
  obtain⟨_,ga,hga⟩:=own_blk ho2 (g:=g') rfl
  have hgc:ga[0]?=some (.string (⟨#[109,97,105,110]⟩++⟨#[58]⟩++⟨#[48]⟩)):=by
   obtain⟨a0,c0,e0,hs9⟩:=ho2.lies (fun y=>rfl)
   obtain⟨b9,o9,e9,_,hc9⟩:=hs9 0 _ rfl
   have e2:a0=some ⟨g',0,none⟩:=by injection e0 with e0 _ _;exact e0.symm
   rw[e2]at e9
   have e3:g'=b9∧0=o9:=by injection e9 with e9;injection e9 with e9 e2;exact⟨e9,e2⟩
   obtain⟨rfl,rfl⟩:=e3
   have:=hc9 0 _ rfl
   rw[blk_cell hga]at this
   simpa using this
  have hgne:w.heap.size+1≠g':=fun e=>by rw[←e,hi2]at hga;cases hga
  have hbb:Below w.heap.size W w2:=by
   have h1:Below w.heap.size W (W.drew.drew.alloc (.cells #[.string (⟨#[109,97,105,110]⟩++⟨#[58]⟩++⟨#[48]⟩)] 9)):=(((Below.refl _ W).drew).drew).alloc hs0 _
   exact⟨hg2.os.trans h1.os,hg2.tape.trans h1.tape,hg2.output.trans h1.output,Nat.le_trans h1.size hg2.size,fun k hk=>(hg2.block k (by simp;omega) (fun e=>by cases e)).trans (h1.block k hk)⟩
  have KKB:Hid (Below w.heap.size W (w2.setCell ⟨w.heap.size+1,0,none⟩ (.slice (some ⟨g',0,none⟩) 1 cap'))):=hbb.setCell (p:=⟨w.heap.size+1,0,none⟩) (by show w.heap.size≤w.heap.size+1;omega) _
  have KKO:Hid (KeepsOthers W (w2.setCell ⟨w.heap.size+1,0,none⟩ (.slice (some ⟨g',0,none⟩) 1 cap'))):=((((KeepsOthers.drew W).trans (KeepsOthers.drew _)).trans (KeepsOthers.alloc _ _)).trans (KeepsOthers.of_grownBy hg2 (fun r o e=>by cases e))).trans (KeepsOthers.setCell _ _ _)
  have KKI:Hid (TrI w gm gf ([]++[x]) (w2.setCell ⟨w.heap.size+1,0,none⟩ (.slice (some ⟨g',0,none⟩) 1 cap'))) :=
   ⟨blk_other hi20 (by omega) _ _,⟨_,blk_set hi2 0 _,.inr ⟨by simp,g',cap',_,ga,rfl,blk_other hga hgne _ _,hgc⟩⟩,hib.trans KKB.out⟩
  have HR:Hid _:=hr
  clear hi0 hi1 hi2 hi20 hib ho2 hg2 hga hgc hbb hr hv e0 e1 hS1 hb0 hI0
  gi_wp2_with fail
  refine wpIn_region_inv (by kernel_rfl) (fun base listed a' w'=>∃b0 b1 b2 b3 b4 b5 b6 b7 b8 b9 b10 b11 x0 x1 x2 x3 x4 x5 x6 x7 x8 x9 x10 x11,listed=#[b0,b1,b2,b3,b4,b5,b6,b7,b8,b9,b10,b11]∧a'=((((((((((((base.put (some 17) x0).put (some 18) x1).put (some 19) x2).put (some 20) x3).put (some 21) x4).put (some 22) x5).put (some 23) x6).put (some 24) x7).put (some 25) x8).put (some 26) x9).put (some 27) x10).put (some 6) x11)∧Tr4 W gm gf bp op capP w' b0 b1 b2 b3 b4 b5 b6 b7 b8 b9 b10 b11 x0 x1 x2 x3 x4 x5 x6 x7 x8 x9 x10 x11) ?_ ?_ ?_
  ·exact⟨false,false,false,false,false,false,false,false,false,false,false,false,undef,undef,undef,undef,undef,undef,undef,undef,undef,undef,undef,undef,rfl,by kernel_rfl,⟨rfl,nofun,nofun,nofun,nofun,nofun,nofun,nofun,nofun,nofun,nofun,nofun,nofun⟩⟩
  ·rintro i listed a' w' ⟨b0,b1,b2,b3,b4,b5,b6,b7,b8,b9,b10,b11,x0,x1,x2,x3,x4,x5,x6,x7,x8,x9,x10,x11,rfl,rfl,hI⟩ hr
   have hi:=ready_lt hr
   have hun:=(mem_ready.1 hr).1
   simp only[List.size_toArray,List.length_cons,List.length_nil,Nat.zero_add,Nat.reduceAdd]at hi
   have hi':i=0∨i=1∨i=2∨i=3∨i=4∨i=5∨i=6∨i=7∨i=8∨i=9∨i=10∨i=11:=by omega
   clear hi
   rcases hi' with rfl | rfl | rfl | rfl | rfl | rfl | rfl | rfl | rfl | rfl | rfl | rfl
   ·have hbi:b0=false:=by simpa using hun
    subst hbi 
    clear hr hun
    have hw:=hI.P
    subst hw
    refine wpOpIn_step rfl (by intro c hc;cases hc) (fun K hK=>?_)
    go_simp
    exact hK _ _ ⟨true,b1,b2,b3,b4,b5,b6,b7,b8,b9,b10,b11,(.pointer (some ⟨gm,0,none⟩)),x1,x2,x3,x4,x5,x6,x7,x8,x9,x10,x11,rfl,by kernel_rfl,{ hI with f0:=fun _=>rfl }⟩
   ·have hbi:b1=false:=by simpa using hun
    have e0:b0=true:=by simpa using ready_dep hr rfl ⟨0,.data⟩ (by simp) rfl
    subst hbi e0
    clear hr hun
    obtain rfl:=hI.f0 rfl
    have hw:=hI.P
    subst hw
    refine wpOpIn_step rfl (by intro c hc;cases hc) (fun K hK=>?_)
    go_simp
    exact hK _ _ ⟨true,true,b2,b3,b4,b5,b6,b7,b8,b9,b10,b11,(.pointer (some ⟨gm,0,none⟩)),(.pointer (some ⟨gm,0,none⟩)),x2,x3,x4,x5,x6,x7,x8,x9,x10,x11,rfl,by kernel_rfl,{ hI with f1:=fun _=>rfl }⟩
   ·have hbi:b2=false:=by simpa using hun
    have e1:b1=true:=by simpa using ready_dep hr rfl ⟨1,.data⟩ (by simp) rfl
    subst hbi e1
    clear hr hun
    obtain rfl:=hI.f1 rfl
    have hw:=hI.P
    subst hw
    refine wpOpIn_step rfl (by intro c hc;cases hc) (fun K hK=>?_)
    go_simp
    exact hK _ _ ⟨b0,true,true,b3,b4,b5,b6,b7,b8,b9,b10,b11,x0,(.pointer (some ⟨gm,0,none⟩)),(.pointer (some ⟨gm,0,none⟩)),x3,x4,x5,x6,x7,x8,x9,x10,x11,rfl,by kernel_rfl,{ hI with f2:=fun _=>rfl }⟩
   ·have hbi:b3=false:=by simpa using hun
    have e2:b2=true:=by simpa using ready_dep hr rfl ⟨2,.data⟩ (by simp) rfl
    subst hbi e2
    clear hr hun
    obtain rfl:=hI.f2 rfl
    have hw:=hI.P
    subst hw
    refine wpOpIn_step rfl (by intro c hc;cases hc) (fun K hK=>?_)
    go_simp
    exact hK _ _ ⟨b0,b1,true,true,b4,b5,b6,b7,b8,b9,b10,b11,x0,x1,(.pointer (some ⟨gm,0,none⟩)),(.slice (some ⟨bp,op,none⟩) 1 capP),x4,x5,x6,x7,x8,x9,x10,x11,rfl,by kernel_rfl,{ hI with f3:=fun _=>rfl }⟩
   ·have hbi:b4=false:=by simpa using hun
    subst hbi 
    clear hr hun
    have hw:=hI.P
    subst hw
    refine wpOpIn_step rfl (by intro c hc;cases hc) (fun K hK=>?_)
    go_simp
    exact hK _ _ ⟨b0,b1,b2,b3,true,b5,b6,b7,b8,b9,b10,b11,x0,x1,x2,x3,(.pointer (some ⟨gf,0,none⟩)),x5,x6,x7,x8,x9,x10,x11,rfl,by kernel_rfl,{ hI with f4:=fun _=>rfl }⟩
   ·have hbi:b5=false:=by simpa using hun
    have e4:b4=true:=by simpa using ready_dep hr rfl ⟨4,.data⟩ (by simp) rfl
    subst hbi e4
    clear hr hun
    obtain rfl:=hI.f4 rfl
    have hw:=hI.P
    subst hw
    refine wpOpIn_step rfl (by intro c hc;cases hc) (fun K hK=>?_)
    go_simp
    exact hK _ _ ⟨b0,b1,b2,b3,true,true,b6,b7,b8,b9,b10,b11,x0,x1,x2,x3,(.pointer (some ⟨gf,0,none⟩)),(.pointer (some ⟨gf,0,none⟩)),x6,x7,x8,x9,x10,x11,rfl,by kernel_rfl,{ hI with f5:=fun _=>rfl }⟩
   ·have hbi:b6=false:=by simpa using hun
    have e5:b5=true:=by simpa using ready_dep hr rfl ⟨5,.data⟩ (by simp) rfl
    subst hbi e5
    clear hr hun
    obtain rfl:=hI.f5 rfl
    have hw:=hI.P
    subst hw
    refine wpOpIn_step rfl (by intro c hc;cases hc) (fun K hK=>?_)
    go_simp
    exact hK _ _ ⟨b0,b1,b2,b3,b4,true,true,b7,b8,b9,b10,b11,x0,x1,x2,x3,x4,(.pointer (some ⟨gf,0,none⟩)),(.pointer (some ⟨gf,5,none⟩)),x7,x8,x9,x10,x11,rfl,by kernel_rfl,{ hI with f6:=fun _=>rfl }⟩
   ·have hbi:b7=false:=by simpa using hun
    have e6:b6=true:=by simpa using ready_dep hr rfl ⟨6,.data⟩ (by simp) rfl
    subst hbi e6
    clear hr hun
    obtain rfl:=hI.f6 rfl
    have hw:=hI.P
    subst hw
    refine wpOpIn_step rfl (by intro c hc;cases hc) (fun K hK=>?_)
    go_simp
    exact hK _ _ ⟨b0,b1,b2,b3,b4,b5,true,true,b8,b9,b10,b11,x0,x1,x2,x3,x4,x5,(.pointer (some ⟨gf,5,none⟩)),(.int .i64 0),x8,x9,x10,x11,rfl,by kernel_rfl,{ hI with f7:=fun _=>rfl }⟩
   ·have hbi:b8=false:=by simpa using hun
    have e3:b3=true:=by simpa using ready_dep hr rfl ⟨3,.data⟩ (by simp) rfl
    have e7:b7=true:=by simpa using ready_dep hr rfl ⟨7,.data⟩ (by simp) rfl
    subst hbi e3 e7
    clear hr hun
    obtain rfl:=hI.f3 rfl
    obtain rfl:=hI.f7 rfl
    have hw:=hI.P
    subst hw
    refine wpOpIn_step rfl (by intro c hc;cases hc) (fun K hK=>?_)
    go_simp
    exact hK _ _ ⟨b0,b1,b2,true,b4,b5,b6,true,true,b9,b10,b11,x0,x1,x2,(.slice (some ⟨bp,op,none⟩) 1 capP),x4,x5,x6,(.int .i64 0),(.pointer (some ⟨bp,op,none⟩)),x9,x10,x11,rfl,by kernel_rfl,{ hI with f8:=fun _=>rfl }⟩
   ·have hbi:b9=false:=by simpa using hun
    have e8:b8=true:=by simpa using ready_dep hr rfl ⟨8,.data⟩ (by simp) rfl
    subst hbi e8
    clear hr hun
    obtain rfl:=hI.f8 rfl
    have hw:=hI.P
    subst hw
    refine wpOpIn_step rfl (by intro c hc;cases hc) (fun K hK=>?_)
    go_simp
    exact hK _ _ ⟨b0,b1,b2,b3,b4,b5,b6,b7,true,true,b10,b11,x0,x1,x2,x3,x4,x5,x6,x7,(.pointer (some ⟨bp,op,none⟩)),(.pointer (some ⟨bp,op,none⟩)),x10,x11,rfl,by kernel_rfl,{ hI with f9:=fun _=>rfl }⟩
   ·have hbi:b10=false:=by simpa using hun
    have e9:b9=true:=by simpa using ready_dep hr rfl ⟨9,.data⟩ (by simp) rfl
    subst hbi e9
    clear hr hun
    obtain rfl:=hI.f9 rfl
    have hw:=hI.P
    subst hw
    refine wpOpIn_step rfl (by intro c hc;cases hc) (fun K hK=>?_)
    go_simp
    exact hK _ _ ⟨b0,b1,b2,b3,b4,b5,b6,b7,b8,true,true,b11,x0,x1,x2,x3,x4,x5,x6,x7,x8,(.pointer (some ⟨bp,op,none⟩)),(.string ⟨#[109,97,105,110]⟩),x11,rfl,by kernel_rfl,{ hI with f10:=fun _=>rfl }⟩
   ·have hbi:b11=false:=by simpa using hun
    have e10:b10=true:=by simpa using ready_dep hr rfl ⟨10,.data⟩ (by simp) rfl
    subst hbi e10
    clear hr hun
    obtain rfl:=hI.f10 rfl
    have hw:=hI.P
    subst hw
    refine wpOpIn_step rfl (by intro c hc;cases hc) (fun K hK=>?_)
    go_simp
    exact hK _ _ ⟨b0,b1,b2,b3,b4,b5,b6,b7,b8,b9,true,true,x0,x1,x2,x3,x4,x5,x6,x7,x8,x9,(.string ⟨#[109,97,105,110]⟩),(.string ⟨#[109,97,105,110]⟩),rfl,by kernel_rfl,{ hI with f11:=fun _=>rfl }⟩
  ·rintro listed a' w' ⟨b0,b1,b2,b3,b4,b5,b6,b7,b8,b9,b10,b11,x0,x1,x2,x3,x4,x5,x6,x7,x8,x9,x10,x11,rfl,rfl,hI⟩ hrd
   have e0:b0=true:=by simpa using ready_nextb hrd 0 rfl (by simp[Region.binds])
   have e1:b1=true:=by simpa using ready_nextb hrd 1 rfl (by simp[Region.binds,e0])
   have e2:b2=true:=by simpa using ready_nextb hrd 2 rfl (by simp[Region.binds,e0,e1])
   have e3:b3=true:=by simpa using ready_nextb hrd 3 rfl (by simp[Region.binds,e0,e1,e2])
   have e4:b4=true:=by simpa using ready_nextb hrd 4 rfl (by simp[Region.binds,e0,e1,e2,e3])
   have e5:b5=true:=by simpa using ready_nextb hrd 5 rfl (by simp[Region.binds,e0,e1,e2,e3,e4])
   have e6:b6=true:=by simpa using ready_nextb hrd 6 rfl (by simp[Region.binds,e0,e1,e2,e3,e4,e5])
   have e7:b7=true:=by simpa using ready_nextb hrd 7 rfl (by simp[Region.binds,e0,e1,e2,e3,e4,e5,e6])
   have e8:b8=true:=by simpa using ready_nextb hrd 8 rfl (by simp[Region.binds,e0,e1,e2,e3,e4,e5,e6,e7])
   have e9:b9=true:=by simpa using ready_nextb hrd 9 rfl (by simp[Region.binds,e0,e1,e2,e3,e4,e5,e6,e7,e8])
   have e10:b10=true:=by simpa using ready_nextb hrd 10 rfl (by simp[Region.binds,e0,e1,e2,e3,e4,e5,e6,e7,e8,e9])
   have e11:b11=true:=by simpa using ready_nextb hrd 11 rfl (by simp[Region.binds,e0,e1,e2,e3,e4,e5,e6,e7,e8,e9,e10])
   subst e0 e1 e2 e3 e4 e5 e6 e7 e8 e9 e10 e11
   clear hrd
   obtain rfl:=hI.f0 rfl
   obtain rfl:=hI.f1 rfl
   obtain rfl:=hI.f2 rfl
   obtain rfl:=hI.f3 rfl
   obtain rfl:=hI.f4 rfl
   obtain rfl:=hI.f5 rfl
   obtain rfl:=hI.f6 rfl
   obtain rfl:=hI.f7 rfl
   obtain rfl:=hI.f8 rfl
   obtain rfl:=hI.f9 rfl
   obtain rfl:=hI.f10 rfl
   obtain rfl:=hI.f11 rfl
   have hw:=hI.P
   subst hw
   clear hI
   gi_wp2_with fail
   refine wpIn_region_inv (by kernel_rfl) (fun base listed a' w'=>∃b0 b1 b2 b3 b4 b5 b6 b7 b8 b9 b10 b11 x0 x1 x2 x3 x4 x5 x6 x7 x8 x9 x10,listed=#[b0,b1,b2,b3,b4,b5,b6,b7,b8,b9,b10,b11]∧a'=(((((((((((base.put (some 30) x0).put (some 31) x1).put (some 32) x2).put (some 33) x3).put (some 34) x4).put (some 35) x5).put (some 36) x6).put (some 37) x7).put (some 38) x8).put (some 39) x9).put (some 40) x10)∧Tr7 (W.drew.drew) w2 w.heap.size gf g' cap' w' b0 b1 b2 b3 b4 b5 b6 b7 b8 b9 b10 b11 x0 x1 x2 x3 x4 x5 x6 x7 x8 x9 x10) ?_ ?_ ?_
   ·exact⟨false,false,false,false,false,false,false,false,false,false,false,false,undef,undef,undef,undef,undef,undef,undef,undef,undef,undef,undef,rfl,by kernel_rfl,⟨q0,q1,q6,q2,z2,HR.out,nofun,nofun,nofun,nofun,nofun,nofun,nofun,nofun,nofun,fun _=>rfl,nofun,nofun,nofun,nofun,nofun,nofun,nofun,nofun,nofun,nofun,nofun,nofun,nofun,nofun⟩⟩
   ·rintro i listed a' w' ⟨b0,b1,b2,b3,b4,b5,b6,b7,b8,b9,b10,b11,x0,x1,x2,x3,x4,x5,x6,x7,x8,x9,x10,rfl,rfl,hI⟩ hr
    have hi:=ready_lt hr
    have hun:=(mem_ready.1 hr).1
    simp only[List.size_toArray,List.length_cons,List.length_nil,Nat.zero_add,Nat.reduceAdd]at hi
    have hi':i=0∨i=1∨i=2∨i=3∨i=4∨i=5∨i=6∨i=7∨i=8∨i=9∨i=10∨i=11:=by omega
    clear hi
    rcases hi' with rfl | rfl | rfl | rfl | rfl | rfl | rfl | rfl | rfl | rfl | rfl | rfl
    ·have hbi:b0=false:=by simpa using hun
     have n10:b10=false:=by
      cases hg:b10 with
      | false=>rfl
      | true=>have h9:=(hI.m10 hg).2;rw[hbi]at h9;cases h9
     have n11:b11=false:=by
      cases hg:b11 with
      | false=>rfl
      | true=>have h9:=(hI.m10 (hI.m11 hg)).2;rw[hbi]at h9;cases h9
     subst hbi n10 n11
     clear hr hun
     have hc:w'.cell? ⟨w.heap.size+1,0,none⟩=some (.slice none 0 0):=by
      rcases Bool.eq_false_or_eq_true b9 with hb9 | hb9
      ·rw[hI.P1 hb9 rfl];exact hI.c1
      ·rw[hI.P0 hb9];exact hI.c0
     refine wpOpIn_step rfl (by intro c hc;cases hc) (fun K hK=>?_)
     go_simp
     exact hK _ _ ⟨true,b1,b2,b3,b4,b5,b6,b7,b8,b9,false,false,(.slice none 0 0),x1,x2,x3,x4,x5,x6,x7,x8,x9,x10,rfl,by kernel_rfl,{ hI with m10:=nofun,m11:=nofun,P2:=nofun,P3:=nofun,f0:=fun _=>rfl,f10:=nofun }⟩
    ·have hbi:b1=false:=by simpa using hun
     have n9:b9=false:=by
      cases hg:b9 with
      | false=>rfl
      | true=>have h9:=(hI.m9 hg).1;rw[hbi]at h9;cases h9
     have n10:b10=false:=by
      cases hg:b10 with
      | false=>rfl
      | true=>have h9:=(hI.m9 (hI.m10 hg).1).1;rw[hbi]at h9;cases h9
     have n11:b11=false:=by
      cases hg:b11 with
      | false=>rfl
      | true=>have h9:=(hI.m9 (hI.m10 (hI.m11 hg)).1).1;rw[hbi]at h9;cases h9
     subst hbi n9 n10 n11
     clear hr hun
     have hw:=hI.P0 rfl
     subst hw
     refine wpOpIn_step rfl (by intro c hc;cases hc) (fun K hK=>?_)
     go_simp
     exact hK _ _ ⟨b0,true,b2,b3,b4,b5,b6,b7,b8,false,false,false,x0,(.string ⟨#[109,97,105,110]⟩),x2,x3,x4,x5,x6,x7,x8,x9,x10,rfl,by kernel_rfl,{ hI with m9:=nofun,m10:=nofun,m11:=nofun,P0:=fun _=>rfl,P1:=nofun,P2:=nofun,P3:=nofun,a2:=fun _=>rfl,f1:=fun _=>rfl,f9:=nofun,f10:=nofun }⟩
    ·have hbi:b2=false:=by simpa using hun
     have e1:b1=true:=by simpa using ready_dep hr rfl ⟨1,.data⟩ (by simp) rfl
     have n9:b9=false:=by
      cases hg:b9 with
      | false=>rfl
      | true=>have h9:=(hI.m9 hg).2.1;rw[hbi]at h9;cases h9
     have n10:b10=false:=by
      cases hg:b10 with
      | false=>rfl
      | true=>have h9:=(hI.m9 (hI.m10 hg).1).2.1;rw[hbi]at h9;cases h9
     have n11:b11=false:=by
      cases hg:b11 with
      | false=>rfl
      | true=>have h9:=(hI.m9 (hI.m10 (hI.m11 hg)).1).2.1;rw[hbi]at h9;cases h9
     subst hbi e1 n9 n10 n11
     clear hr hun
     obtain rfl:=hI.f1 rfl
     have hw:=hI.P0 rfl
     subst hw
     refine wpOpIn_step rfl (by intro c hc;cases hc) (fun K hK=>?_)
     go_simp
     exact hK _ _ ⟨b0,true,true,b3,b4,b5,b6,b7,b8,false,false,false,x0,(.string ⟨#[109,97,105,110]⟩),(.string (⟨#[109,97,105,110]⟩++⟨#[58]⟩)),x3,x4,x5,x6,x7,x8,x9,x10,rfl,by kernel_rfl,{ hI with m9:=nofun,m10:=nofun,m11:=nofun,P0:=fun _=>rfl,P1:=nofun,P2:=nofun,P3:=nofun,a2:=fun _=>rfl,a8:=fun h=>⟨rfl,(hI.a8 h).2⟩,f2:=fun _=>rfl,f9:=nofun,f10:=nofun }⟩
    ·have hbi:b3=false:=by simpa using hun
     have n9:b9=false:=by
      cases hg:b9 with
      | false=>rfl
      | true=>have h9:=(hI.m9 hg).2.2.1;rw[hbi]at h9;cases h9
     have n10:b10=false:=by
      cases hg:b10 with
      | false=>rfl
      | true=>have h9:=(hI.m9 (hI.m10 hg).1).2.2.1;rw[hbi]at h9;cases h9
     have n11:b11=false:=by
      cases hg:b11 with
      | false=>rfl
      | true=>have h9:=(hI.m9 (hI.m10 (hI.m11 hg)).1).2.2.1;rw[hbi]at h9;cases h9
     subst hbi n9 n10 n11
     clear hr hun
     have hw:=hI.P0 rfl
     subst hw
     refine wpOpIn_step rfl (by intro c hc;cases hc) (fun K hK=>?_)
     go_simp
     exact hK _ _ ⟨b0,b1,b2,true,b4,b5,b6,b7,b8,false,false,false,x0,x1,x2,(.pointer (some ⟨gf,0,none⟩)),x4,x5,x6,x7,x8,x9,x10,rfl,by kernel_rfl,{ hI with m9:=nofun,m10:=nofun,m11:=nofun,P0:=fun _=>rfl,P1:=nofun,P2:=nofun,P3:=nofun,a4:=fun _=>rfl,f3:=fun _=>rfl,f9:=nofun,f10:=nofun }⟩
    ·have hbi:b4=false:=by simpa using hun
     have e3:b3=true:=by simpa using ready_dep hr rfl ⟨3,.data⟩ (by simp) rfl
     have n9:b9=false:=by
      cases hg:b9 with
      | false=>rfl
      | true=>have h9:=(hI.m9 hg).2.2.2.1;rw[hbi]at h9;cases h9
     have n10:b10=false:=by
      cases hg:b10 with
      | false=>rfl
      | true=>have h9:=(hI.m9 (hI.m10 hg).1).2.2.2.1;rw[hbi]at h9;cases h9
     have n11:b11=false:=by
      cases hg:b11 with
      | false=>rfl
      | true=>have h9:=(hI.m9 (hI.m10 (hI.m11 hg)).1).2.2.2.1;rw[hbi]at h9;cases h9
     subst hbi e3 n9 n10 n11
     clear hr hun
     obtain rfl:=hI.f3 rfl
     have hw:=hI.P0 rfl
     subst hw
     refine wpOpIn_step rfl (by intro c hc;cases hc) (fun K hK=>?_)
     go_simp
     exact hK _ _ ⟨b0,b1,b2,true,true,b5,b6,b7,b8,false,false,false,x0,x1,x2,(.pointer (some ⟨gf,0,none⟩)),(.pointer (some ⟨gf,0,none⟩)),x5,x6,x7,x8,x9,x10,rfl,by kernel_rfl,{ hI with m9:=nofun,m10:=nofun,m11:=nofun,P0:=fun _=>rfl,P1:=nofun,P2:=nofun,P3:=nofun,a4:=fun _=>rfl,a5:=fun _=>rfl,f4:=fun _=>rfl,f9:=nofun,f10:=nofun }⟩
    ·have hbi:b5=false:=by simpa using hun
     have e4:b4=true:=by simpa using ready_dep hr rfl ⟨4,.data⟩ (by simp) rfl
     have n9:b9=false:=by
      cases hg:b9 with
      | false=>rfl
      | true=>have h9:=(hI.m9 hg).2.2.2.2.1;rw[hbi]at h9;cases h9
     have n10:b10=false:=by
      cases hg:b10 with
      | false=>rfl
      | true=>have h9:=(hI.m9 (hI.m10 hg).1).2.2.2.2.1;rw[hbi]at h9;cases h9
     have n11:b11=false:=by
      cases hg:b11 with
      | false=>rfl
      | true=>have h9:=(hI.m9 (hI.m10 (hI.m11 hg)).1).2.2.2.2.1;rw[hbi]at h9;cases h9
     subst hbi e4 n9 n10 n11
     clear hr hun
     obtain rfl:=hI.f4 rfl
     have hw:=hI.P0 rfl
     subst hw
     refine wpOpIn_step rfl (by intro c hc;cases hc) (fun K hK=>?_)
     go_simp
     exact hK _ _ ⟨b0,b1,b2,b3,true,true,b6,b7,b8,false,false,false,x0,x1,x2,x3,(.pointer (some ⟨gf,0,none⟩)),(.pointer (some ⟨gf,11,none⟩)),x6,x7,x8,x9,x10,rfl,by kernel_rfl,{ hI with m9:=nofun,m10:=nofun,m11:=nofun,P0:=fun _=>rfl,P1:=nofun,P2:=nofun,P3:=nofun,a5:=fun _=>rfl,a6:=fun _=>rfl,f5:=fun _=>rfl,f9:=nofun,f10:=nofun }⟩
    ·have hbi:b6=false:=by simpa using hun
     have e5:b5=true:=by simpa using ready_dep hr rfl ⟨5,.data⟩ (by simp) rfl
     have n9:b9=false:=by
      cases hg:b9 with
      | false=>rfl
      | true=>have h9:=(hI.m9 hg).2.2.2.2.2.1;rw[hbi]at h9;cases h9
     have n10:b10=false:=by
      cases hg:b10 with
      | false=>rfl
      | true=>have h9:=(hI.m9 (hI.m10 hg).1).2.2.2.2.2.1;rw[hbi]at h9;cases h9
     have n11:b11=false:=by
      cases hg:b11 with
      | false=>rfl
      | true=>have h9:=(hI.m9 (hI.m10 (hI.m11 hg)).1).2.2.2.2.2.1;rw[hbi]at h9;cases h9
     subst hbi e5 n9 n10 n11
     clear hr hun
     obtain rfl:=hI.f5 rfl
     have hw:=hI.P0 rfl
     subst hw
     have hc:=hI.c6
     refine wpOpIn_step rfl (by intro c hc;cases hc) (fun K hK=>?_)
     go_simp
     exact hK _ _ ⟨b0,b1,b2,b3,b4,true,true,b7,b8,false,false,false,x0,x1,x2,x3,x4,(.pointer (some ⟨gf,11,none⟩)),(.int .i64 0),x7,x8,x9,x10,rfl,by kernel_rfl,{ hI with m9:=nofun,m10:=nofun,m11:=nofun,P0:=fun _=>rfl,P1:=nofun,P2:=nofun,P3:=nofun,a6:=fun _=>rfl,a7:=fun _=>rfl,f6:=fun _=>rfl,f9:=nofun,f10:=nofun }⟩
    ·have hbi:b7=false:=by simpa using hun
     have e6:b6=true:=by simpa using ready_dep hr rfl ⟨6,.data⟩ (by simp) rfl
     have n9:b9=false:=by
      cases hg:b9 with
      | false=>rfl
      | true=>have h9:=(hI.m9 hg).2.2.2.2.2.2.1;rw[hbi]at h9;cases h9
     have n10:b10=false:=by
      cases hg:b10 with
      | false=>rfl
      | true=>have h9:=(hI.m9 (hI.m10 hg).1).2.2.2.2.2.2.1;rw[hbi]at h9;cases h9
     have n11:b11=false:=by
      cases hg:b11 with
      | false=>rfl
      | true=>have h9:=(hI.m9 (hI.m10 (hI.m11 hg)).1).2.2.2.2.2.2.1;rw[hbi]at h9;cases h9
     subst hbi e6 n9 n10 n11
     clear hr hun
     obtain rfl:=hI.f6 rfl
     have hw:=hI.P0 rfl
     subst hw
     refine wpOpIn_step rfl (by intro c hc;cases hc) (fun K hK=>?_)
     go_simp
     refine (itoa0 _).mono ?_
     rintro e w9 ⟨rfl,rfl⟩
     exact hK _ _ ⟨b0,b1,b2,b3,b4,b5,true,true,b8,false,false,false,x0,x1,x2,x3,x4,x5,(.int .i64 0),(.string ⟨#[48]⟩),x8,x9,x10,rfl,by kernel_rfl,{ hI with m9:=nofun,m10:=nofun,m11:=nofun,P0:=fun _=>rfl,P1:=nofun,P2:=nofun,P3:=nofun,a7:=fun _=>rfl,a8:=fun h=>⟨(hI.a8 h).1,rfl⟩,f7:=fun _=>rfl,f9:=nofun,f10:=nofun }⟩
    ·have hbi:b8=false:=by simpa using hun
     have e2:b2=true:=by simpa using ready_dep hr rfl ⟨2,.data⟩ (by simp) rfl
     have e7:b7=true:=by simpa using ready_dep hr rfl ⟨7,.data⟩ (by simp) rfl
     have n9:b9=false:=by
      cases hg:b9 with
      | false=>rfl
      | true=>have h9:=(hI.m9 hg).2.2.2.2.2.2.2;rw[hbi]at h9;cases h9
     have n10:b10=false:=by
      cases hg:b10 with
      | false=>rfl
      | true=>have h9:=(hI.m9 (hI.m10 hg).1).2.2.2.2.2.2.2;rw[hbi]at h9;cases h9
     have n11:b11=false:=by
      cases hg:b11 with
      | false=>rfl
      | true=>have h9:=(hI.m9 (hI.m10 (hI.m11 hg)).1).2.2.2.2.2.2.2;rw[hbi]at h9;cases h9
     subst hbi e2 e7 n9 n10 n11
     clear hr hun
     obtain rfl:=hI.f2 rfl
     obtain rfl:=hI.f7 rfl
     have hw:=hI.P0 rfl
     subst hw
     refine wpOpIn_step rfl (by intro c hc;cases hc) (fun K hK=>?_)
     go_simp
     exact hK _ _ ⟨b0,b1,true,b3,b4,b5,b6,true,true,false,false,false,x0,x1,(.string (⟨#[109,97,105,110]⟩++⟨#[58]⟩)),x3,x4,x5,x6,(.string ⟨#[48]⟩),(.string (⟨#[109,97,105,110]⟩++⟨#[58]⟩++⟨#[48]⟩)),x9,x10,rfl,by kernel_rfl,{ hI with m9:=nofun,m10:=nofun,m11:=nofun,P0:=fun _=>rfl,P1:=nofun,P2:=nofun,P3:=nofun,a8:=fun _=>⟨rfl,rfl⟩,f8:=fun _=>rfl,f9:=nofun,f10:=nofun }⟩
    ·have hbi:b9=false:=by simpa using hun
     have e8:b8=true:=by simpa using ready_dep hr rfl ⟨8,.data⟩ (by simp) rfl
     have n10:b10=false:=by
      cases hg:b10 with
      | false=>rfl
      | true=>have h9:=(hI.m10 hg).1;rw[hbi]at h9;cases h9
     have n11:b11=false:=by
      cases hg:b11 with
      | false=>rfl
      | true=>have h9:=(hI.m10 (hI.m11 hg)).1;rw[hbi]at h9;cases h9
     subst hbi e8 n10 n11
     clear hr hun
     obtain rfl:=hI.f8 rfl
     have hw:=hI.P0 rfl
     subst hw
     have h8:=hI.a8 rfl
     have hall:b1=true∧b2=true∧b3=true∧b4=true∧b5=true∧b6=true∧b7=true∧true=true:=⟨hI.a2 h8.1,h8.1,hI.a4 (hI.a5 (hI.a6 (hI.a7 h8.2))),hI.a5 (hI.a6 (hI.a7 h8.2)),hI.a6 (hI.a7 h8.2),hI.a7 h8.2,h8.2,rfl⟩
     refine wpOpIn_step rfl (by intro c hc;cases hc) (fun K hK=>?_)
     go_simp
     exact hK _ _ ⟨b0,b1,b2,b3,b4,b5,b6,b7,true,true,false,false,x0,x1,x2,x3,x4,x5,x6,x7,(.string (⟨#[109,97,105,110]⟩++⟨#[58]⟩++⟨#[48]⟩)),(.slice (some ⟨W.drew.drew.heap.size,0,none⟩) 1 1),x10,rfl,by kernel_rfl,{ hI with m9:=fun _=>hall,m10:=nofun,m11:=nofun,P0:=nofun,P1:=fun _ _=>rfl,P2:=nofun,P3:=nofun,f9:=fun _=>rfl,f10:=nofun }⟩
    ·have hbi:b10=false:=by simpa using hun
     have e0:b0=true:=by simpa using ready_dep hr rfl ⟨0,.data⟩ (by simp) rfl
     have e9:b9=true:=by simpa using ready_dep hr rfl ⟨9,.data⟩ (by simp) rfl
     have n11:b11=false:=by
      cases hg:b11 with
      | false=>rfl
      | true=>have h9:=hI.m11 hg;rw[hbi]at h9;cases h9
     subst hbi e0 e9 n11
     clear hr hun
     obtain rfl:=hI.f0 rfl
     obtain rfl:=hI.f9 rfl
     have hw:=hI.P1 rfl rfl
     subst hw
     refine wpOpIn_step rfl (by intro c hc;cases hc) (fun K hK=>?_)
     refine step_append_run rfl (.tmp 30) (.tmp 39) 32 rfl (.slice none 0 0) (.slice (some ⟨W.drew.drew.heap.size,0,none⟩) 1 1) (.slice (some ⟨g',0,none⟩) 1 cap') w2 (by kernel_rfl) (by kernel_rfl) hI.run ?_
     exact hK _ _ ⟨true,b1,b2,b3,b4,b5,b6,b7,b8,true,true,false,(.slice none 0 0),x1,x2,x3,x4,x5,x6,x7,x8,(.slice (some ⟨W.drew.drew.heap.size,0,none⟩) 1 1),(.slice (some ⟨g',0,none⟩) 1 cap'),rfl,by kernel_rfl,{ hI with m10:=fun _=>⟨rfl,rfl⟩,m11:=nofun,P0:=nofun,P1:=nofun,P2:=fun _ _=>rfl,P3:=nofun,f10:=fun _=>rfl }⟩
    ·have hbi:b11=false:=by simpa using hun
     have e10:b10=true:=by simpa using ready_dep hr rfl ⟨10,.data⟩ (by simp) rfl
     subst hbi e10
     clear hr hun
     obtain rfl:=hI.f10 rfl
     have hw:=hI.P2 rfl rfl
     subst hw
     have hc:=hI.c2
     have hz:=hI.z2
     refine wpOpIn_step rfl (by intro c hc;cases hc) (fun K hK=>?_)
     go_simp
     exact hK _ _ ⟨b0,b1,b2,b3,b4,b5,b6,b7,b8,b9,true,true,x0,x1,x2,x3,x4,x5,x6,x7,x8,x9,(.slice (some ⟨g',0,none⟩) 1 cap'),rfl,by kernel_rfl,{ hI with m11:=fun _=>rfl,P0:=(fun h=>by have h9:=(hI.m10 rfl).1;rw[h]at h9;cases h9),P1:=(fun _ h=>by cases h),P2:=nofun,P3:=fun _=>rfl }⟩
   ·rintro listed a' w' ⟨b0,b1,b2,b3,b4,b5,b6,b7,b8,b9,b10,b11,x0,x1,x2,x3,x4,x5,x6,x7,x8,x9,x10,rfl,rfl,hI⟩ hrd
    have e0:b0=true:=by simpa using ready_nextb hrd 0 rfl (by simp[Region.binds])
    have e1:b1=true:=by simpa using ready_nextb hrd 1 rfl (by simp[Region.binds,e0])
    have e2:b2=true:=by simpa using ready_nextb hrd 2 rfl (by simp[Region.binds,e0,e1])
    have e3:b3=true:=by simpa using ready_nextb hrd 3 rfl (by simp[Region.binds,e0,e1,e2])
    have e4:b4=true:=by simpa using ready_nextb hrd 4 rfl (by simp[Region.binds,e0,e1,e2,e3])
    have e5:b5=true:=by simpa using ready_nextb hrd 5 rfl (by simp[Region.binds,e0,e1,e2,e3,e4])
    have e6:b6=true:=by simpa using ready_nextb hrd 6 rfl (by simp[Region.binds,e0,e1,e2,e3,e4,e5])
    have e7:b7=true:=by simpa using ready_nextb hrd 7 rfl (by simp[Region.binds,e0,e1,e2,e3,e4,e5,e6])
    have e8:b8=true:=by simpa using ready_nextb hrd 8 rfl (by simp[Region.binds,e0,e1,e2,e3,e4,e5,e6,e7])
    have e9:b9=true:=by simpa using ready_nextb hrd 9 rfl (by simp[Region.binds,e0,e1,e2,e3,e4,e5,e6,e7,e8])
    have e10:b10=true:=by simpa using ready_nextb hrd 10 rfl (by simp[Region.binds,e0,e1,e2,e3,e4,e5,e6,e7,e8,e9])
    have e11:b11=true:=by simpa using ready_nextb hrd 11 rfl (by simp[Region.binds,e0,e1,e2,e3,e4,e5,e6,e7,e8,e9,e10])
    subst e0 e1 e2 e3 e4 e5 e6 e7 e8 e9 e10 e11
    clear hrd
    obtain rfl:=hI.f0 rfl
    obtain rfl:=hI.f1 rfl
    obtain rfl:=hI.f2 rfl
    obtain rfl:=hI.f3 rfl
    obtain rfl:=hI.f4 rfl
    obtain rfl:=hI.f5 rfl
    obtain rfl:=hI.f6 rfl
    obtain rfl:=hI.f7 rfl
    obtain rfl:=hI.f8 rfl
    obtain rfl:=hI.f9 rfl
    obtain rfl:=hI.f10 rfl
    have hw:=hI.P3 rfl
    subst hw
    clear hI
    gi_wp2_with fail
    exact⟨KKO,KKB,KKI⟩
 case done =>
  rintro D xs W hD rfl hI hK
  obtain⟨hi0,⟨v,hi1,hv⟩,hib⟩:=hI
  obtain⟨ga,gcap,s,cur,rfl,hga,hs⟩:∃ga cap s cur,v=.slice (some ⟨ga,0,none⟩) 1 cap∧W.heap[ga]?=some (.cells cur 9)∧cur[0]?=some (.string s):=by rcases hv with ⟨e,_⟩ | ⟨_,e⟩;cases e;exact e
  have x1:W.cell? ⟨w.heap.size+1,0,none⟩=some (.slice (some ⟨ga,0,none⟩) 1 gcap):=by rw[blk_cell hi1];rfl
  have y0:W.cell? ⟨ga,0,none⟩=some (.string s):=by rw[blk_cell hga];exact hs
  have HKD:Hid (W.heap[D]?=some (.deferred (some []))):=hK
  have HIB:Hid (Below w.heap.size w W):=hib
  clear hi0 hi1 hga hK hib
  gi_wp2_with fail
  refine⟨trivial,(callsIn_wide.2 (join1 ga gcap s ⟨#[32]⟩ _ y0)).mono ?_⟩
  rintro e w5 ⟨rfl,rfl⟩
  gi_wp2_with fail
  refine⟨by simp,.inl ⟨_,_,rfl,run_takeDeferred HKD.out,?_⟩⟩
  exact⟨_,results_tmp rfl _ _ _,⟨_,rfl⟩,HIB.out.trans (belowK_b (w:=w) (Nat.le_refl _) _ D _ _ (by omega) HKD.out rfl rfl)⟩
 case stop =>
  rintro D c pre W _ _ h _
  exact h.elim
end Go.Proofs.YtjglgbepobmjhaaGreatDoor.T
