import Derived.Test.YtjglgbepobmjhaaGreatDoorP16
import Derived.Deep.CutRange
import Derived.Test.YtjglgbepobmjhaaGreatDoorP10
import Derived.Test.YtjglgbepobmjhaaGreatDoorP08
import Derived.Test.YtjglgbepobmjhaaGreatDoorP05
import Derived.Test.YtjglgbepobmjhaaGreatDoorP02
set_option linter.unusedVariables false
set_option linter.unusedSimpArgs false
set_option maxRecDepth 20000
set_option maxHeartbeats 8000000
namespace Go.Proofs.YtjglgbepobmjhaaGreatDoor
open Go.RowKit
theorem ready_nextb {md:Region.Mode} {ops:Array Oper} {listed:Array Bool} (hr:Region.ready md ops listed=[]) (i:Nat) {o:Oper} (ho:ops[i]?=some o) (hd:∀e∈o.after.toList,Region.binds md e=true→listed.getD e.on false=true):listed.getD i true=true:=by
 by_cases h:listed.getD i true=true
 ·exact h
 ·have:i∈Region.ready md ops listed:=mem_ready.2 ⟨by simpa using h,o,ho,fun e he hb=>hd e (Array.mem_toList_iff.2 he) hb⟩
  rw[hr]at this
  cases this
abbrev InB (t:Bool) (n:ID):Obj:=.cells (if t=true then #[.int .i64 n.op,.int .i64 n.a,.int .i64 n.b,.int .i64 n.c,.int .i64 n.d] else #[.int .i64 0,.int .i64 0,.int .i64 0,.int .i64 0,.int .i64 0]) 47
abbrev StX (t:Bool) (sT sG:Value):Obj:=.cells (if t=true then #[.bool true,sT,sG] else #[.bool false,.slice none 0 0,.slice none 0 0]) 118
theorem wpOp_off {P:Program} {ops:Array Oper} {Q:Exit→Act→World→Prop} {i j d:Nat} {o oj:Oper} {want:Bool} {v:Value} {K:Act→World→Prop} {a:Act} {w:World} (ho:ops[i]?=some o) (hg:o.guard=some (j,want)) (hoj:ops[j]?=some oj) (hd:oj.dst=some d) (ht:a.tmps[d]?=some v) (hv:v≠.bool want) (h:K (a.put o.dst undef) w):wpOp P ops Q i K a w :=
 wpOp_step ho fun K' hK=>by
  have hw:Region.wanted o (yielded ops a.tmps)=false:=by
   unfold Region.wanted yielded
   rw[hg]
   dsimp only
   rw[hoj]
   simp only[Option.bind_some,hd,ht]
   cases v<;>simp
   rename_i b
   intro e
   exact hv (by rw[e])
  rw[if_neg (by rw[hw];simp)]
  exact hK _ _ h
theorem wpOp_on {P:Program} {ops:Array Oper} {Q:Exit→Act→World→Prop} {i j d:Nat} {o oj:Oper} {want:Bool} {K:Act→World→Prop} {a:Act} {w:World} (ho:ops[i]?=some o) (hg:o.guard=some (j,want)) (hoj:ops[j]?=some oj) (hd:oj.dst=some d) (ht:a.tmps[d]?=some (.bool want)) (h:∀K':Act→World→Prop,(∀a w,K a w→K' a w)→Oper.wp P o a w K' Q):wpOp P ops Q i K a w :=
 wpOp_step ho fun K' hK=>by
  have hw:Region.wanted o (yielded ops a.tmps)=true:=by
   unfold Region.wanted yielded
   rw[hg]
   dsimp only
   rw[hoj]
   simp only[Option.bind_some,hd,ht]
   simp
  rw[if_pos hw]
  exact h K' hK
theorem in_st {w:World} {p:Nat} {x y:Array Value} (h:w.heap[p]?=some (.cells x 47)) (h':w.heap[p]?=some (.cells y 118)):False:=by
 rw[h]at h'
 injection h' with e
 injection e with _ e2
 exact absurd e2 (by decide)
structure R95 (w:World) (gW gS b off nI ci a:Nat) (n:ID) (sT sG:Value) (w':World) (b0 b1 b2 b3 b4 b5 b6 b7 b8 b9 b10 b11 b12 b13 b14 b15 b16 b17:Bool) (x0 x1 x2 x3 x4 x5 x6 x7 x8 x9 x10 x11 x12 x13 y5 y6:Value):Prop where
 hb:Below w.heap.size w w'
 h0:b0=true→x0=.pointer (some ⟨gW,0,none⟩)
 h1:b1=true→x1=.pointer (some ⟨gW,0,none⟩)
 h2:b2=true→x2=.pointer (some ⟨gW,2,none⟩)
 h3:b3=true→x3=.slice (some ⟨b,off,none⟩) nI ci
 h4:b4=true→x4=.int .i64 (a:Int)
 h5:b5=true→x5=.pointer (some ⟨b,off+a*5,none⟩)
 h6:b6=true→x6=IV n
 h7:b7=true→x7=.pointer (some ⟨gW,0,none⟩)
 h8:b8=true→x8=.pointer (some ⟨gW,0,none⟩)
 h9:b9=true→x9=.pointer (some ⟨gW,3,none⟩)
 h10:b10=true→x10=.slice (some ⟨gS,0,none⟩) nI nI
 h11:b11=true→x11=.int .i64 (a:Int)
 h12:b12=true→x12=.pointer (some ⟨gS,a*3,none⟩)
 h13:b13=true→x13=.agg #[.bool true,sT,sG]
 h14:b14=true→∃p5,y5=.pointer (some ⟨p5,0,none⟩)∧w.heap.size≤p5∧w'.heap[p5]?=some (InB b16 n)
 h15:b15=true→∃p6,y6=.pointer (some ⟨p6,0,none⟩)∧w.heap.size≤p6∧w'.heap[p6]?=some (StX b17 sT sG)
 h16:b16=true→b14=true
 h17:b17=true→b15=true
def fnA (n:Nat) (f:Nat→Value):Array Value:=((List.range n).map f).toArray
theorem fnA_size (n:Nat) (f:Nat→Value):(fnA n f).size=n:=by simp[fnA]
theorem fnA_get {n i:Nat} (f:Nat→Value) (h:i<n):(fnA n f)[i]?=some (f i):=by simp[fnA,h]
theorem fnA_set {n i:Nat} (f:Nat→Value) (v:Value):(fnA n f).setIfInBounds i v=fnA n (fun x=>if x=i then v else f x):=by
 apply Array.ext_getElem?
 intro j
 rw[Array.getElem?_setIfInBounds]
 by_cases hj:j<n
 ·rw[fnA_get _ hj,fnA_get _ hj]
  by_cases e:i=j
  ·subst e;rw[if_pos rfl,if_pos (by rw[fnA_size];exact hj),if_pos rfl]
  ·rw[if_neg e,if_neg (fun q=>e q.symm)]
 ·have hn:∀g:Nat→Value,(fnA n g)[j]?=none:=fun g=>Array.getElem?_eq_none (by rw[fnA_size];omega)
  rw[hn,hn]
  split
  ·rw[if_neg (by rw[fnA_size];omega)]
  ·rfl
def unm (n:Nat) (met:Nat→Nat):Nat:=(List.range n).countP fun x=>met x == 0
theorem countP_upd {p q:Nat→Bool} {a:Nat}:∀(l:List Nat),l.Nodup→a∈l→p a=true→q a=false→(∀x,x≠a→q x=p x)→l.countP q+1=l.countP p
 | [],_,h,_,_,_=>by cases h
 | y :: l,hn,h,hp,hq,hx=>by
  rw[List.nodup_cons]at hn
  rw[List.countP_cons,List.countP_cons]
  by_cases e:y=a
  ·subst e
   have hsame:l.countP q=l.countP p:=by
    apply List.countP_congr
    intro z hz
    rw[hx z (by rintro rfl;exact hn.1 hz)]
   rw[hsame,hp,hq];simp
  ·have ih:=countP_upd l hn.2 (by rcases List.mem_cons.1 h with h | h;exact absurd h.symm e;exact h) hp hq hx
   rw[hx y e]
   omega
theorem unm_push {n a v:Nat} {met:Nat→Nat} (ha:a<n) (h0:met a=0) (hv:v≠0):unm n (fun x=>if x=a then v else met x)+1=unm n met:=by
 unfold unm
 refine countP_upd (a:=a) _ List.nodup_range (by simpa using ha) (by simp[h0]) (by simp[hv]) (fun x hx=>by simp[hx])
theorem unm_mono {n:Nat} {met met':Nat→Nat} (h:∀x,met x≠0→met' x≠0):unm n met'≤unm n met:=by
 unfold unm
 apply List.countP_mono_left
 intro x _ hx
 simp only[beq_iff_eq]at hx ⊢
 exact Classical.byContradiction fun q=>h x q hx
def lsI:Option Nat→Int
 | none=>-1
 | some l=>l
structure RnV (W0:World) (S:List Nat) (B gR gm gl gf nI:Nat) (iv:Value) (w:World) (ov:Value) (s:TJ.S):Prop where
 base:B≤W0.heap.size
 blk:w.heap[gR]?=some (.cells #[iv,.slice (some ⟨gm,0,none⟩) nI nI,.slice (some ⟨gl,0,none⟩) nI nI,ov,.slice (some ⟨gf,0,none⟩) nI nI,.int .i64 s.count,.int .i64 (lsI s.least)] 186)
 met:w.heap[gm]?=some (.cells (fnA nI fun i=>.int .i64 (s.met i)) 3)
 low:w.heap[gl]?=some (.cells (fnA nI fun i=>.int .i64 (s.low i)) 3)
 off:w.heap[gf]?=some (.cells (fnA nI fun i=>.bool (s.off i)) 4)
 opn:OI w B ov (nz s.op)
 ne:gm≠gl
 a1:ov.ownBlock≠some gm
 a2:ov.ownBlock≠some gl
 but:ButL S W0 w
 o0:gR∈S∨W0.heap.size≤gR
 o1:gm∈S∨W0.heap.size≤gm
 o2:gl∈S∨W0.heap.size≤gl
 o3:gf∈S∨W0.heap.size≤gf
 o4:∀g,ov.ownBlock=some g→g∈S∨W0.heap.size≤g
structure RnK (nI:Nat) (s:TJ.S):Prop where
 rng:∀x∈s.op,x<nI
 cnt:s.count+unm nI s.met=nI
 opl:s.op.length≤s.count
theorem RnV.ge {W0:World} {S:List Nat} {B gR gm gl gf nI:Nat} {iv:Value} {w:World} {ov:Value} {s:TJ.S} (h:RnV W0 S B gR gm gl gf nI iv w ov s):B≤w.heap.size:=Nat.le_trans h.base h.but.size
theorem RnV.later {W0:World} {S:List Nat} {B gR gm gl gf nI:Nat} {iv:Value} {w w':World} {ov:Value} {s:TJ.S} (h:RnV W0 S B gR gm gl gf nI iv w ov s) (hb:Below w.heap.size w w'):RnV W0 S B gR gm gl gf nI iv w' ov s :=
 ⟨h.base,blk_later hb h.blk,blk_later hb h.met,blk_later hb h.low,blk_later hb h.off,h.opn.later hb,h.ne,h.a1,h.a2,h.but.thenB hb,h.o0,h.o1,h.o2,h.o3,h.o4⟩
theorem RnV.drewN {W0:World} {S:List Nat} {B gR gm gl gf nI:Nat} {iv:Value} {w:World} {ov:Value} {s:TJ.S} (h:RnV W0 S B gR gm gl gf nI iv w ov s) (n:Nat):RnV W0 S B gR gm gl gf nI iv (w.drewN n) ov s :=
 ⟨h.base,h.blk,h.met,h.low,h.off,h.opn.drewN n,h.ne,h.a1,h.a2,h.but.drewN n,h.o0,h.o1,h.o2,h.o3,h.o4⟩
def rnS (gR gm gl gf:Nat) (ov:Value):List Nat:=gR :: gm :: gl :: gf :: ov.ownBlock.toList
theorem RnV.anew {W0:World} {S:List Nat} {B gR gm gl gf nI:Nat} {iv:Value} {w:World} {ov:Value} {s:TJ.S} (h:RnV W0 S B gR gm gl gf nI iv w ov s):RnV w (rnS gR gm gl gf ov) B gR gm gl gf nI iv w ov s :=
 ⟨h.ge,h.blk,h.met,h.low,h.off,h.opn,h.ne,h.a1,h.a2,ButL.refl _ _,.inl (by simp[rnS]),.inl (by simp[rnS]),.inl (by simp[rnS]),.inl (by simp[rnS]),fun g e=>.inl (by simp[rnS,e])⟩
theorem RnV.back {W0 W1:World} {S S1:List Nat} {B gR gm gl gf nI:Nat} {iv:Value} {w:World} {ov:Value} {s:TJ.S} (h:RnV W1 S1 B gR gm gl gf nI iv w ov s) (hB:B≤W0.heap.size) (hb:ButL S W0 W1) (hS:∀g∈S1,g∈S∨W0.heap.size≤g):RnV W0 S B gR gm gl gf nI iv w ov s:=by
 have q:∀g,g∈S1∨W1.heap.size≤g→g∈S∨W0.heap.size≤g:=fun g hg=>by
  rcases hg with hg | hg
  ·exact hS g hg
  ·exact .inr (Nat.le_trans hb.size hg)
 exact⟨hB,h.blk,h.met,h.low,h.off,h.opn,h.ne,h.a1,h.a2,hb.then h.but hS,q _ h.o0,q _ h.o1,q _ h.o2,q _ h.o3,fun g e=>q g (h.o4 g e)⟩
theorem RnV.own {W0:World} {S:List Nat} {B gR gm gl gf nI:Nat} {iv:Value} {w:World} {ov:Value} {s:TJ.S} (h:RnV W0 S B gR gm gl gf nI iv w ov s):∀g∈rnS gR gm gl gf ov,(g∈S∨W0.heap.size≤g)∧g<w.heap.size:=by
 intro g hg
 simp only[rnS,List.mem_cons,Option.mem_toList]at hg
 rcases hg with rfl | rfl | rfl | rfl | hg
 ·exact⟨h.o0,blk_lt h.blk⟩
 ·exact⟨h.o1,blk_lt h.met⟩
 ·exact⟨h.o2,blk_lt h.low⟩
 ·exact⟨h.o3,blk_lt h.off⟩
 ·exact⟨h.o4 g hg,(h.opn.own_lt hg).2⟩
theorem RnV.cells {W0:World} {S:List Nat} {B gR gm gl gf nI:Nat} {iv:Value} {w:World} {ov:Value} {s:TJ.S} (h:RnV W0 S B gR gm gl gf nI iv w ov s):w.cell? ⟨gR,0,none⟩=some iv∧w.cell? ⟨gR,1,none⟩=some (.slice (some ⟨gm,0,none⟩) nI nI)∧w.cell? ⟨gR,2,none⟩=some (.slice (some ⟨gl,0,none⟩) nI nI)∧w.cell? ⟨gR,3,none⟩=some ov∧w.cell? ⟨gR,4,none⟩=some (.slice (some ⟨gf,0,none⟩) nI nI)∧w.cell? ⟨gR,5,none⟩=some (.int .i64 s.count)∧w.cell? ⟨gR,6,none⟩=some (.int .i64 (lsI s.least)):=by
 refine⟨?_,?_,?_,?_,?_,?_,?_⟩<;>rw[blk_cell h.blk]<;>rfl
theorem RnV.at_ {W0:World} {S:List Nat} {B gR gm gl gf nI:Nat} {iv:Value} {w:World} {ov:Value} {s:TJ.S} (h:RnV W0 S B gR gm gl gf nI iv w ov s) {i:Nat} (hi:i<nI):w.cell? ⟨gm,i,none⟩=some (.int .i64 (s.met i))∧w.cell? ⟨gl,i,none⟩=some (.int .i64 (s.low i))∧w.cell? ⟨gf,i,none⟩=some (.bool (s.off i)):=by
 refine⟨?_,?_,?_⟩
 ·rw[blk_cell h.met];exact fnA_get _ hi
 ·rw[blk_cell h.low];exact fnA_get _ hi
 ·rw[blk_cell h.off];exact fnA_get _ hi
theorem blk_ty {w:World} {g:Nat} {a b:Array Value} {t t':TypeId} (h:w.heap[g]?=some (.cells a t)) (h':w.heap[g]?=some (.cells b t')):t=t':=by
 rw[h]at h'
 injection h' with e
 injection e
theorem RnV.diff {W0:World} {S:List Nat} {B gR gm gl gf nI:Nat} {iv:Value} {w:World} {ov:Value} {s:TJ.S} (h:RnV W0 S B gR gm gl gf nI iv w ov s):gR≠gm∧gR≠gl∧gR≠gf∧gm≠gf∧gl≠gf∧ov.ownBlock≠some gR∧ov.ownBlock≠some gf:=by
 refine⟨?_,?_,?_,?_,?_,h.opn.not_blk h.blk (by decide),h.opn.not_blk h.off (by decide)⟩
 ·rintro rfl;exact absurd (blk_ty h.blk h.met) (by decide)
 ·rintro rfl;exact absurd (blk_ty h.blk h.low) (by decide)
 ·rintro rfl;exact absurd (blk_ty h.blk h.off) (by decide)
 ·rintro rfl;exact absurd (blk_ty h.met h.off) (by decide)
 ·rintro rfl;exact absurd (blk_ty h.low h.off) (by decide)
theorem RnV.setCount {W0:World} {S:List Nat} {B gR gm gl gf nI:Nat} {iv:Value} {w:World} {ov:Value} {s:TJ.S} (h:RnV W0 S B gR gm gl gf nI iv w ov s) (v:Nat):RnV W0 S B gR gm gl gf nI iv (w.setCell ⟨gR,5,none⟩ (.int .i64 v)) ov { s with count:=v }:=by
 obtain⟨d1,d2,d3,d4,d5,d6,d7⟩:=h.diff
 refine⟨h.base,?_,blk_other h.met d1 5 _,blk_other h.low d2 5 _,blk_other h.off d3 5 _,h.opn.set_own d6 5 _,h.ne,h.a1,h.a2,h.but.seto h.o0 5 _,h.o0,h.o1,h.o2,h.o3,h.o4⟩
 have:=blk_set h.blk 5 (.int .i64 v)
 simpa using this
theorem RnV.setLeast {W0:World} {S:List Nat} {B gR gm gl gf nI:Nat} {iv:Value} {w:World} {ov:Value} {s:TJ.S} (h:RnV W0 S B gR gm gl gf nI iv w ov s) (v:Nat):RnV W0 S B gR gm gl gf nI iv (w.setCell ⟨gR,6,none⟩ (.int .i64 v)) ov { s with least:=some v }:=by
 obtain⟨d1,d2,d3,d4,d5,d6,d7⟩:=h.diff
 refine⟨h.base,?_,blk_other h.met d1 6 _,blk_other h.low d2 6 _,blk_other h.off d3 6 _,h.opn.set_own d6 6 _,h.ne,h.a1,h.a2,h.but.seto h.o0 6 _,h.o0,h.o1,h.o2,h.o3,h.o4⟩
 have:=blk_set h.blk 6 (.int .i64 v)
 simpa [lsI] using this
theorem fn_if (i:Nat) (v:Nat) (f:Nat→Nat):(fun x=>if x=i then Value.int .i64 (v:Int) else Value.int .i64 (f x:Int))=fun x=>Value.int .i64 (((fun x=>if x=i then v else f x) x:Nat):Int):=by
 funext x
 by_cases e:x=i<;>simp[e]
theorem fn_ifb (i:Nat) (f:Nat→Bool):(fun x=>if x=i then Value.bool true else Value.bool (f x))=fun x=>Value.bool ((fun x=>decide (x=i) || f x) x):=by
 funext x
 by_cases e:x=i<;>simp[e]
theorem RnV.setMet {W0:World} {S:List Nat} {B gR gm gl gf nI:Nat} {iv:Value} {w:World} {ov:Value} {s:TJ.S} (h:RnV W0 S B gR gm gl gf nI iv w ov s) (i v:Nat):RnV W0 S B gR gm gl gf nI iv (w.setCell ⟨gm,i,none⟩ (.int .i64 v)) ov { s with met:=fun x=>if x=i then v else s.met x }:=by
 obtain⟨d1,d2,d3,d4,d5,d6,d7⟩:=h.diff
 refine⟨h.base,blk_other h.blk d1.symm i _,?_,blk_other h.low h.ne i _,blk_other h.off d4 i _,h.opn.set_own h.a1 i _,h.ne,h.a1,h.a2,h.but.seto h.o1 i _,h.o0,h.o1,h.o2,h.o3,h.o4⟩
 have:=blk_set h.met i (.int .i64 v)
 rw[fnA_set,fn_if]at this
 exact this
theorem RnV.setLow {W0:World} {S:List Nat} {B gR gm gl gf nI:Nat} {iv:Value} {w:World} {ov:Value} {s:TJ.S} (h:RnV W0 S B gR gm gl gf nI iv w ov s) (i v:Nat):RnV W0 S B gR gm gl gf nI iv (w.setCell ⟨gl,i,none⟩ (.int .i64 v)) ov { s with low:=fun x=>if x=i then v else s.low x }:=by
 obtain⟨d1,d2,d3,d4,d5,d6,d7⟩:=h.diff
 refine⟨h.base,blk_other h.blk d2.symm i _,blk_other h.met h.ne.symm i _,?_,blk_other h.off d5 i _,h.opn.set_own h.a2 i _,h.ne,h.a1,h.a2,h.but.seto h.o2 i _,h.o0,h.o1,h.o2,h.o3,h.o4⟩
 have:=blk_set h.low i (.int .i64 v)
 rw[fnA_set,fn_if]at this
 exact this
theorem RnV.mark {W0:World} {S:List Nat} {B gR gm gl gf nI:Nat} {iv:Value} {w:World} {ov:Value} {s:TJ.S} (h:RnV W0 S B gR gm gl gf nI iv w ov s) (i:Nat):RnV W0 S B gR gm gl gf nI iv (w.setCell ⟨gf,i,none⟩ (.bool true)) ov { s with off:=fun x=>decide (x=i) || s.off x }:=by
 obtain⟨d1,d2,d3,d4,d5,d6,d7⟩:=h.diff
 refine⟨h.base,blk_other h.blk d3.symm i _,blk_other h.met d4.symm i _,blk_other h.low d5.symm i _,?_,h.opn.set_own d7 i _,h.ne,h.a1,h.a2,h.but.seto h.o3 i _,h.o0,h.o1,h.o2,h.o3,h.o4⟩
 have:=blk_set h.off i (.bool true)
 rw[fnA_set,fn_ifb]at this
 exact this
theorem RnV.shut {W0:World} {S:List Nat} {B gR gm gl gf nI g n cap:Nat} {iv:Value} {w:World} {s:TJ.S} (h:RnV W0 S B gR gm gl gf nI iv w (.slice (some ⟨g,0,none⟩) n cap) s) (m:Nat) (hm:m≤s.op.length):RnV W0 S B gR gm gl gf nI iv (w.setCell ⟨gR,3,none⟩ (.slice (some ⟨g,0,none⟩) m cap)) (.slice (some ⟨g,0,none⟩) m cap) { s with op:=s.op.take m }:=by
 obtain⟨d1,d2,d3,d4,d5,d6,d7⟩:=h.diff
 refine⟨h.base,?_,blk_other h.met d1 3 _,blk_other h.low d2 3 _,blk_other h.off d3 3 _,?_,h.ne,h.a1,h.a2,h.but.seto h.o0 3 _,h.o0,h.o1,h.o2,h.o3,h.o4⟩
 ·have:=blk_set h.blk 3 (.slice (some ⟨g,0,none⟩) m cap)
  simpa using this
 ·have:=ORow.set_own (OI.shrink h.opn m (by rw[nz_len];exact hm)) (g:=gR) d6 3 (.slice (some ⟨g,0,none⟩) m cap)
  rw[nz_take]at this
  exact this
theorem RnV.open_ {W0:World} {S:List Nat} {B gR gm gl gf nI:Nat} {iv:Value} {w:World} {ov:Value} {s:TJ.S} (h:RnV W0 S B gR gm gl gf nI iv w ov s) (a:Nat) (hl:s.op.length≤6000) :
  ∃g' cap' w2,(Builtin.append_ #[54,54] 54 #[ov,.slice (some ⟨w.heap.size,0,none⟩) 1 1]).run Tryz.prog (w.alloc (.cells #[.int .i64 (a:Int)] 3))=.ok (.slice (some ⟨g',0,none⟩) (s.op.length+1) cap') w2 ∧
   (∃o,w2.heap[gR]?=some (.cells o 186)∧3<o.size)∧RnV W0 S B gR gm gl gf nI iv (w2.setCell ⟨gR,3,none⟩ (.slice (some ⟨g',0,none⟩) (s.op.length+1) cap')) (.slice (some ⟨g',0,none⟩) (s.op.length+1) cap') { s with op:=s.op++[a] }:=by
 obtain⟨g',cap',w2,hr,ho2,hg,hwh⟩:=OI.app h.opn (a:Int) (by rw[nz_len];omega) h.ge
 rw[nz_len]at hr ho2
 obtain⟨d1,d2,d3,d4,d5,d6,d7⟩:=h.diff
 have old:∀ {g:Nat} {arr:Array Value} {t:TypeId},w.heap[g]?=some (.cells arr t)→ov.ownBlock≠some g→w2.heap[g]?=some (.cells arr t)∧g≠g':=by
  intro g arr t hg0 hne
  have hlt:=blk_lt hg0
  refine⟨(hg.block g (by simp;omega) (fun e=>hne e.symm)).trans (blk_old hg0 _),?_⟩
  rintro rfl
  rcases hwh with e | e
  ·exact hne e.symm
  ·omega
 obtain⟨k0,n0⟩:=old h.blk d6
 obtain⟨k1,n1⟩:=old h.met h.a1
 obtain⟨k2,n2⟩:=old h.low h.a2
 obtain⟨k3,n3⟩:=old h.off d7
 refine⟨g',cap',w2,hr,⟨_,k0,by simp⟩,h.base,?_,blk_other k1 d1 3 _,blk_other k2 d2 3 _,blk_other k3 d3 3 _,?_,h.ne,(fun e=>by cases e;exact n1 rfl),(fun e=>by cases e;exact n2 rfl),?_,h.o0,h.o1,h.o2,h.o3,?_⟩
 ·have:=blk_set k0 3 (.slice (some ⟨g',0,none⟩) (s.op.length+1) cap')
  simpa using this
 ·have:=ORow.set_own ho2 (g:=gR) (fun e=>by cases e;exact n0 rfl) 3 (.slice (some ⟨g',0,none⟩) (s.op.length+1) cap')
  simp only[nz_app]
  exact this
 ·exact ((h.but.alloc _).grown hg (fun b e=>h.o4 b e)).seto h.o0 3 _
 ·intro b e
  cases e
  rcases hwh with e | e
  ·exact h.o4 g' e.symm
  ·exact .inr (Nat.le_trans h.but.size e)
theorem contains_nz {l:List Nat} {r:Nat}:decide ((r:Int)∈nz l)=l.contains r:=by
 rw[Bool.eq_iff_iff]
 simp only[nz,decide_eq_true_eq,List.mem_map,List.contains_iff_mem]
 exact⟨fun ⟨a,h,e⟩=>by rw[←Int.ofNat.inj e];exact h,fun h=>⟨r,h,rfl⟩⟩
theorem contains_v {a:Option Addr} {len cap:Nat} {xs:List Int} {v:Int} {w:World} {d:Bool} (hl:xs.length=len) (hp:SlA w 1 intC a xs) (hlen:len≤1048576) (hd:decide (v∈xs)=d) :
  Calls Tryz.prog 266 #[.slice a len cap,.int .i64 v] w fun e w'=>e=.returned (.bool d)∧Below w.heap.size w w':=by
 have h:=contains_any a len cap xs v w hl hp hlen
 rw[hd]at h
 exact h
theorem rdop_any (W0:World) (S:List Nat) (B gF:Nat) (tv:Value) (w:World) (sv kv:Value) (s:RdS) (x want:Int) (h:FrV W0 S B gF tv w sv kv s) (hx:x<s.ts.length) (hx':-1-x<s.ts.length) (hl:s.ts.length≤250) (hs:s.stay.length≤1000) (hk:s.taken.length≤1000) :
  Calls Tryz.prog 215 #[.pointer (some ⟨gF,0,none⟩),.int .i64 x,.int .i64 want] w fun e w'=>FrA W0 S B gF tv e w' (prOp x want s):=by
 have hpos:0<s.ts.length:=by omega
 obtain⟨g,cap,rfl⟩:=h.ty.open' hpos
 obtain⟨aK,cK,rfl⟩:=h.ot.val
 rw[nz_len]at *
 have HF:Hid (FrV W0 S B gF (.slice (some ⟨g,0,none⟩) s.ts.length cap) w sv (.slice aK s.taken.length cK) s):=h
 obtain⟨f0,f1,f2⟩:=h.cells
 by_cases h0:0≤x
 ·obtain⟨i,rfl⟩:∃i:Nat,x=i:=⟨x.toNat,by omega⟩
  obtain⟨z,hz⟩:∃z,s.ts[i]?=some z:=⟨s.ts[i]'(by omega),by simp⟩
  have c:=h.ty.cell hz
  have HP:Hid (prOp i want s=if z=want then some s else none):=by
   show prOp _ _ _=_
   unfold prOp
   rw[if_pos (by omega),Int.toNat_natCast,List.getD_eq_getElem?_getD,hz];rfl
  clear h hz
  by_cases hzw:z=want
  ·have t:(z == want)=true:=by simpa using hzw
   go_enter Tryz.func215,Tryz.ntmps215
   go_wp2_with fail
   go_ret
   rw[HP.out,if_pos hzw]
   exact⟨rfl,sv,_,HF.out⟩
  ·have t:(z == want)=false:=by simpa using hzw
   go_enter Tryz.func215,Tryz.ntmps215
   go_wp2_with fail
   go_ret
   rw[HP.out,if_neg hzw]
   exact⟨rfl,HF.out.but⟩
 ·obtain⟨i,hi⟩:∃i:Nat,-1-x=i:=⟨(-1-x).toNat,by omega⟩
  have hi':i<s.ts.length:=by omega
  obtain⟨z,hz⟩:∃z,s.ts[i]?=some z:=⟨s.ts[i]'(by omega),by simp⟩
  have c:=h.ty.cell hz
  have c9:=h.ty.froz
  have HP:Hid (prOp x want s=if z=want then (if s.stay.contains i=true then none else some ⟨s.ts.set i 0,s.taken++[i],s.stay⟩) else none):=by
   show prOp _ _ _=_
   unfold prOp
   rw[if_neg h0,hi,Int.toNat_natCast,List.getD_eq_getElem?_getD,hz];rfl
  clear h hz
  by_cases hzw:z=want
  ·have t:(z != want)=false:=by simpa using hzw
   obtain⟨aS,cS,hsv,hsl⟩:=HF.out.os.lies (fun y=>intC_len y)
   have HSL:Hid (SlA w 1 intC aS (nz s.stay)):=hsl
   obtain⟨nS,hnS⟩:∃nS,(nz s.stay).length=nS:=⟨_,rfl⟩
   have hnS':nS≤1000:=by rw[←hnS,nz_len];exact hs
   have HNS:Hid ((nz s.stay).length=nS):=hnS
   rw[hnS]at hsv
   subst hsv
   clear hsl hnS
   by_cases hc:s.stay.contains i=true
   ·have t2:decide ((i:Int)∈nz s.stay)=true:=by rw[contains_nz];exact hc
    go_enter Tryz.func215,Tryz.ntmps215
    go_wp2_with fail
    refine (contains_v HNS.out HSL.out (by omega) t2).mono ?_
    rintro e w1 ⟨rfl,hb⟩
    go_wp2_with fail
    go_ret
    rw[HP.out,if_pos hzw,if_pos hc]
    exact⟨rfl,HF.out.but.thenB hb⟩
   ·have hc':s.stay.contains i=false:=by simpa using hc
    have t2:decide ((i:Int)∈nz s.stay)=false:=by rw[contains_nz];exact hc'
    go_enter Tryz.func215,Tryz.ntmps215
    go_wp2_with fail
    refine (contains_v HNS.out HSL.out (by omega) t2).mono ?_
    rintro e w1 ⟨rfl,hb⟩
    have HF1:Hid _:=HF.out.later hb
    obtain⟨q0,q1,q2⟩:=HF1.out.cells
    have qz:=HF1.out.ty.froz
    have HF2:Hid _:=HF1.out.set i 0 hi'
    obtain⟨cz,hcz⟩:∃cz,w1.cell? ⟨g,i,none⟩=some cz:=⟨_,cell_later hb c⟩
    obtain⟨W2,hW2⟩:∃W2,w1.setCell ⟨g,i,none⟩ (.int .i64 0)=W2:=⟨_,rfl⟩
    rw[hW2]at HF2
    obtain⟨p0,p1,p2⟩:=HF2.out.cells
    obtain⟨g',cap',w3,hr,hbk,hF3⟩:=HF2.out.take i (by show s.taken.length≤1000;omega)
    have HF3:Hid _:=hF3
    have k2:w3.cell? ⟨gF,2,none⟩=some (.slice aK s.taken.length cK):=by rw[blk_cell hbk];rfl
    have kz:=blk_frozen hbk
    clear f0 f1 f2 c c9 hb hF3 hbk
    go_wp2_with (at_builtin;refine wpList_append_run rfl _ _ _ rfl _ _ _ _ rfl rfl hr ?_;clear hr)
    go_ret
    rw[HP.out,if_pos hzw,if_neg hc]
    exact⟨rfl,_,_,HF3.out⟩
  ·have t:(z != want)=true:=by simpa using hzw
   go_enter Tryz.func215,Tryz.ntmps215
   go_wp2_with fail
   go_ret
   rw[HP.out,if_neg hzw]
   exact⟨rfl,HF.out.but⟩
end Go.Proofs.YtjglgbepobmjhaaGreatDoor
