import Derived.Test.YtjglgbepobmjhaaGreatDoorP03
import Derived.Test.YtjglgbepobmjhaaGreatDoorP02
import Derived.Laws.OwnMore
set_option linter.unusedVariables false
set_option linter.unusedSimpArgs false
set_option maxRecDepth 20000
set_option maxHeartbeats 8000000
namespace Go.Proofs.YtjglgbepobmjhaaGreatDoor
open Go.RowKit
theorem fits_iff {np:Nat} {f:FD} {r x:Int}:fitsB np f r x=true↔(lohi np f r).1≤x∧x≤(lohi np f r).2:=by simp[fitsB,inR]
theorem fits_reg {np:Nat} {f:FD} {r x:Int} (h:fitsB np f r x=true) (h0:0≤f.regs):regOk f.regs.toNat r x:=by
 rw[fits_iff]at h
 intro hw
 have hr:r=2∨r=3∨r=4∨r=5∨r=6∨r=18∨r=19∨r=20:=by
  apply Classical.byContradiction
  intro hn
  apply hw
  unfold wantsV
  have e:¬r=2∧¬r=3∧¬r=4∧¬r=5∧¬r=6∧¬r=18∧¬r=19∧¬r=20:=by omega
  simp[e]
 rcases hr with rfl | rfl | rfl | rfl | rfl | rfl | rfl | rfl<;>simp[lohi,wantsV]at h ⊢<;>first | (split<;>omega) | omega
structure InsOk (regs nI:Nat) (n:ID):Prop where
 op1:1≤n.op
 op2:n.op≤42
 reg:∀x∈fldV n,regOk regs x.1 x.2
 wa:rl n.op 0=1∨n.op=42→0≤n.a∧n.a<regs
 wb:n.op=40→0≤n.a∧n.a+1<regs
 wc:n.op=41→0≤n.c∧n.c<regs
 k31:n.op=31→0≤n.b∧n.b+2≤regs
 k33:n.op=33∨n.op=34→0≤n.a∧n.a≤regs
 ta:n.op=19∨n.op=31→0≤n.a∧n.a<nI
 tb:n.op=20∨n.op=21∨n.op=38∨n.op=39∨n.op=41→0≤n.b∧n.b<nI
theorem insOk_of {np:Nat} {f:FD} {n:ID} (h:fieldsB np f n=true) (h0:0≤f.regs):InsOk f.regs.toNat f.ins.length n:=by
 unfold fieldsB at h
 simp only[Bool.and_eq_true]at h
 obtain⟨⟨⟨⟨ho,ha⟩,hb⟩,hc⟩,hd⟩:=h
 have ho':1≤n.op∧n.op≤42:=by simpa [inR] using ho
 refine⟨ho'.1,ho'.2,?_,?_,?_,?_,?_,?_,?_,?_⟩
 ·intro x hx
  simp only[fldV,List.mem_cons,List.not_mem_nil,or_false]at hx
  rcases hx with rfl | rfl | rfl | rfl
  ·exact fits_reg ha h0
  ·exact fits_reg hb h0
  ·exact fits_reg hc h0
  ·exact fits_reg hd h0
 ·intro e
  rw[fits_iff]at ha
  rcases e with e | e
  ·rw[e]at ha;simp[lohi]at ha;omega
  ·rw[e,show rl 42 0=21 from rfl]at ha;simp[lohi]at ha;omega
 ·intro e;rw[fits_iff,e,show rl 40 0=19 from rfl]at ha;simp[lohi]at ha;omega
 ·intro e;rw[fits_iff,e,show rl 41 2=1 from rfl]at hc;simp[lohi]at hc;omega
 ·intro e;rw[fits_iff,e,show rl 31 1=14 from rfl]at hb;simp[lohi]at hb;omega
 ·rintro (e | e)
  ·rw[fits_iff,e,show rl 33 0=13 from rfl]at ha;simp[lohi]at ha;omega
  ·rw[fits_iff,e,show rl 34 0=13 from rfl]at ha;simp[lohi]at ha;omega
 ·rintro (e | e)
  ·rw[fits_iff,e,show rl 19 0=10 from rfl]at ha;simp[lohi]at ha;omega
  ·rw[fits_iff,e,show rl 31 0=10 from rfl]at ha;simp[lohi]at ha;omega
 ·rintro (e | e | e | e | e)
  ·rw[fits_iff,e,show rl 20 1=10 from rfl]at hb;simp[lohi]at hb;omega
  ·rw[fits_iff,e,show rl 21 1=10 from rfl]at hb;simp[lohi]at hb;omega
  ·rw[fits_iff,e,show rl 38 1=10 from rfl]at hb;simp[lohi]at hb;omega
  ·rw[fits_iff,e,show rl 39 1=10 from rfl]at hb;simp[lohi]at hb;omega
  ·rw[fits_iff,e,show rl 41 1=10 from rfl]at hb;simp[lohi]at hb;omega
theorem rdStep_len {role x:Int} {s s':RdS} (h:rdStep role x s=some s'):s'.ts.length=s.ts.length:=by
 unfold rdStep at h
 split at h
 ·cases h;rfl
 ·split at h
  ·obtain⟨s1,h1,h2⟩:=Option.bind_eq_some_iff.1 h
   have e1:s1.ts.length=s.ts.length:=by
    unfold rdTake at h1
    split at h1
    ·split at h1
     ·cases h1
     ·cases h1;simp
    ·split at h1<;>cases h1<;>rfl
   have e2:s'.ts.length=s1.ts.length:=by
    unfold rdMore at h2
    split at h2
    ·split at h2<;>cases h2;rfl
    ·split at h2
     ·split at h2<;>cases h2;rfl
     ·split at h2
      ·split at h2<;>cases h2;rfl
      ·cases h2;rfl
   rw[e2,e1]
  ·cases h
theorem rdAll_len {fs:List (Int × Int)} {s s':RdS} (h:rdAll fs s=some s'):s'.ts.length=s.ts.length:=by
 induction fs generalizing s with
 | nil=>simp[rdAll]at h;rw[h]
 | cons f fs ih =>
  simp only[rdAll]at h
  obtain⟨s1,h1,h2⟩:=Option.bind_eq_some_iff.1 h
  rw[ih h2,rdStep_len h1]
theorem readV_len {c:List FD} {n:ID} {ts:List Int} {s:RdS} (h:readV c n ts=some s):s.ts.length=ts.length:=by
 rw[readV_all]at h
 obtain⟨s1,h1,h2⟩:=Option.bind_eq_some_iff.1 h
 have:=rdAll_len h1
 split at h2
 ·split at h2
  ·cases h2;exact this
  ·cases h2
 ·cases h2;exact this
theorem writeV_len (n:ID) (ts:List Int):(writeV n ts).length=ts.length:=by
 unfold writeV
 repeat' split
 all_goals simp
theorem changeV_ok {regs nI:Nat} {n:ID} {gs gs':List GD} (hn:InsOk regs nI n) (h:GOk regs gs) (hc:changeV n gs=some gs'):GOk regs gs':=by
 have hd:GOk regs gs.dropLast:=⟨by have:=h.1;simp;omega,fun g hg=>h.2 g (List.dropLast_subset _ hg)⟩
 unfold changeV at hc
 split at hc
 ·rename_i e
  split at hc
  ·rename_i h1
   cases hc
   have:=hn.k31 e
   exact⟨by simp;omega,fun g hg=>by rcases List.mem_append.1 hg with hg | hg;exact h.2 g hg;simp at hg;subst hg;dsimp only;omega⟩
  ·cases hc
 ·split at hc
  ·rename_i e
   split at hc
   ·rename_i h1
    cases hc
    have:=hn.k33 (.inl e)
    exact⟨by simp;omega,fun g hg=>by rcases List.mem_append.1 hg with hg | hg;exact h.2 g hg;simp at hg;subst hg;dsimp only;omega⟩
   ·cases hc
  ·split at hc
   ·split at hc
    ·split at hc
     ·cases hc;exact hd
     ·cases hc
    ·cases hc
   ·split at hc
    ·rename_i e
     split at hc
     ·rename_i g hgl
      split at hc
      ·cases hc
       have:=hn.k33 (.inr e)
       have hne:gs≠[]:=by rintro rfl;simp at hgl
       have hlp:=List.length_pos_iff.2 hne
       exact⟨by have:=h.1;simp;omega,fun g hg=>by rcases List.mem_append.1 hg with hg | hg;exact hd.2 g hg;simp at hg;subst hg;dsimp only;omega⟩
      ·cases hc
     ·cases hc
    ·split at hc
     ·split at hc
      ·split at hc
       ·cases hc;exact h
       ·cases hc
      ·cases hc
     ·split at hc
      ·split at hc
       ·split at hc
        ·cases hc;exact hd
        ·cases hc
       ·cases hc
      ·cases hc;exact h
theorem behindV_ok {regs nI:Nat} {c:List FD} {n:ID} {x y:SD} (hn:InsOk regs nI n) (h:SOk regs x) (hb:behindV c n x=.ok y):SOk regs y:=by
 unfold behindV at hb
 split at hb
 ·cases hb
 ·rename_i r hr
  split at hb
  ·cases hb
  ·rename_i gs hg
   split at hb
   ·cases hb
    exact⟨by rw[writeV_len,readV_len hr];exact h.1,changeV_ok hn h.2 hg⟩
   ·cases hb
theorem caught_ok {regs nI:Nat} {n:ID} {x:SD} (hn:InsOk regs nI n) (h:SOk regs x) (e:n.op=31):SOk regs (caughtV n x):=by
 have:=hn.k31 e
 have hl:=h.1
 exact⟨by simp[caughtV];omega,h.2⟩
theorem followV_ok {regs nI:Nat} {n:ID} {a:Nat} {x y:SD} (hn:InsOk regs nI n) (hx:SOk regs x) (hy:SOk regs y):∀z∈followV n a x y,SOk regs z.2:=by
 intro z hz
 unfold followV at hz
 rcases List.mem_append.1 hz with hz | hz
 ·split at hz
  ·simp at hz;subst hz;exact hy
  ·cases hz
 ·split at hz
  ·simp at hz
   subst hz
   dsimp only
   split
   ·exact hx
   ·split
    ·rename_i e;exact caught_ok hn hx e
    ·exact hy
  ·cases hz
theorem followV_lt {regs nI:Nat} {n:ID} {a:Nat} {x y:SD} (hn:InsOk regs nI n) (ha:goesV n.op=true→a+1<nI):∀z∈followV n a x y,z.1<nI:=by
 intro z hz
 unfold followV at hz
 rcases List.mem_append.1 hz with hz | hz
 ·split at hz
  ·rename_i e;simp at hz;subst hz;exact ha e
  ·cases hz
 ·split at hz
  ·rename_i t ht
   simp at hz
   subst hz
   dsimp only
   unfold targetV at ht
   split at ht
   ·rename_i e;have:=hn.ta e;simp at ht;omega
   ·split at ht
    ·rename_i e;have:=hn.tb e;simp at ht;omega
    ·cases ht
  ·cases hz
theorem passW_ok {regs nI:Nat} {c:List FD} {ins:List ID} {a:Nat} {s s':WkS} (hi:∀n∈ins,InsOk regs nI n) (ha:a<ins.length) (h:WOk regs nI s) (hp:passW c ins a s=.ok s'):WOk regs nI s':=by
 have hn:InsOk regs nI (ins.getD a id0):=hi _ (by rw[List.getD_eq_getElem?_getD,List.getElem?_eq_getElem ha];exact List.getElem_mem ha)
 unfold passW at hp
 split at hp
 ·cases hp
 ·rename_i x hx
  have hx':s.st[a]?=some (some x):=by
   rw[List.getD_eq_getElem?_getD]at hx
   cases hq:s.st[a]? with
   | none=>rw[hq]at hx;cases hx
   | some o=>rw[hq]at hx;simp at hx;rw[hx]
  split at hp
  ·cases hp
  ·rename_i y hy
   split at hp
   ·cases hp
   ·rename_i s1 h1
    cases hp
    exact leadW_ok (h.off a) (followV_ok hn (h.ok a x hx') (behindV_ok hn (h.ok a x hx') hy)) h1
structure NX where
 t:Nat
 a:Option Addr
 c:Nat
 b:Option Addr
 d:Nat
 x:SD
def NX.cells (y:NX):List Value:=[.int .i64 (y.t:Int),.bool true,.slice y.a y.x.ts.length y.c,.slice y.b y.x.gs.length y.d]
theorem NX.len (y:NX):y.cells.length=4:=rfl
structure NX.lie (w:World) (y:NX):Prop where
 h1:SlA w 1 intC y.a y.x.ts
 h2:SlA w 3 GD.cells y.b y.x.gs
theorem NX.lie.later {w w':World} {y:NX} (h:y.lie w) (hb:Below w.heap.size w w'):y.lie w':=⟨h.h1.later hb,h.h2.later hb⟩
theorem flat_int (l:List Int):l.flatMap intC=l.map fun z=>Value.int .i64 z:=by
 induction l with
 | nil=>rfl
 | cons z l ih=>simp[intC,ih]
theorem TyAt.sl {w:World} {g cap:Nat} {ts:List Int} (h:TyAt w g cap ts):SlA w 1 intC (some ⟨g,0,none⟩) ts:=by
 intro i x hx
 have hi:i<ts.length:=(List.getElem?_eq_some_iff.1 hx).1
 refine⟨g,0,rfl,h.lt,fun j v hv=>?_⟩
 have hv':j=0∧v=.int .i64 x:=by cases j with | zero=>simp[intC]at hv;exact⟨rfl,hv.symm⟩ | succ j=>simp[intC]at hv
 obtain⟨rfl,rfl⟩:=hv'
 have:=h.cell hi
 rw[List.getD_eq_getElem?_getD,hx]at this
 simpa using this
theorem But.drew {g:Nat} {w w':World} (h:But g w w'):But g w w'.drew:=⟨h.os,h.tape,h.output,h.size,h.block⟩
theorem TyAt.drew {w:World} {g cap:Nat} {ts:List Int} (h:TyAt w g cap ts):TyAt w.drew g cap ts:=h
def TyV (w:World) (tv:Value) (ts:List Int):Prop:=(ts=[]∧tv=.slice none 0 0)∨∃g cap,tv=.slice (some ⟨g,0,none⟩) ts.length cap∧TyAt w g cap ts
structure ButV (tv:Value) (w w':World):Prop where
 os:w'.os=w.os
 tape:w'.tape=w.tape
 output:w'.output=w.output
 size:w.heap.size≤w'.heap.size
 block:∀k,k<w.heap.size→tv.ownBlock≠some k→w'.heap[k]?=w.heap[k]?
theorem ButV.of_below {tv:Value} {w w':World} (h:Below w.heap.size w w'):ButV tv w w':=⟨h.os,h.tape,h.output,h.size,fun k hk _=>h.block k hk⟩
theorem ButV.below {tv:Value} {B:Nat} {w0 w w':World} (h0:Below B w0 w) (h:ButV tv w w') (hB:∀g,tv.ownBlock=some g→B≤g) (hs:B≤w.heap.size):Below B w0 w' :=
 ⟨h.os.trans h0.os,h.tape.trans h0.tape,h.output.trans h0.output,Nat.le_trans h0.size h.size,fun k hk=>(h.block k (by omega) (fun e=>by have:=hB k e;omega)).trans (h0.block k hk)⟩
theorem TyV.of_own {w:World} {B n:Nat} {sv:Value} {ts:List Int} (h:w.ownsRow B 3 1 sv n (ts.flatMap intC)) (hn:ts.length=n):TyV w sv ts∧∀g,sv.ownBlock=some g→B≤g:=by
 rcases h.2 with ⟨rfl,h1⟩ | ⟨g,cap,cur,rfl,hbg,hg,hnc,hcm,hcs,htake⟩
 ·exact⟨.inl ⟨List.length_eq_zero_iff.1 (by omega),rfl⟩,fun g hg=>by cases hg⟩
 ·refine⟨.inr ⟨g,cap,by rw[hn],⟨cur,hg,by omega,by omega,fun i hi=>?_⟩⟩,fun k hk=>by cases hk;exact hbg⟩
  have h2:(cur.toList.take (n*1))[i]?=(ts.flatMap intC)[i]?:=by rw[htake]
  rw[List.getElem?_take,if_pos (by omega),flat_int,List.getElem?_map,List.getElem?_eq_getElem hi]at h2
  rw[List.getD_eq_getElem?_getD,List.getElem?_eq_getElem hi]
  simpa using h2
theorem TyV.sl {w:World} {tv:Value} {ts:List Int} (h:TyV w tv ts):∃a cap,tv=.slice a ts.length cap∧SlA w 1 intC a ts:=by
 rcases h with ⟨rfl,rfl⟩ | ⟨g,cap,rfl,h⟩
 ·exact⟨none,0,rfl,SlA.nil _ _ _ _⟩
 ·exact⟨_,_,rfl,h.sl⟩
theorem TyV.later {w w':World} {tv:Value} {ts:List Int} (h:TyV w tv ts) (hb:Below w.heap.size w w'):TyV w' tv ts:=by
 rcases h with h | ⟨g,cap,rfl,h⟩
 ·exact .inl h
 ·exact .inr ⟨g,cap,rfl,h.later hb⟩
attribute [local go_sem] run_store_float
def badSize (c:List FD):Prop:=c.length=0∨200<c.length∨6000<total c
theorem parts_1 {c:List FD} (h:badSize c):partsV c=(1,0,0):=by unfold badSize at h;unfold partsV;rw[if_pos h]
theorem parts_2 {c:List FD} (h:¬badSize c) {p i:Nat} (h2:fp hd0 c 0=some (p,i)):partsV c=(2,(p:Int),(i:Int)):=by unfold badSize at h;unfold partsV;rw[if_neg h,h2]
theorem parts_3 {c:List FD} (h:¬badSize c) (h2:fp hd0 c 0=none) {p i:Nat} (h3:fp co0 c 0=some (p,i)):partsV c=(3,(p:Int),(i:Int)):=by unfold badSize at h;unfold partsV;rw[if_neg h,h2,h3]
theorem parts_4 {c:List FD} (h:¬badSize c) (h2:fp hd0 c 0=none) (h3:fp co0 c 0=none) {p i:Nat} (h4:fp na0 c 0=some (p,i)):partsV c=(4,(p:Int),(i:Int)):=by unfold badSize at h;unfold partsV;rw[if_neg h,h2,h3,h4]
theorem parts_5 {c:List FD} (h:¬badSize c) (h2:fp hd0 c 0=none) (h3:fp co0 c 0=none) (h4:fp na0 c 0=none) {p i:Nat} (h5:fp (in0 c.length) c 0=some (p,i)):partsV c=(5,(p:Int),(i:Int)):=by unfold badSize at h;unfold partsV;rw[if_neg h,h2,h3,h4,h5]
theorem parts_0 {c:List FD} (h:¬badSize c) (h2:fp hd0 c 0=none) (h3:fp co0 c 0=none) (h4:fp na0 c 0=none) (h5:fp (in0 c.length) c 0=none):partsV c=(0,0,0):=by unfold badSize at h;unfold partsV;rw[if_neg h,h2,h3,h4,h5]
theorem regs_of {c:List FD} (h2:fp hd0 c 0=none) {p:Nat} {f:FD} (hp:c[p]?=some f):0≤f.regs∧f.regs≤250:=by
 have:=fp_none h2 p f hp
 unfold hd0 at this
 split at this
 ·rename_i h
  simp only[headB,Bool.and_eq_true]at h
  have:=h.1.1.1.1.2
  simpa [inR] using this
 ·cases this
theorem map_at {xs:List FC} {m:Nat} {f:FC} (h:xs[m]?=some f):(xs.map FC.d)[m]?=some f.d:=by simp[h]
theorem drop_end {xs:List FC} {m:Nat} (h:xs.length≤m) (inner:Nat→FD→Option Nat):fp inner ((xs.drop m).map FC.d) m=none:=by rw[List.drop_of_length_le h];rfl
theorem ff_end {α:Type} (ok:Nat→α→Bool) {xs:List α} {m:Nat} (h:xs.length≤m):ff ok (xs.drop m) m=none:=by rw[List.drop_of_length_le h];rfl
theorem sum_take {xs:List FC} {m:Nat} {f:FC} (h:xs[m]?=some f):((xs.take (m+1)).map fun x=>x.d.ins.length).sum=((xs.take m).map fun x=>x.d.ins.length).sum+f.d.ins.length:=by
 obtain⟨hlt,he⟩:=List.getElem?_eq_some_iff.1 h
 rw[List.take_add_one,h]
 simp
theorem sum_le {xs:List FC} (m:Nat):((xs.take m).map fun x=>x.d.ins.length).sum≤(xs.map fun x=>x.d.ins.length).sum:=by
 conv=>rhs;rw[←List.take_append_drop m xs]
 rw[List.map_append,List.sum_append]
 omega
theorem total_eq (xs:List FC):total (xs.map FC.d)=(xs.map fun x=>x.d.ins.length).sum:=by unfold total;rw[List.map_map];rfl
attribute [local go_sem] run_store_float
def mb (l:List Bool):Array Value:=(l.map Value.bool).toArray
theorem mb_get (l:List Bool) (j:Nat) (h:j<l.length):(mb l)[j]?=some (.bool (l.getD j false)):=by
 unfold mb
 simp[List.getD_eq_getElem?_getD,List.getElem?_eq_getElem h]
theorem mb_set (l:List Bool) (j:Nat) (b:Bool):(mb l).setIfInBounds j (.bool b)=mb (l.set j b):=by
 unfold mb
 simp[List.map_set]
theorem make_bool (len:Nat) (hlen:len≤1048576) (w:World):(Instr.makeSlice 167 (.int .i64 (len:Int)) (.int .i64 (len:Int))).run Tryz.prog w=.ok (.slice (some ⟨w.heap.size,0,none⟩) len len) (w.alloc (.cells (mb (List.replicate len false)) 4)):=by
 have hc:(Tryz.prog.info? 4).map (fun i=>(i.zero,i.size,i.bytes))=some (some (.bool false),1,1):=by kernel_rfl
 cases hi:Tryz.prog.info? 4 with
 | none=>rw[hi]at hc;cases hc
 | some i =>
  rw[hi]at hc
  simp only[Option.map_some,Option.some.injEq,Prod.mk.injEq]at hc
  obtain⟨h1,h2,h3⟩:=hc
  have hr:=run_make (P:=Tryz.prog) w 167 4 i (.bool false) Tryz.underlying167 hi h1 .i64 .i64 (len:Int) (len:Int) (by omega) (by omega) (by rw[h3];omega) (by omega)
  have he:madeCells #[.bool false] len=mb (List.replicate len false):=by
   apply Array.toList_inj.1
   rw[toList_madeCells_one]
   simp[mb]
  have hr':=hr
  simp only[Int.toNat_natCast,h2,Nat.mul_one]at hr'
  rw[←he]
  exact hr'
theorem parts_ok {c:List FD} (h:(partsV c).1=0):¬badSize c∧fp hd0 c 0=none∧fp co0 c 0=none∧fp na0 c 0=none∧fp (in0 c.length) c 0=none:=by
 by_cases hb:badSize c
 ·rw[parts_1 hb]at h;cases h
 cases h2:fp hd0 c 0 with
 | some x=>obtain⟨p,i⟩:=x;rw[parts_2 hb h2]at h;cases h
 | none =>
 cases h3:fp co0 c 0 with
 | some x=>obtain⟨p,i⟩:=x;rw[parts_3 hb h2 h3]at h;cases h
 | none =>
 cases h4:fp na0 c 0 with
 | some x=>obtain⟨p,i⟩:=x;rw[parts_4 hb h2 h3 h4]at h;cases h
 | none =>
 cases h5:fp (in0 c.length) c 0 with
 | some x=>obtain⟨p,i⟩:=x;rw[parts_5 hb h2 h3 h4 h5]at h;cases h
 | none=>exact⟨hb,rfl,rfl,rfl,rfl⟩
theorem ins_ok {c:List FD} (h5:fp (in0 c.length) c 0=none) {p:Nat} {f:FD} (hp:c[p]?=some f) {q:Nat} {n:ID} (hq:f.ins[q]?=some n):insB c.length f q n=true:=by
 have:=fp_none h5 p f hp
 unfold in0 at this
 split at this
 ·cases this
 ·have:=ff_none this q n hq
  simpa using this
theorem fn_b {np:Nat} {f:FD} {q:Nat} {n:ID} (h:insB np f q n=true) (h11:n.op=11):0≤n.b∧n.b<np:=by
 simp only[insB,fieldsB,Bool.and_eq_true]at h
 have h9:=h.1.1.1.2
 rw[h11]at h9
 have hr:rl 11 1=9:=rfl
 rw[hr]at h9
 simp[fitsB,lohi,inR]at h9
 omega
theorem f6i_drop {c:List FD} {p:Nat} {f:FD} {mk:List Bool} {ns:List ID} {q:Nat} {n:ID} (h:ns[q]?=some n):f6i c p f (ns.drop q) q mk=if n.op=11 then (if fnB c p f n mk=true then f6i c p f (ns.drop (q+1)) (q+1) (mk.set n.b.toNat true) else (some q,mk)) else f6i c p f (ns.drop (q+1)) (q+1) mk:=by
 obtain⟨hlt,he⟩:=List.getElem?_eq_some_iff.1 h
 rw[List.drop_eq_getElem_cons hlt,he]
 rfl
theorem f6i_end {c:List FD} {p:Nat} {f:FD} {mk:List Bool} {ns:List ID} {q:Nat} (h:ns.length≤q):f6i c p f (ns.drop q) q mk=(none,mk):=by rw[List.drop_of_length_le h];rfl
theorem f6_drop {c:List FD} {mk:List Bool} {xs:List FC} {m:Nat} {f:FC} (h:xs[m]?=some f):f6 c ((xs.drop m).map FC.d) m mk=match f6i c m f.d f.d.ins 0 mk with
  | (some i,k)=>(some (m,i),k)
  | (none,k)=>f6 c ((xs.drop (m+1)).map FC.d) (m+1) k:=by
 obtain⟨hlt,he⟩:=List.getElem?_eq_some_iff.1 h
 rw[List.drop_eq_getElem_cons hlt,he]
 rfl
theorem f6_end {c:List FD} {mk:List Bool} {xs:List FC} {m:Nat} (h:xs.length≤m):f6 c ((xs.drop m).map FC.d) m mk=(none,mk):=by rw[List.drop_of_length_le h];rfl
theorem shape_parts {c:List FD} (h:¬(partsV c).1=0):shapeV c=partsV c:=by unfold shapeV;rw[if_neg h]
def silS (n:ID) (at':Nat):List Nat :=
 if n.op=1∨n.op=3∨n.op=28∨n.op=29∨n.op=30∨(n.op=18∧n.b=12) then []
 else if n.op=19 then [n.a.toNat]
 else if n.op=41 then [n.b.toNat]
 else if n.op=20∨n.op=21∨n.op=38∨n.op=39 then [n.b.toNat,at'+1]
 else if n.op=31 then [n.a.toNat,at'+1]
 else [at'+1]
theorem silS_mem (n:ID) (at' t:Nat):t∈silS n at'↔t∈silentV n at':=by
 unfold silS silentV targetV goesV endsB
 by_cases h1:n.op=1
 ·simp[h1]
 by_cases h3:n.op=3
 ·simp[h3]
 by_cases h28:n.op=28
 ·simp[h28]
 by_cases h29:n.op=29
 ·simp[h29]
 by_cases h30:n.op=30
 ·simp[h30]
 by_cases h19:n.op=19
 ·simp[h19]
 by_cases h41:n.op=41
 ·simp[h41]
 by_cases h31:n.op=31
 ·simp[h31,or_comm]
 by_cases hb:n.op=20∨n.op=21∨n.op=38∨n.op=39
 ·rcases hb with h | h | h | h<;>simp[h,or_comm]
 ·have:¬(n.op=20)∧¬(n.op=21)∧¬(n.op=38)∧¬(n.op=39):=by omega
  by_cases h18:n.op=18∧n.b=12
  ·simp[h18.1,h18.2]
  ·by_cases h:n.op=18
   ·have hb':¬n.b=12:=fun e=>h18 ⟨h,e⟩
    simp[h,hb']
   ·simp[h1,h3,h28,h29,h30,h19,h41,h31,this,h]
end Go.Proofs.YtjglgbepobmjhaaGreatDoor
