import Derived.Test.YtjglgbepobmjhaaGreatDoorP12
import Derived.Test.YtjglgbepobmjhaaGreatDoorP04
import Derived.Test.YtjglgbepobmjhaaGreatDoorP08
import Derived.Test.YtjglgbepobmjhaaGreatDoorP10
import Derived.Test.YtjglgbepobmjhaaGreatDoorP02
set_option linter.unusedVariables false
set_option linter.unusedSimpArgs false
set_option maxRecDepth 20000
set_option maxHeartbeats 8000000
namespace Go.Proofs.YtjglgbepobmjhaaGreatDoor
open Go.RowKit
def EE (d:FD):Nat→List Nat:=fun x=>silS (d.ins.getD x id0) x
theorem f6i_none {c:List FD} {p:Nat} {f:FD}:∀ {ns:List ID} {i:Nat} {made m:List Bool},f6i c p f ns i made=(none,m)→∀n∈ns,n.op=11→upsB f (c.getD n.b.toNat fd0).ups=true
 | [],i,made,m,_,n,hn,_=>by cases hn
 | y :: ns,i,made,m,h,n,hn,ho=>by
  unfold f6i at h
  rcases List.mem_cons.1 hn with rfl | hn
  ·rw[if_pos ho]at h
   split at h
   ·rename_i hf
    unfold fnB at hf
    simp only[Bool.not_eq_true',Bool.or_eq_false_iff]at hf
    simpa using hf.2
   ·cases h
  ·split at h
   ·split at h
    ·exact f6i_none h n hn ho
    ·cases h
   ·exact f6i_none h n hn ho
theorem f6_none {c:List FD}:∀ {fs:List FD} {p:Nat} {made m:List Bool},f6 c fs p made=(none,m)→∀f∈fs,∀n∈f.ins,n.op=11→upsB f (c.getD n.b.toNat fd0).ups=true
 | [],p,made,m,_,f,hf=>by cases hf
 | g :: fs,p,made,m,h,f,hf=>by
  unfold f6 at h
  split at h
  ·cases h
  ·rename_i mm hg
   rcases List.mem_cons.1 hf with rfl | hf
   ·exact f6i_none hg
   ·exact f6_none h f hf
theorem len_le_total:∀ {c:List FD} {f:FD},f∈c→f.ins.length≤total c
 | [],f,h=>by cases h
 | g :: c,f,h=>by
  unfold total
  rw[List.map_cons,List.sum_cons]
  rcases List.mem_cons.1 h with rfl | h
  ·omega
  ·have:=len_le_total h
   unfold total at this
   omega
theorem shape_both {c:List FD} (h:(shapeV c).1=0):(partsV c).1=0∧(fnsV c).1=0:=by
 unfold shapeV at h
 split at h
 ·rename_i hp;exact⟨hp,h⟩
 ·rename_i hp;exact absurd h hp
theorem prok_of {xs:List FC} {p:Nat} {f:FC} (h:(shapeV (xs.map FC.d)).1=0) (hp:xs[p]?=some f):PrOk xs f.d f.d.regs.toNat f.d.ins.length f.d.params.toNat (EE f.d):=by
 obtain⟨h1,h2⟩:=shape_both h
 obtain⟨q1,q2,q3,q4,q5⟩:=parts_ok h1
 have hm:(xs.map FC.d)[p]?=some f.d:=by rw[List.getElem?_map,hp];rfl
 have hfm:f.d∈xs.map FC.d:=List.mem_of_getElem? hm
 have hh:=fp_none q2 p _ hm
 have hi:=fp_none q5 p _ hm
 rw[Nat.zero_add]at hh hi
 unfold hd0 at hh
 have hH:headB p f.d=true:=by
  split at hh
  ·assumption
  ·cases hh
 unfold headB at hH
 simp only[Bool.and_eq_true,inR,decide_eq_true_eq]at hH
 obtain⟨⟨⟨⟨⟨⟨a1,a2⟩,a3⟩,a4⟩,a5⟩,a6⟩,a7⟩:=hH
 unfold in0 at hi
 have hne:f.d.ins.length≠0:=by
  intro e
  rw[if_pos e]at hi
  cases hi
 rw[if_neg hne]at hi
 have hins:∀(i:Nat) n,f.d.ins[i]?=some n→insB (xs.map FC.d).length f.d i n=true:=fun i n hn=>by have:=ff_none hi i n hn;rwa [Nat.zero_add]at this
 have hfl:∀n∈f.d.ins,fieldsB (xs.map FC.d).length f.d n=true:=fun n hn=>by
  obtain⟨i,hi⟩:=List.mem_iff_getElem?.1 hn
  have:=hins i n hi
  unfold insB at this
  simp only[Bool.and_eq_true]at this
  exact this.1
 have hfns:∀n∈f.d.ins,n.op=11→upsB f.d ((xs.map FC.d).getD n.b.toNat fd0).ups=true:=by
  unfold fnsV at h2
  split at h2
  ·cases h2
  ·rename_i made hg
   exact f6_none hg f.d hfm
 have htot:f.d.ins.length≤6000:=by
  have:=len_le_total hfm
  unfold badSize at q1
  omega
 refine⟨by omega,by omega,rfl,by omega,htot,?_,?_,fun n hn=>insOk_of (hfl n hn) a3.1,?_,?_,?_⟩
 ·have:=a4.1;omega
 ·have h4:=a4.2
  have h41:=a4.1
  split at h4<;>rename_i hr<;>simp only[hr,if_true,if_false,Bool.false_eq_true]<;>omega
 ·intro a n hn hg
  have:=hins a n hn
  unfold insB at this
  simp only[Bool.and_eq_true,Bool.or_eq_true,Bool.not_eq_true',beq_eq_false_iff_ne]at this
  have hlt:=(List.getElem?_eq_some_iff.1 hn).1
  unfold goesV at hg
  rcases this.2 with h3 | h3
  ·simp at h3;omega
  ·rw[h3]at hg;cases hg
 ·intro n hn ho
  have hu:=hfns n hn ho
  have hb:=hfl n hn
  unfold fieldsB at hb
  simp only[Bool.and_eq_true]at hb
  have hb1:=hb.1.1.2
  rw[fits_iff,ho,show rl 11 1=9 from rfl]at hb1
  simp[lohi]at hb1
  have hlt:n.b.toNat<xs.length:=by omega
  refine⟨n.b.toNat,xs[n.b.toNat]'hlt,by omega,List.getElem?_eq_getElem hlt,fun u hu1 hul=>?_⟩
  have hgd:(xs.map FC.d).getD n.b.toNat fd0=(xs[n.b.toNat]'hlt).d:=by rw[List.getD_eq_getElem?_getD,List.getElem?_map,List.getElem?_eq_getElem hlt];rfl
  rw[hgd]at hu
  unfold upsB at hu
  have:=List.all_eq_true.1 hu u hu1
  unfold upB at this
  rw[if_pos hul]at this
  simp only[inR,Bool.and_eq_true,decide_eq_true_eq]at this
  omega
 ·intro a n hn
  unfold EE
  rw[List.getD_eq_getElem?_getD,hn]
  rfl
def WF (c:List FD) (p:Nat) (d:FD) (r:Option F3):Prop:=∃k R,Runs c d.ins k (startS d) R∧match R with
 | .error x=>r=some ((x.1:Int),(p:Int),(x.2:Int))
 | .ok s=>(∃i:Nat,LeastRd s (EE d) i∧r=some (14,(p:Int),(i:Int)))∨((∀i:Nat,(∃x,s.st[i]?=some (some x))→¬TJ.Cyc (EE d) i)∧r=none)
theorem LeastRd.uniq {s:WkS} {E:Nat→List Nat} {i j:Nat} (h:LeastRd s E i) (h':LeastRd s E j):i=j:=by
 rcases Nat.lt_trichotomy i j with hl | hl | hl
 ·exact absurd h.2.1 (h'.2.2 i hl h.1)
 ·exact hl
 ·exact absurd h'.2.1 (h.2.2 j hl h'.1)
theorem WF.uniq {c:List FD} {p:Nat} {d:FD} {r r':Option F3} (h:WF c p d r) (h':WF c p d r'):r=r':=by
 obtain⟨k,R,h1,h2⟩:=h
 obtain⟨k',R',h3,h4⟩:=h'
 obtain⟨rfl,rfl⟩:=Runs.uniq h1 h3
 cases R with
 | error x=>exact h2.trans h4.symm
 | ok s =>
  rcases h2 with ⟨i,a1,a2⟩ | ⟨a1,a2⟩<;>rcases h4 with ⟨j,b1,b2⟩ | ⟨b1,b2⟩
  ·rw[a2,b2,a1.uniq b1]
  ·exact absurd a1.2.1 (b1 i a1.1)
  ·exact absurd b1.2.1 (a1 j b1.1)
  ·rw[a2,b2]
def CkF (c:List FD):Nat→List FD→F3→Prop
 | _,[],r=>r=(0,0,0)
 | p,d :: ds,r=>WF c p d (some r)∨(WF c p d none∧CkF c (p+1) ds r)
theorem CkF.uniq {c:List FD}:∀ {ds:List FD} {p:Nat} {r r':F3},CkF c p ds r→CkF c p ds r'→r=r'
 | [],p,r,r',h,h'=>h.trans h'.symm
 | d :: ds,p,r,r',h,h'=>by
  rcases h with h | ⟨h1,h2⟩<;>rcases h' with h' | ⟨h3,h4⟩
  ·exact Option.some.inj (h.uniq h')
  ·cases h.uniq h3
  ·cases h1.uniq h'
  ·exact CkF.uniq h2 h4
def CkR (c:List FD) (r:F3):Prop:=if (shapeV c).1=0 then CkF c 0 c r else r=shapeV c
theorem CkR.uniq {c:List FD} {r r':F3} (h:CkR c r) (h':CkR c r'):r=r':=by
 unfold CkR at h h'
 split at h
 ·rename_i e;rw[if_pos e]at h';exact CkF.uniq h h'
 ·rename_i e;rw[if_neg e]at h';exact h.trans h'.symm
def WZg (s:WkS):Prop:=∀(a:Nat) x,s.st[a]?=some (some x)→GZ x.gs
theorem WZg.reach {s s':WkS} {t:Nat} {x:SD} (h:WZg s) (hx:GZ x.gs) (hr:reachW s t x=some s'):WZg s':=by
 unfold reachW at hr
 split at hr
 ·cases hr
  intro a y hy
  dsimp only at hy
  rw[List.getElem?_set]at hy
  split at hy
  ·split at hy
   ·cases hy;exact hx
   ·cases hy
  ·exact h a y hy
 ·split at hr
  ·cases hr;exact h
  ·cases hr
theorem WZg.lead {l:List (Nat × SD)} {s s':WkS} (h:WZg s) (hx:∀y∈l,GZ y.2.gs) (hr:leadW l s=.ok s'):WZg s':=by
 induction l generalizing s with
 | nil=>cases hr;exact h
 | cons y l ih =>
  unfold leadW at hr
  split at hr
  ·rename_i s1 h1
   exact ih (h.reach (hx y (by simp)) h1) (fun z hz=>hx z (List.mem_cons_of_mem _ hz)) hr
  ·cases hr
theorem behindV_gz {c:List FD} {n:ID} {x y:SD} (h:GZ x.gs) (hb:behindV c n x=.ok y):GZ y.gs:=by
 unfold behindV at hb
 split at hb
 ·cases hb
 ·split at hb
  ·cases hb
  ·rename_i gs hg
   split at hb
   ·cases hb;exact changeV_gz h hg
   ·cases hb
theorem followV_gz {n:ID} {a:Nat} {x y:SD} (hx:GZ x.gs) (hy:GZ y.gs):∀z∈followV n a x y,GZ z.2.gs:=by
 intro z hz
 unfold followV at hz
 rcases List.mem_append.1 hz with hz | hz
 ·split at hz
  ·simp at hz;subst hz;exact hy
  ·cases hz
 ·split at hz
  ·simp at hz
   subst hz
   dsimp only
   split
   ·exact hx
   ·split
    ·exact hx
    ·exact hy
  ·cases hz
theorem WZg.pass {c:List FD} {ins:List ID} {a:Nat} {s s':WkS} (h:WZg s) (hp:passW c ins a s=.ok s'):WZg s':=by
 unfold passW at hp
 split at hp
 ·cases hp
 ·rename_i x hx
  have hx':s.st[a]?=some (some x):=by
   rw[List.getD_eq_getElem?_getD]at hx
   cases hq:s.st[a]? with
   | none=>rw[hq]at hx;cases hx
   | some o=>rw[hq]at hx;simp at hx;rw[hx]
  split at hp
  ·cases hp
  ·rename_i y hy
   split at hp
   ·cases hp
   ·rename_i s1 h1
    cases hp
    exact WZg.lead (s:=⟨s.st,s.due.set a false⟩) (fun b z hz=>h b z hz) (followV_gz (h a x hx') (behindV_gz (h a x hx') hy)) h1
theorem WZg.start (d:FD):WZg (startS d):=by
 intro a x hx
 cases a with
 | zero=>simp[startS]at hx;subst hx;intro g hg;cases hg
 | succ a =>
  simp only[startS,List.getElem?_cons_succ,List.getElem?_replicate]at hx
  split at hx<;>cases hx
theorem R_same {E E':Nat→List Nat} (h:∀x y,y∈E x↔y∈E' x):∀ {n x y:Nat},TJ.RN E n x y→TJ.RN E' n x y
 | 0,x,y,hr=>hr
 | n+1,x,y,⟨z,h1,h2⟩=>⟨z,(h x z).1 h1,R_same h h2⟩
theorem Cyc_same {E E':Nat→List Nat} (h:∀x y,y∈E x↔y∈E' x) (x:Nat):TJ.Cyc E x↔TJ.Cyc E' x:=by
 constructor
 ·rintro ⟨y,h1,n,h2⟩;exact⟨y,(h x y).1 h1,n,R_same h h2⟩
 ·rintro ⟨y,h1,n,h2⟩;exact⟨y,(h x y).2 h1,n,R_same (fun x y=>(h x y).symm) h2⟩
def HpD (w:World) (B:Nat) (hv:Value) (due:List Bool):Prop:=∃l,HpV w B hv l∧(∀z,z∈l↔due[z]?=some true)∧l.length=due.countP (· == true)
theorem HpV.keep {w w':World} {B:Nat} {hv:Value} {l:List Nat} {S:List Nat} (h:HpV w B hv l) (hb:ButL S w w') (hS:∀g,hv.ownBlock=some g→g∉S):HpV w' B hv l:=⟨ORow.butn h.row hb hS,h.hp,h.nd⟩
theorem HpD.keep {w w':World} {B:Nat} {hv:Value} {due:List Bool} {S:List Nat} (h:HpD w B hv due) (hb:ButL S w w') (hS:∀g,hv.ownBlock=some g→g∉S):HpD w' B hv due:=by
 obtain⟨l,h1,h2⟩:=h
 exact⟨l,h1.keep hb hS,h2⟩
structure WlV (B gW gS nI p:Nat) (cv iv:Value) (wr:World) (zs:List SR) (hv:Value) (due:List Bool):Prop where
 blk:wr.heap[gW]?=some (.cells #[cv,.int .i64 p,iv,.slice (some ⟨gS,0,none⟩) nI nI,hv] 77)
 st:StA wr B gS zs
 hp:HpD wr B hv due
 ap:∀z∈zs,Apart z.tv hv
 len:zs.length=nI
 dul:due.length=nI
 g1:B≤gW
 g2:B≤gS
 base:B≤wr.heap.size
theorem WlV.cells {B gW gS nI p:Nat} {cv iv:Value} {wr:World} {zs:List SR} {hv:Value} {due:List Bool} (h:WlV B gW gS nI p cv iv wr zs hv due):wr.cell? ⟨gW,0,none⟩=some cv∧wr.cell? ⟨gW,1,none⟩=some (.int .i64 p)∧wr.cell? ⟨gW,2,none⟩=some iv∧wr.cell? ⟨gW,3,none⟩=some (.slice (some ⟨gS,0,none⟩) nI nI)∧wr.cell? ⟨gW,4,none⟩=some hv:=by
 refine⟨?_,?_,?_,?_,?_⟩<;>rw[blk_cell h.blk]<;>rfl
theorem OI.not_type {w:World} {B:Nat} {hv:Value} {l:List Int} (h:OI w B hv l) {g:Nat} (hg:hv.ownBlock=some g):∃cur,w.heap[g]?=some (.cells cur 3):=by
 rcases h.2 with ⟨e1,_⟩ | ⟨g0,c0,cur,e1,_,e3,_⟩
 ·rw[e1]at hg;cases hg
 ·rw[e1]at hg;cases hg;exact⟨cur,e3⟩
theorem WlV.noG {B gW gS nI p:Nat} {cv iv:Value} {wr:World} {zs:List SR} {hv:Value} {due:List Bool} (h:WlV B gW gS nI p cv iv wr zs hv due):∀g∈gW :: gS :: hv.ownBlock.toList,∀cur,wr.heap[g]?≠some (.cells cur 172):=by
 intro g hg cur e
 simp only[List.mem_cons,Option.mem_toList]at hg
 rcases hg with rfl | rfl | hg
 ·rw[h.blk]at e;cases e
 ·rw[h.st.blk]at e;cases e
 ·obtain⟨l,h1,_⟩:=h.hp
  obtain⟨cur',e'⟩:=h1.row.not_type hg
  rw[e']at e;cases e
theorem WlV.own {B gW gS nI p:Nat} {cv iv:Value} {wr:World} {zs:List SR} {hv:Value} {due:List Bool} (h:WlV B gW gS nI p cv iv wr zs hv due):∀g∈gW :: gS :: hv.ownBlock.toList,B≤g∧g<wr.heap.size:=by
 intro g hg
 simp only[List.mem_cons,Option.mem_toList]at hg
 rcases hg with rfl | rfl | hg
 ·exact⟨h.g1,blk_lt h.blk⟩
 ·exact⟨h.g2,blk_lt h.st.blk⟩
 ·obtain⟨l,h1,_⟩:=h.hp
  exact h1.row.own_lt hg
theorem SR.ok.butl {w w':World} {B:Nat} {z:SR} {S:List Nat} (h:z.ok w B) (hb:ButL S w w') (hS:∀g,z.tv.ownBlock=some g∨z.gv.ownBlock=some g→g∉S):z.ok w' B:=by
 unfold SR.ok at h ⊢
 split at h
 ·exact h
 ·exact⟨ORow.butn h.1 hb (fun g e=>hS g (.inl e)),ORow.butn h.2 hb (fun g e=>hS g (.inr e))⟩
theorem WlV.butl {B gW gS nI p:Nat} {cv iv:Value} {wr w':World} {zs:List SR} {hv:Value} {due:List Bool} {S:List Nat} (h:WlV B gW gS nI p cv iv wr zs hv due) (hb:ButL S wr w') (h1:gW∉S) (h2:gS∉S) (h3:∀g,hv.ownBlock=some g→g∉S) (h4:∀z∈zs,∀g,z.tv.ownBlock=some g∨z.gv.ownBlock=some g→g∉S):WlV B gW gS nI p cv iv w' zs hv due :=
 ⟨hb.blk h.blk h1,⟨hb.blk h.st.blk h2,fun z hz=>(h.st.ok z hz).butl hb (h4 z hz),h.st.ap⟩,h.hp.keep hb h3,h.ap,h.len,h.dul,h.g1,h.g2,Nat.le_trans h.base hb.size⟩
theorem WlV.later {B gW gS nI p:Nat} {cv iv:Value} {wr w':World} {zs:List SR} {hv:Value} {due:List Bool} (h:WlV B gW gS nI p cv iv wr zs hv due) (hb:Below wr.heap.size wr w'):WlV B gW gS nI p cv iv w' zs hv due :=
 h.butl (S:=[]) (ButL.of_below hb) (by simp) (by simp) (by simp) (by simp)
theorem WlV.row {B gW gS nI p:Nat} {cv iv:Value} {wr:World} {zs:List SR} {hv:Value} {due:List Bool} (h:WlV B gW gS nI p cv iv wr zs hv due) {t:Nat} {z:SR} (hz:zs[t]?=some z):wr.cell? ⟨gS,t*3,none⟩=some (.bool z.o.isSome)∧wr.cell? ⟨gS,t*3+1,none⟩=some z.tv∧wr.cell? ⟨gS,t*3+2,none⟩=some z.gv :=
 ⟨h.st.cell hz (j:=0) rfl,h.st.cell hz (j:=1) rfl,h.st.cell hz (j:=2) rfl⟩
def RcA (B gW gS nI p t:Nat) (cv iv hv:Value) (w:World) (o:Option WkS) (e:Ending) (w':World):Prop:=match o with
 | none=>e=.returned (EV (some (13,(p:Int),(t:Int))))
 | some s'=>e=.returned (EV none)∧∃zs' hv',WlV B gW gS nI p cv iv w' zs' hv' s'.due∧zs'.map SR.o=s'.st∧∀g,hv'.ownBlock=some g→hv.ownBlock=some g∨w.heap.size≤g
theorem spare1_any (kb:Nat) (k r:Int) (w:World) (c:w.cell? ⟨kb,0,none⟩=some (.int .i64 k)) :
  Calls Tryz.prog 152 #[.int .i64 r,.pointer (some ⟨kb,0,none⟩)] w fun e w'=>e=.returned (.bool (decide (r<k)))∧Below w.heap.size w w':=by
 go_enter Tryz.func152,Tryz.ntmps152
 go_wp2_with fail
 go_ret
 exact⟨rfl,Below.refl _ _⟩
theorem idxf_any (a:Option Addr) (len cap:Nat) (xs:List Int) (kb:Nat) (k:Int) (w:World) (hl:xs.length=len) (hp:SlA w 1 intC a xs) (hlen:len≤1048576) (hc:w.cell? ⟨kb,0,none⟩=some (.int .i64 k)) :
  Calls Tryz.prog 216 #[.slice a len cap,.func (.func 152) #[] #[.pointer (some ⟨kb,0,none⟩)]] w fun e w'=>(∃z:Int,e=.returned (.int .i64 z)∧(0≤z↔∃x∈xs,x<k))∧Below w.heap.size w w':=by
 have HP:Hid (SlA w 1 intC a xs):=hp
 have HL:Hid (xs.length=len):=hl
 have HC:Hid (w.cell? ⟨kb,0,none⟩=some (.int .i64 k)):=hc
 clear hp hl hc
 go_enter Tryz.func216,Tryz.ntmps216
 go_wp2_with fail
 go_loopw [8] (fun i wr=>∃m:Nat,m≤len∧i=.int .i64 m∧Hid (Below w.heap.size w wr)∧Hid (∀(j:Nat) z,j<m→xs[j]?=some z→k≤z)) (fun i _=>len-(intOf i).toNat)
 case atStart=>exact⟨0,Nat.zero_le _,rfl,Below.refl _ _,fun j z hj=>by omega⟩
 case round =>
  obtain⟨m,hm,rfl,HB,HF⟩:=hrel
  by_cases k1:m<len
  ·obtain⟨x,hx⟩:∃x,xs[m]?=some x:=⟨xs[m]'(by rw[HL.out];exact k1),by simp⟩
   obtain⟨b,off,rfl,hbl,hc⟩:=HP.out m x hx
   have c0:wr.cell? ⟨b,off+m,none⟩=some (.int .i64 x):=by have h:=cell_later HB.out (hc 0 _ rfl);simpa using h
   have HX:Hid (xs[m]?=some x):=hx
   clear hx hc
   go_wp2_with fail
   refine (spare1_any kb k x _ (cell_later HB.out HC.out)).mono ?_
   rintro e w1 ⟨rfl,hx⟩
   have HB1:Hid (Below w.heap.size w w1):=HB.out.trans (hx.mono HB.out.size)
   clear hx c0
   by_cases hv:x<k
   ·rw[decide_eq_true hv]
    go_wp2_with fail
    go_ret
    exact⟨⟨(m:Int),rfl,⟨fun _=>⟨x,List.mem_of_getElem? HX.out,hv⟩,fun _=>by omega⟩⟩,HB1.out⟩
   ·rw[decide_eq_false hv]
    go_wp2_with fail
    go_roundw
    case rel=>exact⟨m+1,by omega,by go_num,HB1,fun j z hj hz=>by
     by_cases e:j=m
     ·subst e;have h9:=HX.out;rw[h9]at hz;cases hz;omega
     ·exact HF.out j z (by omega) hz⟩
    case measure=>simp[intOf];omega
  ·go_wp2_with fail
   go_ret
   refine⟨⟨-1,rfl,⟨fun h=>by omega,fun h=>?_⟩⟩,HB.out⟩
   obtain⟨z,hz,hzk⟩:=h
   obtain⟨j,hj⟩:=List.getElem?_of_mem hz
   exact absurd hzk (Int.not_lt.2 <| HF.out j z (by have:=(List.getElem?_eq_some_iff.1 hj).1;have:=HL.out;omega) hj)
theorem contf_any (a:Option Addr) (len cap:Nat) (xs:List Int) (kb:Nat) (k:Int) (w:World) (hl:xs.length=len) (hp:SlA w 1 intC a xs) (hlen:len≤1048576) (hc:w.cell? ⟨kb,0,none⟩=some (.int .i64 k)) :
  Calls Tryz.prog 151 #[.slice a len cap,.func (.func 152) #[] #[.pointer (some ⟨kb,0,none⟩)]] w fun e w'=>(∃c:Bool,e=.returned (.bool c)∧(c=true↔∃x∈xs,x<k))∧Below w.heap.size w w':=by
 go_enter Tryz.func151,Tryz.ntmps151
 go_wp2_with fail
 refine (idxf_any a len cap xs kb k _ hl hp hlen hc).mono ?_
 rintro e w' ⟨⟨z,rfl,hz⟩,hb⟩
 have HZ:Hid (0≤z↔∃x∈xs,x<k):=hz
 clear hz hc
 go_wp2_with fail
 go_ret
 refine⟨⟨decide (0≤z),ret_bo ?_,?_⟩,hb⟩
 ·rfl
 ·rw[decide_eq_true_iff];exact HZ.out
def Dq (d:Bool) (xs:List Int) (k:Int):Prop:=d=true↔∃x∈xs,x<k
theorem contf_v {a:Option Addr} {len cap:Nat} {xs:List Int} {kb:Nat} {k:Int} {w:World} {d:Bool} (hl:xs.length=len) (hp:SlA w 1 intC a xs) (hlen:len≤1048576) (hc:w.cell? ⟨kb,0,none⟩=some (.int .i64 k)) (hd:Dq d xs k) :
  Calls Tryz.prog 151 #[.slice a len cap,.func (.func 152) #[] #[.pointer (some ⟨kb,0,none⟩)]] w fun e w'=>e=.returned (.bool d)∧Below w.heap.size w w':=by
 refine (contf_any a len cap xs kb k w hl hp hlen hc).mono ?_
 rintro e w' ⟨⟨c,rfl,h⟩,hb⟩
 have e:c=d:=by rw[Bool.eq_iff_iff,h];exact hd.symm
 exact⟨by rw[e],hb⟩
theorem equal_v {a a':Option Addr} {n n' c c':Nat} {xs ys:List Int} {w:World} {d:Bool} (hn:xs.length=n) (hn':ys.length=n') (h1:SlA w 1 intC a xs) (h2:SlA w 1 intC a' ys) (ln:n≤1048576) (hd:all2 (· == ·) xs ys=d) :
  Calls Tryz.prog 63 #[.slice a n c,.slice a' n' c'] w fun e w'=>e=.returned (.bool d)∧Below w.heap.size w w':=by
 have h:=equal_int a a' n n' c c' xs ys w hn hn' h1 h2 ln
 rw[hd]at h
 exact h
theorem all2_beq (xs ys:List Int):all2 (· == ·) xs ys=(xs == ys):=by
 rw[Bool.eq_iff_iff,all2_iff (fun _ _=>beq_iff_eq),beq_iff_eq]
theorem mkf (fn:Fn) (first cap:Array Value) (w:World):(Instr.makeFunc fn first cap).run Tryz.prog w=.ok (.func fn first cap) w:=rfl
theorem OI.cap {w:World} {B:Nat} {a:Option Addr} {n c:Nat} {ts:List Int} (h:OI w B (.slice a n c) ts):n≤c:=by
 rcases h.2 with ⟨e,e2⟩ | ⟨g,c',cur,e,_,_,h4,_⟩
 ·cases e;omega
 ·cases e;exact h4
theorem spares_any (W0:World) (S:List Nat) (B gF:Nat) (tv:Value) (w:World) (sv kv:Value) (s:RdS) (k:Nat) (aa:Option Addr) (ca:Nat) (ts:List Int) (h:FrV W0 S B gF tv w sv kv s) (hsl:SlA w 1 intC aa ts) (hlt:s.ts.length=ts.length) (hk:k≤ts.length) (hl:ts.length≤250) (hkt:s.taken.length≤1000) (hca:ts.length≤ca) :
  Calls Tryz.prog 69 #[.pointer (some ⟨gF,0,none⟩),.int .i64 k,.slice aa ts.length ca] w fun e w'=>e=.returned (.bool ((s.taken.all fun r=>decide (k≤r)) && s.ts.take k == ts.take k))∧Below w.heap.size w w':=by
 have hy:=bw1 w (.cells #[.int .i64 (k:Int)] 3)
 obtain⟨f0,f1,f2⟩:=(h.later hy).cells
 obtain⟨ak,ck,rfl,hsk⟩:=h.ot.lies (fun y=>intC_len y)
 obtain⟨at1,ct,rfl,hst⟩:=h.ty.lies (fun y=>intC_len y)
 have HSK:Hid (SlA (w.alloc (.cells #[.int .i64 (k:Int)] 3)) 1 intC ak (nz s.taken)):=hsk.later hy
 have HS:Hid (SlA (w.alloc (.cells #[.int .i64 (k:Int)] 3)) 1 intC aa (ts.take k)):=(hsl.later hy).take k
 have HT:Hid (SlA (w.alloc (.cells #[.int .i64 (k:Int)] 3)) 1 intC at1 (s.ts.take k)):=(hst.later hy).take k
 have b1:k≤ct:=by have:=h.ty.cap;omega
 have b2:k≤ca:=by omega
 have kb:(w.alloc (.cells #[.int .i64 (k:Int)] 3)).cell? ⟨w.heap.size,0,none⟩=some (.int .i64 (k:Int)):=by rw[blk_cell (blk_new _ _)];rfl
 have HL1:Hid ((nz s.taken).length≤1048576):=by show _≤_;rw[nz_len];omega
 have HL2:Hid ((s.ts.take k).length=k):=by show _=_;simp;omega
 have HL3:Hid ((ts.take k).length=k):=by show _=_;simp;omega
 obtain⟨d1,hd1⟩:∃d1:Bool,d1=true↔∃x∈nz s.taken,x<(k:Int):=⟨decide (∃x∈nz s.taken,x<(k:Int)),by simp⟩
 have HD1:Hid (Dq d1 (nz s.taken) (k:Int)):=hd1
 obtain⟨d2,hd2⟩:∃d2,all2 (· == ·) (s.ts.take k) (ts.take k)=d2:=⟨_,rfl⟩
 have HD2:Hid (all2 (· == ·) (s.ts.take k) (ts.take k)=d2):=hd2
 have HR:Hid (((s.taken.all fun r=>decide (k≤r)) && s.ts.take k == ts.take k)=(!d1 && d2)):=by
  show _=_
  rw[←hd2,all2_beq]
  congr 1
  rw[Bool.eq_iff_iff,List.all_eq_true,Bool.not_eq_true',←Bool.not_eq_true,hd1]
  constructor
  ·rintro h9 ⟨x,hx,hxk⟩
   simp only[nz,List.mem_map]at hx
   obtain⟨y,hy,rfl⟩:=hx
   have:=h9 y hy
   simp at this
   omega
  ·intro h9 y hy
   simp only[decide_eq_true_eq]
   apply Classical.byContradiction
   intro hq
   exact h9 ⟨(y:Int),by simp only[nz,List.mem_map];exact⟨y,hy,rfl⟩,by omega⟩
 rw[HR.out]
 have hmf:=mkf
 obtain⟨W1,hW1⟩:∃W1,w.alloc (.cells #[.int .i64 (k:Int)] 3)=W1:=⟨_,rfl⟩
 rw[hW1]at f0 f1 f2 HSK HS HT kb hy
 have HY:Hid (Below w.heap.size w W1):=hy
 clear hsl h hsk hst hd1 hd2 hy
 cases d1<;>cases d2
 all_goals
  go_enter Tryz.func69,Tryz.ntmps69
  go_wp2_with fail
  clear hW1
  have e0:=lat_cell f0
  have e1:=lat_cell f1
  have e2:=lat_cell f2
  have ek:=lat_cell kb
  clear f0 f1 f2
  haveI:=lat_some W1
  refine wp_region_lat (by kernel_rfl) (by kernel_rfl) ?_
  repeat (go_big_quiet_step (first
   | (go_at_call 151;exact lat_calls (contf_v rfl (HSK.out.later (Lat.below _)) HL1.out (lat_cell kb _) HD1.out))
   | (go_at_call 63;exact lat_calls (equal_v HL2.out HL3.out (HT.out.later (Lat.below _)) (HS.out.later (Lat.below _)) (by omega) HD2.out))))
  refine wpQuiet_nil ?_
  rintro _ ⟨nq,rfl⟩
  go_wp2_with fail
  go_ret
  exact⟨rfl,HY.out.trans (nq.below.mono HY.out.size)⟩
end Go.Proofs.YtjglgbepobmjhaaGreatDoor
