import Derived.Test.YtjglgbepobmjhaaGreatDoorP12
import Derived.Test.YtjglgbepobmjhaaGreatDoorP03
import Derived.Test.YtjglgbepobmjhaaGreatDoorP08
import Derived.Test.YtjglgbepobmjhaaGreatDoorP10
import Derived.Test.YtjglgbepobmjhaaGreatDoorP02
set_option linter.unusedVariables false
set_option linter.unusedSimpArgs false
set_option maxRecDepth 20000
set_option maxHeartbeats 8000000
namespace Go.Proofs.YtjglgbepobmjhaaGreatDoor
open Go.RowKit
def WZg (s:WkS):Prop:=∀(a:Nat) x,s.st[a]?=some (some x)→GZ x.gs
theorem WZg.reach {s s':WkS} {t:Nat} {x:SD} (h:WZg s) (hx:GZ x.gs) (hr:reachW s t x=some s'):WZg s':=by
 unfold reachW at hr
 split at hr
 ·cases hr
  intro a y hy
  dsimp only at hy
  rw[List.getElem?_set]at hy
  split at hy
  ·split at hy
   ·cases hy;exact hx
   ·cases hy
  ·exact h a y hy
 ·split at hr
  ·cases hr;exact h
  ·cases hr
theorem WZg.lead {l:List (Nat × SD)} {s s':WkS} (h:WZg s) (hx:∀y∈l,GZ y.2.gs) (hr:leadW l s=.ok s'):WZg s':=by
 induction l generalizing s with
 | nil=>cases hr;exact h
 | cons y l ih =>
  unfold leadW at hr
  split at hr
  ·rename_i s1 h1
   exact ih (h.reach (hx y (by simp)) h1) (fun z hz=>hx z (List.mem_cons_of_mem _ hz)) hr
  ·cases hr
theorem behindV_gz {c:List FD} {n:ID} {x y:SD} (h:GZ x.gs) (hb:behindV c n x=.ok y):GZ y.gs:=by
 unfold behindV at hb
 split at hb
 ·cases hb
 ·split at hb
  ·cases hb
  ·rename_i gs hg
   split at hb
   ·cases hb;exact changeV_gz h hg
   ·cases hb
theorem followV_gz {n:ID} {a:Nat} {x y:SD} (hx:GZ x.gs) (hy:GZ y.gs):∀z∈followV n a x y,GZ z.2.gs:=by
 intro z hz
 unfold followV at hz
 rcases List.mem_append.1 hz with hz | hz
 ·split at hz
  ·simp at hz;subst hz;exact hy
  ·cases hz
 ·split at hz
  ·simp at hz
   subst hz
   dsimp only
   split
   ·exact hx
   ·split
    ·exact hx
    ·exact hy
  ·cases hz
theorem WZg.pass {c:List FD} {ins:List ID} {a:Nat} {s s':WkS} (h:WZg s) (hp:passW c ins a s=.ok s'):WZg s':=by
 unfold passW at hp
 split at hp
 ·cases hp
 ·rename_i x hx
  have hx':s.st[a]?=some (some x):=by
   rw[List.getD_eq_getElem?_getD]at hx
   cases hq:s.st[a]? with
   | none=>rw[hq]at hx;cases hx
   | some o=>rw[hq]at hx;simp at hx;rw[hx]
  split at hp
  ·cases hp
  ·rename_i y hy
   split at hp
   ·cases hp
   ·rename_i s1 h1
    cases hp
    exact WZg.lead (s:=⟨s.st,s.due.set a false⟩) (fun b z hz=>h b z hz) (followV_gz (h a x hx') (behindV_gz (h a x hx') hy)) h1
theorem WZg.start (d:FD):WZg (startS d):=by
 intro a x hx
 cases a with
 | zero=>simp[startS]at hx;subst hx;intro g hg;cases hg
 | succ a =>
  simp only[startS,List.getElem?_cons_succ,List.getElem?_replicate]at hx
  split at hx<;>cases hx
theorem R_same {E E':Nat→List Nat} (h:∀x y,y∈E x↔y∈E' x):∀ {n x y:Nat},TJ.RN E n x y→TJ.RN E' n x y
 | 0,x,y,hr=>hr
 | n+1,x,y,⟨z,h1,h2⟩=>⟨z,(h x z).1 h1,R_same h h2⟩
theorem Cyc_same {E E':Nat→List Nat} (h:∀x y,y∈E x↔y∈E' x) (x:Nat):TJ.Cyc E x↔TJ.Cyc E' x:=by
 constructor
 ·rintro ⟨y,h1,n,h2⟩;exact⟨y,(h x y).1 h1,n,R_same h h2⟩
 ·rintro ⟨y,h1,n,h2⟩;exact⟨y,(h x y).2 h1,n,R_same (fun x y=>(h x y).symm) h2⟩
def HpD (w:World) (B:Nat) (hv:Value) (due:List Bool):Prop:=∃l,HpV w B hv l∧(∀z,z∈l↔due[z]?=some true)∧l.length=due.countP (· == true)
theorem HpV.keep {w w':World} {B:Nat} {hv:Value} {l:List Nat} {S:List Nat} (h:HpV w B hv l) (hb:ButL S w w') (hS:∀g,hv.ownBlock=some g→g∉S):HpV w' B hv l:=⟨ORow.butn h.row hb hS,h.hp,h.nd⟩
theorem HpD.keep {w w':World} {B:Nat} {hv:Value} {due:List Bool} {S:List Nat} (h:HpD w B hv due) (hb:ButL S w w') (hS:∀g,hv.ownBlock=some g→g∉S):HpD w' B hv due:=by
 obtain⟨l,h1,h2⟩:=h
 exact⟨l,h1.keep hb hS,h2⟩
structure WlV (B gW gS nI p:Nat) (cv iv:Value) (wr:World) (zs:List SR) (hv:Value) (due:List Bool):Prop where
 blk:wr.heap[gW]?=some (.cells #[cv,.int .i64 p,iv,.slice (some ⟨gS,0,none⟩) nI nI,hv] 77)
 st:StA wr B gS zs
 hp:HpD wr B hv due
 ap:∀z∈zs,Apart z.tv hv
 len:zs.length=nI
 dul:due.length=nI
 g1:B≤gW
 g2:B≤gS
 base:B≤wr.heap.size
theorem WlV.cells {B gW gS nI p:Nat} {cv iv:Value} {wr:World} {zs:List SR} {hv:Value} {due:List Bool} (h:WlV B gW gS nI p cv iv wr zs hv due):wr.cell? ⟨gW,0,none⟩=some cv∧wr.cell? ⟨gW,1,none⟩=some (.int .i64 p)∧wr.cell? ⟨gW,2,none⟩=some iv∧wr.cell? ⟨gW,3,none⟩=some (.slice (some ⟨gS,0,none⟩) nI nI)∧wr.cell? ⟨gW,4,none⟩=some hv:=by
 refine⟨?_,?_,?_,?_,?_⟩<;>rw[blk_cell h.blk]<;>rfl
theorem OI.not_type {w:World} {B:Nat} {hv:Value} {l:List Int} (h:OI w B hv l) {g:Nat} (hg:hv.ownBlock=some g):∃cur,w.heap[g]?=some (.cells cur 3):=by
 rcases h.2 with ⟨e1,_⟩ | ⟨g0,c0,cur,e1,_,e3,_⟩
 ·rw[e1]at hg;cases hg
 ·rw[e1]at hg;cases hg;exact⟨cur,e3⟩
theorem WlV.noG {B gW gS nI p:Nat} {cv iv:Value} {wr:World} {zs:List SR} {hv:Value} {due:List Bool} (h:WlV B gW gS nI p cv iv wr zs hv due):∀g∈gW :: gS :: hv.ownBlock.toList,∀cur,wr.heap[g]?≠some (.cells cur 172):=by
 intro g hg cur e
 simp only[List.mem_cons,Option.mem_toList]at hg
 rcases hg with rfl | rfl | hg
 ·rw[h.blk]at e;cases e
 ·rw[h.st.blk]at e;cases e
 ·obtain⟨l,h1,_⟩:=h.hp
  obtain⟨cur',e'⟩:=h1.row.not_type hg
  rw[e']at e;cases e
theorem WlV.own {B gW gS nI p:Nat} {cv iv:Value} {wr:World} {zs:List SR} {hv:Value} {due:List Bool} (h:WlV B gW gS nI p cv iv wr zs hv due):∀g∈gW :: gS :: hv.ownBlock.toList,B≤g∧g<wr.heap.size:=by
 intro g hg
 simp only[List.mem_cons,Option.mem_toList]at hg
 rcases hg with rfl | rfl | hg
 ·exact⟨h.g1,blk_lt h.blk⟩
 ·exact⟨h.g2,blk_lt h.st.blk⟩
 ·obtain⟨l,h1,_⟩:=h.hp
  exact h1.row.own_lt hg
theorem SR.ok.butl {w w':World} {B:Nat} {z:SR} {S:List Nat} (h:z.ok w B) (hb:ButL S w w') (hS:∀g,z.tv.ownBlock=some g∨z.gv.ownBlock=some g→g∉S):z.ok w' B:=by
 unfold SR.ok at h ⊢
 split at h
 ·exact h
 ·exact⟨ORow.butn h.1 hb (fun g e=>hS g (.inl e)),ORow.butn h.2 hb (fun g e=>hS g (.inr e))⟩
theorem WlV.butl {B gW gS nI p:Nat} {cv iv:Value} {wr w':World} {zs:List SR} {hv:Value} {due:List Bool} {S:List Nat} (h:WlV B gW gS nI p cv iv wr zs hv due) (hb:ButL S wr w') (h1:gW∉S) (h2:gS∉S) (h3:∀g,hv.ownBlock=some g→g∉S) (h4:∀z∈zs,∀g,z.tv.ownBlock=some g∨z.gv.ownBlock=some g→g∉S):WlV B gW gS nI p cv iv w' zs hv due :=
 ⟨hb.blk h.blk h1,⟨hb.blk h.st.blk h2,fun z hz=>(h.st.ok z hz).butl hb (h4 z hz),h.st.ap⟩,h.hp.keep hb h3,h.ap,h.len,h.dul,h.g1,h.g2,Nat.le_trans h.base hb.size⟩
theorem WlV.later {B gW gS nI p:Nat} {cv iv:Value} {wr w':World} {zs:List SR} {hv:Value} {due:List Bool} (h:WlV B gW gS nI p cv iv wr zs hv due) (hb:Below wr.heap.size wr w'):WlV B gW gS nI p cv iv w' zs hv due :=
 h.butl (S:=[]) (ButL.of_below hb) (by simp) (by simp) (by simp) (by simp)
theorem WlV.row {B gW gS nI p:Nat} {cv iv:Value} {wr:World} {zs:List SR} {hv:Value} {due:List Bool} (h:WlV B gW gS nI p cv iv wr zs hv due) {t:Nat} {z:SR} (hz:zs[t]?=some z):wr.cell? ⟨gS,t*3,none⟩=some (.bool z.o.isSome)∧wr.cell? ⟨gS,t*3+1,none⟩=some z.tv∧wr.cell? ⟨gS,t*3+2,none⟩=some z.gv :=
 ⟨h.st.cell hz (j:=0) rfl,h.st.cell hz (j:=1) rfl,h.st.cell hz (j:=2) rfl⟩
def RcA (B gW gS nI p t:Nat) (cv iv hv:Value) (w:World) (o:Option WkS) (e:Ending) (w':World):Prop:=match o with
 | none=>e=.returned (EV (some (13,(p:Int),(t:Int))))
 | some s'=>e=.returned (EV none)∧∃zs' hv',WlV B gW gS nI p cv iv w' zs' hv' s'.due∧zs'.map SR.o=s'.st∧∀g,hv'.ownBlock=some g→hv.ownBlock=some g∨w.heap.size≤g
theorem spare1_any (kb:Nat) (k r:Int) (w:World) (c:w.cell? ⟨kb,0,none⟩=some (.int .i64 k)) :
  Calls Tryz.prog 152 #[.int .i64 r,.pointer (some ⟨kb,0,none⟩)] w fun e w'=>e=.returned (.bool (decide (r<k)))∧Below w.heap.size w w':=by
 go_enter Tryz.func152,Tryz.ntmps152
 go_wp2_with fail
 go_ret
 exact⟨rfl,Below.refl _ _⟩
theorem idxf_any (a:Option Addr) (len cap:Nat) (xs:List Int) (kb:Nat) (k:Int) (w:World) (hl:xs.length=len) (hp:SlA w 1 intC a xs) (hlen:len≤1048576) (hc:w.cell? ⟨kb,0,none⟩=some (.int .i64 k)) :
  Calls Tryz.prog 216 #[.slice a len cap,.func (.func 152) #[] #[.pointer (some ⟨kb,0,none⟩)]] w fun e w'=>(∃z:Int,e=.returned (.int .i64 z)∧(0≤z↔∃x∈xs,x<k))∧Below w.heap.size w w':=by
 have HP:Hid (SlA w 1 intC a xs):=hp
 have HL:Hid (xs.length=len):=hl
 have HC:Hid (w.cell? ⟨kb,0,none⟩=some (.int .i64 k)):=hc
 clear hp hl hc
 go_enter Tryz.func216,Tryz.ntmps216
 go_wp2_with fail
 go_loopw [8] (fun i wr=>∃m:Nat,m≤len∧i=.int .i64 m∧Hid (Below w.heap.size w wr)∧Hid (∀(j:Nat) z,j<m→xs[j]?=some z→k≤z)) (fun i _=>len-(intOf i).toNat)
 case atStart=>exact⟨0,Nat.zero_le _,rfl,Below.refl _ _,fun j z hj=>by omega⟩
 case round =>
  obtain⟨m,hm,rfl,HB,HF⟩:=hrel
  by_cases k1:m<len
  ·obtain⟨x,hx⟩:∃x,xs[m]?=some x:=⟨xs[m]'(by rw[HL.out];exact k1),by simp⟩
   obtain⟨b,off,rfl,hbl,hc⟩:=HP.out m x hx
   have c0:wr.cell? ⟨b,off+m,none⟩=some (.int .i64 x):=by have h:=cell_later HB.out (hc 0 _ rfl);simpa using h
   have HX:Hid (xs[m]?=some x):=hx
   clear hx hc
   go_wp2_with fail
   refine (spare1_any kb k x _ (cell_later HB.out HC.out)).mono ?_
   rintro e w1 ⟨rfl,hx⟩
   have HB1:Hid (Below w.heap.size w w1):=HB.out.trans (hx.mono HB.out.size)
   clear hx c0
   by_cases hv:x<k
   ·rw[decide_eq_true hv]
    go_wp2_with fail
    go_ret
    exact⟨⟨(m:Int),rfl,⟨fun _=>⟨x,List.mem_of_getElem? HX.out,hv⟩,fun _=>by omega⟩⟩,HB1.out⟩
   ·rw[decide_eq_false hv]
    go_wp2_with fail
    go_roundw
    case rel=>exact⟨m+1,by omega,by go_num,HB1,fun j z hj hz=>by
     by_cases e:j=m
     ·subst e;have h9:=HX.out;rw[h9]at hz;cases hz;omega
     ·exact HF.out j z (by omega) hz⟩
    case measure=>simp[intOf];omega
  ·go_wp2_with fail
   go_ret
   refine⟨⟨-1,rfl,⟨fun h=>by omega,fun h=>?_⟩⟩,HB.out⟩
   obtain⟨z,hz,hzk⟩:=h
   obtain⟨j,hj⟩:=List.getElem?_of_mem hz
   exact absurd hzk (Int.not_lt.2 <| HF.out j z (by have:=(List.getElem?_eq_some_iff.1 hj).1;have:=HL.out;omega) hj)
theorem contf_any (a:Option Addr) (len cap:Nat) (xs:List Int) (kb:Nat) (k:Int) (w:World) (hl:xs.length=len) (hp:SlA w 1 intC a xs) (hlen:len≤1048576) (hc:w.cell? ⟨kb,0,none⟩=some (.int .i64 k)) :
  Calls Tryz.prog 151 #[.slice a len cap,.func (.func 152) #[] #[.pointer (some ⟨kb,0,none⟩)]] w fun e w'=>(∃c:Bool,e=.returned (.bool c)∧(c=true↔∃x∈xs,x<k))∧Below w.heap.size w w':=by
 go_enter Tryz.func151,Tryz.ntmps151
 go_wp2_with fail
 refine (idxf_any a len cap xs kb k _ hl hp hlen hc).mono ?_
 rintro e w' ⟨⟨z,rfl,hz⟩,hb⟩
 have HZ:Hid (0≤z↔∃x∈xs,x<k):=hz
 clear hz hc
 go_wp2_with fail
 go_ret
 refine⟨⟨decide (0≤z),ret_bo ?_,?_⟩,hb⟩
 ·rfl
 ·rw[decide_eq_true_iff];exact HZ.out
def Dq (d:Bool) (xs:List Int) (k:Int):Prop:=d=true↔∃x∈xs,x<k
theorem contf_v {a:Option Addr} {len cap:Nat} {xs:List Int} {kb:Nat} {k:Int} {w:World} {d:Bool} (hl:xs.length=len) (hp:SlA w 1 intC a xs) (hlen:len≤1048576) (hc:w.cell? ⟨kb,0,none⟩=some (.int .i64 k)) (hd:Dq d xs k) :
  Calls Tryz.prog 151 #[.slice a len cap,.func (.func 152) #[] #[.pointer (some ⟨kb,0,none⟩)]] w fun e w'=>e=.returned (.bool d)∧Below w.heap.size w w':=by
 refine (contf_any a len cap xs kb k w hl hp hlen hc).mono ?_
 rintro e w' ⟨⟨c,rfl,h⟩,hb⟩
 have e:c=d:=by rw[Bool.eq_iff_iff,h];exact hd.symm
 exact⟨by rw[e],hb⟩
theorem equal_v {a a':Option Addr} {n n' c c':Nat} {xs ys:List Int} {w:World} {d:Bool} (hn:xs.length=n) (hn':ys.length=n') (h1:SlA w 1 intC a xs) (h2:SlA w 1 intC a' ys) (ln:n≤1048576) (hd:all2 (· == ·) xs ys=d) :
  Calls Tryz.prog 63 #[.slice a n c,.slice a' n' c'] w fun e w'=>e=.returned (.bool d)∧Below w.heap.size w w':=by
 have h:=equal_int a a' n n' c c' xs ys w hn hn' h1 h2 ln
 rw[hd]at h
 exact h
theorem all2_beq (xs ys:List Int):all2 (· == ·) xs ys=(xs == ys):=by
 rw[Bool.eq_iff_iff,all2_iff (fun _ _=>beq_iff_eq),beq_iff_eq]
theorem mkf (fn:Fn) (first cap:Array Value) (w:World):(Instr.makeFunc fn first cap).run Tryz.prog w=.ok (.func fn first cap) w:=rfl
theorem OI.cap {w:World} {B:Nat} {a:Option Addr} {n c:Nat} {ts:List Int} (h:OI w B (.slice a n c) ts):n≤c:=by
 rcases h.2 with ⟨e,e2⟩ | ⟨g,c',cur,e,_,_,h4,_⟩
 ·cases e;omega
 ·cases e;exact h4
theorem spares_any (W0:World) (S:List Nat) (B gF:Nat) (tv:Value) (w:World) (sv kv:Value) (s:RdS) (k:Nat) (aa:Option Addr) (ca:Nat) (ts:List Int) (h:FrV W0 S B gF tv w sv kv s) (hsl:SlA w 1 intC aa ts) (hlt:s.ts.length=ts.length) (hk:k≤ts.length) (hl:ts.length≤250) (hkt:s.taken.length≤1000) (hca:ts.length≤ca) :
  Calls Tryz.prog 69 #[.pointer (some ⟨gF,0,none⟩),.int .i64 k,.slice aa ts.length ca] w fun e w'=>e=.returned (.bool ((s.taken.all fun r=>decide (k≤r)) && s.ts.take k == ts.take k))∧Below w.heap.size w w':=by
 have hy:=bw1 w (.cells #[.int .i64 (k:Int)] 3)
 obtain⟨f0,f1,f2⟩:=(h.later hy).cells
 obtain⟨ak,ck,rfl,hsk⟩:=h.ot.lies (fun y=>intC_len y)
 obtain⟨at1,ct,rfl,hst⟩:=h.ty.lies (fun y=>intC_len y)
 have HSK:Hid (SlA (w.alloc (.cells #[.int .i64 (k:Int)] 3)) 1 intC ak (nz s.taken)):=hsk.later hy
 have HS:Hid (SlA (w.alloc (.cells #[.int .i64 (k:Int)] 3)) 1 intC aa (ts.take k)):=(hsl.later hy).take k
 have HT:Hid (SlA (w.alloc (.cells #[.int .i64 (k:Int)] 3)) 1 intC at1 (s.ts.take k)):=(hst.later hy).take k
 have b1:k≤ct:=by have:=h.ty.cap;omega
 have b2:k≤ca:=by omega
 have kb:(w.alloc (.cells #[.int .i64 (k:Int)] 3)).cell? ⟨w.heap.size,0,none⟩=some (.int .i64 (k:Int)):=by rw[blk_cell (blk_new _ _)];rfl
 have HL1:Hid ((nz s.taken).length≤1048576):=by show _≤_;rw[nz_len];omega
 have HL2:Hid ((s.ts.take k).length=k):=by show _=_;simp;omega
 have HL3:Hid ((ts.take k).length=k):=by show _=_;simp;omega
 obtain⟨d1,hd1⟩:∃d1:Bool,d1=true↔∃x∈nz s.taken,x<(k:Int):=⟨decide (∃x∈nz s.taken,x<(k:Int)),by simp⟩
 have HD1:Hid (Dq d1 (nz s.taken) (k:Int)):=hd1
 obtain⟨d2,hd2⟩:∃d2,all2 (· == ·) (s.ts.take k) (ts.take k)=d2:=⟨_,rfl⟩
 have HD2:Hid (all2 (· == ·) (s.ts.take k) (ts.take k)=d2):=hd2
 have HR:Hid (((s.taken.all fun r=>decide (k≤r)) && s.ts.take k == ts.take k)=(!d1 && d2)):=by
  show _=_
  rw[←hd2,all2_beq]
  congr 1
  rw[Bool.eq_iff_iff,List.all_eq_true,Bool.not_eq_true',←Bool.not_eq_true,hd1]
  constructor
  ·rintro h9 ⟨x,hx,hxk⟩
   simp only[nz,List.mem_map]at hx
   obtain⟨y,hy,rfl⟩:=hx
   have:=h9 y hy
   simp at this
   omega
  ·intro h9 y hy
   simp only[decide_eq_true_eq]
   apply Classical.byContradiction
   intro hq
   exact h9 ⟨(y:Int),by simp only[nz,List.mem_map];exact⟨y,hy,rfl⟩,by omega⟩
 rw[HR.out]
 have hmf:=mkf
 obtain⟨W1,hW1⟩:∃W1,w.alloc (.cells #[.int .i64 (k:Int)] 3)=W1:=⟨_,rfl⟩
 rw[hW1]at f0 f1 f2 HSK HS HT kb hy
 have HY:Hid (Below w.heap.size w W1):=hy
 clear hsl h hsk hst hd1 hd2 hy
 cases d1<;>cases d2
 all_goals
  go_enter Tryz.func69,Tryz.ntmps69
  go_wp2_with fail
  clear hW1
  have e0:=lat_cell f0
  have e1:=lat_cell f1
  have e2:=lat_cell f2
  have ek:=lat_cell kb
  clear f0 f1 f2
  haveI:=lat_some W1
  refine wp_region_lat (by kernel_rfl) (by kernel_rfl) ?_
  repeat (go_big_quiet_step (first
   | (go_at_call 151;exact lat_calls (contf_v rfl (HSK.out.later (Lat.below _)) HL1.out (lat_cell kb _) HD1.out))
   | (go_at_call 63;exact lat_calls (equal_v HL2.out HL3.out (HT.out.later (Lat.below _)) (HS.out.later (Lat.below _)) (by omega) HD2.out))))
  refine wpQuiet_nil ?_
  rintro _ ⟨nq,rfl⟩
  go_wp2_with fail
  go_ret
  exact⟨rfl,HY.out.trans (nq.below.mono HY.out.size)⟩
theorem equal_g {a a':Option Addr} {n n' c c':Nat} {xs ys:List GD} {w:World} {d:Bool} (hn:xs.length=n) (hn':ys.length=n') (h1:SlA w 3 GD.cells a xs) (h2:SlA w 3 GD.cells a' ys) (ln:n≤1048576) (hd:all2 gEq xs ys=d) :
  Calls Tryz.prog 64 #[.slice a n c,.slice a' n' c'] w fun e w'=>e=.returned (.bool d)∧Below w.heap.size w w':=by
 have h:=equal_gd a a' n n' c c' xs ys w hn hn' h1 h2 ln
 rw[hd]at h
 exact h
abbrev StB (b:Bool) (tv gv:Value):Obj:=.cells #[.bool b,tv,gv] 118
theorem reach_old (B gW gS nI p t:Nat) (cv iv hv:Value) (zs:List SR) (due:List Bool) (w:World) (rb:Bool) (tv gv:Value) (x y:SD) (z:SR) (h:WlV B gW gS nI p cv iv w zs hv due) (ht:t<nI) (hz:zs[t]?=some z) (hy:z.o=some y) (hn:nI≤6000) (hT:OI w B tv x.ts) (hG:GA w gv x.gs) (hl:y.ts.length≤250) (hg:y.gs.length≤50) :
  Calls Tryz.prog 34 #[.pointer (some ⟨gW,0,none⟩),.int .i64 t,.agg #[.bool rb,tv,gv]] w fun e w'=>RcA B gW gS nI p t cv iv hv w (if sEq y x=true then some ⟨zs.map SR.o,due⟩ else none) e w'∧ButL (gW :: gS :: hv.ownBlock.toList) w w':=by
 have HW:Hid (WlV B gW gS nI p cv iv w zs hv due):=h
 have hok:=h.st.ok z (List.mem_of_getElem? hz)
 unfold SR.ok at hok
 rw[hy]at hok
 obtain⟨at1,ct1,e1,s1⟩:=ORow.lies hok.1 (fun y=>intC_len y)
 obtain⟨ag1,cg1,e2,s2⟩:=ORow.lies hok.2 GD.len
 obtain⟨at2,ct2,rfl,s3⟩:=ORow.lies hT (fun y=>intC_len y)
 obtain⟨ag2,cg2,rfl,_,s4,_⟩:=hG
 have H1:Hid (SlA w 1 intC at1 y.ts):=s1
 have H2:Hid (SlA w 3 GD.cells ag1 y.gs):=s2
 have H3:Hid (SlA w 1 intC at2 x.ts):=s3
 have H4:Hid (SlA w 3 GD.cells ag2 x.gs):=s4
 have hyb:=bw1 w (StB rb (.slice at2 x.ts.length ct2) (.slice ag2 x.gs.length cg2))
 obtain⟨c0,c1,c2,c3,c4⟩:=(h.later hyb).cells
 obtain⟨r0,r1,r2⟩:=(h.later hyb).row hz
 rw[hy]at r0
 rw[e1]at r1
 rw[e2]at r2
 clear h hok s1 s2 s3 s4 hT c0 c2 c4 hz hy e1 e2 hyb
 cases ht1:all2 (· == ·) y.ts x.ts
 ·have HS:Hid (sEq y x=false):=by show sEq y x=false;unfold sEq;rw[ht1];rfl
  rw[HS.out]
  simp only[Bool.false_eq_true,if_false]
  go_enter Tryz.func34,Tryz.ntmps34
  go_wp2_with (first
   | (go_at_call 63;refine (equal_v rfl rfl (H1.out.later (bw2 _ _ _)) (H3.out.later (bw2 _ _ _)) (by omega) ht1).mono ?_;rintro e w1 ⟨rfl,hb1⟩;have HB1:Hid (Below w.heap.size w w1):=(bw2 _ _ _).trans (hb1.mono (by simp;omega));have q1:w1.cell? ⟨gW,1,none⟩=some (.int .i64 p):=(HW.out.later HB1.out).cells.2.1;have u2:w1.cell? ⟨w.heap.size,2,none⟩=some (.slice ag2 x.gs.length cg2):=(by rw[blk_cell (blk_later hb1 (blk_old (blk_new _ _) _))];rfl);have u3:w1.cell? ⟨w.heap.size+1,2,none⟩=some (.slice ag1 y.gs.length cg1):=(by rw[blk_cell (blk_later hb1 (blk_newn (by simp) _))];rfl);clear hb1)
   | (go_at_call 28;refine (fat_any _ _ _ _).mono ?_;rintro e w9 ⟨rfl,rfl⟩))
  go_ret
  exact⟨rfl,ButL.of_below HB1.out⟩
 ·cases ht2:all2 gEq y.gs x.gs
  ·have HS:Hid (sEq y x=false):=by show sEq y x=false;unfold sEq;rw[ht1,ht2];rfl
   rw[HS.out]
   simp only[Bool.false_eq_true,if_false]
   go_enter Tryz.func34,Tryz.ntmps34
   go_wp2_with (first
    | (go_at_call 63;refine (equal_v rfl rfl (H1.out.later (bw2 _ _ _)) (H3.out.later (bw2 _ _ _)) (by omega) ht1).mono ?_;rintro e w1 ⟨rfl,hb1⟩;have HB1:Hid (Below w.heap.size w w1):=(bw2 _ _ _).trans (hb1.mono (by simp;omega));have q1:w1.cell? ⟨gW,1,none⟩=some (.int .i64 p):=(HW.out.later HB1.out).cells.2.1;have u2:w1.cell? ⟨w.heap.size,2,none⟩=some (.slice ag2 x.gs.length cg2):=(by rw[blk_cell (blk_later hb1 (blk_old (blk_new _ _) _))];rfl);have u3:w1.cell? ⟨w.heap.size+1,2,none⟩=some (.slice ag1 y.gs.length cg1):=(by rw[blk_cell (blk_later hb1 (blk_newn (by simp) _))];rfl);clear hb1)
    | (go_at_call 64;refine (equal_g rfl rfl (H2.out.later HB1.out) (H4.out.later HB1.out) (by omega) ht2).mono ?_;rintro e w2 ⟨rfl,hb2⟩;have HB2:Hid (Below w.heap.size w w2):=HB1.out.trans (hb2.mono HB1.out.size);have q2:w2.cell? ⟨gW,1,none⟩=some (.int .i64 p):=cell_later hb2 q1;clear hb2)
    | (go_at_call 28;refine (fat_any _ _ _ _).mono ?_;rintro e w9 ⟨rfl,rfl⟩))
   go_ret
   exact⟨rfl,ButL.of_below HB2.out⟩
  ·have HS:Hid (sEq y x=true):=by show sEq y x=true;unfold sEq;rw[ht1,ht2];rfl
   rw[HS.out]
   simp only[if_true]
   go_enter Tryz.func34,Tryz.ntmps34
   go_wp2_with (first
    | (go_at_call 63;refine (equal_v rfl rfl (H1.out.later (bw2 _ _ _)) (H3.out.later (bw2 _ _ _)) (by omega) ht1).mono ?_;rintro e w1 ⟨rfl,hb1⟩;have HB1:Hid (Below w.heap.size w w1):=(bw2 _ _ _).trans (hb1.mono (by simp;omega));have q1:w1.cell? ⟨gW,1,none⟩=some (.int .i64 p):=(HW.out.later HB1.out).cells.2.1;have u2:w1.cell? ⟨w.heap.size,2,none⟩=some (.slice ag2 x.gs.length cg2):=(by rw[blk_cell (blk_later hb1 (blk_old (blk_new _ _) _))];rfl);have u3:w1.cell? ⟨w.heap.size+1,2,none⟩=some (.slice ag1 y.gs.length cg1):=(by rw[blk_cell (blk_later hb1 (blk_newn (by simp) _))];rfl);clear hb1)
    | (go_at_call 64;refine (equal_g rfl rfl (H2.out.later HB1.out) (H4.out.later HB1.out) (by omega) ht2).mono ?_;rintro e w2 ⟨rfl,hb2⟩;have HB2:Hid (Below w.heap.size w w2):=HB1.out.trans (hb2.mono HB1.out.size);have q2:w2.cell? ⟨gW,1,none⟩=some (.int .i64 p):=cell_later hb2 q1;clear hb2)
    | (go_at_call 28;refine (fat_any _ _ _ _).mono ?_;rintro e w9 ⟨rfl,rfl⟩))
   go_ret
   exact⟨⟨rfl,zs,hv,HW.out.later HB2.out,rfl,fun g e=>.inl e⟩,ButL.of_below HB2.out⟩
end Go.Proofs.YtjglgbepobmjhaaGreatDoor
