import Derived.Test.YtkajknidfoelcaaGreatDoorP09
import Derived.Test.YtkajknidfoelcaaGreatDoorP03
import Derived.Test.YtkajknidfoelcaaGreatDoorP06
import Derived.Test.YtkajknidfoelcaaGreatDoorP08
import Derived.Test.YtkajknidfoelcaaGreatDoorP01
set_option linter.unusedVariables false
set_option linter.unusedSimpArgs false
set_option maxRecDepth 20000
set_option maxHeartbeats 8000000
namespace Go.Proofs.YtkajknidfoelcaaGreatDoor
open Go.RowKit
def WZg (s:WkS):Prop:=∀(a:Nat) x,s.st[a]?=some (some x)→GZ x.gs
theorem WZg.reach {s s':WkS} {t:Nat} {x:SD} (h:WZg s) (hx:GZ x.gs) (hr:reachW s t x=some s'):WZg s':=by
 unfold reachW at hr
 split at hr
 ·cases hr
  intro a y hy
  dsimp only at hy
  rw[List.getElem?_set]at hy
  split at hy
  ·split at hy
   ·cases hy;exact hx
   ·cases hy
  ·exact h a y hy
 ·split at hr
  ·cases hr;exact h
  ·cases hr
theorem WZg.lead {l:List (Nat × SD)} {s s':WkS} (h:WZg s) (hx:∀y∈l,GZ y.2.gs) (hr:leadW l s=.ok s'):WZg s':=by
 induction l generalizing s with
 | nil=>cases hr;exact h
 | cons y l ih =>
  unfold leadW at hr
  split at hr
  ·rename_i s1 h1
   exact ih (h.reach (hx y (by simp)) h1) (fun z hz=>hx z (List.mem_cons_of_mem _ hz)) hr
  ·cases hr
theorem behindV_gz {c:List FD} {n:ID} {x y:SD} (h:GZ x.gs) (hb:behindV c n x=.ok y):GZ y.gs:=by
 unfold behindV at hb
 split at hb
 ·cases hb
 ·split at hb
  ·cases hb
  ·rename_i gs hg
   split at hb
   ·cases hb;exact changeV_gz h hg
   ·cases hb
theorem followV_gz {n:ID} {a:Nat} {x y:SD} (hx:GZ x.gs) (hy:GZ y.gs):∀z∈followV n a x y,GZ z.2.gs:=by
 intro z hz
 unfold followV at hz
 rcases List.mem_append.1 hz with hz | hz
 ·split at hz
  ·simp at hz;subst hz;exact hy
  ·cases hz
 ·split at hz
  ·simp at hz
   subst hz
   dsimp only
   split
   ·exact hx
   ·split
    ·exact hx
    ·exact hy
  ·cases hz
theorem WZg.pass {c:List FD} {ins:List ID} {a:Nat} {s s':WkS} (h:WZg s) (hp:passW c ins a s=.ok s'):WZg s':=by
 unfold passW at hp
 split at hp
 ·cases hp
 ·rename_i x hx
  have hx':s.st[a]?=some (some x):=by
   rw[List.getD_eq_getElem?_getD]at hx
   cases hq:s.st[a]? with
   | none=>rw[hq]at hx;cases hx
   | some o=>rw[hq]at hx;simp at hx;rw[hx]
  split at hp
  ·cases hp
  ·rename_i y hy
   split at hp
   ·cases hp
   ·rename_i s1 h1
    cases hp
    exact WZg.lead (s:=⟨s.st,s.due.set a false⟩) (fun b z hz=>h b z hz) (followV_gz (h a x hx') (behindV_gz (h a x hx') hy)) h1
theorem WZg.start (d:FD):WZg (startS d):=by
 intro a x hx
 cases a with
 | zero=>simp[startS]at hx;subst hx;intro g hg;cases hg
 | succ a =>
  simp only[startS,List.getElem?_cons_succ,List.getElem?_replicate]at hx
  split at hx<;>cases hx
theorem R_same {E E':Nat→List Nat} (h:∀x y,y∈E x↔y∈E' x):∀ {n x y:Nat},TJ.RN E n x y→TJ.RN E' n x y
 | 0,x,y,hr=>hr
 | n+1,x,y,⟨z,h1,h2⟩=>⟨z,(h x z).1 h1,R_same h h2⟩
theorem Cyc_same {E E':Nat→List Nat} (h:∀x y,y∈E x↔y∈E' x) (x:Nat):TJ.Cyc E x↔TJ.Cyc E' x:=by
 constructor
 ·rintro ⟨y,h1,n,h2⟩;exact⟨y,(h x y).1 h1,n,R_same h h2⟩
 ·rintro ⟨y,h1,n,h2⟩;exact⟨y,(h x y).2 h1,n,R_same (fun x y=>(h x y).symm) h2⟩
def HpD (w:World) (B:Nat) (hv:Value) (due:List Bool):Prop:=∃l,HpV w B hv l∧(∀z,z∈l↔due[z]?=some true)∧l.length=due.countP (· == true)
theorem HpV.keep {w w':World} {B:Nat} {hv:Value} {l:List Nat} {S:List Nat} (h:HpV w B hv l) (hb:ButL S w w') (hS:∀g,hv.ownBlock=some g→g∉S):HpV w' B hv l:=⟨ORow.butn h.row hb hS,h.hp,h.nd⟩
theorem HpD.keep {w w':World} {B:Nat} {hv:Value} {due:List Bool} {S:List Nat} (h:HpD w B hv due) (hb:ButL S w w') (hS:∀g,hv.ownBlock=some g→g∉S):HpD w' B hv due:=by
 obtain⟨l,h1,h2⟩:=h
 exact⟨l,h1.keep hb hS,h2⟩
structure WlV (B gW gS nI p:Nat) (cv iv:Value) (wr:World) (zs:List SR) (hv:Value) (due:List Bool):Prop where
 blk:wr.heap[gW]?=some (.cells #[cv,.int .i64 p,iv,.slice (some ⟨gS,0,none⟩) nI nI,hv] 79)
 st:StA wr B gS zs
 hp:HpD wr B hv due
 ap:∀z∈zs,Apart z.tv hv
 len:zs.length=nI
 dul:due.length=nI
 g1:B≤gW
 g2:B≤gS
 base:B≤wr.heap.size
theorem WlV.cells {B gW gS nI p:Nat} {cv iv:Value} {wr:World} {zs:List SR} {hv:Value} {due:List Bool} (h:WlV B gW gS nI p cv iv wr zs hv due):wr.cell? ⟨gW,0,none⟩=some cv∧wr.cell? ⟨gW,1,none⟩=some (.int .i64 p)∧wr.cell? ⟨gW,2,none⟩=some iv∧wr.cell? ⟨gW,3,none⟩=some (.slice (some ⟨gS,0,none⟩) nI nI)∧wr.cell? ⟨gW,4,none⟩=some hv:=by
 refine⟨?_,?_,?_,?_,?_⟩<;>rw[blk_cell h.blk]<;>rfl
theorem OI.not_type {w:World} {B:Nat} {hv:Value} {l:List Int} (h:OI w B hv l) {g:Nat} (hg:hv.ownBlock=some g):∃cur,w.heap[g]?=some (.cells cur 3):=by
 rcases h.2 with ⟨e1,_⟩ | ⟨g0,c0,cur,e1,_,e3,_⟩
 ·rw[e1]at hg;cases hg
 ·rw[e1]at hg;cases hg;exact⟨cur,e3⟩
theorem WlV.noG {B gW gS nI p:Nat} {cv iv:Value} {wr:World} {zs:List SR} {hv:Value} {due:List Bool} (h:WlV B gW gS nI p cv iv wr zs hv due):∀g∈gW :: gS :: hv.ownBlock.toList,∀cur,wr.heap[g]?≠some (.cells cur 176):=by
 intro g hg cur e
 simp only[List.mem_cons,Option.mem_toList]at hg
 rcases hg with rfl | rfl | hg
 ·rw[h.blk]at e;cases e
 ·rw[h.st.blk]at e;cases e
 ·obtain⟨l,h1,_⟩:=h.hp
  obtain⟨cur',e'⟩:=h1.row.not_type hg
  rw[e']at e;cases e
theorem WlV.own {B gW gS nI p:Nat} {cv iv:Value} {wr:World} {zs:List SR} {hv:Value} {due:List Bool} (h:WlV B gW gS nI p cv iv wr zs hv due):∀g∈gW :: gS :: hv.ownBlock.toList,B≤g∧g<wr.heap.size:=by
 intro g hg
 simp only[List.mem_cons,Option.mem_toList]at hg
 rcases hg with rfl | rfl | hg
 ·exact⟨h.g1,blk_lt h.blk⟩
 ·exact⟨h.g2,blk_lt h.st.blk⟩
 ·obtain⟨l,h1,_⟩:=h.hp
  exact h1.row.own_lt hg
theorem SR.ok.butl {w w':World} {B:Nat} {z:SR} {S:List Nat} (h:z.ok w B) (hb:ButL S w w') (hS:∀g,z.tv.ownBlock=some g∨z.gv.ownBlock=some g→g∉S):z.ok w' B:=by
 unfold SR.ok at h ⊢
 split at h
 ·exact h
 ·exact⟨ORow.butn h.1 hb (fun g e=>hS g (.inl e)),ORow.butn h.2 hb (fun g e=>hS g (.inr e))⟩
theorem WlV.butl {B gW gS nI p:Nat} {cv iv:Value} {wr w':World} {zs:List SR} {hv:Value} {due:List Bool} {S:List Nat} (h:WlV B gW gS nI p cv iv wr zs hv due) (hb:ButL S wr w') (h1:gW∉S) (h2:gS∉S) (h3:∀g,hv.ownBlock=some g→g∉S) (h4:∀z∈zs,∀g,z.tv.ownBlock=some g∨z.gv.ownBlock=some g→g∉S):WlV B gW gS nI p cv iv w' zs hv due :=
 ⟨hb.blk h.blk h1,⟨hb.blk h.st.blk h2,fun z hz=>(h.st.ok z hz).butl hb (h4 z hz),h.st.ap⟩,h.hp.keep hb h3,h.ap,h.len,h.dul,h.g1,h.g2,Nat.le_trans h.base hb.size⟩
theorem WlV.later {B gW gS nI p:Nat} {cv iv:Value} {wr w':World} {zs:List SR} {hv:Value} {due:List Bool} (h:WlV B gW gS nI p cv iv wr zs hv due) (hb:Below wr.heap.size wr w'):WlV B gW gS nI p cv iv w' zs hv due :=
 h.butl (S:=[]) (ButL.of_below hb) (by simp) (by simp) (by simp) (by simp)
theorem WlV.row {B gW gS nI p:Nat} {cv iv:Value} {wr:World} {zs:List SR} {hv:Value} {due:List Bool} (h:WlV B gW gS nI p cv iv wr zs hv due) {t:Nat} {z:SR} (hz:zs[t]?=some z):wr.cell? ⟨gS,t*3,none⟩=some (.bool z.o.isSome)∧wr.cell? ⟨gS,t*3+1,none⟩=some z.tv∧wr.cell? ⟨gS,t*3+2,none⟩=some z.gv :=
 ⟨h.st.cell hz (j:=0) rfl,h.st.cell hz (j:=1) rfl,h.st.cell hz (j:=2) rfl⟩
def RcA (B gW gS nI p t:Nat) (cv iv hv:Value) (w:World) (o:Option WkS) (e:Ending) (w':World):Prop:=match o with
 | none=>e=.returned (EV (some (13,(p:Int),(t:Int))))
 | some s'=>e=.returned (EV none)∧∃zs' hv',WlV B gW gS nI p cv iv w' zs' hv' s'.due∧zs'.map SR.o=s'.st∧∀g,hv'.ownBlock=some g→hv.ownBlock=some g∨w.heap.size≤g
theorem spare1_any (kb:Nat) (k r:Int) (w:World) (c:w.cell? ⟨kb,0,none⟩=some (.int .i64 k)) :
  Calls Tryz.prog 154 #[.int .i64 r,.pointer (some ⟨kb,0,none⟩)] w fun e w'=>e=.returned (.bool (decide (r<k)))∧Below w.heap.size w w':=by
 go_enter Tryz.func154,Tryz.ntmps154
 go_wp2_with fail
 go_ret
 exact⟨rfl,Below.refl _ _⟩
theorem idxf_any (a:Option Addr) (len cap:Nat) (xs:List Int) (kb:Nat) (k:Int) (w:World) (hl:xs.length=len) (hp:SlA w 1 intC a xs) (hlen:len≤1048576) (hc:w.cell? ⟨kb,0,none⟩=some (.int .i64 k)) :
  Calls Tryz.prog 218 #[.slice a len cap,.func (.func 154) #[] #[.pointer (some ⟨kb,0,none⟩)]] w fun e w'=>(∃z:Int,e=.returned (.int .i64 z)∧(0≤z↔∃x∈xs,x<k))∧Below w.heap.size w w':=by
 have HP:Hid (SlA w 1 intC a xs):=hp
 have HL:Hid (xs.length=len):=hl
 have HC:Hid (w.cell? ⟨kb,0,none⟩=some (.int .i64 k)):=hc
 clear hp hl hc
 go_enter Tryz.func218,Tryz.ntmps218
 go_wp2_with fail
 go_loopw [8] (fun i wr=>∃m:Nat,m≤len∧i=.int .i64 m∧Hid (Below w.heap.size w wr)∧Hid (∀(j:Nat) z,j<m→xs[j]?=some z→k≤z)) (fun i _=>len-(intOf i).toNat)
 case atStart=>exact⟨0,Nat.zero_le _,rfl,Below.refl _ _,fun j z hj=>by omega⟩
 case round =>
  obtain⟨m,hm,rfl,HB,HF⟩:=hrel
  by_cases k1:m<len
  ·obtain⟨x,hx⟩:∃x,xs[m]?=some x:=⟨xs[m]'(by rw[HL.out];exact k1),by simp⟩
   obtain⟨b,off,rfl,hbl,hc⟩:=HP.out m x hx
   have c0:wr.cell? ⟨b,off+m,none⟩=some (.int .i64 x):=by have h:=cell_later HB.out (hc 0 _ rfl);simpa using h
   have HX:Hid (xs[m]?=some x):=hx
   clear hx hc
   go_wp2_with fail
   refine (spare1_any kb k x _ (cell_later HB.out HC.out)).mono ?_
   rintro e w1 ⟨rfl,hx⟩
   have HB1:Hid (Below w.heap.size w w1):=HB.out.trans (hx.mono HB.out.size)
   clear hx c0
   by_cases hv:x<k
   ·rw[decide_eq_true hv]
    go_wp2_with fail
    go_ret
    exact⟨⟨(m:Int),rfl,⟨fun _=>⟨x,List.mem_of_getElem? HX.out,hv⟩,fun _=>by omega⟩⟩,HB1.out⟩
   ·rw[decide_eq_false hv]
    go_wp2_with fail
    go_roundw
    case rel=>exact⟨m+1,by omega,by go_num,HB1,fun j z hj hz=>by
     by_cases e:j=m
     ·subst e;have h9:=HX.out;rw[h9]at hz;cases hz;omega
     ·exact HF.out j z (by omega) hz⟩
    case measure=>simp[intOf];omega
  ·go_wp2_with fail
   go_ret
   refine⟨⟨-1,rfl,⟨fun h=>by omega,fun h=>?_⟩⟩,HB.out⟩
   obtain⟨z,hz,hzk⟩:=h
   obtain⟨j,hj⟩:=List.getElem?_of_mem hz
   exact absurd hzk (Int.not_lt.2 <| HF.out j z (by have:=(List.getElem?_eq_some_iff.1 hj).1;have:=HL.out;omega) hj)
theorem contf_any (a:Option Addr) (len cap:Nat) (xs:List Int) (kb:Nat) (k:Int) (w:World) (hl:xs.length=len) (hp:SlA w 1 intC a xs) (hlen:len≤1048576) (hc:w.cell? ⟨kb,0,none⟩=some (.int .i64 k)) :
  Calls Tryz.prog 153 #[.slice a len cap,.func (.func 154) #[] #[.pointer (some ⟨kb,0,none⟩)]] w fun e w'=>(∃c:Bool,e=.returned (.bool c)∧(c=true↔∃x∈xs,x<k))∧Below w.heap.size w w':=by
 go_enter Tryz.func153,Tryz.ntmps153
 go_wp2_with fail
 refine (idxf_any a len cap xs kb k _ hl hp hlen hc).mono ?_
 rintro e w' ⟨⟨z,rfl,hz⟩,hb⟩
 have HZ:Hid (0≤z↔∃x∈xs,x<k):=hz
 clear hz hc
 go_wp2_with fail
 go_ret
 refine⟨⟨decide (0≤z),ret_bo ?_,?_⟩,hb⟩
 ·rfl
 ·rw[decide_eq_true_iff];exact HZ.out
def Dq (d:Bool) (xs:List Int) (k:Int):Prop:=d=true↔∃x∈xs,x<k
theorem contf_v {a:Option Addr} {len cap:Nat} {xs:List Int} {kb:Nat} {k:Int} {w:World} {d:Bool} (hl:xs.length=len) (hp:SlA w 1 intC a xs) (hlen:len≤1048576) (hc:w.cell? ⟨kb,0,none⟩=some (.int .i64 k)) (hd:Dq d xs k) :
  Calls Tryz.prog 153 #[.slice a len cap,.func (.func 154) #[] #[.pointer (some ⟨kb,0,none⟩)]] w fun e w'=>e=.returned (.bool d)∧Below w.heap.size w w':=by
 refine (contf_any a len cap xs kb k w hl hp hlen hc).mono ?_
 rintro e w' ⟨⟨c,rfl,h⟩,hb⟩
 have e:c=d:=by rw[Bool.eq_iff_iff,h];exact hd.symm
 exact⟨by rw[e],hb⟩
theorem equal_v {a a':Option Addr} {n n' c c':Nat} {xs ys:List Int} {w:World} {d:Bool} (hn:xs.length=n) (hn':ys.length=n') (h1:SlA w 1 intC a xs) (h2:SlA w 1 intC a' ys) (ln:n≤1048576) (hd:all2 (· == ·) xs ys=d) :
  Calls Tryz.prog 65 #[.slice a n c,.slice a' n' c'] w fun e w'=>e=.returned (.bool d)∧Below w.heap.size w w':=by
 have h:=equal_int a a' n n' c c' xs ys w hn hn' h1 h2 ln
 rw[hd]at h
 exact h
theorem all2_beq (xs ys:List Int):all2 (· == ·) xs ys=(xs == ys):=by
 rw[Bool.eq_iff_iff,all2_iff (fun _ _=>beq_iff_eq),beq_iff_eq]
theorem mkf (fn:Fn) (first cap:Array Value) (w:World):(Instr.makeFunc fn first cap).run Tryz.prog w=.ok (.func fn first cap) w:=rfl
theorem OI.cap {w:World} {B:Nat} {a:Option Addr} {n c:Nat} {ts:List Int} (h:OI w B (.slice a n c) ts):n≤c:=by
 rcases h.2 with ⟨e,e2⟩ | ⟨g,c',cur,e,_,_,h4,_⟩
 ·cases e;omega
 ·cases e;exact h4
theorem spares_any (W0:World) (S:List Nat) (B gF:Nat) (tv:Value) (w:World) (sv kv:Value) (s:RdS) (k:Nat) (aa:Option Addr) (ca:Nat) (ts:List Int) (h:FrV W0 S B gF tv w sv kv s) (hsl:SlA w 1 intC aa ts) (hlt:s.ts.length=ts.length) (hk:k≤ts.length) (hl:ts.length≤250) (hkt:s.taken.length≤1000) (hca:ts.length≤ca) :
  Calls Tryz.prog 71 #[.pointer (some ⟨gF,0,none⟩),.int .i64 k,.slice aa ts.length ca] w fun e w'=>e=.returned (.bool ((s.taken.all fun r=>decide (k≤r)) && s.ts.take k == ts.take k))∧Below w.heap.size w w':=by
 have hy:=bw1 w (.cells #[.int .i64 (k:Int)] 3)
 obtain⟨f0,f1,f2⟩:=(h.later hy).cells
 obtain⟨ak,ck,rfl,hsk⟩:=h.ot.lies (fun y=>intC_len y)
 obtain⟨at1,ct,rfl,hst⟩:=h.ty.lies (fun y=>intC_len y)
 have HSK:Hid (SlA (w.alloc (.cells #[.int .i64 (k:Int)] 3)) 1 intC ak (nz s.taken)):=hsk.later hy
 have HS:Hid (SlA (w.alloc (.cells #[.int .i64 (k:Int)] 3)) 1 intC aa (ts.take k)):=(hsl.later hy).take k
 have HT:Hid (SlA (w.alloc (.cells #[.int .i64 (k:Int)] 3)) 1 intC at1 (s.ts.take k)):=(hst.later hy).take k
 have b1:k≤ct:=by have:=h.ty.cap;omega
 have b2:k≤ca:=by omega
 have kb:(w.alloc (.cells #[.int .i64 (k:Int)] 3)).cell? ⟨w.heap.size,0,none⟩=some (.int .i64 (k:Int)):=by rw[blk_cell (blk_new _ _)];rfl
 have HL1:Hid ((nz s.taken).length≤1048576):=by show _≤_;rw[nz_len];omega
 have HL2:Hid ((s.ts.take k).length=k):=by show _=_;simp;omega
 have HL3:Hid ((ts.take k).length=k):=by show _=_;simp;omega
 obtain⟨d1,hd1⟩:∃d1:Bool,d1=true↔∃x∈nz s.taken,x<(k:Int):=⟨decide (∃x∈nz s.taken,x<(k:Int)),by simp⟩
 have HD1:Hid (Dq d1 (nz s.taken) (k:Int)):=hd1
 obtain⟨d2,hd2⟩:∃d2,all2 (· == ·) (s.ts.take k) (ts.take k)=d2:=⟨_,rfl⟩
 have HD2:Hid (all2 (· == ·) (s.ts.take k) (ts.take k)=d2):=hd2
 have HR:Hid (((s.taken.all fun r=>decide (k≤r)) && s.ts.take k == ts.take k)=(!d1 && d2)):=by
  show _=_
  rw[←hd2,all2_beq]
  congr 1
  rw[Bool.eq_iff_iff,List.all_eq_true,Bool.not_eq_true',←Bool.not_eq_true,hd1]
  constructor
  ·rintro h9 ⟨x,hx,hxk⟩
   simp only[nz,List.mem_map]at hx
   obtain⟨y,hy,rfl⟩:=hx
   have:=h9 y hy
   simp at this
   omega
  ·intro h9 y hy
   simp only[decide_eq_true_eq]
   apply Classical.byContradiction
   intro hq
   exact h9 ⟨(y:Int),by simp only[nz,List.mem_map];exact⟨y,hy,rfl⟩,by omega⟩
 rw[HR.out]
 have hmf:=mkf
 obtain⟨W1,hW1⟩:∃W1,w.alloc (.cells #[.int .i64 (k:Int)] 3)=W1:=⟨_,rfl⟩
 rw[hW1]at f0 f1 f2 HSK HS HT kb hy
 have HY:Hid (Below w.heap.size w W1):=hy
 clear hsl h hsk hst hd1 hd2 hy
 cases d1<;>cases d2
 all_goals
  go_enter Tryz.func71,Tryz.ntmps71
  go_wp2_with fail
  clear hW1
  have e0:=lat_cell f0
  have e1:=lat_cell f1
  have e2:=lat_cell f2
  have ek:=lat_cell kb
  clear f0 f1 f2
  haveI:=lat_some W1
  refine wp_region_lat (by kernel_rfl) (by kernel_rfl) ?_
  repeat (go_big_quiet_step (first
   | (go_at_call 153;exact lat_calls (contf_v rfl (HSK.out.later (Lat.below _)) HL1.out (lat_cell kb _) HD1.out))
   | (go_at_call 65;exact lat_calls (equal_v HL2.out HL3.out (HT.out.later (Lat.below _)) (HS.out.later (Lat.below _)) (by omega) HD2.out))))
  refine wpQuiet_nil ?_
  rintro _ ⟨nq,rfl⟩
  go_wp2_with fail
  go_ret
  exact⟨rfl,HY.out.trans (nq.below.mono HY.out.size)⟩
theorem equal_g {a a':Option Addr} {n n' c c':Nat} {xs ys:List GD} {w:World} {d:Bool} (hn:xs.length=n) (hn':ys.length=n') (h1:SlA w 3 GD.cells a xs) (h2:SlA w 3 GD.cells a' ys) (ln:n≤1048576) (hd:all2 gEq xs ys=d) :
  Calls Tryz.prog 66 #[.slice a n c,.slice a' n' c'] w fun e w'=>e=.returned (.bool d)∧Below w.heap.size w w':=by
 have h:=equal_gd a a' n n' c c' xs ys w hn hn' h1 h2 ln
 rw[hd]at h
 exact h
abbrev StB (b:Bool) (tv gv:Value):Obj:=.cells #[.bool b,tv,gv] 122
theorem reach_old (B gW gS nI p t:Nat) (cv iv hv:Value) (zs:List SR) (due:List Bool) (w:World) (rb:Bool) (tv gv:Value) (x y:SD) (z:SR) (h:WlV B gW gS nI p cv iv w zs hv due) (ht:t<nI) (hz:zs[t]?=some z) (hy:z.o=some y) (hn:nI≤6000) (hT:OI w B tv x.ts) (hG:GA w gv x.gs) (hl:y.ts.length≤250) (hg:y.gs.length≤50) :
  Calls Tryz.prog 36 #[.pointer (some ⟨gW,0,none⟩),.int .i64 t,.agg #[.bool rb,tv,gv]] w fun e w'=>RcA B gW gS nI p t cv iv hv w (if sEq y x=true then some ⟨zs.map SR.o,due⟩ else none) e w'∧ButL (gW :: gS :: hv.ownBlock.toList) w w':=by
 have HW:Hid (WlV B gW gS nI p cv iv w zs hv due):=h
 have hok:=h.st.ok z (List.mem_of_getElem? hz)
 unfold SR.ok at hok
 rw[hy]at hok
 obtain⟨at1,ct1,e1,s1⟩:=ORow.lies hok.1 (fun y=>intC_len y)
 obtain⟨ag1,cg1,e2,s2⟩:=ORow.lies hok.2 GD.len
 obtain⟨at2,ct2,rfl,s3⟩:=ORow.lies hT (fun y=>intC_len y)
 obtain⟨ag2,cg2,rfl,_,s4,_⟩:=hG
 have H1:Hid (SlA w 1 intC at1 y.ts):=s1
 have H2:Hid (SlA w 3 GD.cells ag1 y.gs):=s2
 have H3:Hid (SlA w 1 intC at2 x.ts):=s3
 have H4:Hid (SlA w 3 GD.cells ag2 x.gs):=s4
 have hyb:=bw1 w (StB rb (.slice at2 x.ts.length ct2) (.slice ag2 x.gs.length cg2))
 obtain⟨c0,c1,c2,c3,c4⟩:=(h.later hyb).cells
 obtain⟨r0,r1,r2⟩:=(h.later hyb).row hz
 rw[hy]at r0
 rw[e1]at r1
 rw[e2]at r2
 clear h hok s1 s2 s3 s4 hT c0 c2 c4 hz hy e1 e2 hyb
 cases ht1:all2 (· == ·) y.ts x.ts
 ·have HS:Hid (sEq y x=false):=by show sEq y x=false;unfold sEq;rw[ht1];rfl
  rw[HS.out]
  simp only[Bool.false_eq_true,if_false]
  go_enter Tryz.func36,Tryz.ntmps36
  go_wp2_with (first
   | (go_at_call 65;refine (equal_v rfl rfl (H1.out.later (bw2 _ _ _)) (H3.out.later (bw2 _ _ _)) (by omega) ht1).mono ?_;rintro e w1 ⟨rfl,hb1⟩;have HB1:Hid (Below w.heap.size w w1):=(bw2 _ _ _).trans (hb1.mono (by simp;omega));have q1:w1.cell? ⟨gW,1,none⟩=some (.int .i64 p):=(HW.out.later HB1.out).cells.2.1;have u2:w1.cell? ⟨w.heap.size,2,none⟩=some (.slice ag2 x.gs.length cg2):=(by rw[blk_cell (blk_later hb1 (blk_old (blk_new _ _) _))];rfl);have u3:w1.cell? ⟨w.heap.size+1,2,none⟩=some (.slice ag1 y.gs.length cg1):=(by rw[blk_cell (blk_later hb1 (blk_newn (by simp) _))];rfl);clear hb1)
   | (go_at_call 30;refine (fat_any _ _ _ _).mono ?_;rintro e w9 ⟨rfl,rfl⟩))
  go_ret
  exact⟨rfl,ButL.of_below HB1.out⟩
 ·cases ht2:all2 gEq y.gs x.gs
  ·have HS:Hid (sEq y x=false):=by show sEq y x=false;unfold sEq;rw[ht1,ht2];rfl
   rw[HS.out]
   simp only[Bool.false_eq_true,if_false]
   go_enter Tryz.func36,Tryz.ntmps36
   go_wp2_with (first
    | (go_at_call 65;refine (equal_v rfl rfl (H1.out.later (bw2 _ _ _)) (H3.out.later (bw2 _ _ _)) (by omega) ht1).mono ?_;rintro e w1 ⟨rfl,hb1⟩;have HB1:Hid (Below w.heap.size w w1):=(bw2 _ _ _).trans (hb1.mono (by simp;omega));have q1:w1.cell? ⟨gW,1,none⟩=some (.int .i64 p):=(HW.out.later HB1.out).cells.2.1;have u2:w1.cell? ⟨w.heap.size,2,none⟩=some (.slice ag2 x.gs.length cg2):=(by rw[blk_cell (blk_later hb1 (blk_old (blk_new _ _) _))];rfl);have u3:w1.cell? ⟨w.heap.size+1,2,none⟩=some (.slice ag1 y.gs.length cg1):=(by rw[blk_cell (blk_later hb1 (blk_newn (by simp) _))];rfl);clear hb1)
    | (go_at_call 66;refine (equal_g rfl rfl (H2.out.later HB1.out) (H4.out.later HB1.out) (by omega) ht2).mono ?_;rintro e w2 ⟨rfl,hb2⟩;have HB2:Hid (Below w.heap.size w w2):=HB1.out.trans (hb2.mono HB1.out.size);have q2:w2.cell? ⟨gW,1,none⟩=some (.int .i64 p):=cell_later hb2 q1;clear hb2)
    | (go_at_call 30;refine (fat_any _ _ _ _).mono ?_;rintro e w9 ⟨rfl,rfl⟩))
   go_ret
   exact⟨rfl,ButL.of_below HB2.out⟩
  ·have HS:Hid (sEq y x=true):=by show sEq y x=true;unfold sEq;rw[ht1,ht2];rfl
   rw[HS.out]
   simp only[if_true]
   go_enter Tryz.func36,Tryz.ntmps36
   go_wp2_with (first
    | (go_at_call 65;refine (equal_v rfl rfl (H1.out.later (bw2 _ _ _)) (H3.out.later (bw2 _ _ _)) (by omega) ht1).mono ?_;rintro e w1 ⟨rfl,hb1⟩;have HB1:Hid (Below w.heap.size w w1):=(bw2 _ _ _).trans (hb1.mono (by simp;omega));have q1:w1.cell? ⟨gW,1,none⟩=some (.int .i64 p):=(HW.out.later HB1.out).cells.2.1;have u2:w1.cell? ⟨w.heap.size,2,none⟩=some (.slice ag2 x.gs.length cg2):=(by rw[blk_cell (blk_later hb1 (blk_old (blk_new _ _) _))];rfl);have u3:w1.cell? ⟨w.heap.size+1,2,none⟩=some (.slice ag1 y.gs.length cg1):=(by rw[blk_cell (blk_later hb1 (blk_newn (by simp) _))];rfl);clear hb1)
    | (go_at_call 66;refine (equal_g rfl rfl (H2.out.later HB1.out) (H4.out.later HB1.out) (by omega) ht2).mono ?_;rintro e w2 ⟨rfl,hb2⟩;have HB2:Hid (Below w.heap.size w w2):=HB1.out.trans (hb2.mono HB1.out.size);have q2:w2.cell? ⟨gW,1,none⟩=some (.int .i64 p):=cell_later hb2 q1;clear hb2)
    | (go_at_call 30;refine (fat_any _ _ _ _).mono ?_;rintro e w9 ⟨rfl,rfl⟩))
   go_ret
   exact⟨⟨rfl,zs,hv,HW.out.later HB2.out,rfl,fun g e=>.inl e⟩,ButL.of_below HB2.out⟩
theorem SR.ok.lt {w:World} {B:Nat} {z:SR} (h:z.ok w B) {g:Nat} (hg:z.tv.ownBlock=some g∨z.gv.ownBlock=some g):B≤g∧g<w.heap.size:=by
 unfold SR.ok at h
 split at h
 ·rw[h.1,h.2]at hg
  rcases hg with hg | hg<;>cases hg
 ·rcases hg with hg | hg
  ·exact h.1.own_lt hg
  ·exact h.2.own_lt hg
theorem ORow.ty {α:Type} {w:World} {B:Nat} {et:TypeId} {k:Nat} {cells:α→List Value} {sv:Value} {xs:List α} (h:ORow w B et k cells sv xs) {g:Nat} (hg:sv.ownBlock=some g):∃cur,w.heap[g]?=some (.cells cur et):=by
 rcases h.2 with ⟨e1,_⟩ | ⟨g0,c0,cur,e1,_,e3,_⟩
 ·rw[e1]at hg;cases hg
 ·rw[e1]at hg;cases hg;exact⟨cur,e3⟩
theorem SR.ok.tt {w:World} {B:Nat} {z:SR} (h:z.ok w B) {g:Nat} (hg:z.tv.ownBlock=some g):∃cur,w.heap[g]?=some (.cells cur 3):=by
 unfold SR.ok at h
 split at h
 ·rw[h.1]at hg;cases hg
 ·exact h.1.ty hg
theorem SR.ok.tg {w:World} {B:Nat} {z:SR} (h:z.ok w B) {g:Nat} (hg:z.gv.ownBlock=some g):∃cur,w.heap[g]?=some (.cells cur 176):=by
 unfold SR.ok at h
 split at h
 ·rw[h.2]at hg;cases hg
 ·exact h.2.ty hg
theorem HpD.set_own {w:World} {B g:Nat} {hv:Value} {due:List Bool} (h:HpD w B hv due) (hg:hv.ownBlock≠some g) (j:Nat) (v:Value):HpD (w.setCell ⟨g,j,none⟩ v) B hv due:=by
 obtain⟨l,h1,h2⟩:=h
 exact⟨l,⟨ORow.set_own h1.row hg j v,h1.hp,h1.nd⟩,h2⟩
theorem HpD.ty {w:World} {B g:Nat} {hv:Value} {due:List Bool} (h:HpD w B hv due) (hg:hv.ownBlock=some g):∃cur,w.heap[g]?=some (.cells cur 3):=by
 obtain⟨l,h1,h2⟩:=h
 exact h1.row.not_type hg
theorem WlV.ne {B gW gS nI p:Nat} {cv iv:Value} {wr:World} {zs:List SR} {hv:Value} {due:List Bool} (h:WlV B gW gS nI p cv iv wr zs hv due):gS≠gW∧hv.ownBlock≠some gS∧hv.ownBlock≠some gW:=by
 refine⟨?_,?_,?_⟩
 ·intro e
  have h1:=h.blk
  rw[←e,h.st.blk]at h1
  injection h1 with h1
  injection h1 with _ h2
  exact absurd h2 (by decide)
 ·intro e
  obtain⟨cur,e1⟩:=h.hp.ty e
  rw[h.st.blk]at e1;cases e1
 ·intro e
  obtain⟨cur,e1⟩:=h.hp.ty e
  rw[h.blk]at e1;cases e1
theorem WlV.put {B gW gS nI p t:Nat} {cv iv:Value} {w2 wj:World} {zs:List SR} {hv:Value} {due:List Bool} {x:SD} {tv gv:Value} (h:WlV B gW gS nI p cv iv w2 zs hv due) (hb:Below w2.heap.size w2 wj) (ht:t<nI) (h1:ORow wj w2.heap.size 3 1 intC tv x.ts) (h2:ORow wj w2.heap.size 176 3 GD.cells gv x.gs) :
  WlV B gW gS nI p cv iv (((wj.setCell ⟨gS,t*3,none⟩ (.bool true)).setCell ⟨gS,t*3+1,none⟩ tv).setCell ⟨gS,t*3+2,none⟩ gv) (zs.set t ⟨some x,tv,gv⟩) hv due:=by
 have hl:=h.later hb
 obtain⟨n1,n2,n3⟩:=h.ne
 have ap:∀ {a b:Value},(∀g,a.ownBlock=some g→g<w2.heap.size)→(∀g,b.ownBlock=some g→w2.heap.size≤g)→Apart a b:=fun h1 h2 g e e'=>by have:=h1 g e;have:=h2 g e';omega
 have l1:∀g,tv.ownBlock=some g→w2.heap.size≤g:=fun g e=>(h1.own_lt e).1
 have l2:∀g,gv.ownBlock=some g→w2.heap.size≤g:=fun g e=>(h2.own_lt e).1
 have old:∀y∈zs,∀g,(y.tv.ownBlock=some g∨y.gv.ownBlock=some g)→g<w2.heap.size:=fun y hy g e=>((h.st.ok y hy).lt e).2
 have hst:=StA.put hl.st (i:=t) (z:=⟨some x,tv,gv⟩) (by rw[h.len];exact ht) ⟨h1.mono h.base,h2.mono h.base⟩ (fun j y hj hy=>⟨ap (fun g e=>old y (List.mem_of_getElem? hy) g (.inl e)) l1,ap (fun g e=>old y (List.mem_of_getElem? hy) g (.inr e)) l2⟩)
 refine⟨blk_other (blk_other (blk_other hl.blk n1 _ _) n1 _ _) n1 _ _,hst,HpD.set_own (HpD.set_own (HpD.set_own hl.hp n2 _ _) n2 _ _) n2 _ _,fun z hz=>?_,by simpa using h.len,h.dul,h.g1,h.g2,by simpa using hl.base⟩
 rcases List.mem_or_eq_of_mem_set hz with hz | rfl
 ·exact h.ap z hz
 ·refine Apart.symm (ap (fun g e=>?_) l1)
  obtain⟨l,q,_⟩:=h.hp
  exact (q.row.own_lt e).2
theorem StA.butl {w w':World} {B gS:Nat} {zs:List SR} {S:List Nat} (h:StA w B gS zs) (hb:ButL S w w') (h2:gS∉S) (h4:∀z∈zs,∀g,z.tv.ownBlock=some g∨z.gv.ownBlock=some g→g∉S):StA w' B gS zs :=
 ⟨hb.blk h.blk h2,fun z hz=>(h.ok z hz).butl hb (h4 z hz),h.ap⟩
theorem WlV.heaped {B gW gS nI p:Nat} {cv iv:Value} {w w':World} {zs:List SR} {hv hv':Value} {due due':List Bool} (h:WlV B gW gS nI p cv iv w zs hv due) (hb:ButL (gW :: hv.ownBlock.toList) w w') (hblk:w'.heap[gW]?=some (.cells #[cv,.int .i64 p,iv,.slice (some ⟨gS,0,none⟩) nI nI,hv'] 79)) (hp:HpD w' B hv' due') (hl:due'.length=nI) (ho:∀g,hv'.ownBlock=some g→hv.ownBlock=some g∨w.heap.size≤g):WlV B gW gS nI p cv iv w' zs hv' due':=by
 obtain⟨n1,n2,n3⟩:=h.ne
 have hno:=h.noG
 refine⟨hblk,h.st.butl hb ?_ ?_,hp,?_,h.len,hl,h.g1,h.g2,Nat.le_trans h.base hb.size⟩
 ·simp only[List.mem_cons,Option.mem_toList]
  rintro (e | e)
  ·exact n1 e
  ·exact n2 e
 ·intro z hz g hg hm
  rcases hg with hg | hg
  ·simp only[List.mem_cons,Option.mem_toList]at hm
   rcases hm with e | e
   ·obtain⟨cur,e1⟩:=(h.st.ok z hz).tt hg
    rw[e,h.blk]at e1;cases e1
   ·exact h.ap z hz g hg e
  ·obtain⟨cur,e1⟩:=(h.st.ok z hz).tg hg
   refine hno g ?_ cur e1
   simp only[List.mem_cons]at hm ⊢
   rcases hm with e | e
   ·exact .inl e
   ·exact .inr (.inr e)
 ·intro z hz g hg e
  rcases ho g e with q | q
  ·exact h.ap z hz g hg q
  ·have:=((h.st.ok z hz).lt (.inl hg)).2
   omega
theorem due_push {due:List Bool} {t:Nat} {l l':List Nat} (h:due[t]?=some false) (h1:∀z,z∈l↔due[z]?=some true) (h2:l.length=due.countP (· == true)) (m:∀z,z∈l'↔z=t∨z∈l) (hl:l'.length=l.length+1):(∀z,z∈l'↔(due.set t true)[z]?=some true)∧l'.length=(due.set t true).countP (· == true):=by
 have hlt:=(List.getElem?_eq_some_iff.1 h).1
 refine⟨fun z=>?_,?_⟩
 ·rw[m,List.getElem?_set,h1]
  by_cases e:t=z
  ·subst e;simp[hlt]
  ·rw[if_neg e]
   constructor
   ·rintro (q | q)
    ·exact absurd q.symm e
    ·exact q
   ·exact .inr
 ·have:=countP_set (· == true) due t true false h
  simp at this
  rw[hl,h2]
  simp
  omega
theorem due_pop {due:List Bool} {t:Nat} {l l':List Nat} (h:due[t]?=some true) (h1:∀z,z∈l↔due[z]?=some true) (h2:l.length=due.countP (· == true)) (m:∀z,z∈l'↔z≠t∧z∈l) (hl:l'.length+1=l.length):(∀z,z∈l'↔(due.set t false)[z]?=some true)∧l'.length=(due.set t false).countP (· == true):=by
 have hlt:=(List.getElem?_eq_some_iff.1 h).1
 refine⟨fun z=>?_,?_⟩
 ·rw[m,List.getElem?_set,h1]
  by_cases e:t=z
  ·subst e;simp[hlt]
  ·rw[if_neg e]
   constructor
   ·exact fun q=>q.2
   ·exact fun q=>⟨fun e'=>e e'.symm,q⟩
 ·have:=countP_set (· == true) due t false true h
  simp only[beq_self_eq_true,if_true]at this
  have e9:(if ((false:Bool) == true)=true then 1 else 0)=0:=rfl
  rw[e9]at this
  omega
structure R45 (W2:World) (gW gS xb nI t:Nat) (at2 ag2:Option Addr) (ct2 cg2:Nat) (x:SD) (w':World) (b0 b1 b2 b3 b4 b5 b6 b7 b8 b9 b10 b11:Bool) (x0 x1 x2 x3 x4 x5 x6 x7 x8 x9 x10 x11:Value):Prop where
 hb:Below W2.heap.size W2 w'
 h0:b0=true→x0=.pointer (some ⟨gW,0,none⟩)
 h1:b1=true→x1=.pointer (some ⟨gW,0,none⟩)
 h2:b2=true→x2=.pointer (some ⟨gW,3,none⟩)
 h3:b3=true→x3=.slice (some ⟨gS,0,none⟩) nI nI
 h4:b4=true→x4=.int .i64 (t:Int)
 h5:b5=true→x5=.pointer (some ⟨xb,1,none⟩)
 h6:b6=true→x6=.slice at2 x.ts.length ct2
 h7:b7=true→∃a c,x7=.slice a x.ts.length c∧ORow w' W2.heap.size 3 1 intC (.slice a x.ts.length c) x.ts
 h8:b8=true→x8=.pointer (some ⟨xb,2,none⟩)
 h9:b9=true→x9=.slice ag2 x.gs.length cg2
 h10:b10=true→∃a c,x10=.slice a x.gs.length c∧ORow w' W2.heap.size 176 3 GD.cells (.slice a x.gs.length c) x.gs
 h11:b11=true→b7=true∧b10=true∧x11=.agg #[.bool true,x7,x10]
theorem R45.later {W2:World} {gW gS xb nI t:Nat} {at2 ag2:Option Addr} {ct2 cg2:Nat} {x:SD} {w' w2:World} {b0 b1 b2 b3 b4 b5 b6 b7 b8 b9 b10 b11:Bool} {x0 x1 x2 x3 x4 x5 x6 x7 x8 x9 x10 x11:Value} (h:R45 W2 gW gS xb nI t at2 ag2 ct2 cg2 x w' b0 b1 b2 b3 b4 b5 b6 b7 b8 b9 b10 b11 x0 x1 x2 x3 x4 x5 x6 x7 x8 x9 x10 x11) (hx:Below w'.heap.size w' w2):R45 W2 gW gS xb nI t at2 ag2 ct2 cg2 x w2 b0 b1 b2 b3 b4 b5 b6 b7 b8 b9 b10 b11 x0 x1 x2 x3 x4 x5 x6 x7 x8 x9 x10 x11 :=
 { h with
  hb:=h.hb.trans (hx.mono h.hb.size)
  h7:=fun e=>by obtain⟨a,c,e1,e2⟩:=h.h7 e;exact⟨a,c,e1,e2.later hx⟩
  h10:=fun e=>by obtain⟨a,c,e1,e2⟩:=h.h10 e;exact⟨a,c,e1,e2.later hx⟩ }
end Go.Proofs.YtkajknidfoelcaaGreatDoor
