import Derived.Test.YtjglgbepobmjhaaGreatDoorP02
import Derived.LoopN
set_option linter.unusedVariables false
set_option linter.unusedSimpArgs false
set_option maxRecDepth 20000
set_option maxHeartbeats 8000000
namespace Go.Proofs.YtjglgbepobmjhaaGreatDoor
open Go.RowKit
def TyAt (w:World) (g cap:Nat) (ts:List Int):Prop:=∃cur:Array Value,w.heap[g]?=some (.cells cur 3)∧ts.length≤cap∧cur.size=cap∧∀i,i<ts.length→cur[i]?=some (.int .i64 (ts.getD i 0))
theorem TyAt.cell {w:World} {g cap:Nat} {ts:List Int} (h:TyAt w g cap ts) {i:Nat} (hi:i<ts.length):w.cell? ⟨g,i,none⟩=some (.int .i64 (ts.getD i 0)):=by
 obtain⟨cur,h1,_,_,h2⟩:=h
 rw[blk_cell h1];exact h2 i hi
theorem TyAt.froz {w:World} {g cap:Nat} {ts:List Int} (h:TyAt w g cap ts) (i:Nat):w.frozen? ⟨g,i,none⟩=false:=by
 obtain⟨cur,h1,_⟩:=h
 exact blk_frozen h1 i
theorem TyAt.lt {w:World} {g cap:Nat} {ts:List Int} (h:TyAt w g cap ts):g<w.heap.size:=by
 obtain⟨cur,h1,_⟩:=h
 exact blk_lt h1
theorem TyAt.later {w wx:World} {g cap:Nat} {ts:List Int} (hb:Below w.heap.size w wx) (h:TyAt w g cap ts):TyAt wx g cap ts:=by
 obtain⟨cur,h1,h2⟩:=h
 exact⟨cur,blk_later hb h1,h2⟩
theorem TyAt.set {w:World} {g cap:Nat} {ts:List Int} (h:TyAt w g cap ts) (i:Nat) (z:Int):TyAt (w.setCell ⟨g,i,none⟩ (.int .i64 z)) g cap (ts.set i z):=by
 obtain⟨cur,h1,h2,h3,h4⟩:=h
 refine⟨cur.setIfInBounds i (.int .i64 z),blk_set h1 i _,by rw[List.length_set];exact h2,by simpa using h3,fun j hj=>?_⟩
 rw[List.length_set]at hj
 rw[Array.getElem?_setIfInBounds]
 by_cases hij:i=j
 ·subst hij
  rw[if_pos rfl,if_pos (by omega),List.getD_eq_getElem?_getD,List.getElem?_set_self hj];rfl
 ·rw[if_neg hij,h4 j hj,List.getD_eq_getElem?_getD,List.getD_eq_getElem?_getD,List.getElem?_set_ne hij]
theorem TyAt.other {w:World} {g cap k:Nat} {ts:List Int} (h:TyAt w g cap ts) (hk:k≠g) (j:Nat) (v:Value):TyAt (w.setCell ⟨k,j,none⟩ v) g cap ts:=by
 obtain⟨cur,h1,h2⟩:=h
 exact⟨cur,blk_other h1 hk j v,h2⟩
structure But (g:Nat) (w w':World):Prop where
 os:w'.os=w.os
 tape:w'.tape=w.tape
 output:w'.output=w.output
 size:w.heap.size≤w'.heap.size
 block:∀k,k<w.heap.size→k≠g→w'.heap[k]?=w.heap[k]?
theorem But.of_below {g:Nat} {w w':World} (h:Below w.heap.size w w'):But g w w':=⟨h.os,h.tape,h.output,h.size,fun k hk _=>h.block k hk⟩
theorem But.set {g:Nat} {w w':World} (h:But g w w') (j:Nat) (v:Value):But g w (w'.setCell ⟨g,j,none⟩ v) :=
 ⟨h.os,h.tape,h.output,by simpa using h.size,fun k hk hg=>by rw[Below.heap_setCell _ _ _ _ (by simpa using hg)];exact h.block k hk hg⟩
theorem But.alloc {g:Nat} {w w':World} (h:But g w w') (o:Obj):But g w (w'.alloc o) :=
 ⟨h.os,h.tape,h.output,by have:=h.size;simp;omega,fun k hk hg=>by have hs:=h.size;show (w'.heap.push o)[k]?=_;rw[Array.getElem?_push,if_neg (by omega)];exact h.block k hk hg⟩
theorem But.below {g B:Nat} {w0 w w':World} (h0:Below B w0 w) (h:But g w w') (hB:B≤g) (hs:B≤w.heap.size):Below B w0 w' :=
 ⟨h.os.trans h0.os,h.tape.trans h0.tape,h.output.trans h0.output,Nat.le_trans h0.size h.size,fun k hk=>(h.block k (by omega) (by omega)).trans (h0.block k hk)⟩
theorem app_where (st et:TypeId) (k by':Nat) (hu:Tryz.prog.underlying st=some (.slice et)) (hc:(Tryz.prog.info? et).map (fun i=>(i.zero.map (fun z=>z.cells.size),i.size,i.bytes))=some (some k,k,by')) (hk:0<k) (hby:by'≤1000)
  (base:Nat) (w:World) (sv:Value) (n:Nat) (xs news:List Value) (nb:Nat) (ty:TypeId) (ho:w.ownsRow base et k sv n xs) (hn:w.heap[nb]?=some (.cells news.toArray et)) (hl:news.length=k) (h1:∀u∈news,u.oneCell'=true) (hlen:n≤2000000)
  {g' n' cap':Nat} {w':World} (hr:(Builtin.append_ #[st,st] ty #[sv,.slice (some ⟨nb,0,none⟩) 1 1]).run Tryz.prog w=.ok (.slice (some ⟨g',0,none⟩) n' cap') w'):some g'=sv.ownBlock∨g'=w.heap.size:=by
 obtain⟨i,z,hi,hz,e1,e2,e3⟩:∃(i:TypeInfo) (z:Value),Tryz.prog.info? et=some i∧i.zero=some z∧i.size=k∧i.bytes=by'∧z.cells.size=k:=by
  cases hi:Tryz.prog.info? et with
  | none=>rw[hi]at hc;cases hc
  | some i =>
   rw[hi]at hc
   simp only[Option.map_some,Option.some.injEq,Prod.mk.injEq]at hc
   obtain⟨h1,h2,h3⟩:=hc
   cases hz:i.zero with
   | none=>rw[hz]at h1;cases h1
   | some z=>rw[hz]at h1;simp at h1;exact⟨i,z,rfl,hz,h2,h3,h1⟩
 have hnews:∀j u,news[j]?=some u→w.cell? ((⟨nb,0,none⟩:Addr).add j)=some u:=fun j u hu=>by
  rw[Addr.add_lit,Nat.zero_add,blk_cell hn]
  simpa using hu
 have hbb:(n+1)*by'≤2000001*1000:=Nat.mul_le_mul (by omega) hby
 subst e1 e2
 rcases ho.2 with ⟨rfl,rfl⟩ | ⟨g,cap,cur,rfl,hbg,hg,hnc,hcm,hcs,htake⟩
 ·have h:=run_append_nil (P:=Tryz.prog) w st ty et i z hu hi hz ⟨nb,0,none⟩ 1 1 news (by omega) hnews (by omega) (by omega) (by omega)
  rw[hr]at h
  injection h with h _
  injection h with h _ _
  cases h
  exact .inr rfl
 ·by_cases hroom:n+1≤cap
  ·have hfit:n*i.size+news.length≤cur.size:=by
    rw[hl,hcs]
    have:=Nat.mul_le_mul_right i.size hroom
    rw[Nat.add_mul,Nat.one_mul]at this
    exact this
   have h:=run_append_room (P:=Tryz.prog) w st ty et i hu hi g n cap cur hg ⟨nb,0,none⟩ 1 1 news (by omega) hnews h1 hroom hfit
   rw[hr]at h
   injection h with h _
   injection h with h _ _
   cases h
   exact .inl rfl
  ·have holds:∀j u,xs[j]?=some u→w.cell? ((⟨g,0,none⟩:Addr).add j)=some u:=ho.cells (g:=g) rfl
   have h:=run_append_grow (P:=Tryz.prog) w st ty et i z hu hi hz ⟨g,0,none⟩ n cap xs ho.1 holds ⟨nb,0,none⟩ 1 1 news (by omega) hnews (by omega) (by omega) (growslice_fits (by omega) (by omega))
   rw[hr]at h
   injection h with h _
   injection h with h _ _
   cases h
   exact .inr rfl
def Apart (a b:Value):Prop:=∀g,a.ownBlock=some g→b.ownBlock≠some g
theorem Apart.nil (b:Value):Apart (.slice none 0 0) b:=fun g h=>by cases h
theorem Apart.symm {a b:Value} (h:Apart a b):Apart b a:=fun g hb ha=>h g ha hb
theorem ORow.own_lt {α:Type} {w:World} {B:Nat} {et:TypeId} {k:Nat} {cells:α→List Value} {sv:Value} {xs:List α} (h:ORow w B et k cells sv xs) {g:Nat} (hg:sv.ownBlock=some g):B≤g∧g<w.heap.size:=by
 rcases h.2 with ⟨rfl,_⟩ | ⟨g',cap,cur,rfl,e2,e3,_⟩
 ·cases hg
 ·cases hg;exact⟨e2,blk_lt e3⟩
theorem ORow.apart {α:Type} {w w':World} {B:Nat} {et:TypeId} {k:Nat} {cells:α→List Value} {sv tv:Value} {xs:List α} (h:ORow w B et k cells sv xs) (ha:Apart sv tv) (hg:w.grownBy w' tv.ownBlock):ORow w' B et k cells sv xs:=by
 obtain⟨h1,h2⟩:=h
 refine⟨h1,?_⟩
 rcases h2 with h2 | ⟨g,cap,cur,e1,e2,e3,e4⟩
 ·exact .inl h2
 ·subst e1
  exact .inr ⟨g,cap,cur,rfl,e2,(hg.block g (blk_lt e3) (fun e=>ha g rfl e.symm)).trans e3,e4⟩
def fldV (n:ID):List (Int × Int):=[(rl n.op 0,n.a),(rl n.op 1,n.b),(rl n.op 2,n.c),(rl n.op 3,n.d)]
def rdAll:List (Int × Int)→RdS→Option RdS
 | [],s=>some s
 | f :: fs,s=>(rdStep f.1 f.2 s).bind (rdAll fs)
theorem readV_all (c:List FD) (n:ID) (ts:List Int):readV c n ts=(rdAll (fldV n) ⟨ts,[],[]⟩).bind fun s=>if n.op=11 then (if rdUps (c.getD n.b.toNat fd0).ups s.ts=true then some s else none) else some s:=by
 unfold readV fldV
 simp only[rdAll]
 cases h0:rdStep (rl n.op 0) n.a ⟨ts,[],[]⟩ with
 | none=>rfl
 | some s0 =>
  simp only[Option.bind_some]
  cases h1:rdStep (rl n.op 1) n.b s0 with
  | none=>rfl
  | some s1 =>
   simp only[Option.bind_some]
   cases h2:rdStep (rl n.op 2) n.c s1 with
   | none=>rfl
   | some s2 =>
    simp only[Option.bind_some]
    cases h3:rdStep (rl n.op 3) n.d s2 with
    | none=>rfl
    | some s3=>rfl
def regOk (len:Nat) (role x:Int):Prop :=
 (wantsV role).1≠0→0≤(if ((wantsV role).2 && decide (x<0))=true then -1-x else x)∧(if ((wantsV role).2 && decide (x<0))=true then -1-x else x)+(if role=18 then 2 else if role=19∨role=20 then 1 else 0)<len
structure RdI (g cap B:Nat) (W0 wr:World) (tv sv:Value) (s:RdS):Prop where
 size:W0.heap.size=B
 lt:g<B
 but:But g W0 wr
 ty:TyAt wr g cap s.ts
 ot:ORow wr B 3 1 natC tv s.taken
 os:ORow wr B 3 1 natC sv s.stay
 ap:Apart tv sv
theorem RdI.blk {g cap B:Nat} {W0 wr:World} {tv sv:Value} {s:RdS} (h:RdI g cap B W0 wr tv sv s) {b:Nat} {o:Obj} (hb:W0.heap[b]?=some o) (hg:b≠g):wr.heap[b]?=some o:=by
 rw[h.but.block b (blk_lt hb) hg];exact hb
theorem RdI.ge {g cap B:Nat} {W0 wr:World} {tv sv:Value} {s:RdS} (h:RdI g cap B W0 wr tv sv s):B≤wr.heap.size:=by
 have:=h.but.size;rw[h.size]at this;exact this
theorem RdI.set {g cap B:Nat} {W0 wr:World} {tv sv:Value} {s:RdS} (h:RdI g cap B W0 wr tv sv s) (r:Nat) (z:Int):RdI g cap B W0 (wr.setCell ⟨g,r,none⟩ (.int .i64 z)) tv sv ⟨s.ts.set r z,s.taken,s.stay⟩:=by
 have hne:∀j arr,B≤j→wr.heap[j]?=some (.cells arr 3 (0,0))→(wr.setCell ⟨g,r,none⟩ (.int .i64 z)).heap[j]?=wr.heap[j]?:=fun j arr hj _=>Below.heap_setCell _ _ _ _ (by show j≠g;have:=h.lt;omega)
 exact⟨h.size,h.lt,h.but.set r _,h.ty.set r z,h.ot.keep hne,h.os.keep hne,h.ap⟩
theorem RdI.alloc {g cap B:Nat} {W0 wr:World} {tv sv:Value} {s:RdS} (h:RdI g cap B W0 wr tv sv s) (o:Obj):RdI g cap B W0 (wr.alloc o) tv sv s :=
 ⟨h.size,h.lt,h.but.alloc o,h.ty.later (bw1 _ _),h.ot.later (bw1 _ _),h.os.later (bw1 _ _),h.ap⟩
theorem But.grown {g B:Nat} {W0 w w':World} (h:But g W0 w) (hs:W0.heap.size=B) {tv:Value} (ht:∀b,tv.ownBlock=some b→B≤b) (hg:w.grownBy w' tv.ownBlock):But g W0 w' :=
 ⟨hg.os.trans h.os,hg.tape.trans h.tape,hg.output.trans h.output,Nat.le_trans h.size hg.size,fun k hk hne=>(hg.block k (Nat.lt_of_lt_of_le hk h.size) (fun e=>by have:=ht k e.symm;omega)).trans (h.block k hk hne)⟩
theorem TyAt.grown {w w':World} {g cap B:Nat} {ts:List Int} (h:TyAt w g cap ts) (hB:g<B) {tv:Value} (ht:∀b,tv.ownBlock=some b→B≤b) (hg:w.grownBy w' tv.ownBlock):TyAt w' g cap ts:=by
 have hl:=h.lt
 obtain⟨cur,h1,h2⟩:=h
 exact⟨cur,(hg.block g hl (fun e=>by have:=ht g e.symm;omega)).trans h1,h2⟩
theorem RdI.take {g cap B:Nat} {W0 wr:World} {tv sv:Value} {s:RdS} (h:RdI g cap B W0 wr tv sv s) (r:Nat) (hl:s.taken.length≤1000) :
  ∃g' cap' w2,(Builtin.append_ #[54,54] 54 #[tv,.slice (some ⟨wr.heap.size,0,none⟩) 1 1]).run Tryz.prog (wr.alloc (.cells #[.int .i64 (r:Int)] 3))=.ok (.slice (some ⟨g',0,none⟩) (s.taken.length+1) cap') w2 ∧
   RdI g cap B W0 w2 (.slice (some ⟨g',0,none⟩) (s.taken.length+1) cap') sv ⟨s.ts,s.taken++[r],s.stay⟩:=by
 have h':=h.alloc (.cells #[.int .i64 (r:Int)] 3)
 have hge:=h.ge
 obtain⟨g',cap',w2,hr,ho2,hg⟩:=h'.ot.app 54 8 Tryz.underlying54 (by kernel_rfl) (by omega) (by omega) r wr.heap.size 54 (blk_new _ _) rfl (by intro u hu;simp[natC]at hu;subst hu;rfl) (by omega) (by simp;omega)
 have hown:∀b,tv.ownBlock=some b→B≤b:=fun b hb=>(h'.ot.own_lt hb).1
 have hw:=app_where 54 3 1 8 Tryz.underlying54 (by kernel_rfl) (by omega) (by omega) B _ tv _ _ (natC r) wr.heap.size 54 h'.ot (blk_new _ _) rfl (by intro u hu;simp[natC]at hu;subst hu;rfl) (by omega) hr
 refine⟨g',cap',w2,hr,h.size,h.lt,h'.but.grown h.size hown hg,h'.ty.grown h.lt hown hg,ho2,h'.os.apart h'.ap.symm hg,?_⟩
 intro b hb hs
 cases hb
 rcases hw with hw | hw
 ·exact h.ap g' hw.symm hs
 ·have h9:g'<wr.heap.size:=(h.os.own_lt (g:=g') hs).2
  simp at hw
  omega
abbrev W5 (w:World) (ac:Option Addr) (lc cc:Nat) (n:ID):World :=
 ((((w.alloc (.cells #[.slice ac lc cc] 26)).alloc (.cells #[.int .i64 n.op,.int .i64 n.a,.int .i64 n.b,.int .i64 n.c,.int .i64 n.d] 47)).alloc (RO n.op)).alloc (.cells #[.int .i64 n.op,.int .i64 n.a,.int .i64 n.b,.int .i64 n.c,.int .i64 n.d] 47)).alloc (.cells #[.int .i64 n.a,.int .i64 n.b,.int .i64 n.c,.int .i64 n.d] 3)
theorem But.from {g:Nat} {w W0 wr:World} (hb:Below w.heap.size w W0) (h:But g W0 wr):But g w wr :=
 ⟨h.os.trans hb.os,h.tape.trans hb.tape,h.output.trans hb.output,Nat.le_trans hb.size h.size,fun k hk hg=>(h.block k (Nat.lt_of_lt_of_le hk hb.size) hg).trans (hb.block k hk)⟩
def gEq (x y:GD):Bool:=x.t == y.t && x.k == y.k && x.h == y.h
def all2 {α:Type} (eq:α→α→Bool):List α→List α→Bool
 | [],[]=>true
 | x :: xs,y :: ys=>eq x y && all2 eq xs ys
 | _,_=>false
theorem all2_drop {α:Type} {eq:α→α→Bool} {xs ys:List α} {m:Nat} {x y:α} (hx:xs[m]?=some x) (hy:ys[m]?=some y):all2 eq (xs.drop m) (ys.drop m)=(eq x y && all2 eq (xs.drop (m+1)) (ys.drop (m+1))):=by
 obtain⟨h1,e1⟩:=List.getElem?_eq_some_iff.1 hx
 obtain⟨h2,e2⟩:=List.getElem?_eq_some_iff.1 hy
 rw[List.drop_eq_getElem_cons h1,List.drop_eq_getElem_cons h2,e1,e2]
 rfl
theorem all2_end {α:Type} {eq:α→α→Bool} {xs ys:List α} {m:Nat} (h:xs.length≤m) (hl:ys.length=xs.length):all2 eq (xs.drop m) (ys.drop m)=true:=by
 rw[List.drop_of_length_le h,List.drop_of_length_le (by omega)];rfl
theorem all2_len {α:Type} {eq:α→α→Bool}:∀ {xs ys:List α},xs.length≠ys.length→all2 eq xs ys=false
 | [],[],h=>absurd rfl h
 | [],_ :: _,_=>rfl
 | _ :: _,[],_=>rfl
 | x :: xs,y :: ys,h=>by
  unfold all2
  rw[all2_len (by simpa using h),Bool.and_false]
theorem eqg_run (x y:GD) (w:World):(binOp .neq 172 (.agg #[.bool x.t,.int .i64 x.k,.int .i64 x.h]) (.agg #[.bool y.t,.int .i64 y.k,.int .i64 y.h])).run Tryz.prog w=.ok (.bool (!gEq x y)) w:=by
 obtain⟨a,b,c⟩:=x
 obtain⟨a',b',c'⟩:=y
 unfold gEq
 simp only
 cases h0:(a == a')<;>cases h1:(b == b')<;>cases h2:(c == c')<;>go_simp
theorem all2_iff {α:Type} {eq:α→α→Bool} (h:∀x y,eq x y=true↔x=y):∀xs ys:List α,all2 eq xs ys=true↔xs=ys
 | [],[]=>by simp[all2]
 | [],_ :: _=>by simp[all2]
 | _ :: _,[]=>by simp[all2]
 | x :: xs,y :: ys=>by simp[all2,h,all2_iff h xs ys]
def sEq (x y:SD):Bool:=all2 (· == ·) x.ts y.ts && all2 gEq x.gs y.gs
def id0:ID:=⟨0,0,0,0,0⟩
def reachW (s:WkS) (t:Nat) (x:SD):Option WkS :=
 match s.st.getD t none with
 | none=>some ⟨s.st.set t (some x),s.due.set t true⟩
 | some y=>if sEq y x=true then some s else none
def leadW:List (Nat × SD)→WkS→Except Nat WkS
 | [],s=>.ok s
 | x :: r,s=>match reachW s x.1 x.2 with
  | some s'=>leadW r s'
  | none=>.error x.1
def behindV (c:List FD) (n:ID) (x:SD):Except Nat SD :=
 match readV c n x.ts with
 | none=>.error 10
 | some r=>match changeV n x.gs with
  | none=>.error 11
  | some gs=>if keptV x.gs r.taken x.ts (writeV n r.ts)=true then .ok ⟨writeV n r.ts,gs⟩ else .error 12
def passW (c:List FD) (ins:List ID) (a:Nat) (s:WkS):Except (Nat × Nat) WkS :=
 match s.st.getD a none with
 | none=>.error (0,0)
 | some x=>match behindV c (ins.getD a id0) x with
  | .error k=>.error (k,a)
  | .ok y=>match leadW (followV (ins.getD a id0) a x y) ⟨s.st,s.due.set a false⟩ with
   | .error t=>.error (13,t)
   | .ok s'=>.ok s'
def IsLeast (due:List Bool) (a:Nat):Prop:=due[a]?=some true∧∀b:Nat,b<a→due[b]?≠some true
def AllOff (due:List Bool):Prop:=∀b:Nat,due[b]?≠some true
theorem IsLeast.uniq {due:List Bool} {a b:Nat} (h:IsLeast due a) (h':IsLeast due b):a=b:=by
 rcases Nat.lt_trichotomy a b with hl | hl | hl
 ·exact absurd h.1 (h'.2 a hl)
 ·exact hl
 ·exact absurd h'.1 (h.2 b hl)
theorem least_or:∀due:List Bool,AllOff due∨∃a,IsLeast due a
 | []=>.inl fun b=>by simp
 | true :: _=>.inr ⟨0,rfl,fun b hb=>by omega⟩
 | false :: r=>by
  rcases least_or r with h | ⟨a,h⟩
  ·exact .inl fun b=>by cases b with | zero=>simp | succ b=>simpa using h b
  ·exact .inr ⟨a+1,by simpa using h.1,fun b hb=>by cases b with | zero=>simp | succ b=>simpa using h.2 b (by omega)⟩
def Runs (c:List FD) (ins:List ID):Nat→WkS→Except (Nat × Nat) WkS→Prop
 | 0,s,r=>(AllOff s.due∧r=.ok s)∨∃a e,IsLeast s.due a∧passW c ins a s=.error e∧r=.error e
 | k+1,s,r=>∃a s',IsLeast s.due a∧passW c ins a s=.ok s'∧Runs c ins k s' r
theorem Runs.uniq {c:List FD} {ins:List ID}:∀ {k k':Nat} {s:WkS} {r r':Except (Nat × Nat) WkS},Runs c ins k s r→Runs c ins k' s r'→r=r'∧k=k'
 | 0,0,s,r,r',h,h'=>by
  rcases h with ⟨h1,rfl⟩ | ⟨a,e,h1,h2,rfl⟩<;>rcases h' with ⟨h3,rfl⟩ | ⟨a',e',h3,h4,rfl⟩
  ·exact⟨rfl,rfl⟩
  ·exact absurd h3.1 (h1 _)
  ·exact absurd h1.1 (h3 _)
  ·cases h1.uniq h3;rw[h2]at h4;cases h4;exact⟨rfl,rfl⟩
 | 0,k'+1,s,r,r',h,h'=>by
  obtain⟨a',s',h3,h4,_⟩:=h'
  rcases h with ⟨h1,rfl⟩ | ⟨a,e,h1,h2,rfl⟩
  ·exact absurd h3.1 (h1 _)
  ·cases h1.uniq h3;rw[h2]at h4;cases h4
 | k+1,0,s,r,r',h,h'=>by
  obtain⟨a',s',h3,h4,_⟩:=h
  rcases h' with ⟨h1,rfl⟩ | ⟨a,e,h1,h2,rfl⟩
  ·exact absurd h3.1 (h1 _)
  ·cases h1.uniq h3;rw[h2]at h4;cases h4
 | k+1,k'+1,s,r,r',h,h'=>by
  obtain⟨a,s1,h1,h2,h5⟩:=h
  obtain⟨a',s2,h3,h4,h6⟩:=h'
  cases h1.uniq h3
  rw[h2]at h4
  cases h4
  obtain⟨e1,e2⟩:=Runs.uniq h5 h6
  exact⟨e1,by rw[e2]⟩
def mu (s:WkS):Nat:=2*s.st.countP (·.isNone)+s.due.countP (· == true)
theorem countP_set {α:Type} (p:α→Bool):∀(l:List α) (i:Nat) (x y:α),l[i]?=some y→(l.set i x).countP p+(if p y then 1 else 0)=l.countP p+(if p x then 1 else 0)
 | [],i,x,y,h=>by simp at h
 | z :: l,0,x,y,h=>by
  simp only[List.getElem?_cons_zero,Option.some.injEq]at h
  subst h
  simp only[List.set_cons_zero,List.countP_cons]
  omega
 | z :: l,i+1,x,y,h=>by
  have ih:=countP_set p l i x y (by simpa using h)
  simp only[List.set_cons_succ,List.countP_cons]
  omega
theorem reachW_len {s s':WkS} {t:Nat} {x:SD} (h:reachW s t x=some s'):s'.st.length=s.st.length∧s'.due.length=s.due.length:=by
 unfold reachW at h
 split at h
 ·cases h;simp
 ·split at h
  ·cases h;exact⟨rfl,rfl⟩
  ·cases h
theorem mu_reach {s s':WkS} {t:Nat} {x:SD} (hl:s.st.length=s.due.length) (h:reachW s t x=some s'):mu s'≤mu s:=by
 unfold reachW at h
 split at h
 ·rename_i h0
  cases h
  by_cases ht:t<s.st.length
  ·have e1:s.st[t]?=some none:=by
    rw[List.getD_eq_getElem?_getD,List.getElem?_eq_getElem ht]at h0
    rw[List.getElem?_eq_getElem ht]
    exact congrArg some (by simpa using h0)
   have e2:s.due[t]?=some (s.due[t]'(by omega)):=List.getElem?_eq_getElem (by omega)
   have c1:=countP_set (·.isNone) s.st t (some x) none e1
   have c2:=countP_set (· == true) s.due t true _ e2
   simp only[Option.isNone_none,Option.isNone_some,if_true,if_false,Bool.false_eq_true,beq_self_eq_true]at c1 c2
   unfold mu
   split at c2<;>dsimp only at c1 c2 ⊢<;>omega
  ·rw[List.set_eq_of_length_le (by omega),List.set_eq_of_length_le (by omega)]
   exact Nat.le_refl _
 ·split at h
  ·cases h;exact Nat.le_refl _
  ·cases h
theorem mu_lead {l:List (Nat × SD)} {s s':WkS} (hl:s.st.length=s.due.length) (h:leadW l s=.ok s'):mu s'≤mu s∧s'.st.length=s.st.length∧s'.due.length=s.due.length:=by
 induction l generalizing s with
 | nil=>cases h;exact⟨Nat.le_refl _,rfl,rfl⟩
 | cons x l ih =>
  unfold leadW at h
  split at h
  ·rename_i s1 h1
   obtain⟨e1,e2⟩:=reachW_len h1
   obtain⟨i1,i2,i3⟩:=ih (by omega) h
   exact⟨Nat.le_trans i1 (mu_reach hl h1),by omega,by omega⟩
  ·cases h
theorem mu_pass {c:List FD} {ins:List ID} {a:Nat} {s s':WkS} (hl:s.st.length=s.due.length) (ha:s.due[a]?=some true) (h:passW c ins a s=.ok s'):mu s'<mu s∧s'.st.length=s.st.length∧s'.due.length=s.due.length:=by
 unfold passW at h
 split at h
 ·cases h
 ·split at h
  ·cases h
  ·split at h
   ·cases h
   ·rename_i s1 h1
    cases h
    obtain⟨i1,i2,i3⟩:=mu_lead (by simpa using hl) h1
    have c2:=countP_set (· == true) s.due a false true ha
    simp only[beq_self_eq_true,if_true]at c2
    refine⟨Nat.lt_of_le_of_lt i1 ?_,i2,by simpa using i3⟩
    unfold mu
    simp at c2 ⊢
    omega
theorem runs_ex (c:List FD) (ins:List ID):∀(m:Nat) (s:WkS),s.st.length=s.due.length→mu s≤m→∃k r,Runs c ins k s r:=by
 intro m
 induction m with
 | zero =>
  intro s hl hm
  rcases least_or s.due with h | ⟨a,h⟩
  ·exact⟨0,_,.inl ⟨h,rfl⟩⟩
  ·cases hp:passW c ins a s with
   | error e=>exact⟨0,_,.inr ⟨a,e,h,hp,rfl⟩⟩
   | ok s'=>have:=(mu_pass hl h.1 hp).1;omega
 | succ m ih =>
  intro s hl hm
  rcases least_or s.due with h | ⟨a,h⟩
  ·exact⟨0,_,.inl ⟨h,rfl⟩⟩
  ·cases hp:passW c ins a s with
   | error e=>exact⟨0,_,.inr ⟨a,e,h,hp,rfl⟩⟩
   | ok s' =>
    obtain⟨p1,p2,p3⟩:=mu_pass hl h.1 hp
    obtain⟨k,r,hr⟩:=ih s' (by omega) (by omega)
    exact⟨k+1,r,a,s',h,hp,hr⟩
def GOk (regs:Nat) (gs:List GD):Prop:=gs.length≤50∧∀g∈gs,0≤g.k∧g.k≤regs
def SOk (regs:Nat) (x:SD):Prop:=x.ts.length=regs∧GOk regs x.gs
structure WOk (regs n:Nat) (s:WkS):Prop where
 l1:s.st.length=n
 l2:s.due.length=n
 ok:∀(a:Nat) x,s.st[a]?=some (some x)→SOk regs x
 due:∀a:Nat,s.due[a]?=some true→∃x,s.st[a]?=some (some x)
theorem reachW_ok {regs n:Nat} {s s':WkS} {t:Nat} {x:SD} (h:WOk regs n s) (hx:SOk regs x) (hr:reachW s t x=some s'):WOk regs n s':=by
 have hl:=reachW_len hr
 unfold reachW at hr
 split at hr
 ·rename_i h0
  cases hr
  refine⟨by simpa using h.l1,by simpa using h.l2,fun a y hy=>?_,fun a ha=>?_⟩
  ·rw[List.getElem?_set]at hy
   split at hy
   ·split at hy
    ·cases hy;exact hx
    ·cases hy
   ·exact h.ok a y hy
  ·rw[List.getElem?_set]at ha
   rw[List.getElem?_set]
   split at ha
   ·rename_i e
    subst e
    split at ha
    ·rename_i hlt
     rw[if_pos rfl,if_pos (by have:=h.l1;have:=h.l2;omega)]
     exact⟨_,rfl⟩
    ·cases ha
   ·rename_i e
    rw[if_neg e]
    exact h.due a ha
 ·split at hr
  ·cases hr;exact h
  ·cases hr
theorem leadW_ok {regs n:Nat} {l:List (Nat × SD)} {s s':WkS} (h:WOk regs n s) (hx:∀y∈l,SOk regs y.2) (hr:leadW l s=.ok s'):WOk regs n s':=by
 induction l generalizing s with
 | nil=>cases hr;exact h
 | cons y l ih =>
  unfold leadW at hr
  split at hr
  ·rename_i s1 h1
   exact ih (reachW_ok h (hx y (by simp)) h1) (fun z hz=>hx z (List.mem_cons_of_mem _ hz)) hr
  ·cases hr
theorem WOk.off {regs n:Nat} {s:WkS} (h:WOk regs n s) (a:Nat):WOk regs n ⟨s.st,s.due.set a false⟩ :=
 ⟨h.l1,by simpa using h.l2,h.ok,fun b hb=>by
  dsimp only at hb ⊢
  rw[List.getElem?_set]at hb
  split at hb
  ·split at hb<;>cases hb
  ·exact h.due b hb⟩
end Go.Proofs.YtjglgbepobmjhaaGreatDoor
