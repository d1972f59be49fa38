import Derived.Test.YtjglgbepobmjhaaGreatDoorP15
import Derived.Test.YtjglgbepobmjhaaGreatDoorP10
import Derived.Test.YtjglgbepobmjhaaGreatDoorP11
import Derived.Test.YtjglgbepobmjhaaGreatDoorP13
set_option linter.unusedVariables false
set_option linter.unusedSimpArgs false
set_option maxRecDepth 20000
set_option maxHeartbeats 8000000
namespace Go.Proofs.YtjglgbepobmjhaaGreatDoor
open Go.RowKit
theorem getD_map {zs:List SR} {t:Nat} {z:SR} (hz:zs[t]?=some z):(zs.map SR.o).getD t none=z.o:=by
 rw[List.getD_eq_getElem?_getD,List.getElem?_map,hz];rfl
theorem reach_any (B gW gS nI p t regs:Nat) (cv iv hv:Value) (zs:List SR) (due:List Bool) (w:World) (rb:Bool) (tv gv:Value) (x:SD) (h:WlV B gW gS nI p cv iv w zs hv due) (ht:t<nI) (hn:nI≤6000) (hr:regs≤250) (hT:OI w B tv x.ts) (hG:GA w gv x.gs) (hok:WOk regs nI ⟨zs.map SR.o,due⟩) (hx:SOk regs x) :
  Calls Tryz.prog 34 #[.pointer (some ⟨gW,0,none⟩),.int .i64 t,.agg #[.bool rb,tv,gv]] w fun e w'=>RcA B gW gS nI p t cv iv hv w (reachW ⟨zs.map SR.o,due⟩ t x) e w'∧ButL (gW :: gS :: hv.ownBlock.toList) w w':=by
 obtain⟨z,hz⟩:∃z,zs[t]?=some z:=⟨zs[t]'(by rw[h.len];exact ht),by simp⟩
 have hd:=getD_map hz
 cases hy:z.o with
 | none =>
  rw[hy]at hd
  have hdu:due[t]?=some false:=by
   have hlt:t<due.length:=by rw[h.dul];exact ht
   cases hq:due[t]'hlt with
   | false=>rw[List.getElem?_eq_getElem hlt,hq]
   | true =>
    obtain⟨y,e⟩:=hok.due t (by show due[t]?=_;rw[List.getElem?_eq_getElem hlt,hq])
    dsimp only at e
    rw[List.getElem?_map,hz]at e
    simp[hy]at e
  have:=reach_new B gW gS nI p t cv iv hv zs due w rb tv gv x z h ht hz hy hn hT hG (by rw[hx.1];exact hr) hx.2.1 hdu
  unfold reachW
  dsimp only
  rw[hd]
  exact this
 | some y =>
  rw[hy]at hd
  have hyo:SOk regs y:=hok.ok t y (by show (zs.map SR.o)[t]?=_;rw[List.getElem?_map,hz];simp[hy])
  have:=reach_old B gW gS nI p t cv iv hv zs due w rb tv gv x y z h ht hz hy hn hT hG (by rw[hyo.1];exact hr) hyo.2.1
  unfold reachW
  dsimp only
  rw[hd]
  exact this
theorem reachW_keep {s s':WkS} {t:Nat} {x:SD} (h:reachW s t x=some s') {a:Nat} {y:SD} (hy:s.st[a]?=some (some y)):s'.st[a]?=some (some y):=by
 unfold reachW at h
 split at h
 ·rename_i h0
  cases h
  dsimp only
  rw[List.getElem?_set]
  split
  ·rename_i e
   subst e
   rw[List.getD_eq_getElem?_getD,hy]at h0
   cases h0
  ·exact hy
 ·split at h
  ·cases h;exact hy
  ·cases h
def LdA (B gW gS nI p:Nat) (cv iv hv:Value) (w:World) (r:Except Nat WkS) (e:Ending) (w':World):Prop:=match r with
 | .error t=>e=.returned (EV (some (13,(p:Int),(t:Int))))
 | .ok s'=>e=.returned (EV none)∧∃zs' hv',WlV B gW gS nI p cv iv w' zs' hv' s'.due∧zs'.map SR.o=s'.st∧∀g,hv'.ownBlock=some g→hv.ownBlock=some g∨w.heap.size≤g
theorem RcA.one {B gW gS nI p t:Nat} {cv iv hv:Value} {w:World} {s:WkS} {x:SD} {e:Ending} {w':World} (h:RcA B gW gS nI p t cv iv hv w (reachW s t x) e w'):LdA B gW gS nI p cv iv hv w (leadW [(t,x)] s) e w':=by
 unfold leadW
 cases hr:reachW s t x with
 | none=>rw[hr]at h;exact h
 | some s'=>rw[hr]at h;exact h
theorem LdA.then {B gW gS nI p:Nat} {cv iv hv hv1:Value} {w w1:World} {r:Except Nat WkS} {e:Ending} {w':World} (h:LdA B gW gS nI p cv iv hv1 w1 r e w') (ho:∀g,hv1.ownBlock=some g→hv.ownBlock=some g∨w.heap.size≤g) (hs:w.heap.size≤w1.heap.size):LdA B gW gS nI p cv iv hv w r e w':=by
 unfold LdA at h ⊢
 split at h
 ·exact h
 ·obtain⟨h1,zs',hv',h2,h3,h4⟩:=h
  refine⟨h1,zs',hv',h2,h3,fun g e=>?_⟩
  rcases h4 g e with q | q
  ·exact ho g q
  ·exact .inr (Nat.le_trans hs q)
theorem but_then {gW gS:Nat} {hv hv1:Value} {w w1 w2:World} (h:ButL (gW :: gS :: hv.ownBlock.toList) w w1) (h':ButL (gW :: gS :: hv1.ownBlock.toList) w1 w2) (ho:∀g,hv1.ownBlock=some g→hv.ownBlock=some g∨w.heap.size≤g):ButL (gW :: gS :: hv.ownBlock.toList) w w2:=by
 refine h.then h' fun g hg=>?_
 simp only[List.mem_cons,Option.mem_toList]at hg ⊢
 rcases hg with e | e | e
 ·exact .inl (.inl e)
 ·exact .inl (.inr (.inl e))
 ·rcases ho g e with q | q
  ·exact .inl (.inr (.inr q))
  ·exact .inr q
structure WCx (W0:World) (a:Option Addr) (cap:Nat) (xs:List FC) (p nR nI nP:Nat) (f:FC) (E:Nat→List Nat) (cv iv:Value):Prop where
 code:CodeAt W0 a xs
 lay:LayAt W0
 at_:xs[p]?=some f
 ok:PrOk xs f.d nR nI nP E
 ecv:cv=.slice a xs.length cap
 eiv:iv=.slice f.ai nI f.ci
theorem WCx.ins {W0:World} {a:Option Addr} {cap:Nat} {xs:List FC} {p nR nI nP:Nat} {f:FC} {E:Nat→List Nat} {cv iv:Value} (C:WCx W0 a cap xs p nR nI nP f E cv iv) {i:Nat} {n:ID} (hn:f.d.ins[i]?=some n) {w:World} (hb:Below W0.heap.size W0 w):∃b off,f.ai=some ⟨b,off,none⟩∧b<W0.heap.size∧w.cell? ⟨b,off+i*5,none⟩=some (.int .i64 n.op)∧w.cell? ⟨b,off+i*5+1,none⟩=some (.int .i64 n.a)∧w.cell? ⟨b,off+i*5+2,none⟩=some (.int .i64 n.b)∧w.cell? ⟨b,off+i*5+3,none⟩=some (.int .i64 n.c)∧w.cell? ⟨b,off+i*5+4,none⟩=some (.int .i64 n.d):=by
 obtain⟨b,off,e,hl,hc⟩:=(C.code.lie f (List.mem_of_getElem? C.at_)).i i n hn
 exact⟨b,off,e,hl,cell_later hb (hc 0 _ rfl),cell_later hb (hc 1 _ rfl),cell_later hb (hc 2 _ rfl),cell_later hb (hc 3 _ rfl),cell_later hb (hc 4 _ rfl)⟩
theorem WlV.below {W0:World} {gW gS nI p:Nat} {cv iv:Value} {w w':World} {zs:List SR} {hv:Value} {due:List Bool} (h:WlV W0.heap.size gW gS nI p cv iv w zs hv due) (hB:Below W0.heap.size W0 w) (hb:ButL (gW :: gS :: hv.ownBlock.toList) w w'):Below W0.heap.size W0 w' :=
 hb.below hB (fun g hg=>(h.own g hg).1) h.base
theorem WlV.outT {B gW gS nI p:Nat} {cv iv:Value} {w w':World} {zs:List SR} {hv:Value} {due:List Bool} {tv:Value} {ts:List Int} (h:WlV B gW gS nI p cv iv w zs hv due) (hT:OI w B tv ts) (ha:Apart tv hv) (hb:ButL (gW :: gS :: hv.ownBlock.toList) w w'):OI w' B tv ts:=by
 refine ORow.butn hT hb fun g e hm=>?_
 obtain⟨cur,e1⟩:=hT.not_type e
 simp only[List.mem_cons,Option.mem_toList]at hm
 rcases hm with q | q | q
 ·rw[q,h.blk]at e1;cases e1
 ·rw[q,h.st.blk]at e1;cases e1
 ·exact ha g e q
theorem WlV.outG {B gW gS nI p:Nat} {cv iv:Value} {w w':World} {zs:List SR} {hv:Value} {due:List Bool} {gv:Value} {gs:List GD} (h:WlV B gW gS nI p cv iv w zs hv due) (hG:GA w gv gs) (hb:ButL (gW :: gS :: hv.ownBlock.toList) w w'):GA w' gv gs:=hG.butl hb h.noG
theorem WlV.state {B gW gS nI p:Nat} {cv iv:Value} {w:World} {zs:List SR} {hv:Value} {due:List Bool} (h:WlV B gW gS nI p cv iv w zs hv due) {a:Nat} {x:SD} (hx:(zs.map SR.o)[a]?=some (some x)):∃z,zs[a]?=some z∧z.o=some x∧OI w B z.tv x.ts∧GA w z.gv x.gs∧Apart z.tv hv:=by
 rw[List.getElem?_map]at hx
 cases hz:zs[a]? with
 | none=>rw[hz]at hx;cases hx
 | some z =>
  rw[hz]at hx
  simp at hx
  have hok:=h.st.ok z (List.mem_of_getElem? hz)
  unfold SR.ok at hok
  rw[hx]at hok
  exact⟨z,rfl,hx,hok.1,GA.of_own hok.2,h.ap z (List.mem_of_getElem? hz)⟩
theorem reach_v {B gW gS nI p regs:Nat} {cv iv hv:Value} {zs:List SR} {due:List Bool} {w:World} {tv gv:Value} {x:SD} (t:Nat) (rb:Bool) (h:WlV B gW gS nI p cv iv w zs hv due) (ht:t<nI) (hn:nI≤6000) (hr:regs≤250) (hT:OI w B tv x.ts) (hG:GA w gv x.gs) (hok:WOk regs nI ⟨zs.map SR.o,due⟩) (hx:SOk regs x) :
  Calls Tryz.prog 34 #[.pointer (some ⟨gW,0,none⟩),.int .i64 t,.agg #[.bool rb,tv,gv]] w fun e w'=>∃v,e=.returned v∧LdA B gW gS nI p cv iv hv w (leadW [(t,x)] ⟨zs.map SR.o,due⟩) (.returned v) w'∧ButL (gW :: gS :: hv.ownBlock.toList) w w':=by
 refine (reach_any B gW gS nI p t regs cv iv hv zs due w rb tv gv x h ht hn hr hT hG hok hx).mono ?_
 rintro e w' ⟨h1,h2⟩
 have h3:=h1.one
 have hv:∃v,e=.returned v:=by
  unfold RcA at h1
  split at h1
  ·exact⟨_,h1⟩
  ·exact⟨_,h1.1⟩
 obtain⟨v,rfl⟩:=hv
 exact⟨v,rfl,h3,h2⟩
theorem reach_s {B gW gS nI p regs:Nat} {cv iv hv:Value} {zs:List SR} {due:List Bool} {w:World} {tv gv:Value} {x:SD} {s':WkS} (t:Nat) {ti:Int} (hti:ti=t) (rb:Bool) (hrw:reachW ⟨zs.map SR.o,due⟩ t x=some s') (h:WlV B gW gS nI p cv iv w zs hv due) (ht:t<nI) (hn:nI≤6000) (hr:regs≤250) (hT:OI w B tv x.ts) (hG:GA w gv x.gs) (hok:WOk regs nI ⟨zs.map SR.o,due⟩) (hx:SOk regs x) :
  Calls Tryz.prog 34 #[.pointer (some ⟨gW,0,none⟩),.int .i64 ti,.agg #[.bool rb,tv,gv]] w fun e w'=>(e=.returned .nilIface∧∃zs' hv',WlV B gW gS nI p cv iv w' zs' hv' s'.due∧zs'.map SR.o=s'.st∧∀g,hv'.ownBlock=some g→hv.ownBlock=some g∨w.heap.size≤g)∧ButL (gW :: gS :: hv.ownBlock.toList) w w':=by
 subst hti
 have:=reach_any B gW gS nI p t regs cv iv hv zs due w rb tv gv x h ht hn hr hT hG hok hx
 rw[hrw]at this
 exact this
theorem reach_n {B gW gS nI p regs:Nat} {cv iv hv:Value} {zs:List SR} {due:List Bool} {w:World} {tv gv:Value} {x:SD} (t:Nat) {ti:Int} (hti:ti=t) (rb:Bool) (hrw:reachW ⟨zs.map SR.o,due⟩ t x=none) (h:WlV B gW gS nI p cv iv w zs hv due) (ht:t<nI) (hn:nI≤6000) (hr:regs≤250) (hT:OI w B tv x.ts) (hG:GA w gv x.gs) (hok:WOk regs nI ⟨zs.map SR.o,due⟩) (hx:SOk regs x) :
  Calls Tryz.prog 34 #[.pointer (some ⟨gW,0,none⟩),.int .i64 ti,.agg #[.bool rb,tv,gv]] w fun e w'=>e=.returned (.iface 80 (FV 13 (p:Int) ti))∧ButL (gW :: gS :: hv.ownBlock.toList) w w':=by
 subst hti
 have:=reach_any B gW gS nI p t regs cv iv hv zs due w rb tv gv x h ht hn hr hT hG hok hx
 rw[hrw]at this
 exact this
def putL:Nat→List Int→List Int→List Int
 | _,[],ts=>ts
 | x,t :: r,ts=>putL (x+1) r (ts.set x t)
def putAll:List (Nat × Int)→List Int→List Int
 | [],ts=>ts
 | f :: fs,ts=>putAll fs (putL f.2.toNat (givenV f.1) ts)
def PuOkF (len r:Nat) (x:Int):Prop:=givenV r≠[]→0≤x∧x+(givenV r).length≤len
theorem lay_put:∀k:Fin 43,1≤k.val→∀j:Fin 4,givenV (li k.val j.val).toNat=[]∨(j.val=0∧rl (k.val:Int) 0=1∧(givenV (li k.val j.val).toNat).length=1)∨(j.val=0∧k.val=42∧(givenV (li k.val j.val).toNat).length=1)∨(j.val=0∧k.val=40∧(givenV (li k.val j.val).toNat).length=2)∨(j.val=2∧k.val=41∧(givenV (li k.val j.val).toNat).length=1):=by decide +kernel
theorem puok_of {regs nI k:Nat} {n:ID} (hn:InsOk regs nI n) (hk:n.op=k) (h0:1≤k) (h1:k<43):∀f∈pfl k n,PuOkF regs f.1 f.2:=by
 intro f hf
 have key:∀(j:Fin 4) (x:Int),(j.val=0→x=n.a)→(j.val=2→x=n.c)→PuOkF regs (li k j.val).toNat x:=by
  intro j x ha hc hg
  rcases lay_put ⟨k,h1⟩ h0 j with h | ⟨h2,h3,h4⟩ | ⟨h2,h3,h4⟩ | ⟨h2,h3,h4⟩ | ⟨h2,h3,h4⟩
  ·exact absurd h hg
  ·simp only at h3 h4
   rw[←hk]at h3
   have:=hn.wa (.inl h3);rw[ha h2,h4];omega
  ·simp only at h3 h4
   have:=hn.wa (.inr (by omega));rw[ha h2,h4];omega
  ·simp only at h3 h4
   have:=hn.wb (by omega);rw[ha h2,h4];omega
  ·simp only at h3 h4
   have:=hn.wc (by omega);rw[hc h2,h4];omega
 simp only[pfl,List.mem_cons,List.not_mem_nil,or_false]at hf
 rcases hf with rfl | rfl | rfl | rfl
 ·exact key 0 _ (fun _=>rfl) (fun h=>by cases h)
 ·exact key 1 _ (fun h=>by cases h) (fun h=>by cases h)
 ·exact key 2 _ (fun h=>by cases h) (fun _=>rfl)
 ·exact key 3 _ (fun h=>by cases h) (fun h=>by cases h)
theorem lay_giv:∀k:Fin 43,1≤k.val→givenV (li k.val 1).toNat=[]∧givenV (li k.val 3).toNat=[]∧givenV (li k.val 2).toNat=(if k.val=41 then [3] else [])∧givenV (li k.val 0).toNat=(if k.val=6 then [2] else if k.val=22∨k.val=27∨k.val=28 then [3] else if k.val=40 then [1,1] else if k.val=42 then [0] else if k.val=41 then [] else if rl (k.val:Int) 0=1 then [1] else []):=by decide +kernel
theorem put_eq {n:ID} {k:Nat} (hk:n.op=k) (h0:1≤k) (h1:k<43) (ts:List Int) (h40:n.op=40→0≤n.a∧ts[n.a.toNat]?=some 1):putAll (pfl k n) ts=writeV n ts:=by
 obtain⟨g1,g3,g2,g0⟩:=lay_giv ⟨k,h1⟩ h0
 simp only at g0 g1 g2 g3
 unfold pfl
 simp only[putAll,g0,g1,g2,g3,putL]
 unfold writeV
 rw[hk]at *
 by_cases e6:k=6
 ·subst e6;simp[putL]
 by_cases e22:k=22∨k=27∨k=28
 ·rw[if_neg e6,if_pos e22,if_neg (by omega),if_neg (by omega),if_pos (by omega)];simp[putL]
 by_cases e40:k=40
 ·subst e40
  obtain⟨a0,a1⟩:=h40 rfl
  simp[putL]
  have e:ts.set n.a.toNat 1=ts:=by
   apply List.ext_getElem?
   intro i
   rw[List.getElem?_set]
   split
   ·rename_i e;subst e;rw[a1];split
    ·rfl
    ·rename_i h;rw[List.getElem?_eq_none (by omega)]at a1;cases a1
   ·rfl
  rw[e,show (n.a+1).toNat=n.a.toNat+1 by omega]
 by_cases e42:k=42
 ·subst e42;simp[putL]
 by_cases e41:k=41
 ·subst e41;simp[putL]
 have c6:¬((k:Int)=6):=by omega
 have c22:¬((k:Int)=22∨(k:Int)=27∨(k:Int)=28):=by omega
 have c40:¬((k:Int)=40):=by omega
 have c42:¬((k:Int)=42):=by omega
 have c41:¬((k:Int)=41):=by omega
 simp only[e6,e22,e40,e42,e41,c6,c22,c40,c42,c41,if_false]
 split<;>simp[putL]
theorem rdAll_40 {n:ID} {ts:List Int} {s:RdS} (h:rdAll (fldV n) ⟨ts,[],[]⟩=some s) (e:n.op=40):s.ts[n.a.toNat]?.getD 0=1:=by
 unfold fldV at h
 rw[e]at h
 simp only[rdAll,show rl 40 0=19 from rfl,show rl 40 1=0 from rfl,show rl 40 2=0 from rfl,show rl 40 3=0 from rfl]at h
 have q:∀x s,rdStep 0 x s=some s:=fun x s=>by simp[rdStep,wantsV]
 simp only[q,Option.bind_some,Option.bind_fun_some]at h
 simp[rdStep,wantsV,rdReg,rdTake,rdMore]at h
 obtain⟨h1,h2,h3⟩:=h
 rw[←h3]
 exact h1
theorem rd_none {n:ID} {k:Nat} {ts:List Int} (hk:n.op=k) (h0:1≤k) (h1:k<43) (hp:prAll (pfl k n) ⟨ts,[],[]⟩=none):rdAll (fldV n) ⟨ts,[],[]⟩=none:=by
 have h:=prAll_eq hk h0 h1 ⟨ts,[],[]⟩
 rw[hp]at h
 cases hr:rdAll (fldV n) ⟨ts,[],[]⟩ with
 | none=>rfl
 | some s=>rw[hr]at h;exact h.elim
theorem rd_some {n:ID} {k:Nat} {ts:List Int} {s1:RdS} (hk:n.op=k) (h0:1≤k) (h1:k<43) (hp:prAll (pfl k n) ⟨ts,[],[]⟩=some s1):∃s2,rdAll (fldV n) ⟨ts,[],[]⟩=some s2∧s1.ts=s2.ts∧s1.taken=s2.taken:=by
 have h:=prAll_eq hk h0 h1 ⟨ts,[],[]⟩
 rw[hp]at h
 cases hr:rdAll (fldV n) ⟨ts,[],[]⟩ with
 | none=>rw[hr]at h;exact h.elim
 | some s=>rw[hr]at h;exact⟨s,rfl,h.1,h.2⟩
theorem bh_read {c:List FD} {n:ID} {x:SD} {k:Nat} (hk:n.op=k) (h0:1≤k) (h1:k<43) (hp:prAll (pfl k n) ⟨x.ts,[],[]⟩=none):behindV c n x=.error 10:=by
 have h:readV c n x.ts=none:=by rw[readV_all,rd_none hk h0 h1 hp];rfl
 unfold behindV
 rw[h]
theorem bh_ups {c:List FD} {n:ID} {x:SD} {k:Nat} {s1:RdS} (hk:n.op=k) (h0:1≤k) (h1:k<43) (hp:prAll (pfl k n) ⟨x.ts,[],[]⟩=some s1) (h11:n.op=11) (hu:rdUps (c.getD n.b.toNat fd0).ups s1.ts=false):behindV c n x=.error 10:=by
 obtain⟨s2,e,e1,e2⟩:=rd_some hk h0 h1 hp
 have h:readV c n x.ts=none:=by
  rw[readV_all,e]
  simp only[Option.bind_some]
  rw[if_pos h11,←e1,hu];rfl
 unfold behindV
 rw[h]
theorem bh_some {c:List FD} {n:ID} {x:SD} {k:Nat} {s1:RdS} (hk:n.op=k) (h0:1≤k) (h1:k<43) (hp:prAll (pfl k n) ⟨x.ts,[],[]⟩=some s1) (hu:n.op=11→rdUps (c.getD n.b.toNat fd0).ups s1.ts=true):∃s2,readV c n x.ts=some s2∧rdAll (fldV n) ⟨x.ts,[],[]⟩=some s2∧s1.ts=s2.ts∧s1.taken=s2.taken:=by
 obtain⟨s2,e,e1,e2⟩:=rd_some hk h0 h1 hp
 refine⟨s2,?_,e,e1,e2⟩
 rw[readV_all,e]
 simp only[Option.bind_some]
 by_cases h11:n.op=11
 ·rw[if_pos h11,←e1,hu h11];rfl
 ·rw[if_neg h11]
theorem bh_guard {c:List FD} {n:ID} {x:SD} {k:Nat} {s1:RdS} (hk:n.op=k) (h0:1≤k) (h1:k<43) (hp:prAll (pfl k n) ⟨x.ts,[],[]⟩=some s1) (hu:n.op=11→rdUps (c.getD n.b.toNat fd0).ups s1.ts=true) (hc:changeV n x.gs=none):behindV c n x=.error 11:=by
 obtain⟨s2,e,_⟩:=bh_some (c:=c) hk h0 h1 hp hu
 unfold behindV
 rw[e]
 dsimp only
 rw[hc]
def spV (K:Nat) (s1:RdS) (ts ts':List Int):Bool:=(s1.taken.all fun r=>decide (K≤r)) && ts'.take K == ts.take K
theorem bh_kept {c:List FD} {n:ID} {x:SD} {k K:Nat} {s1:RdS} {gs':List GD} {nR nI:Nat} (hn:InsOk nR nI n) (hk:n.op=k) (h0:1≤k) (h1:k<43) (hp:prAll (pfl k n) ⟨x.ts,[],[]⟩=some s1) (hu:n.op=11→rdUps (c.getD n.b.toNat fd0).ups s1.ts=true) (hc:changeV n x.gs=some gs') (hK:keepV x.gs=(K:Int)):behindV c n x=if spV K s1 x.ts (putAll (pfl k n) s1.ts)=true then .ok ⟨putAll (pfl k n) s1.ts,gs'⟩ else .error 12:=by
 obtain⟨s2,e,er,e1,e2⟩:=bh_some (c:=c) hk h0 h1 hp hu
 have hpe:putAll (pfl k n) s1.ts=writeV n s2.ts:=by
  rw[e1]
  refine put_eq hk h0 h1 s2.ts fun h40=>⟨(hn.wb h40).1,?_⟩
  have:=rdAll_40 er h40
  cases hq:s2.ts[n.a.toNat]? with
  | none=>rw[hq]at this;simp at this
  | some z=>rw[hq]at this;simp at this;rw[this]
 have hkv:keptV x.gs s2.taken x.ts (writeV n s2.ts)=spV K s1 x.ts (putAll (pfl k n) s1.ts):=by
  unfold keptV spV
  rw[hK,e2,hpe]
  simp only[Int.toNat_natCast]
  congr 1
  ·congr 1
   funext r
   simp
  ·exact Bool.beq_comm
 unfold behindV
 rw[e]
 dsimp only
 rw[hc]
 dsimp only
 rw[hkv,hpe]
theorem FrV.noG {W0:World} {S:List Nat} {B gF:Nat} {tv:Value} {wr:World} {sv kv:Value} {s:RdS} (h:FrV W0 S B gF tv wr sv kv s):∀g∈gF :: (tv.ownBlock.toList++sv.ownBlock.toList++kv.ownBlock.toList),∀cur,wr.heap[g]?≠some (.cells cur 172):=by
 intro g hg cur e
 simp only[List.mem_cons,List.mem_append,Option.mem_toList]at hg
 rcases hg with rfl | (hg | hg) | hg
 ·rw[h.blk]at e;cases e
 ·obtain⟨cur',e'⟩:=OI.not_type h.ty hg;rw[e']at e;cases e
 ·obtain⟨cur',e'⟩:=OI.not_type h.os hg;rw[e']at e;cases e
 ·obtain⟨cur',e'⟩:=OI.not_type h.ot hg;rw[e']at e;cases e
theorem prAll_len:∀ {l:List (Nat × Int)} {s s':RdS},prAll l s=some s'→s'.ts.length=s.ts.length∧s'.taken.length≤s.taken.length+l.length
 | [],s,s',h=>by cases h;exact⟨rfl,by simp⟩
 | f :: l,s,s',h=>by
  unfold prAll at h
  obtain⟨s1,h1,h2⟩:=Option.bind_eq_some_iff.1 h
  obtain⟨a1,a2,_⟩:=prStep_len h1
  obtain⟨b1,b2⟩:=prAll_len h2
  exact⟨by rw[b1,a1],by simp;omega⟩
theorem keep_lp {nR:Nat}:∀ {gs:List GD} {k0:Int},(∀g∈gs,0≤g.k∧g.k≤(nR:Int))→0≤k0→k0≤(nR:Int)→0≤gs.foldl (fun k g=>if g.t then max k g.k else k) k0∧gs.foldl (fun k g=>if g.t then max k g.k else k) k0≤(nR:Int)
 | [],k0,_,h1,h2=>⟨h1,h2⟩
 | g :: gs,k0,h,h1,h2=>by
  have hg:=h g (by simp)
  simp only[List.foldl_cons]
  refine keep_lp (fun g' hg'=>h g' (List.mem_cons_of_mem _ hg')) ?_ ?_
  ·split
   ·exact Int.le_trans h1 (Int.le_max_left _ _)
   ·exact h1
  ·split
   ·exact Int.max_le.2 ⟨h2,hg.2⟩
   ·exact h2
theorem keepV_nat {nR:Nat} {gs:List GD} (h:GOk nR gs):∃K:Nat,keepV gs=(K:Int)∧K≤nR:=by
 obtain⟨h1,h2⟩:=keep_lp (k0:=0) h.2 (Int.le_refl _) (by omega)
 exact⟨(keepV gs).toNat,by unfold keepV;omega,by unfold keepV;omega⟩
def PsA (B gW gS nI p:Nat) (cv iv hv:Value) (w:World) (r:Except (Nat × Nat) WkS) (e:Ending) (w':World):Prop:=match r with
 | .error x=>e=.returned (EV (some ((x.1:Int),(p:Int),(x.2:Int))))
 | .ok s'=>e=.returned (EV none)∧∃zs' hv',WlV B gW gS nI p cv iv w' zs' hv' s'.due∧zs'.map SR.o=s'.st∧∀g,hv'.ownBlock=some g→hv.ownBlock=some g∨w.heap.size≤g
def psV (c:List FD) (n:ID) (a:Nat) (x:SD) (s:WkS):Except (Nat × Nat) WkS :=
 match behindV c n x with
 | .error k=>.error (k,a)
 | .ok y=>match leadW (followV n a x y) s with
  | .error t=>.error (13,t)
  | .ok s'=>.ok s'
theorem passW_psV {c:List FD} {ins:List ID} {a:Nat} {n:ID} {x:SD} {s:WkS} (hn:ins[a]?=some n) (hx:s.st[a]?=some (some x)):passW c ins a s=psV c n a x ⟨s.st,s.due.set a false⟩:=by
 unfold passW psV
 rw[List.getD_eq_getElem?_getD,hx,List.getD_eq_getElem?_getD,hn]
 rfl
theorem psV_err {c:List FD} {n:ID} {a k:Nat} {x:SD} {s:WkS} (h:behindV c n x=.error k):psV c n a x s=.error (k,a):=by
 unfold psV;rw[h]
theorem LdA.pass {B gW gS nI p:Nat} {cv iv hv:Value} {w:World} {c:List FD} {n:ID} {a:Nat} {x y:SD} {s:WkS} {e:Ending} {w':World} (hb:behindV c n x=.ok y) (h:LdA B gW gS nI p cv iv hv w (leadW (followV n a x y) s) e w'):PsA B gW gS nI p cv iv hv w (psV c n a x s) e w':=by
 unfold psV
 rw[hb]
 dsimp only
 cases hl:leadW (followV n a x y) s with
 | error t=>rw[hl]at h;exact h
 | ok s'=>rw[hl]at h;exact h
theorem FrV.made {w W2 w1:World} {sv:Value} {ts:List Int} (h:ORow w1 W2.heap.size 3 1 intC sv ts) (hb:Below W2.heap.size W2 w1) (hB:w.heap.size≤W2.heap.size):FrV W2 [] w.heap.size w1.heap.size sv (w1.alloc (.cells #[sv,.slice none 0 0,.slice none 0 0] 176)) (.slice none 0 0) (.slice none 0 0) ⟨ts,[],[]⟩ :=
 ⟨hB,blk_new _ _,(h.later (bw1 _ _)).mono hB,ORow.nil _ _ _ _ _,ORow.nil _ _ _ _ _,(Apart.nil _).symm,(Apart.nil _).symm,Apart.nil _,ButL.of_below (below_alloc hb _),.inr hb.size,fun g e=>.inr (h.own_lt e).1,(fun g e=>by cases e),(fun g e=>by cases e)⟩
theorem FrV.low {W2:World} {B gF:Nat} {tv:Value} {wr:World} {sv kv:Value} {s:RdS} (h:FrV W2 [] B gF tv wr sv kv s):Below W2.heap.size W2 wr:=ButL.nil h.but
def Rch (s:WkS) (a:Nat):Prop:=∃x,s.st[a]?=some (some x)
def Clo (ins:List ID) (s:WkS):Prop:=∀(a:Nat) n,ins[a]?=some n→Rch s a→s.due[a]?≠some true→∀t∈silentV n a,Rch s t
theorem reachW_hit {s s':WkS} {t:Nat} {x:SD} (h:reachW s t x=some s') (ht:t<s.st.length):Rch s' t:=by
 unfold reachW at h
 split at h
 ·cases h
  exact⟨x,by dsimp only;rw[List.getElem?_set,if_pos rfl,if_pos ht]⟩
 ·rename_i y hy
  split at h
  ·cases h
   refine⟨y,?_⟩
   rw[List.getD_eq_getElem?_getD,List.getElem?_eq_getElem ht]at hy
   rw[List.getElem?_eq_getElem ht]
   simpa using hy
  ·cases h
theorem reachW_due {s s':WkS} {t:Nat} {x:SD} (h:reachW s t x=some s') {b:Nat} (hb:s.due[b]?=some true):s'.due[b]?=some true:=by
 unfold reachW at h
 split at h
 ·cases h
  dsimp only
  rw[List.getElem?_set]
  split
  ·rename_i e
   subst e
   rw[if_pos (List.getElem?_eq_some_iff.1 hb).1]
  ·exact hb
 ·split at h
  ·cases h;exact hb
  ·cases h
theorem reachW_new {s s':WkS} {t:Nat} {x:SD} (h:reachW s t x=some s') (hl:s.st.length=s.due.length) {b:Nat} (hb:Rch s' b):Rch s b∨s'.due[b]?=some true:=by
 unfold reachW at h
 split at h
 ·cases h
  obtain⟨y,hy⟩:=hb
  dsimp only at hy ⊢
  rw[List.getElem?_set]at hy ⊢
  split at hy
  ·rename_i e
   subst e
   split at hy
   ·rename_i hlt
    right
    rw[if_pos rfl,if_pos (by omega)]
   ·cases hy
  ·exact .inl ⟨y,hy⟩
 ·split at h
  ·cases h;exact .inl hb
  ·cases h
theorem leadW_all {l:List (Nat × SD)} {s s':WkS} (hl:s.st.length=s.due.length) (h:leadW l s=.ok s'):(∀b,Rch s b→Rch s' b)∧(∀b:Nat,s.due[b]?=some true→s'.due[b]?=some true)∧(∀b,Rch s' b→Rch s b∨s'.due[b]?=some true)∧(∀z∈l,z.1<s.st.length→Rch s' z.1):=by
 induction l generalizing s with
 | nil=>cases h;exact⟨fun _ h=>h,fun _ h=>h,fun _ h=>.inl h,fun z hz=>by cases hz⟩
 | cons x l ih =>
  unfold leadW at h
  split at h
  ·rename_i s1 h1
   obtain⟨e1,e2⟩:=reachW_len h1
   obtain⟨i1,i2,i3,i4⟩:=ih (by omega) h
   refine⟨fun b hb=>?_,fun b hb=>i2 b (reachW_due h1 hb),fun b hb=>?_,fun z hz hlt=>?_⟩
   ·obtain⟨y,hy⟩:=hb
    exact i1 b ⟨y,reachW_keep h1 hy⟩
   ·rcases i3 b hb with q | q
    ·rcases reachW_new h1 hl q with r | r
     ·exact .inl r
     ·exact .inr (i2 b r)
    ·exact .inr q
   ·rcases List.mem_cons.1 hz with rfl | hz
    ·exact i1 _ (reachW_hit h1 hlt)
    ·exact i4 z hz (by omega)
  ·cases h
theorem silent_follow {n:ID} {a t:Nat} {x y:SD} (h:t∈silentV n a):∃z,(t,z)∈followV n a x y:=by
 unfold silentV at h
 unfold followV
 rcases List.mem_append.1 h with h | h
 ·split at h
  ·rename_i hg
   simp only[Bool.and_eq_true]at hg
   simp at h
   subst h
   exact⟨y,List.mem_append_left _ (by rw[if_pos hg.1];simp)⟩
  ·cases h
 ·cases ht:targetV n with
  | none=>rw[ht]at h;cases h
  | some t' =>
   rw[ht]at h
   simp at h
   subst h
   exact⟨_,List.mem_append_right _ (List.mem_singleton.2 rfl)⟩
theorem Clo.pass {regs nI:Nat} {c:List FD} {ins:List ID} {a:Nat} {s s':WkS} (h:Clo ins s) (hi:∀n∈ins,InsOk regs nI n) (hg:∀(a:Nat) n,ins[a]?=some n→goesV n.op=true→a+1<nI) (ha:a<ins.length) (hok:WOk regs nI s) (hp:passW c ins a s=.ok s'):Clo ins s':=by
 have hna:ins[a]?=some ins[a]:=List.getElem?_eq_getElem ha
 have hgd:ins.getD a id0=ins[a]:=by rw[List.getD_eq_getElem?_getD,hna];rfl
 unfold passW at hp
 split at hp
 ·cases hp
 ·rename_i x hx
  split at hp
  ·cases hp
  ·rename_i y hy
   split at hp
   ·cases hp
   ·rename_i s1 h1
    cases hp
    obtain⟨i1,i2,i3,i4⟩:=leadW_all (s:=⟨s.st,s.due.set a false⟩) (by simp[hok.l1,hok.l2]) h1
    rw[hgd]at i4
    intro b n hn hb hd t ht
    by_cases e:b=a
    ·subst e
     rw[hna]at hn
     cases hn
     obtain⟨z,hz⟩:=silent_follow (x:=x) (y:=y) ht
     have hlt:=followV_lt (hi _ (List.getElem_mem ha)) (hg b _ hna) _ hz
     exact i4 _ hz (by rw[hok.l1];exact hlt)
    ·rcases i3 b hb with q | q
     ·have hd':s.due[b]?≠some true:=fun e'=>hd (i2 b (by dsimp only;rw[List.getElem?_set,if_neg (fun q=>e q.symm)];exact e'))
      exact i1 t (h b n hn q hd' t ht)
     ·exact absurd q hd
theorem Clo.start (d:FD):Clo d.ins (startS d):=by
 intro a n hn hb hd t ht
 obtain⟨x,hx⟩:=hb
 cases a with
 | zero=>exact absurd rfl hd
 | succ a =>
  simp only[startS,List.getElem?_cons_succ,List.getElem?_replicate]at hx
  split at hx<;>cases hx
end Go.Proofs.YtjglgbepobmjhaaGreatDoor
