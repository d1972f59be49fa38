import Derived.Test.YtjglgbepobmjhaaGreatDoorP39
set_option linter.unusedVariables false
set_option linter.unusedSimpArgs false
set_option maxRecDepth 20000
set_option maxHeartbeats 8000000
namespace Go.Proofs.YtjglgbepobmjhaaGreatDoor.T
open Go.RowKit M
def R2 (s:ByteArray):List M.SD:=(R1.set 4 (sdV (intD 7))).set 5 (sdV (strD s))
def Ph (k t:Nat) (pa:Nat) (pt:Nat) (pn:Nat) (pr:List M.SD) (pg:List (Nat × Int)):Prop :=
 (pa=0∧pt=0∧pn=0∧pr=(R0:List M.SD)∧pg=([]:List (Nat × Int))) ∨
 (∃(tk:Nat) (nr:Nat),(tk≤t)∧(nr=2*k*tk)∧(nr≤100000)∧pa=1∧pt=tk∧pn=nr∧pr=(R1:List M.SD)∧pg=([]:List (Nat × Int))) ∨
 (∃(b:Nat) (tk:Nat) (nr:Nat),(b<k)∧(tk<t)∧(nr=2*k*tk+2*b)∧(nr≤100000)∧pa=(2+4*b)∧pt=(tk+1)∧pn=nr∧pr=(R1:List M.SD)∧pg=([]:List (Nat × Int))) ∨
 (∃(b:Nat) (tk:Nat) (nr:Nat) (gn:Nat),(b<k)∧(tk<t)∧(nr=2*k*tk+2*b)∧(nr≤100000)∧pa=(3+4*b)∧pt=(tk+1)∧pn=nr∧pr=(R1:List M.SD)∧pg=([(gn,((4+4*b:Nat):Int))]:List (Nat × Int))) ∨
 (∃(b:Nat) (tk:Nat) (nr:Nat) (s:ByteArray),(b<k)∧(tk<t)∧(nr=2*k*tk+2*b+2)∧(nr≤100000)∧pa=(4+4*b)∧pt=(tk+1)∧pn=nr∧pr=((R2 s):List M.SD)∧pg=([]:List (Nat × Int))) ∨
 (∃(b:Nat) (tk:Nat) (nr:Nat) (s:ByteArray),(b<k)∧(tk<t)∧(nr=2*k*tk+2*b+2)∧(nr≤100000)∧pa=(5+4*b)∧pt=(tk+1)∧pn=nr∧pr=(((R2 s).set 4 sd0):List M.SD)∧pg=([]:List (Nat × Int))) ∨
 (∃(tk:Nat) (nr:Nat),(tk<t)∧(nr=2*k*tk+2*k)∧(nr≤100000)∧pa=(2+4*k)∧pt=(tk+1)∧pn=nr∧pr=(R1:List M.SD)∧pg=([]:List (Nat × Int)))
theorem Ph.start {k t:Nat}  : Ph k t 0 0 0 R0 []:=.inl ⟨rfl,rfl,rfl,rfl,rfl⟩
theorem Ph.turn {k t:Nat} (tk:Nat) (nr:Nat) (h:tk≤t) (hn:nr=2*k*tk) (hm:nr≤100000):Ph k t 1 tk nr R1 []:=.inr (.inl ⟨tk,nr,h,hn,hm,rfl,rfl,rfl,rfl,rfl⟩)
theorem Ph.try_ {k t:Nat} (b:Nat) (tk:Nat) (nr:Nat) (hb:b<k) (h:tk<t) (hn:nr=2*k*tk+2*b) (hm:nr≤100000):Ph k t (2+4*b) (tk+1) nr R1 []:=.inr (.inr (.inl ⟨b,tk,nr,hb,h,hn,hm,rfl,rfl,rfl,rfl,rfl⟩))
theorem Ph.thr {k t:Nat} (b:Nat) (tk:Nat) (nr:Nat) (gn:Nat) (hb:b<k) (h:tk<t) (hn:nr=2*k*tk+2*b) (hm:nr≤100000):Ph k t (3+4*b) (tk+1) nr R1 [(gn,((4+4*b:Nat):Int))]:=.inr (.inr (.inr (.inl ⟨b,tk,nr,gn,hb,h,hn,hm,rfl,rfl,rfl,rfl,rfl⟩)))
theorem Ph.dr4 {k t:Nat} (b:Nat) (tk:Nat) (nr:Nat) (s:ByteArray) (hb:b<k) (h:tk<t) (hn:nr=2*k*tk+2*b+2) (hm:nr≤100000):Ph k t (4+4*b) (tk+1) nr (R2 s) []:=.inr (.inr (.inr (.inr (.inl ⟨b,tk,nr,s,hb,h,hn,hm,rfl,rfl,rfl,rfl,rfl⟩))))
theorem Ph.dr5 {k t:Nat} (b:Nat) (tk:Nat) (nr:Nat) (s:ByteArray) (hb:b<k) (h:tk<t) (hn:nr=2*k*tk+2*b+2) (hm:nr≤100000):Ph k t (5+4*b) (tk+1) nr ((R2 s).set 4 sd0) []:=.inr (.inr (.inr (.inr (.inr (.inl ⟨b,tk,nr,s,hb,h,hn,hm,rfl,rfl,rfl,rfl,rfl⟩)))))
theorem Ph.jmp {k t:Nat} (tk:Nat) (nr:Nat) (h:tk<t) (hn:nr=2*k*tk+2*k) (hm:nr≤100000):Ph k t (2+4*k) (tk+1) nr R1 []:=.inr (.inr (.inr (.inr (.inr (.inr ⟨tk,nr,h,hn,hm,rfl,rfl,rfl,rfl,rfl⟩)))))
def Fin' (k t tk nr:Nat):Prop:=(2*k*t≤100000∧tk=t∧nr=2*k*t)∨(100000<2*k*t∧tk=100000 / (2*k)+1∧nr=100000)
def mu (t tk at':Nat):Nat:=(t+1-tk)*4000+if at'=1 then 500 else 3000-at'
section
variable {w0:World} {K:TK} {k t:Nat}
def GoP (w0:World) (K:TK) (k t B:Nat) (atv:Int) (e:Ending) (w':World):Prop:=e=.returned .nilIface∧∃(tk nr at2:Nat) (ax:Int) (rs:List M.SD) (gl:List (Nat × Int)) (rv gv:Value),TX w0 K w' tk nr ax (at2:Int) rs gl rv gv∧Ph k t at2 tk nr rs gl∧mu t tk at2<B
def ThP (w0:World) (K:TK) (k t B:Nat) (atv:Int) (e:Ending) (w':World):Prop:=∃gr,e=.returned (.iface 142 (.pointer (some ⟨gr,0,none⟩)))∧Calls Tryz.prog 130 #[.pointer (some ⟨K.gm,0,none⟩),.pointer (some ⟨K.gf,0,none⟩),.iface 142 (.pointer (some ⟨gr,0,none⟩))] w' (GoP w0 K k t B atv)
def OvP (w0:World) (K:TK) (k t:Nat) (e:Ending) (w':World):Prop:=e=.returned (ovI (some K.ov))∧∃(tk nr:Nat) (ax nx:Int) (rs:List M.SD) (gl:List (Nat × Int)) (rv gv:Value),TX w0 K w' tk nr ax nx rs gl rv gv∧Fin' k t tk nr
theorem cf3 (args:Array Value) (W:World):(callFunc 80 args).run Tryz.prog W=.ok (.enter 80 args) W:=by kernel_rfl
theorem cf4 (args:Array Value) (W:World):(callFunc 81 args).run Tryz.prog W=.ok (.enter 81 args) W:=by kernel_rfl
theorem cf30 (args:Array Value) (W:World):(callFunc 99 args).run Tryz.prog W=.ok (.enter 99 args) W:=by kernel_rfl
theorem tin0 (hk:1≤k):tinK k 0=⟨4,0,0,0,0⟩:=by unfold tinK tin;rw[if_neg (by omega),if_pos rfl]
theorem tin1 (hk:1≤k):tinK k 1=⟨3,0,0,0,0⟩:=by unfold tinK tin;rw[if_neg (by omega),if_neg (by omega),if_pos rfl]
theorem tin2 {b:Nat} (hb:b<k):tinK k (2+4*b)=⟨31,((4+4*b:Nat):Int),4,0,0⟩:=by
 unfold tinK tin;rw[if_neg (by omega),if_neg (by omega),if_neg (by omega),if_pos (by omega)];congr 1;omega
theorem tin3 {b:Nat} (hb:b<k):tinK k (3+4*b)=⟨30,0,0,0,0⟩:=by
 unfold tinK tin;rw[if_neg (by omega),if_neg (by omega),if_neg (by omega),if_neg (by omega),if_pos (by omega)]
theorem tin4 {b:Nat} (hb:b<k):tinK k (4+4*b)=⟨42,4,0,0,0⟩:=by
 unfold tinK tin;rw[if_neg (by omega),if_neg (by omega),if_neg (by omega),if_neg (by omega),if_neg (by omega),if_pos (by omega)]
theorem tin5 {b:Nat} (hb:b<k):tinK k (5+4*b)=⟨42,5,0,0,0⟩:=by
 unfold tinK tin;rw[if_neg (by omega),if_neg (by omega),if_neg (by omega),if_neg (by omega),if_neg (by omega),if_neg (by omega)]
theorem tinJ:tinK k (2+4*k)=⟨19,1,0,0,0⟩:=by unfold tinK;rw[if_pos rfl]
variable {w:World} {tk nr at':Nat} {rs:List M.SD} {gl:List (Nat × Int)} {rv gv:Value}
structure Con (w0:World) (K:TK):Prop where
 con:∃cb co ccap,K.c0.consts=.slice (some ⟨cb,co,none⟩) (0+1) ccap∧cb<w0.heap.size∧∀j u,(intD 7).cells[j]?=some u→w0.cell? ⟨cb,co+j,none⟩=some u
theorem td0 (ok:TKok w0 K) (hc:Con w0 K) (hk:1≤k) (h:TX w0 K w 0 0 0 (0+1) R0 [] rv gv) :
  Calls Tryz.prog 81 #[.pointer (some ⟨K.gm,0,none⟩),.pointer (some ⟨K.gf,0,none⟩),insV ⟨4,0,0,0,0⟩] w (GoP w0 K k t (mu t 0 0) 0):=by
 obtain⟨cb,co,ccap,h1,h2,h3⟩:=hc.con
 refine (doLoad_const _ K.gf 0 cb co 0 ccap (intD 7) _ (K.c 0 (0+1) gv R0) w h.cal R0_len rfl rfl (by omega) rfl h1 (Nat.lt_of_lt_of_le h2 h.bel.size) (fun j u hu=>cell_later h.bel (h3 j u hu))).mono ?_
 rintro e w1 ⟨rfl,q1,q2⟩
 have q1':CallAt w1 K.gf (K.c 0 (0+1) gv R1):=by rw[show R1=R0.set 0 (sdV (intD 7)) by unfold R1;rfl];exact q1
 refine⟨rfl,0,0,1,0,R1,[],rv,gv,h.call ok q2 q1' R1_len,.turn 0 0 (by omega) (by simp) (by omega),?_⟩
 unfold mu
 rw[if_pos rfl,if_neg (by omega)]
 omega
theorem td1 (ok:TKok w0 K) (hk:1≤k) (ht:K.m0.ticks=(t:Int)) (h:TX w0 K w tk nr 1 (1+1) R1 [] rv gv) (hl:tk<t) (hn:nr=2*k*tk) (hm:nr≤100000) :
  Calls Tryz.prog 80 #[.pointer (some ⟨K.gm,0,none⟩),.pointer (some ⟨K.gf,0,none⟩),insV ⟨3,0,0,0,0⟩] w (GoP w0 K k t (mu t tk 1) 1):=by
 have hT:=ok.tic.2
 refine (doTick_go K.gm K.gf _ (K.m tk rv) w h.mac (by show (tk:Int)<K.m0.ticks;omega) (by show (0:Int)≤(tk:Int);omega) (by show K.m0.ticks≤_;omega)).mono ?_
 rintro e w1 ⟨rfl,q1,q2⟩
 refine⟨rfl,tk+1,nr,2,1,R1,[],rv,gv,h.mach ok (tk2:=tk+1) q2 ?_,.try_ 0 tk nr (by omega) hl (by rw[hn];rfl) hm,?_⟩
 ·have e1:((tk+1:Nat):Int)=(tk:Int)+1:=by omega
  rw[e1]
  exact q1
 ·unfold mu
  rw[if_neg (by omega),if_pos rfl]
  have:(t+1-tk)*4000=(t+1-(tk+1))*4000+4000:=by omega
  omega
theorem td1o (ok:TKok w0 K) (ht:K.m0.ticks=(t:Int)) (h:TX w0 K w t nr 1 (1+1) R1 [] rv gv) (hn:nr=2*k*t) (hm:nr≤100000) :
  Calls Tryz.prog 80 #[.pointer (some ⟨K.gm,0,none⟩),.pointer (some ⟨K.gf,0,none⟩),insV ⟨3,0,0,0,0⟩] w (OvP w0 K k t):=by
 refine (doTick_over K.gm K.gf _ (K.m t rv) (some K.ov) w h.mac (h.ov ok) ht.symm).mono ?_
 rintro e w1 ⟨rfl,q1⟩
 exact⟨rfl,t,nr,_,_,_,_,_,_,h.later ok q1,.inl ⟨by omega,rfl,hn⟩⟩
theorem mu_succ (hk:k≤250) {a c:Nat} (h:a+1≤3+4*k) (h1:2≤a) (hc:c=a+1:=by omega):mu t tk c<mu t tk a:=by
 subst hc
 unfold mu
 rw[if_neg (by omega),if_neg (by omega)]
 omega
theorem td2 (ok:TKok w0 K) (hk:k≤250) {b:Nat} (h:TX w0 K w (tk+1) nr ((2+4*b:Nat):Int) (((2+4*b:Nat):Int)+1) R1 [] rv gv) (hb:b<k) (hl:tk<t) (hn:nr=2*k*tk+2*b) (hm:nr≤100000) :
  Calls Tryz.prog 100 #[.pointer (some ⟨K.gm,0,none⟩),.pointer (some ⟨K.gf,0,none⟩),insV ⟨31,((4+4*b:Nat):Int),4,0,0⟩] w (GoP w0 K k t (mu t (tk+1) (2+4*b)) ((2+4*b:Nat):Int)):=by
 refine (doTry_any _ w0.heap.size K.gf _ (K.c ((2+4*b:Nat):Int) (((2+4*b:Nat):Int)+1) gv R1) [] w h.cal h.gu (by simp) h.bel.size).mono ?_
 rintro e w1 ⟨rfl,gv',gn,q1,q2,q3,q4,q5⟩
 have e1:(((2+4*b:Nat):Int)+1)=((3+4*b:Nat):Int):=by omega
 have hgb:∀g∈[(gn,((4+4*b:Nat):Int))],w1.heap[g.1]?=some (CtO g.2 0):=by
  intro g hg
  simp only[List.mem_singleton]at hg
  subst hg
  rw[q4]
  show some (CaO _ K.c0.line)=_
  rw[ok.lin]
 exact⟨rfl,tk+1,nr,3+4*b,_,R1,[(gn,((4+4*b:Nat):Int))],rv,gv',by rw[←e1];exact h.guard ok (gl2:=[(gn,((4+4*b:Nat):Int))]) q5 q1 q2 (fun g hg=>.inr (hgb g hg)),.thr b tk nr gn hb hl hn hm,mu_succ (a:=2+4*b) hk (by omega) (by omega)⟩
theorem td4 (ok:TKok w0 K) (hk:k≤250) {b:Nat} {s:ByteArray} (h:TX w0 K w (tk+1) nr ((4+4*b:Nat):Int) (((4+4*b:Nat):Int)+1) (R2 s) [] rv gv) (hb:b<k) (hl:tk<t) (hn:nr=2*k*tk+2*b+2) (hm:nr≤100000) :
  Calls Tryz.prog 110 #[.pointer (some ⟨K.gm,0,none⟩),.pointer (some ⟨K.gf,0,none⟩),insV ⟨42,4,0,0,0⟩] w (GoP w0 K k t (mu t (tk+1) (4+4*b)) ((4+4*b:Nat):Int)):=by
 refine (doDrop_any _ K.gf 4 _ (K.c ((4+4*b:Nat):Int) (((4+4*b:Nat):Int)+1) gv (R2 s)) w h.cal h.lr (by omega) rfl).mono ?_
 rintro e w1 ⟨rfl,q1,q2⟩
 have e1:(((4+4*b:Nat):Int)+1)=((5+4*b:Nat):Int):=by omega
 exact⟨rfl,tk+1,nr,5+4*b,_,(R2 s).set 4 sd0,[],rv,gv,by rw[←e1];exact h.call ok q2 q1 (by rw[List.length_set];exact h.lr),.dr5 b tk nr s hb hl hn hm,mu_succ (a:=4+4*b) hk (by omega) (by omega)⟩
theorem td5 (ok:TKok w0 K) (hk:k≤250) {b:Nat} {s:ByteArray} (h:TX w0 K w (tk+1) nr ((5+4*b:Nat):Int) (((5+4*b:Nat):Int)+1) ((R2 s).set 4 sd0) [] rv gv) (hb:b<k) (hl:tk<t) (hn:nr=2*k*tk+2*b+2) (hm:nr≤100000) :
  Calls Tryz.prog 110 #[.pointer (some ⟨K.gm,0,none⟩),.pointer (some ⟨K.gf,0,none⟩),insV ⟨42,5,0,0,0⟩] w (GoP w0 K k t (mu t (tk+1) (5+4*b)) ((5+4*b:Nat):Int)):=by
 refine (doDrop_any _ K.gf 5 _ (K.c ((5+4*b:Nat):Int) (((5+4*b:Nat):Int)+1) gv ((R2 s).set 4 sd0)) w h.cal h.lr (by omega) rfl).mono ?_
 rintro e w1 ⟨rfl,q1,q2⟩
 have e1:(((5+4*b:Nat):Int)+1)=((6+4*b:Nat):Int):=by omega
 have e2:((R2 s).set 4 sd0).set 5 sd0=R1:=R1_back _ _
 have q1':CallAt w1 K.gf (K.c ((5+4*b:Nat):Int) (((5+4*b:Nat):Int)+1) gv (((R2 s).set 4 sd0).set 5 sd0)):=q1
 rw[e2]at q1'
 have hX:=h.call ok q2 q1' R1_len
 rw[e1]at hX
 by_cases hb2:b+1<k
 ·exact⟨rfl,tk+1,nr,6+4*b,_,R1,[],rv,gv,hX,by rw[show 6+4*b=2+4*(b+1) by omega];exact .try_ (b+1) tk nr hb2 hl (by omega) hm,mu_succ (a:=5+4*b) hk (by omega) (by omega)⟩
 ·obtain rfl:k=b+1:=by omega
  refine⟨rfl,tk+1,nr,6+4*b,_,R1,[],rv,gv,hX,by rw[show 6+4*b=2+4*(b+1) by omega];exact .jmp (k:=b+1) tk nr hl (by omega) hm,mu_succ (a:=5+4*b) hk (by omega) (by omega)⟩
theorem tdJ (ok:TKok w0 K) (hk:k≤250) (h1:1≤k) (h:TX w0 K w (tk+1) nr ((2+4*k:Nat):Int) (((2+4*k:Nat):Int)+1) R1 [] rv gv) (hl:tk<t) (hn:nr=2*k*tk+2*k) (hm:nr≤100000) :
  Calls Tryz.prog 93 #[.pointer (some ⟨K.gm,0,none⟩),.pointer (some ⟨K.gf,0,none⟩),insV ⟨19,1,0,0,0⟩] w (GoP w0 K k t (mu t (tk+1) (2+4*k)) ((2+4*k:Nat):Int)):=by
 refine (doJump_any _ K.gf _ (K.c ((2+4*k:Nat):Int) (((2+4*k:Nat):Int)+1) gv R1) w h.cal rfl).mono ?_
 rintro e w1 ⟨rfl,q1,q2⟩
 refine⟨rfl,tk+1,nr,1,_,R1,[],rv,gv,h.call ok q2 q1 R1_len,.turn (tk+1) nr (by omega) (by rw[hn,Nat.mul_succ]) hm,?_⟩
 unfold mu
 rw[if_pos rfl,if_neg (by omega)]
 omega
end
end Go.Proofs.YtjglgbepobmjhaaGreatDoor.T
namespace Go.Proofs.YtjglgbepobmjhaaGreatDoor.T
open Go.RowKit M
section
variable {w0:World} {K:TK} {k t:Nat} {w:World} {tk nr at':Nat} {rs:List M.SD} {gl:List (Nat × Int)} {rv gv:Value}
theorem kind_even {n:Nat} (h:n % 2=0):kindN n=4:=by unfold kindN;rw[if_pos h]
theorem kind_odd {n:Nat} (h:n % 2=1):kindN n=5:=by unfold kindN;rw[if_neg (by omega)]
theorem even_nr {k tk b nr:Nat} (hn:nr=2*k*tk+2*b):nr % 2=0:=by
 rw[hn,Nat.mul_assoc];omega
theorem hcD_eq (ok:TKok w0 K) (a n hd:Int) (g:Value) (r:List M.SD):hcD (K.c a n g r) hd=K.c hd hd g r:=by
 simp only[hcD,TK.c,ok.lin]
theorem R1_low (ok:TKok w0 K) (a n:Int) (g:Value):Low (K.c a n g R1):=⟨R1_len,R1_drop⟩
theorem td3 (ok:TKok w0 K) (hk:k≤250) {b gn:Nat} (h:TX w0 K w (tk+1) nr ((3+4*b:Nat):Int) (((3+4*b:Nat):Int)+1) R1 [(gn,((4+4*b:Nat):Int))] rv gv) (hb:b<k) (hl:tk<t) (hn:nr=2*k*tk+2*b) (hm:nr<100000) :
  Calls Tryz.prog 99 #[.pointer (some ⟨K.gm,0,none⟩),.pointer (some ⟨K.gf,0,none⟩),insV ⟨30,0,0,0,0⟩] w (ThP w0 K k t (mu t (tk+1) (3+4*b)) ((3+4*b:Nat):Int)):=by
 have hev:=even_nr hn
 refine (doThrow_any K.gm K.gt K.gc K.gf K.bp K.op K.capP (K.m ((tk+1:Nat):Int) rv) (K.c ((3+4*b:Nat):Int) (((3+4*b:Nat):Int)+1) gv R1) _ (fun wk w'=>∃rv',MachAt w' K.gm (K.m ((tk+1:Nat):Int) rv')∧ORow w' w0.heap.size 41 5 rcC rv' (recL nr++[4])∧ButL (K.gm :: rv.ownBlock.toList) wk w') w (h.thr ok) R1_len rfl R1_at0 (fun wk hwk=>?_)).mono ?_
 ·have hx:=h.later ok hwk
  refine (record_go w0.heap.size K.gm 4 (K.m ((tk+1:Nat):Int) rv) (recL nr) wk hx.mac ok.wat hx.rc (by rw[recL_len];omega) hx.bel.size).mono ?_
  rintro e w' ⟨rfl,rv',q1,q2,q3⟩
  exact⟨rfl,rv',q1,q2,q3⟩
 ·rintro e w1 ⟨gr,s,wk,rfl,hgr,hth,hwk,rv1,q1,q2,q3⟩
  have hxk:=h.later ok hwk
  have hx1:TX w0 K w1 (tk+1) (nr+1) ((3+4*b:Nat):Int) (((3+4*b:Nat):Int)+1) R1 [(gn,((4+4*b:Nat):Int))] rv1 gv:=hxk.recd ok q3 q1 (by rw[kind_even hev];exact q2)
  have hth1:w1.heap[gr]?=some (ThO s):=hxk.keep ok (hxk.sub q3 (fun g hg=>by
   simp only[List.mem_cons,Option.mem_toList]at hg
   simp only[twr,List.mem_cons,List.mem_append,Option.mem_toList]
   rcases hg with e | e
   ·exact .inl e
   ·exact .inr (.inr (.inr e)))) hth (by decide) (by decide) (by decide) (by decide)
  refine⟨gr,rfl,?_⟩
  obtain⟨ga,cap,hgv,hga,_,hsl,_,hcap⟩:=hx1.gu.open vC_len (by simp)
  have hgc:w1.cell? ⟨ga,0,none⟩=some (caV gn):=by
   obtain⟨b9,o9,e9,_,hc9⟩:=hsl 0 _ rfl
   have e3:ga=b9∧0=o9:=by injection e9 with e9;injection e9 with e9 e2;exact⟨e9,e2⟩
   obtain⟨rfl,rfl⟩:=e3
   exact hc9 0 _ rfl
  have hgv1:gv=.slice (some ⟨ga,0,none⟩) 1 cap:=hgv
  have hgu0:ORow w1 w0.heap.size 319 1 vC (.slice (some ⟨ga,0,none⟩) 0 cap) []:=by
   have hq:ORow w1 w0.heap.size 319 1 vC (.slice (some ⟨ga,0,none⟩) [caV gn].length cap) [caV gn]:=by have h9:=hx1.gu;rw[hgv1]at h9;exact h9
   exact vrow_shrink hq (m:=0) (by omega)
  have hcap1:1≤cap:=by
   have h9:=hx1.gu
   rw[hgv1]at h9
   rcases h9.2 with ⟨e9,_⟩ | ⟨g9,c9,cur,e9,_,_,hl9,_⟩
   ·cases e9
   ·have e8:cap=c9:=by injection e9 with _ _ e9
    have h8:1≤c9:=by simpa using hl9
    omega
  have hgnb:=hx1.gb (gn,((4+4*b:Nat):Int)) (by simp)
  refine (leave_catch K.gm K.gf gn gr ga cap (some K.ov) (K.c ((3+4*b:Nat):Int) (((3+4*b:Nat):Int)+1) gv R1) .nilIface (fun w2 w'=>∃wk w5,ButL [K.gf] w2 wk∧CallAt wk K.gf (K.c ((4+4*b:Nat):Int) ((4+4*b:Nat):Int) (.slice (some ⟨ga,0,none⟩) 0 cap) R1)∧(∃rv2,MachAt w5 K.gm (K.m ((tk+1:Nat):Int) rv2)∧ORow w5 w0.heap.size 41 5 rcC rv2 (recL (nr+1)++[5])∧ButL (K.gm :: rv1.ownBlock.toList) wk w5)∧CallAt w' K.gf (K.c ((4+4*b:Nat):Int) ((4+4*b:Nat):Int) (.slice (some ⟨ga,0,none⟩) 0 cap) (R2 s))∧ButL [K.gf] w5 w') w1 hx1.cal hgv1 hcap1 hgc (hx1.ov ok) (fun w2 hb2 hc2=>?_)).mono ?_
  ·have hgu2:ORow w2 w0.heap.size 319 1 vC (.slice (some ⟨ga,0,none⟩) 0 cap) []:=ORow.butn hgu0 hb2 (fun g e hg=>by simp at hg;subst hg;exact own_ne hgu0 hx1.cal (by decide) e)
   have hx2:TX w0 K w2 (tk+1) (nr+1) ((3+4*b:Nat):Int) (((3+4*b:Nat):Int)+1) R1 [] rv1 (.slice (some ⟨ga,0,none⟩) 0 cap):=hx1.guard ok (hb2.mono (fun g hg=>.inl (by simp at hg;subst hg;simp))) hc2 hgu2 (fun g hg=>by cases hg)
   have hth2:w2.heap[gr]?=some (ThO s):=hb2.blk hth1 (by simp;exact ne_ty hth1 hx1.cal (by decide))
   have hgn2:w2.heap[gn]?=some (CtO ((4+4*b:Nat):Int) 0):=hb2.blk hgnb (by simp;exact ne_ty hgnb hx1.cal (by decide))
   refine (handle_go K.gm K.gt K.gc K.gf gn gr ((4+4*b:Nat):Int) s (K.m ((tk+1:Nat):Int) rv1) (K.c ((3+4*b:Nat):Int) (((3+4*b:Nat):Int)+1) (.slice (some ⟨ga,0,none⟩) 0 cap) R1) _ _ (K.gm :: rv1.ownBlock.toList) (fun wk w5=>∃rv2,MachAt w5 K.gm (K.m ((tk+1:Nat):Int) rv2)∧ORow w5 w0.heap.size 41 5 rcC rv2 (recL (nr+1)++[5])∧ButL (K.gm :: rv1.ownBlock.toList) wk w5) w2 hx2.mac ok.run (hx2.tka ok) hx2.tsk hx2.cro hx2.cal (R1_low ok _ _ _) ok.pro hgn2 hth2 ?_ ?_ ?_ (fun wk hbk hck=>?_)).mono ?_
   ·simp only[List.mem_cons,Option.mem_toList,not_or]
    exact⟨hx2.mf.symm,own_ne hx2.rc hx2.cal (by decide)⟩
   ·simp only[List.mem_cons,Option.mem_toList,not_or]
    exact⟨ne_ty hgn2 hx2.mac (by decide),own_ne hx2.rc hgn2 (by decide)⟩
   ·simp only[List.mem_cons,Option.mem_toList,not_or]
    exact⟨ne_ty hth2 hx2.mac (by decide),own_ne hx2.rc hth2 (by decide)⟩
   ·rw[hcD_eq ok]at hck
    have hxk2:=hx2.call ok hbk hck R1_len
    refine (record_go w0.heap.size K.gm 5 (K.m ((tk+1:Nat):Int) rv1) (recL (nr+1)) wk hxk2.mac ok.wat hxk2.rc (by rw[recL_len];omega) hxk2.bel.size).mono ?_
    rintro e w' ⟨rfl,rv',p1,p2,p3⟩
    exact⟨rfl,p3,rv',p1,p2,p3⟩
   ·rintro e w' ⟨rfl,wk2,w5,p1,p2,p3,p4,p5,p6⟩
    rw[hcD_eq ok]at p2
    have p5':CallAt w' K.gf { K.c ((4+4*b:Nat):Int) ((4+4*b:Nat):Int) (.slice (some ⟨ga,0,none⟩) 0 cap) R1 with regs:=(R1.set 4 (sdV (intD 7))).set 5 (sdV (strD s)) }:=by rw[hcD_eq ok]at p5;exact p5
    exact⟨rfl,wk2,w5,p1,p2,p4,p5',p6⟩
  ·rintro e w' ⟨rfl,w2,hb2,hc2,wk2,w5,p1,p2,⟨rv2,p3,p4,p5⟩,p6,p7⟩
   have hgu2:ORow w2 w0.heap.size 319 1 vC (.slice (some ⟨ga,0,none⟩) 0 cap) []:=ORow.butn hgu0 hb2 (fun g e hg=>by simp at hg;subst hg;exact own_ne hgu0 hx1.cal (by decide) e)
   have hx2:TX w0 K w2 (tk+1) (nr+1) ((3+4*b:Nat):Int) (((3+4*b:Nat):Int)+1) R1 [] rv1 (.slice (some ⟨ga,0,none⟩) 0 cap):=hx1.guard ok (hb2.mono (fun g hg=>.inl (by simp at hg;subst hg;simp))) hc2 hgu2 (fun g hg=>by cases hg)
   have hx3:=hx2.call ok p1 p2 R1_len
   have hx4:TX w0 K w5 (tk+1) (nr+1+1) ((4+4*b:Nat):Int) ((4+4*b:Nat):Int) R1 [] rv2 (.slice (some ⟨ga,0,none⟩) 0 cap):=hx3.recd ok p5 p3 (by rw[kind_odd (by omega)];exact p4)
   have hx5:=hx4.call ok p7 p6 (by unfold R2;rw[List.length_set,List.length_set];exact R1_len)
   exact⟨rfl,tk+1,nr+2,4+4*b,_,R2 s,[],rv2,_,hx5,.dr4 b tk (nr+2) s hb hl (by omega) (by omega),mu_succ (a:=3+4*b) hk (by omega) (by omega)⟩
theorem td3o (ok:TKok w0 K) (hk:1≤k) {b gn:Nat} (h:TX w0 K w (tk+1) nr ((3+4*b:Nat):Int) (((3+4*b:Nat):Int)+1) R1 [(gn,((4+4*b:Nat):Int))] rv gv) (hb:b<k) (hl:tk<t) (hn:nr=2*k*tk+2*b) (hm:nr=100000) :
  Calls Tryz.prog 99 #[.pointer (some ⟨K.gm,0,none⟩),.pointer (some ⟨K.gf,0,none⟩),insV ⟨30,0,0,0,0⟩] w (OvP w0 K k t):=by
 refine (doThrow_ov (some K.ov) K.gm K.gt K.gc K.gf K.bp K.op K.capP (K.m ((tk+1:Nat):Int) rv) (K.c ((3+4*b:Nat):Int) (((3+4*b:Nat):Int)+1) gv R1) _ (fun wk w'=>Below wk.heap.size wk w') w (h.thr ok) R1_len rfl R1_at0 (fun wk hwk=>?_)).mono ?_
 ·have hx:=h.later ok hwk
  exact record_over w0.heap.size K.gm 4 (K.m ((tk+1:Nat):Int) rv) (recL nr) (some K.ov) wk hx.mac hx.rc (by rw[recL_len];exact hm) (hx.ov ok)
 ·rintro e w1 ⟨wk,rfl,hwk,hb1⟩
  refine⟨rfl,tk+1,nr,_,_,_,_,_,_,(h.later ok hwk).later ok hb1,.inr ⟨?_,?_,hm⟩⟩
  ·have h1:2*k*(tk+1)≤2*k*t:=Nat.mul_le_mul_left _ (by omega)
   rw[Nat.mul_succ]at h1
   omega
  ·have h2:100000=2*b+2*k*tk:=by omega
   rw[h2,Nat.add_mul_div_left _ _ (by omega),Nat.div_eq_of_lt (by omega)]
   omega
end
end Go.Proofs.YtjglgbepobmjhaaGreatDoor.T
namespace Go.Proofs.YtjglgbepobmjhaaGreatDoor.M
open Go.RowKit
theorem MX.drew {w0:World} {K:MK} {w:World} {nt:Nat} {at' next:Int} {regs:List RD} {vs:List Value} {gs:List Nat} {tv gv:Value} (h:MX w0 K w nt at' next regs vs gs tv gv):MX w0 K w.drew nt at' next regs vs gs tv gv :=
 ⟨h.bel.drew,h.geM,h.geF,h.mac,h.cal,h.tsk,h.row,h.cha,h.gu,h.tb,h.sh,h.lg,h.lr⟩
theorem MX.next {w0:World} {K:MK} {w:World} {nt:Nat} {at' next:Int} {regs:List RD} {vs:List Value} {gs:List Nat} {tv gv:Value} (h:MX w0 K w nt at' next regs vs gs tv gv) (o:Obj) (z:Int):MX w0 K ((w.setCell ⟨K.gf,10,none⟩ (.int .i64 z)).alloc o) nt at' z regs vs gs tv gv:=by
 have hb:ButL [K.gf] w ((w.setCell ⟨K.gf,10,none⟩ (.int .i64 z)).alloc o):=((ButL.refl _ _).set (by simp) _ _).alloc o
 refine h.call hb ?_ h.lr
 have h9:=blk_set h.cal 10 (.int .i64 z)
 rw[CallD.set_next]at h9
 exact CallAt.later (c:=K.c at' z gv (regs.map RD.sd)) h9 (bw1 _ o)
theorem MachD.inst (m:MachD) {op:Nat} (hop:op<43):m.arr[14+op]?=instT[op]?:=by
 unfold MachD.arr
 have hl:instT.length=43:=rfl
 rw[List.getElem?_toArray,List.getElem?_append_left (by simp only[List.length_append,hl,List.length_cons,List.length_nil];omega),List.getElem?_append_left (by simp only[List.length_append,hl,List.length_cons,List.length_nil];omega),List.getElem?_append_right (by simp only[List.length_cons,List.length_nil];omega)]
 congr 1
 simp only[List.length_cons,List.length_nil]
 omega
theorem MX.atW {w0:World} {K:MK} {w:World} {nt:Nat} {at' next:Int} {regs:List RD} {vs:List Value} {gs:List Nat} {tv gv:Value} (h:MX w0 K w nt at' next regs vs gs tv gv) (z:Int):MX w0 K (w.setCell ⟨K.gf,9,none⟩ (.int .i64 z)) nt z next regs vs gs tv gv:=by
 have hb:ButL [K.gf] w (w.setCell ⟨K.gf,9,none⟩ (.int .i64 z)):=(ButL.refl _ _).set (by simp) _ _
 refine h.call hb ?_ h.lr
 have:=blk_set h.cal 9 (.int .i64 z)
 rw[CallD.set_at]at this
 exact this
end Go.Proofs.YtjglgbepobmjhaaGreatDoor.M
