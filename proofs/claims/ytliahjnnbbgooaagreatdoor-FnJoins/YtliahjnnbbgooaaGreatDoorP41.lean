import Derived.Test.YtliahjnnbbgooaaGreatDoorP32
import Derived.Test.YtliahjnnbbgooaaGreatDoorP40
import Derived.Test.YtliahjnnbbgooaaGreatDoorP39
import Derived.Test.YtliahjnnbbgooaaGreatDoorP31
import Derived.Test.YtliahjnnbbgooaaGreatDoorP33
set_option linter.unusedVariables false
set_option linter.unusedSimpArgs false
set_option maxRecDepth 20000
set_option maxHeartbeats 8000000
namespace Go.Proofs.YtliahjnnbbgooaaGreatDoor.U
open Go.RowKit M T
def GdOk:Option Nat→List (Nat × Int)→Prop
 | none,gl=>gl=[]
 | some hd,gl=>∃gn:Nat,gl=[(gn,(hd:Int))]
def Ph (kind n t a tk nr:Nat) (ln:Int) (rs:List M.SD) (gl:List (Nat × Int)):Prop :=
 a≤cirJ kind n∧tk≤t∧nr+2*mu kind n t tk a≤60000∧∃s,(cirS kind n)[a]?=some s∧Reps s.rs rs∧(s.ln=true→ln=0)∧GdOk s.gd gl
structure Here (kind n t a tk nr:Nat) (ln:Int) (rs:List M.SD) (gl:List (Nat × Int)) (i:ID) (s s':AS) (k:Nat):Prop where
 tab:Tab kind n
 ht:cirT kind=true
 ha:a≤cirJ kind n
 htk:tk≤t
 hb:nr+2*mu kind n t tk a≤60000
 hi:(cirI kind n)[a]?=some i
 at_:s.at'=a
 hd:absD i s=some (s',k)
 nxt:s'.at'=cirN kind n a
 hn:(cirS kind n)[cirN kind n a]?=some s'
 hx:a≠cirX kind n∨0<k
 rp:Reps s.rs rs
 hl:s.ln=true→ln=0
 hg:GdOk s.gd gl
section
variable {w0:World} {K:UK} {kind n t a tk nr:Nat} {ln:Int} {rs:List M.SD} {gl:List (Nat × Int)} {i:ID} {s s':AS} {k:Nat}
theorem Here.go (H:Here kind n t a tk nr ln rs gl i s s' k) {tk' nr':Nat} {ln':Int} {rs':List M.SD} {gl':List (Nat × Int)} (hk:tk'=tk+k) (hle:tk'≤t) (hnr:nr'≤nr+2) (hr:Reps s'.rs rs') (hl:s'.ln=true→ln'=0) (hg:GdOk s'.gd gl') :
  Ph kind n t s'.at' tk' nr' ln' rs' gl'∧mu kind n t tk' s'.at'<mu kind n t tk a:=by
 have hmu:mu kind n t tk' s'.at'<mu kind n t tk a:=by
  rw[H.nxt]
  unfold mu
  by_cases h0:k=0
  ·subst h0
   have h1:a≠cirX kind n:=by rcases H.hx with h | h<;>omega
   have:=cirW_lt kind n a H.ht H.ha h1
   subst hk
   rw[Nat.add_zero]
   omega
  ·have h1:=cirW_le kind n (cirN kind n a) H.ht
   have h2:=H.tab.jl
   have h3:(t+1-tk)*128≥(t+1-tk')*128+128:=by
    have:t+1-tk≥(t+1-tk')+1:=by omega
    have:=Nat.mul_le_mul_right 128 this
    omega
   omega
 refine⟨⟨?_,hle,?_,s',?_,hr,hl,hg⟩,hmu⟩
 ·rw[H.nxt];exact cirN_le kind n a H.ht H.ha
 ·have:=H.hb
  omega
 ·rw[H.nxt];exact H.hn
def GoP (w0:World) (K:UK) (kind n t B:Nat) (e:Ending) (w':World):Prop:=e=.returned .nilIface∧∃(tk:Nat) (xs:List RcD) (at2:Nat) (ln ax:Int) (rs:List M.SD) (gl:List (Nat × Int)) (rv gv:Value),UX w0 K w' tk xs ln ax (at2:Int) rs gl rv gv∧Ph kind n t at2 tk xs.length ln rs gl∧mu kind n t tk at2<B
def ThP (w0:World) (K:UK) (kind n t B:Nat) (e:Ending) (w':World):Prop:=∃gr,e=.returned (.iface 112 (.pointer (some ⟨gr,0,none⟩)))∧Calls Tryz.prog 103 #[.pointer (some ⟨K.gm,0,none⟩),.pointer (some ⟨K.gf,0,none⟩),.iface 112 (.pointer (some ⟨gr,0,none⟩))] w' (GoP w0 K kind n t B)
def OvP (w0:World) (K:UK) (t:Nat) (e:Ending) (w':World):Prop:=e=.returned (ovI (some K.ov))∧∃(xs:List RcD) (ln ax nx:Int) (rs:List M.SD) (gl:List (Nat × Int)) (rv gv:Value),UX w0 K w' t xs ln ax nx rs gl rv gv
variable {w:World} {xs:List RcD} {rv gv:Value}
theorem GoP.of (H:Here kind n t a tk xs.length ln rs gl i s s' k) {w':World} {tk':Nat} {xs':List RcD} {ln' ax nx:Int} {rs':List M.SD} {gl':List (Nat × Int)} {rv' gv':Value} (hx:UX w0 K w' tk' xs' ln' ax nx rs' gl' rv' gv') (hnx:nx=(s'.at':Int)) (hk:tk'=tk+k) (hle:tk'≤t) (hnr:xs'.length≤xs.length+2) (hr:Reps s'.rs rs') (hl:s'.ln=true→ln'=0) (hg:GdOk s'.gd gl') :
  GoP w0 K kind n t (mu kind n t tk a) (.returned .nilIface) w':=by
 obtain⟨h1,h2⟩:=H.go hk hle hnr hr hl hg
 subst hnx
 exact⟨rfl,tk',xs',s'.at',ln',ax,rs',gl',rv',gv',hx,h1,h2⟩
structure Con (w0:World) (K:UK):Prop where
 con:∃cb co ccap,K.c0.consts=.slice (some ⟨cb,co,none⟩) 2 ccap∧cb<w0.heap.size∧∀(j:Nat) v,[nothing,texter][j]?=some v→∀q u,v.cells[q]?=some u→w0.cell? ⟨cb,co+j*5+q,none⟩=some u
theorem og (ok:UKok w0 K):1<w0.heap.size:=World.block_lt_of_cell? _ _ ok.ovr
theorem ogf (ok:UKok w0 K):1≠K.gf:=by have:=og ok;have:=ok.geF;omega
abbrev args (K:UK) (i:ID):Array Value:=#[.pointer (some ⟨K.gm,0,none⟩),.pointer (some ⟨K.gf,0,none⟩),insV i]
theorem u4 (ok:UKok w0 K) (con:Con w0 K) (H:Here kind n t a tk xs.length ln rs gl i s s' k) (hop:i.op=4) (h:UX w0 K w tk xs ln (a:Int) ((a:Int)+1) rs gl rv gv) :
  Calls Tryz.prog 54 (args K i) w (GoP w0 K kind n t (mu kind n t tk a)):=by
 obtain⟨cb,co,ccap,h1,h2,h3⟩:=con.con
 have hlt:cb<w.heap.size:=Nat.lt_of_lt_of_le h2 h.bel.size
 have hd:=H.hd
 unfold absD at hd
 rw[if_pos hop]at hd
 split at hd
 ·rename_i hc
  cases hd
  refine (loadc_any _ K.gf 0 0 cb co 2 ccap nothing i (K.c ln a ((a:Int)+1) gv rs) w h.cal h.lr hop hc.1 (by omega) hc.2 (by omega) h1 hlt (fun q u hu=>cell_later h.bel (h3 0 _ rfl q u hu))).mono ?_
  rintro e w1 ⟨rfl,q1,q2⟩
  exact GoP.of H (h.call ok q2 (ln2:=ln) (at2:=a) (next2:=(a:Int)+1) q1 (by rw[List.length_set];exact h.lr)) (by have:=H.at_;show (a:Int)+1=((s.at'+1:Nat):Int);omega) rfl H.htk (by omega) (H.rp.set (by omega) rfl) H.hl H.hg
 ·split at hd
  ·rename_i hc
   cases hd
   refine (loadc_any _ K.gf 1 1 cb co 2 ccap texter i (K.c ln a ((a:Int)+1) gv rs) w h.cal h.lr hop hc.1 (by omega) hc.2 (by omega) h1 hlt (fun q u hu=>cell_later h.bel (h3 1 _ rfl q u hu))).mono ?_
   rintro e w1 ⟨rfl,q1,q2⟩
   exact GoP.of H (h.call ok q2 (ln2:=ln) (at2:=a) (next2:=(a:Int)+1) q1 (by rw[List.length_set];exact h.lr)) (by have:=H.at_;show (a:Int)+1=((s.at'+1:Nat):Int);omega) rfl H.htk (by omega) (H.rp.set (by omega) rfl) H.hl H.hg
  ·cases hd
theorem reg_emp (H:Here kind n t a tk nr ln rs gl i s s' k) {j:Nat} (hj:s.rs[j]?=some .emp):rs[j]?=some (sdV nothing):=by
 obtain⟨x,h1,h2⟩:=H.rp.at_ j _ hj
 rw[h1];exact congrArg some h2
theorem reg_bui (H:Here kind n t a tk nr ln rs gl i s s' k) {j:Nat} (hj:s.rs[j]?=some .bui):rs[j]?=some (sdV texter):=by
 obtain⟨x,h1,h2⟩:=H.rp.at_ j _ hj
 rw[h1];exact congrArg some h2
theorem reg_l0 (H:Here kind n t a tk nr ln rs gl i s s' k) {j:Nat} (hj:s.rs[j]?=some .l0):rs[j]?=some (sdL (.slice none 0 0)):=by
 obtain⟨x,h1,h2⟩:=H.rp.at_ j _ hj
 rw[h1];exact congrArg some h2
theorem nxa (H:Here kind n t a tk nr ln rs gl i s s' k):(a:Int)+1=((s.at'+1:Nat):Int):=by have:=H.at_;omega
theorem u5 (ok:UKok w0 K) (H:Here kind n t a tk xs.length ln rs gl i s s' k) (hop:i.op=5) (h:UX w0 K w tk xs ln (a:Int) ((a:Int)+1) rs gl rv gv) :
  Calls Tryz.prog 54 (args K i) w (GoP w0 K kind n t (mu kind n t tk a)):=by
 have hd:=H.hd
 unfold absD at hd
 rw[if_neg (by omega),if_pos hop]at hd
 split at hd
 ·rename_i hc
  cases hd
  refine (loadm_any _ K.gf 0 0 1 nothing none none 0 0 i (K.c ln a ((a:Int)+1) gv rs) w h.cal h.lr hop hc.1 (by omega) hc.2.1 (by omega) (reg_emp H hc.2.2)).mono ?_
  rintro e w1 ⟨rfl,q1,q2⟩
  exact GoP.of H (h.call ok q2 (ln2:=ln) (at2:=a) (next2:=(a:Int)+1) q1 (by rw[List.length_set];exact h.lr)) (nxa H) rfl H.htk (by omega) (H.rp.set (by omega) rfl) H.hl H.hg
 ·split at hd
  ·rename_i hc
   cases hd
   refine (loadm_any _ K.gf 2 1 1 texter none none 0 0 i (K.c ln a ((a:Int)+1) gv rs) w h.cal h.lr hop hc.1 (by omega) hc.2.1 (by omega) (reg_bui H hc.2.2)).mono ?_
   rintro e w1 ⟨rfl,q1,q2⟩
   exact GoP.of H (h.call ok q2 (ln2:=ln) (at2:=a) (next2:=(a:Int)+1) q1 (by rw[List.length_set];exact h.lr)) (nxa H) rfl H.htk (by omega) (H.rp.set (by omega) rfl) H.hl H.hg
  ·cases hd
theorem u31 (ok:UKok w0 K) (H:Here kind n t a tk xs.length ln rs gl i s s' k) (hop:i.op=31) (h:UX w0 K w tk xs ln (a:Int) ((a:Int)+1) rs gl rv gv) :
  Calls Tryz.prog 73 (args K i) w (GoP w0 K kind n t (mu kind n t tk a)):=by
 have hd:=H.hd
 unfold absD at hd
 rw[if_neg (by omega),if_neg (by omega),if_neg (by omega),if_neg (by omega),if_neg (by omega),if_neg (by omega),if_neg (by omega),if_neg (by omega),if_neg (by omega),if_pos hop]at hd
 split at hd
 ·rename_i hc
  obtain⟨hb4,h0a,hl0,hgn⟩:=hc
  cases hd
  have hln:ln=0:=H.hl hl0
  have hgl:gl=[]:=by have:=H.hg;rw[hgn]at this;exact this
  subst hgl
  refine (doTry_any _ w0.heap.size K.gf i (K.c ln a ((a:Int)+1) gv rs) [] w h.cal h.gu (by simp) h.bel.size).mono ?_
  rintro e w1 ⟨rfl,gv',gn,q1,q2,q3,q4,q5⟩
  have hgb:∀g∈[(gn,i.a)],w1.heap[g.1]?=some (CtO g.2 0):=by
   intro g hg
   simp only[List.mem_singleton]at hg
   subst hg
   rw[q4]
   show some (Obj.cells #[.int .i64 i.b,.int .i64 i.a,.int .i64 ln] 230)=_
   rw[hb4,hln]
  exact GoP.of H (h.guard ok (gl2:=[(gn,i.a)]) q5 q1 q2 (fun g hg=>.inr (hgb g hg))) (nxa H) rfl H.htk (by omega) H.rp H.hl ⟨gn,by show [(gn,i.a)]=[(gn,((i.a.toNat:Nat):Int))];rw[Int.toNat_of_nonneg h0a]⟩
 ·cases hd
end
end Go.Proofs.YtliahjnnbbgooaaGreatDoor.U
namespace Go.Proofs.YtliahjnnbbgooaaGreatDoor.U
open Go.RowKit M T
section
variable {w0:World} {K:UK} {kind n t a tk nr:Nat} {ln:Int} {rs:List M.SD} {gl:List (Nat × Int)} {i:ID} {s s':AS} {k:Nat} {w:World} {xs:List RcD} {rv gv:Value}
theorem mtick (K:UK) (tk:Nat) (rv:Value) {w':World} (h:MachAt w' K.gm { K.m tk rv with rticks:=(K.m tk rv).rticks+1 }):MachAt w' K.gm (K.m ((tk+1:Nat):Int) rv):=by
 have e1:((tk+1:Nat):Int)=(tk:Int)+1:=by omega
 rw[e1]
 exact h
abbrev Out (w0:World) (K:UK) (kind n t a tk:Nat) (fid:Nat) (i:ID) (w:World):Prop :=
 Calls Tryz.prog fid (args K i) w (GoP w0 K kind n t (mu kind n t tk a))∨Calls Tryz.prog fid (args K i) w (ThP w0 K kind n t (mu kind n t tk a))∨Calls Tryz.prog fid (args K i) w (OvP w0 K t)
theorem u3 (ok:UKok w0 K) (hT:K.m0.ticks=(t:Int)) (H:Here kind n t a tk xs.length ln rs gl i s s' k) (hop:i.op=3) (h:UX w0 K w tk xs ln (a:Int) ((a:Int)+1) rs gl rv gv) :
  Out w0 K kind n t a tk 53 i w:=by
 have hT2:=ok.tic.2
 have hd:=H.hd
 unfold absD at hd
 rw[if_neg (by omega),if_neg (by omega),if_neg (by omega),if_neg (by omega),if_pos hop]at hd
 cases hd
 by_cases hq:tk<t
 ·refine .inl ((doTick_go K.gm K.gf i (K.m tk rv) w h.mac (by show (tk:Int)<K.m0.ticks;omega) (by show (0:Int)≤(tk:Int);omega) (by show K.m0.ticks≤_;omega)).mono ?_)
  rintro e w1 ⟨rfl,q1,q2⟩
  exact GoP.of H (h.mach ok (tk2:=tk+1) q2 (mtick K tk rv q1)) (nxa H) rfl (by omega) (by omega) H.rp H.hl H.hg
 ·have e:tk=t:=by have:=H.htk;omega
  refine .inr (.inr ((doTick_over K.gm K.gf i (K.m tk rv) (some K.ov) w h.mac (h.ov ok) (by show (tk:Int)=K.m0.ticks;omega)).mono ?_))
  rintro e w1 ⟨rfl,q1⟩
  subst e
  exact⟨rfl,xs,ln,_,_,rs,gl,rv,gv,h.later ok q1⟩
theorem u1 (ok:UKok w0 K) (hT:K.m0.ticks=(t:Int)) (H:Here kind n t a tk xs.length ln rs gl i s s' k) (hop:i.op=1) (h:UX w0 K w tk xs ln (a:Int) ((a:Int)+1) rs gl rv gv) :
  Out w0 K kind n t a tk 51 i w:=by
 have hT2:=ok.tic.2
 have hd:=H.hd
 unfold absD at hd
 rw[if_neg (by omega),if_neg (by omega),if_neg (by omega),if_pos hop]at hd
 cases hd
 by_cases hq:tk<t
 ·refine .inl ((doLine_go K.gm K.gt K.gc K.gf i (K.m tk rv) (K.c ln a ((a:Int)+1) gv rs) _ _ (fun wk w'=>∃rv',MachAt w' K.gm (K.m ((tk+1:Nat):Int) rv')∧ORow w' w0.heap.size 67 5 rgC rv' (xs++[⟨1,i.a,⟨#[]⟩⟩])∧ButL (K.gm :: rv.ownBlock.toList) wk w') w h.mac ok.run (h.tka ok) h.tsk h.cro h.cal ok.pro (by show (tk:Int)<K.m0.ticks;omega) (by show (0:Int)≤(tk:Int);omega) (by show K.m0.ticks≤_;omega) (fun wk hb hm hc=>?_)).mono ?_)
  ·have hx:UX w0 K wk (tk+1) xs i.a (a:Int) ((a:Int)+1) rs gl rv gv:=h.both ok hb (mtick K tk rv hm) hc h.lr
   have hlen:=H.hb
   refine (recg_go w0.heap.size K.gm ⟨1,i.a,⟨#[]⟩⟩ (K.m ((tk+1:Nat):Int) rv) xs wk hx.mac ok.wat hx.rc (by omega) hx.bel.size).mono ?_
   rintro e w' ⟨rfl,rv',q1,q2,q3⟩
   exact⟨rfl,rv',q1,q2,q3⟩
  ·rintro e w1 ⟨rfl,wk,hb,hm,hc,rv',q1,q2,q3⟩
   have hx:UX w0 K wk (tk+1) xs i.a (a:Int) ((a:Int)+1) rs gl rv gv:=h.both ok hb (mtick K tk rv hm) hc h.lr
   exact GoP.of H (hx.recd ok q3 q1 q2) (nxa H) rfl (by omega) (by simp) H.rp (by intro h9;cases h9) H.hg
 ·have e:tk=t:=by have:=H.htk;omega
  refine .inr (.inr ((doLine_over (some K.ov) K.gm K.gf i (K.m tk rv) w h.mac (by show (tk:Int)=K.m0.ticks;omega) (h.ov ok)).mono ?_))
  rintro e w1 ⟨rfl,q1⟩
  subst e
  exact⟨rfl,xs,ln,_,_,rs,gl,rv,gv,h.later ok q1⟩
theorem u28 (ok:UKok w0 K) (hT:K.m0.ticks=(t:Int)) (H:Here kind n t a tk xs.length ln rs gl i s s' k) (hop:i.op=28) (h:UX w0 K w tk xs ln (a:Int) ((a:Int)+1) rs gl rv gv) :
  Out w0 K kind n t a tk 70 i w:=by
 have hT2:=ok.tic.2
 have hd:=H.hd
 unfold absD at hd
 rw[if_neg (by omega),if_neg (by omega),if_neg (by omega),if_neg (by omega),if_neg (by omega),if_neg (by omega),if_pos hop]at hd
 split at hd
 ·rename_i hc
  obtain⟨ha4,hb1,hc5,hr1,hr4⟩:=hc
  cases hd
  by_cases hq:tk<t
  ·refine .inl ((doCall_go K.gm K.gf i (K.m tk rv) (K.c ln a ((a:Int)+1) gv rs) w h.mac h.cal h.lr ha4 hb1 hc5 (reg_bui H hr1) (reg_l0 H hr4) (by show (tk:Int)<K.m0.ticks;omega) (by show (0:Int)≤(tk:Int);omega) (by show K.m0.ticks≤_;omega)).mono ?_)
   rintro e w1 ⟨rfl,g,q1,q2,q3⟩
   have hx:UX w0 K w1 (tk+1) xs ln (a:Int) ((a:Int)+1) ((rs.set 4 sd0).set 4 (sdL (.slice (some ⟨g,0,none⟩) 1 1))) gl rv gv:=h.both ok q3 (mtick K tk rv q1) q2 (by rw[List.length_set,List.length_set];exact h.lr)
   rw[List.set_set]at hx
   exact GoP.of H hx (nxa H) rfl (by omega) (by omega) (H.rp.set (by omega) ⟨g,rfl⟩) H.hl H.hg
  ·have e:tk=t:=by have:=H.htk;omega
   refine .inr (.inr ((doCall_over (some K.ov) K.gm K.gf i (K.m tk rv) (K.c ln a ((a:Int)+1) gv rs) w h.mac h.cal h.lr ha4 hb1 hc5 (reg_bui H hr1) (reg_l0 H hr4) (by show (tk:Int)=K.m0.ticks;omega) (h.ov ok) (ogf ok)).mono ?_))
   rintro e w1 ⟨rfl,q1,q2⟩
   subst e
   exact⟨rfl,xs,ln,(a:Int),(a:Int)+1,rs.set 4 sd0,gl,rv,gv,h.call ok q2 q1 (by rw[List.length_set];exact h.lr)⟩
 ·cases hd
end
end Go.Proofs.YtliahjnnbbgooaaGreatDoor.U
namespace Go.Proofs.YtliahjnnbbgooaaGreatDoor.U
open Go.RowKit M T
attribute [local go_sem] run_store_float
theorem dothrowg_any (gm gt gc gf bp op capP:Nat) (m:MachD) (c:CallD) (n:ID) (v:VD) (tx:ByteArray) (Q:World→World→Prop) (w:World) (h:ThR w gm gt gc gf bp op capP m c) (hr:c.regs.length=250) (ha:n.a=0) (hs:c.regs[0]?=some (sdV v))
  (HTo:∀W,Below w.heap.size w W→Calls Tryz.prog 35 #[.pointer (some ⟨gm,0,none⟩),.agg #[.int .i64 v.k,.int .i64 v.n,.float .f64 v.f,.string v.s,.int .i64 v.r]] W fun e w'=>e=.returned (.string tx)∧Below W.heap.size W w')
  (HQ:∀wk,Below w.heap.size w wk→Calls Tryz.prog 206 #[.pointer (some ⟨gm,0,none⟩),.agg #[.int .i64 4,.int .i64 0,.int .i64 0,.int .i64 0,.string tx]] wk fun e w'=>e=.returned .nilIface∧Q wk w') :
  Calls Tryz.prog 72 #[.pointer (some ⟨gm,0,none⟩),.pointer (some ⟨gf,0,none⟩),insV n] w fun e w'=>∃gr s wk,e=.returned (.iface 112 (.pointer (some ⟨gr,0,none⟩)))∧w.heap.size≤gr∧wk.heap[gr]?=some (ThG v s)∧Below w.heap.size w wk∧Q wk w':=by
 obtain⟨o,a,b,cc,d⟩:=n
 dsimp only[insV]at ha ⊢
 subst ha
 have HB:Hid _:=bw1 w (InO ⟨o,0,b,cc,d⟩)
 have HT:Hid (ThR (w.alloc (InO ⟨o,0,b,cc,d⟩)) gm gt gc gf bp op capP m c):=h.later HB.out
 have HQ':Hid (∀wk,Below w.heap.size w wk→Calls Tryz.prog 206 #[.pointer (some ⟨gm,0,none⟩),.agg #[.int .i64 4,.int .i64 0,.int .i64 0,.int .i64 0,.string tx]] wk fun e w'=>e=.returned .nilIface∧Q wk w'):=HQ
 have HTo':Hid (∀W,Below w.heap.size w W→Calls Tryz.prog 35 #[.pointer (some ⟨gm,0,none⟩),.agg #[.int .i64 v.k,.int .i64 v.n,.float .f64 v.f,.string v.s,.int .i64 v.r]] W fun e w'=>e=.returned (.string tx)∧Below W.heap.size W w'):=HTo
 clear h HQ HTo
 go_enter Tryz.func72,Tryz.ntmps72
 go_wp2_with fail
 refine (value_pos gf 0 1 v none none 0 0 c _ HT.out.cal hr (by omega) hs).mono ?_
 rintro e w1 ⟨rfl,hx⟩
 have HX:Hid (Below w.heap.size w w1):=HB.out.trans (hx.mono (by simp))
 have HT1:Hid (ThR w1 gm gt gc gf bp op capP m c):=HT.out.later hx
 clear hx
 go_wp2_with fail
 refine (throwg_any gm gt gc gf bp op capP m c v tx Q w1 HT1.out (fun W hW=>HTo'.out W (HX.out.trans (hW.mono HX.out.size))) (fun wk hk=>HQ'.out wk (HX.out.trans (hk.mono HX.out.size)))).mono ?_
 rintro e w2 ⟨gr,s,wk,rfl,h1,h2,h3,h4⟩
 have HE:Hid (w.heap.size≤gr∧wk.heap[gr]?=some (ThG v s)∧Below w.heap.size w wk∧Q wk w2):=⟨Nat.le_trans HX.out.size h1,h2,HX.out.trans (h3.mono HX.out.size),h4⟩
 clear h1 h2 h3 h4
 go_wp2_with fail
 go_ret
 exact⟨gr,s,wk,rfl,HE.out⟩
end Go.Proofs.YtliahjnnbbgooaaGreatDoor.U
namespace Go.Proofs.YtliahjnnbbgooaaGreatDoor.U
open Go.RowKit M T
section
variable {w0:World} {K:UK} {kind n t a tk nr:Nat} {ln:Int} {rs:List M.SD} {gl:List (Nat × Int)} {i:ID} {s s':AS} {k:Nat} {w:World} {xs:List RcD} {rv gv:Value}
theorem told0 (pm:Value) (W:World):Calls Tryz.prog 35 #[pm,.agg #[.int .i64 nothing.k,.int .i64 nothing.n,.float .f64 nothing.f,.string nothing.s,.int .i64 nothing.r]] W fun e w'=>e=.returned (.string ⟨#[]⟩)∧Below W.heap.size W w':=toldS pm ⟨#[]⟩ (by decide) W
theorem hcD_eq (K:UK) (l a n hd:Int) (g:Value) (r:List M.SD):hcD (K.c l a n g r) hd=K.c 0 hd hd g r:=rfl
theorem u30 (ok:UKok w0 K) (H:Here kind n t a tk xs.length ln rs gl i s s' k) (hop:i.op=30) (h:UX w0 K w tk xs ln (a:Int) ((a:Int)+1) rs gl rv gv) :
  Calls Tryz.prog 72 (args K i) w (ThP w0 K kind n t (mu kind n t tk a)):=by
 have hd:=H.hd
 have hlen:=H.hb
 unfold absD at hd
 rw[if_neg (by omega),if_neg (by omega),if_neg (by omega),if_neg (by omega),if_neg (by omega),if_neg (by omega),if_neg (by omega),if_neg (by omega),if_neg (by omega),if_neg (by omega),if_pos hop]at hd
 split at hd
 case isFalse=>cases hd
 rename_i hc
 obtain⟨ha0,hr0,hr4,hr5,hl0⟩:=hc
 split at hd
 case h_2=>cases hd
 rename_i hdl hgd
 cases hd
 have hln:ln=0:=H.hl hl0
 subst hln
 obtain⟨gn,rfl⟩:∃gn:Nat,gl=[(gn,(hdl:Int))]:=by have:=H.hg;rw[hgd]at this;exact this
 have hR:((rs.set 4 (sdV nothing)).set 5 sd0).length=250:=by rw[List.length_set,List.length_set];exact h.lr
 refine (dothrowg_any K.gm K.gt K.gc K.gf K.bp K.op K.capP (K.m tk rv) (K.c 0 a ((a:Int)+1) gv rs) i nothing ⟨#[]⟩ (fun wk w'=>∃rv',MachAt w' K.gm (K.m tk rv')∧ORow w' w0.heap.size 67 5 rgC rv' (xs++[⟨4,0,⟨#[]⟩⟩])∧ButL (K.gm :: rv.ownBlock.toList) wk w') w (h.thr ok rfl) h.lr ha0 (reg_emp H hr0) (fun W _=>told0 _ W) (fun wk hwk=>?_)).mono ?_
 ·have hx:=h.later ok hwk
  refine (recg_go w0.heap.size K.gm ⟨4,0,⟨#[]⟩⟩ (K.m tk rv) xs wk hx.mac ok.wat hx.rc (by omega) hx.bel.size).mono ?_
  rintro e w' ⟨rfl,rv',q1,q2,q3⟩
  exact⟨rfl,rv',q1,q2,q3⟩
 ·rintro e w1 ⟨gr,tr,wk,rfl,hgr,hth,hwk,rv1,q1,q2,q3⟩
  have hxk:=h.later ok hwk
  have hx1:UX w0 K w1 tk (xs++[⟨4,0,⟨#[]⟩⟩]) 0 (a:Int) ((a:Int)+1) rs [(gn,(hdl:Int))] rv1 gv:=hxk.recd ok q3 q1 q2
  have hth1:w1.heap[gr]?=some (ThG nothing tr):=hxk.keep ok (hxk.sub q3 (fun g hg=>by
   simp only[List.mem_cons,Option.mem_toList]at hg
   simp only[twr,List.mem_cons,List.mem_append,Option.mem_toList]
   rcases hg with e | e
   ·exact .inl e
   ·exact .inr (.inr (.inr e)))) hth (by decide) (by decide) (by decide) (by decide)
  refine⟨gr,rfl,?_⟩
  obtain⟨ga,cap,hgv,hga,_,hsl,_,hcap⟩:=hx1.gu.open vC_len (by simp)
  have hgc:w1.cell? ⟨ga,0,none⟩=some (caV gn):=by
   obtain⟨b9,o9,e9,_,hc9⟩:=hsl 0 _ rfl
   have e3:ga=b9∧0=o9:=by injection e9 with e9;injection e9 with e9 e2;exact⟨e9,e2⟩
   obtain⟨rfl,rfl⟩:=e3
   exact hc9 0 _ rfl
  have hgv1:gv=.slice (some ⟨ga,0,none⟩) 1 cap:=hgv
  have hgu0:ORow w1 w0.heap.size 277 1 vC (.slice (some ⟨ga,0,none⟩) 0 cap) []:=by
   have hq:ORow w1 w0.heap.size 277 1 vC (.slice (some ⟨ga,0,none⟩) [caV gn].length cap) [caV gn]:=by have h9:=hx1.gu;rw[hgv1]at h9;exact h9
   exact vrow_shrink hq (m:=0) (by omega)
  have hcap1:1≤cap:=by
   have h9:=hx1.gu
   rw[hgv1]at h9
   rcases h9.2 with ⟨e9,_⟩ | ⟨g9,c9,cur,e9,_,_,hl9,_⟩
   ·cases e9
   ·have e8:cap=c9:=by injection e9 with _ _ e9
    have h8:1≤c9:=by simpa using hl9
    omega
  have hgnb:=hx1.gb (gn,(hdl:Int)) (by simp)
  have hlow:Low (K.c 0 a ((a:Int)+1) (.slice (some ⟨ga,0,none⟩) 0 cap) rs):=⟨h.lr,H.rp.low hr4 hr5⟩
  refine (leave_catch K.gm K.gf gn gr ga cap (some K.ov) (K.c 0 a ((a:Int)+1) gv rs) .nilIface (fun w2 w'=>∃wk w5,ButL [K.gf] w2 wk∧CallAt wk K.gf (K.c 0 hdl hdl (.slice (some ⟨ga,0,none⟩) 0 cap) rs)∧(∃rv2,MachAt w5 K.gm (K.m tk rv2)∧ORow w5 w0.heap.size 67 5 rgC rv2 ((xs++[⟨4,0,⟨#[]⟩⟩])++[⟨5,0,⟨#[]⟩⟩])∧ButL (K.gm :: rv1.ownBlock.toList) wk w5)∧CallAt w' K.gf (K.c 0 hdl hdl (.slice (some ⟨ga,0,none⟩) 0 cap) ((rs.set 4 (sdV nothing)).set 5 (sdV (strD tr))))∧ButL [K.gf] w5 w') w1 hx1.cal hgv1 hcap1 hgc (hx1.ov ok) (fun w2 hb2 hc2=>?_)).mono ?_
  ·have hgu2:ORow w2 w0.heap.size 277 1 vC (.slice (some ⟨ga,0,none⟩) 0 cap) []:=ORow.butn hgu0 hb2 (fun g e hg=>by simp at hg;subst hg;exact own_ne hgu0 hx1.cal (by decide) e)
   have hx2:UX w0 K w2 tk (xs++[⟨4,0,⟨#[]⟩⟩]) 0 (a:Int) ((a:Int)+1) rs [] rv1 (.slice (some ⟨ga,0,none⟩) 0 cap):=hx1.guard ok (hb2.mono (fun g hg=>.inl (by simp at hg;subst hg;simp))) hc2 hgu2 (fun g hg=>by cases hg)
   have hth2:w2.heap[gr]?=some (ThG nothing tr):=hb2.blk hth1 (by simp;exact ne_ty hth1 hx1.cal (by decide))
   have hgn2:w2.heap[gn]?=some (CtO (hdl:Int) 0):=hb2.blk hgnb (by simp;exact ne_ty hgnb hx1.cal (by decide))
   refine (handleg_go K.gm K.gt K.gc K.gf gn gr (hdl:Int) nothing ⟨#[]⟩ tr (K.m tk rv1) (K.c 0 a ((a:Int)+1) (.slice (some ⟨ga,0,none⟩) 0 cap) rs) _ _ (K.gm :: rv1.ownBlock.toList) (fun wk w5=>∃rv2,MachAt w5 K.gm (K.m tk rv2)∧ORow w5 w0.heap.size 67 5 rgC rv2 ((xs++[⟨4,0,⟨#[]⟩⟩])++[⟨5,0,⟨#[]⟩⟩])∧ButL (K.gm :: rv1.ownBlock.toList) wk w5) w2 hx2.mac ok.run (hx2.tka ok) hx2.tsk hx2.cro hx2.cal hlow ok.pro hgn2 hth2 ?_ ?_ ?_ (fun W _=>told0 _ W) (fun wk hbk hck=>?_)).mono ?_
   ·simp only[List.mem_cons,Option.mem_toList,not_or]
    exact⟨hx2.mf.symm,own_ne hx2.rc hx2.cal (by decide)⟩
   ·simp only[List.mem_cons,Option.mem_toList,not_or]
    exact⟨ne_ty hgn2 hx2.mac (by decide),own_ne hx2.rc hgn2 (by decide)⟩
   ·simp only[List.mem_cons,Option.mem_toList,not_or]
    exact⟨ne_ty hth2 hx2.mac (by decide),own_ne hx2.rc hth2 (by decide)⟩
   ·rw[hcD_eq]at hck
    have hxk2:=hx2.call ok hbk hck h.lr
    refine (recg_go w0.heap.size K.gm ⟨5,0,⟨#[]⟩⟩ (K.m tk rv1) (xs++[(⟨4,0,⟨#[]⟩⟩:RcD)]) wk hxk2.mac ok.wat hxk2.rc (by simp;omega) hxk2.bel.size).mono ?_
    rintro e w' ⟨rfl,rv',p1,p2,p3⟩
    exact⟨rfl,p3,rv',p1,p2,p3⟩
   ·rintro e w' ⟨rfl,wk2,w5,p1,p2,p3,p4,p5,p6⟩
    rw[hcD_eq]at p2
    have p5':CallAt w' K.gf { K.c 0 hdl hdl (.slice (some ⟨ga,0,none⟩) 0 cap) rs with regs:=(rs.set 4 (sdV nothing)).set 5 (sdV (strD tr)) }:=by rw[hcD_eq]at p5;exact p5
    exact⟨rfl,wk2,w5,p1,p2,p4,p5',p6⟩
  ·rintro e w' ⟨rfl,w2,hb2,hc2,wk2,w5,p1,p2,⟨rv2,p3,p4,p5⟩,p6,p7⟩
   have hgu2:ORow w2 w0.heap.size 277 1 vC (.slice (some ⟨ga,0,none⟩) 0 cap) []:=ORow.butn hgu0 hb2 (fun g e hg=>by simp at hg;subst hg;exact own_ne hgu0 hx1.cal (by decide) e)
   have hx2:UX w0 K w2 tk (xs++[⟨4,0,⟨#[]⟩⟩]) 0 (a:Int) ((a:Int)+1) rs [] rv1 (.slice (some ⟨ga,0,none⟩) 0 cap):=hx1.guard ok (hb2.mono (fun g hg=>.inl (by simp at hg;subst hg;simp))) hc2 hgu2 (fun g hg=>by cases hg)
   have hx3:=hx2.call ok p1 p2 h.lr
   have hx4:UX w0 K w5 tk ((xs++[⟨4,0,⟨#[]⟩⟩])++[⟨5,0,⟨#[]⟩⟩]) 0 (hdl:Int) (hdl:Int) rs [] rv2 (.slice (some ⟨ga,0,none⟩) 0 cap):=hx3.recd ok p5 p3 p4
   have hx5:=hx4.call ok p7 p6 (by rw[List.length_set,List.length_set];exact h.lr)
   exact GoP.of H hx5 rfl rfl H.htk (by simp) ((H.rp.set (by omega) (r:=.emp) rfl).set (by omega) ⟨tr,rfl⟩) (fun _=>rfl) rfl
end
end Go.Proofs.YtliahjnnbbgooaaGreatDoor.U
namespace Go.Proofs.YtliahjnnbbgooaaGreatDoor.M
open Go.RowKit
def OvAt (w:World):Prop:=∃v,w.cell? ⟨1,0,none⟩=some (.iface 484 v)
theorem neq_ro (p:Option Addr) (v:Value) (w:World):(binOp BinOp.neq 41 (.iface 124 (.pointer p)) (.iface 484 v)).run Tryz.prog w=.ok (.bool true) w:=by kernel_rfl
theorem leave_ret (pm:Value) (g cap:Nat) (a p:Option Addr) (c:CallD) (w:World) (h:CallAt w g c) (hg:c.guards=.slice a 0 cap) (ho:OvAt w) :
  Calls Tryz.prog 103 #[pm,.pointer (some ⟨g,0,none⟩),.iface 124 (.pointer p)] w fun e w'=>e=.returned (.iface 124 (.pointer p))∧w'=w:=by
 obtain⟨v,hv⟩:=ho
 have c12:w.cell? ⟨g,12,none⟩=some (.slice a 0 cap):=by rw[h.cell 12 (by omega),←hg];rfl
 have hne:=neq_ro p v
 clear h
 go_enter Tryz.func103,Tryz.ntmps103
 go_wp2_with fail
 go_loopw [2] (fun s wr=>s=.iface 124 (.pointer p)∧wr=w) (fun _ _=>0)
 case atStart=>exact⟨rfl,rfl⟩
 case round =>
  obtain⟨rfl,rfl⟩:=hrel
  go_wp2_with fail
  go_ret
  exact⟨rfl,rfl⟩
theorem MX.drew {w0:World} {K:MK} {w:World} {nt:Nat} {at' next:Int} {regs:List RD} {vs:List Value} {gs:List Nat} {tv gv:Value} (h:MX w0 K w nt at' next regs vs gs tv gv):MX w0 K w.drew nt at' next regs vs gs tv gv :=
 ⟨h.bel.drew,h.geM,h.geF,h.mac,h.cal,h.tsk,h.row,h.cha,h.gu,h.tb,h.sh,h.lg,h.lr⟩
theorem MX.next {w0:World} {K:MK} {w:World} {nt:Nat} {at' next:Int} {regs:List RD} {vs:List Value} {gs:List Nat} {tv gv:Value} (h:MX w0 K w nt at' next regs vs gs tv gv) (o:Obj) (z:Int):MX w0 K ((w.setCell ⟨K.gf,10,none⟩ (.int .i64 z)).alloc o) nt at' z regs vs gs tv gv:=by
 have hb:ButL [K.gf] w ((w.setCell ⟨K.gf,10,none⟩ (.int .i64 z)).alloc o):=((ButL.refl _ _).set (by simp) _ _).alloc o
 refine h.call hb ?_ h.lr
 have h9:=blk_set h.cal 10 (.int .i64 z)
 rw[CallD.set_next]at h9
 exact CallAt.later (c:=K.c at' z gv (regs.map RD.sd)) h9 (bw1 _ o)
theorem MachD.inst (m:MachD) {op:Nat} (hop:op<43):m.arr[14+op]?=instT[op]?:=by
 unfold MachD.arr
 have hl:instT.length=43:=rfl
 rw[List.getElem?_toArray,List.getElem?_append_left (by simp only[List.length_append,hl,List.length_cons,List.length_nil];omega),List.getElem?_append_left (by simp only[List.length_append,hl,List.length_cons,List.length_nil];omega),List.getElem?_append_right (by simp only[List.length_cons,List.length_nil];omega)]
 congr 1
 simp only[List.length_cons,List.length_nil]
 omega
end Go.Proofs.YtliahjnnbbgooaaGreatDoor.M
namespace Go.Proofs.YtliahjnnbbgooaaGreatDoor.U
open Go.RowKit M T
theorem uf4 (args:Array Value) (W:World):(callFunc 54 args).run Tryz.prog W=.ok (.enter 54 args) W:=by kernel_rfl
theorem uf28 (args:Array Value) (W:World):(callFunc 70 args).run Tryz.prog W=.ok (.enter 70 args) W:=by kernel_rfl
section
variable {w0:World} {K:UK} {kind n t a tk nr:Nat} {ln:Int} {rs:List M.SD} {gl:List (Nat × Int)} {i:ID} {s s':AS} {k:Nat} {w:World} {xs:List RcD} {rv gv:Value}
theorem UX.next {ax nx:Int} (ok:UKok w0 K) (h:UX w0 K w tk xs ln ax nx rs gl rv gv) (o:Obj) (z:Int):UX w0 K ((w.setCell ⟨K.gf,10,none⟩ (.int .i64 z)).alloc o).drew tk xs ln ax z rs gl rv gv:=by
 have hb:ButL [K.gf] w ((w.setCell ⟨K.gf,10,none⟩ (.int .i64 z)).alloc o).drew:=(((ButL.refl _ _).set (by simp) _ _).alloc o).drew
 refine h.call ok hb ?_ h.lr
 have h9:=blk_set h.cal 10 (.int .i64 z)
 rw[CallD.set_next]at h9
 exact CallAt.later (c:=K.c ln ax z gv rs) h9 (bw1 _ o).drew
theorem UX.drew {ax nx:Int} (ok:UKok w0 K) (h:UX w0 K w tk xs ln ax nx rs gl rv gv):UX w0 K w.drew tk xs ln ax nx rs gl rv gv:=h.call ok (ButL.refl _ _).drew h.cal h.lr
end
end Go.Proofs.YtliahjnnbbgooaaGreatDoor.U
