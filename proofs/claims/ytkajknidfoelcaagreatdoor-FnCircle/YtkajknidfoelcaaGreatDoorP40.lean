import Derived.Test.YtkajknidfoelcaaGreatDoorP33
import Derived.Test.YtkajknidfoelcaaGreatDoorP34
import Derived.Test.YtkajknidfoelcaaGreatDoorP35
import Derived.Test.YtkajknidfoelcaaGreatDoorP36
import Derived.Test.YtkajknidfoelcaaGreatDoorP38
import Derived.Test.YtkajknidfoelcaaGreatDoorP39
import Derived.Test.YtkajknidfoelcaaGreatDoorP29
import Derived.Test.YtkajknidfoelcaaGreatDoorP31
set_option linter.unusedVariables false
set_option linter.unusedSimpArgs false
set_option maxRecDepth 20000
set_option maxHeartbeats 8000000
namespace Go.Proofs.YtkajknidfoelcaaGreatDoor.U
open Go.RowKit M T
def GdOk:Option Nat→List (Nat × Int)→Prop
 | none,gl=>gl=[]
 | some hd,gl=>∃gn:Nat,gl=[(gn,(hd:Int))]
def Ph (kind n t a tk nr:Nat) (ln:Int) (rs:List M.SD) (gl:List (Nat × Int)):Prop :=
 a≤cirJ kind n∧tk≤t∧nr+2*mu kind n t tk a≤60000∧∃s,(cirS kind n)[a]?=some s∧Reps s.rs rs∧(s.ln=true→ln=0)∧GdOk s.gd gl
structure Here (kind n t a tk nr:Nat) (ln:Int) (rs:List M.SD) (gl:List (Nat × Int)) (i:ID) (s s':AS) (k:Nat):Prop where
 tab:Tab kind n
 ht:cirT kind=true
 ha:a≤cirJ kind n
 htk:tk≤t
 hb:nr+2*mu kind n t tk a≤60000
 hi:(cirI kind n)[a]?=some i
 at_:s.at'=a
 hd:absD i s=some (s',k)
 nxt:s'.at'=cirN kind n a
 hn:(cirS kind n)[cirN kind n a]?=some s'
 hx:a≠cirX kind n∨0<k
 rp:Reps s.rs rs
 hl:s.ln=true→ln=0
 hg:GdOk s.gd gl
theorem here_of {kind n t a tk nr:Nat} {ln:Int} {rs:List M.SD} {gl:List (Nat × Int)} (tab:Tab kind n) (ht:cirT kind=true) (h:Ph kind n t a tk nr ln rs gl):∃i s s' k,Here kind n t a tk nr ln rs gl i s s' k:=by
 obtain⟨h1,h2,h3,s,h4,h5,h6,h7⟩:=h
 obtain⟨s0,i,s',k,q1,q2,q3,q4,q5,q6⟩:=tab.step a h1
 rw[h4]at q1
 cases q1
 have hle:=cirN_le kind n a ht h1
 obtain⟨s1,_,_,_,p1,_,p3,_⟩:=tab.step _ hle
 rw[q5]at p1
 cases p1
 exact⟨i,s,s',k,tab,ht,h1,h2,h3,q2,q3,q4,p3,q5,q6,h5,h6,h7⟩
section
variable {w0:World} {K:UK} {kind n t a tk nr:Nat} {ln:Int} {rs:List M.SD} {gl:List (Nat × Int)} {i:ID} {s s':AS} {k:Nat}
theorem Here.go (H:Here kind n t a tk nr ln rs gl i s s' k) {tk' nr':Nat} {ln':Int} {rs':List M.SD} {gl':List (Nat × Int)} (hk:tk'=tk+k) (hle:tk'≤t) (hnr:nr'≤nr+2) (hr:Reps s'.rs rs') (hl:s'.ln=true→ln'=0) (hg:GdOk s'.gd gl') :
  Ph kind n t s'.at' tk' nr' ln' rs' gl'∧mu kind n t tk' s'.at'<mu kind n t tk a:=by
 have hmu:mu kind n t tk' s'.at'<mu kind n t tk a:=by
  rw[H.nxt]
  unfold mu
  by_cases h0:k=0
  ·subst h0
   have h1:a≠cirX kind n:=by rcases H.hx with h | h<;>omega
   have:=cirW_lt kind n a H.ht H.ha h1
   subst hk
   rw[Nat.add_zero]
   omega
  ·have h1:=cirW_le kind n (cirN kind n a) H.ht
   have h2:=H.tab.jl
   have h3:(t+1-tk)*128≥(t+1-tk')*128+128:=by
    have:t+1-tk≥(t+1-tk')+1:=by omega
    have:=Nat.mul_le_mul_right 128 this
    omega
   omega
 refine⟨⟨?_,hle,?_,s',?_,hr,hl,hg⟩,hmu⟩
 ·rw[H.nxt];exact cirN_le kind n a H.ht H.ha
 ·have:=H.hb
  omega
 ·rw[H.nxt];exact H.hn
def GoP (w0:World) (K:UK) (kind n t B:Nat) (e:Ending) (w':World):Prop:=e=.returned .nilIface∧∃(tk:Nat) (xs:List RcD) (at2:Nat) (ln ax:Int) (rs:List M.SD) (gl:List (Nat × Int)) (rv gv:Value),UX w0 K w' tk xs ln ax (at2:Int) rs gl rv gv∧Ph kind n t at2 tk xs.length ln rs gl∧mu kind n t tk at2<B
def ThP (w0:World) (K:UK) (kind n t B:Nat) (e:Ending) (w':World):Prop:=∃gr,e=.returned (.iface 146 (.pointer (some ⟨gr,0,none⟩)))∧Calls Tryz.prog 132 #[.pointer (some ⟨K.gm,0,none⟩),.pointer (some ⟨K.gf,0,none⟩),.iface 146 (.pointer (some ⟨gr,0,none⟩))] w' (GoP w0 K kind n t B)
def OvP (w0:World) (K:UK) (t:Nat) (e:Ending) (w':World):Prop:=e=.returned (ovI (some K.ov))∧∃(xs:List RcD) (ln ax nx:Int) (rs:List M.SD) (gl:List (Nat × Int)) (rv gv:Value),UX w0 K w' t xs ln ax nx rs gl rv gv
variable {w:World} {xs:List RcD} {rv gv:Value}
theorem GoP.of (H:Here kind n t a tk xs.length ln rs gl i s s' k) {w':World} {tk':Nat} {xs':List RcD} {ln' ax nx:Int} {rs':List M.SD} {gl':List (Nat × Int)} {rv' gv':Value} (hx:UX w0 K w' tk' xs' ln' ax nx rs' gl' rv' gv') (hnx:nx=(s'.at':Int)) (hk:tk'=tk+k) (hle:tk'≤t) (hnr:xs'.length≤xs.length+2) (hr:Reps s'.rs rs') (hl:s'.ln=true→ln'=0) (hg:GdOk s'.gd gl') :
  GoP w0 K kind n t (mu kind n t tk a) (.returned .nilIface) w':=by
 obtain⟨h1,h2⟩:=H.go hk hle hnr hr hl hg
 subst hnx
 exact⟨rfl,tk',xs',s'.at',ln',ax,rs',gl',rv',gv',hx,h1,h2⟩
structure Con (w0:World) (K:UK):Prop where
 con:∃cb co ccap,K.c0.consts=.slice (some ⟨cb,co,none⟩) 2 ccap∧cb<w0.heap.size∧∀(j:Nat) v,[nothing,texter][j]?=some v→∀q u,v.cells[q]?=some u→w0.cell? ⟨cb,co+j*5+q,none⟩=some u
theorem og (ok:UKok w0 K):2<w0.heap.size:=World.block_lt_of_cell? _ _ ok.ovr
theorem ogm (ok:UKok w0 K):2≠K.gm:=by have:=og ok;have:=ok.geM;omega
theorem ogf (ok:UKok w0 K):2≠K.gf:=by have:=og ok;have:=ok.geF;omega
abbrev args (K:UK) (i:ID):Array Value:=#[.pointer (some ⟨K.gm,0,none⟩),.pointer (some ⟨K.gf,0,none⟩),insV i]
theorem u4 (ok:UKok w0 K) (con:Con w0 K) (H:Here kind n t a tk xs.length ln rs gl i s s' k) (hop:i.op=4) (h:UX w0 K w tk xs ln (a:Int) ((a:Int)+1) rs gl rv gv) :
  Calls Tryz.prog 83 (args K i) w (GoP w0 K kind n t (mu kind n t tk a)):=by
 obtain⟨cb,co,ccap,h1,h2,h3⟩:=con.con
 have hlt:cb<w.heap.size:=Nat.lt_of_lt_of_le h2 h.bel.size
 have hd:=H.hd
 unfold absD at hd
 rw[if_pos hop]at hd
 split at hd
 ·rename_i hc
  cases hd
  refine (loadc_any _ K.gf 0 0 cb co 2 ccap nothing i (K.c ln a ((a:Int)+1) gv rs) w h.cal h.lr hop hc.1 (by omega) hc.2 (by omega) h1 hlt (fun q u hu=>cell_later h.bel (h3 0 _ rfl q u hu))).mono ?_
  rintro e w1 ⟨rfl,q1,q2⟩
  exact GoP.of H (h.call ok q2 (ln2:=ln) (at2:=a) (next2:=(a:Int)+1) q1 (by rw[List.length_set];exact h.lr)) (by have:=H.at_;show (a:Int)+1=((s.at'+1:Nat):Int);omega) rfl H.htk (by omega) (H.rp.set (by omega) rfl) H.hl H.hg
 ·split at hd
  ·rename_i hc
   cases hd
   refine (loadc_any _ K.gf 1 1 cb co 2 ccap texter i (K.c ln a ((a:Int)+1) gv rs) w h.cal h.lr hop hc.1 (by omega) hc.2 (by omega) h1 hlt (fun q u hu=>cell_later h.bel (h3 1 _ rfl q u hu))).mono ?_
   rintro e w1 ⟨rfl,q1,q2⟩
   exact GoP.of H (h.call ok q2 (ln2:=ln) (at2:=a) (next2:=(a:Int)+1) q1 (by rw[List.length_set];exact h.lr)) (by have:=H.at_;show (a:Int)+1=((s.at'+1:Nat):Int);omega) rfl H.htk (by omega) (H.rp.set (by omega) rfl) H.hl H.hg
  ·cases hd
theorem reg_emp (H:Here kind n t a tk nr ln rs gl i s s' k) {j:Nat} (hj:s.rs[j]?=some .emp):rs[j]?=some (sdV nothing):=by
 obtain⟨x,h1,h2⟩:=H.rp.at_ j _ hj
 rw[h1];exact congrArg some h2
theorem reg_bui (H:Here kind n t a tk nr ln rs gl i s s' k) {j:Nat} (hj:s.rs[j]?=some .bui):rs[j]?=some (sdV texter):=by
 obtain⟨x,h1,h2⟩:=H.rp.at_ j _ hj
 rw[h1];exact congrArg some h2
theorem reg_nl (H:Here kind n t a tk nr ln rs gl i s s' k) {j:Nat} (hj:s.rs[j]?=some .nl):rs[j]?=some (sdV vd0):=by
 obtain⟨x,h1,h2⟩:=H.rp.at_ j _ hj
 rw[h1];exact congrArg some h2
theorem reg_l0 (H:Here kind n t a tk nr ln rs gl i s s' k) {j:Nat} (hj:s.rs[j]?=some .l0):rs[j]?=some (sdL (.slice none 0 0)):=by
 obtain⟨x,h1,h2⟩:=H.rp.at_ j _ hj
 rw[h1];exact congrArg some h2
theorem nxa (H:Here kind n t a tk nr ln rs gl i s s' k):(a:Int)+1=((s.at'+1:Nat):Int):=by have:=H.at_;omega
theorem u5 (ok:UKok w0 K) (H:Here kind n t a tk xs.length ln rs gl i s s' k) (hop:i.op=5) (h:UX w0 K w tk xs ln (a:Int) ((a:Int)+1) rs gl rv gv) :
  Calls Tryz.prog 83 (args K i) w (GoP w0 K kind n t (mu kind n t tk a)):=by
 have hd:=H.hd
 unfold absD at hd
 rw[if_neg (by omega),if_pos hop]at hd
 split at hd
 ·rename_i hc
  cases hd
  refine (loadm_any _ K.gf 0 0 1 nothing none none 0 0 i (K.c ln a ((a:Int)+1) gv rs) w h.cal h.lr hop hc.1 (by omega) hc.2.1 (by omega) (reg_emp H hc.2.2)).mono ?_
  rintro e w1 ⟨rfl,q1,q2⟩
  exact GoP.of H (h.call ok q2 (ln2:=ln) (at2:=a) (next2:=(a:Int)+1) q1 (by rw[List.length_set];exact h.lr)) (nxa H) rfl H.htk (by omega) (H.rp.set (by omega) rfl) H.hl H.hg
 ·split at hd
  ·rename_i hc
   cases hd
   refine (loadm_any _ K.gf 2 1 1 texter none none 0 0 i (K.c ln a ((a:Int)+1) gv rs) w h.cal h.lr hop hc.1 (by omega) hc.2.1 (by omega) (reg_bui H hc.2.2)).mono ?_
   rintro e w1 ⟨rfl,q1,q2⟩
   exact GoP.of H (h.call ok q2 (ln2:=ln) (at2:=a) (next2:=(a:Int)+1) q1 (by rw[List.length_set];exact h.lr)) (nxa H) rfl H.htk (by omega) (H.rp.set (by omega) rfl) H.hl H.hg
  ·cases hd
theorem u40 (ok:UKok w0 K) (H:Here kind n t a tk xs.length ln rs gl i s s' k) (hop:i.op=40) (h:UX w0 K w tk xs ln (a:Int) ((a:Int)+1) rs gl rv gv) :
  Calls Tryz.prog 110 (args K i) w (GoP w0 K kind n t (mu kind n t tk a)):=by
 have hd:=H.hd
 unfold absD at hd
 rw[if_neg (by omega),if_neg (by omega),if_pos hop]at hd
 split at hd
 ·rename_i hc
  cases hd
  refine (eachb_any _ K.gf 2 texter none none 0 0 1 i (K.c ln a ((a:Int)+1) gv rs) w h.cal hc.1 (by omega) h.lr rfl (reg_bui H hc.2)).mono ?_
  rintro e w1 ⟨rfl,q1,q2⟩
  exact GoP.of H (h.call ok q2 (ln2:=ln) (at2:=a) (next2:=(a:Int)+1) q1 (by rw[List.length_set];exact h.lr)) (nxa H) rfl H.htk (by omega) (H.rp.set (by omega) rfl) H.hl H.hg
 ·cases hd
theorem u22 (ok:UKok w0 K) (H:Here kind n t a tk xs.length ln rs gl i s s' k) (hop:i.op=22) (h:UX w0 K w tk xs ln (a:Int) ((a:Int)+1) rs gl rv gv) :
  Calls Tryz.prog 96 (args K i) w (GoP w0 K kind n t (mu kind n t tk a)):=by
 have hd:=H.hd
 unfold absD at hd
 rw[if_neg (by omega),if_neg (by omega),if_neg (by omega),if_neg (by omega),if_neg (by omega),if_pos hop]at hd
 split at hd
 ·rename_i hc
  cases hd
  refine (doList_any _ K.gf 4 i (K.c ln a ((a:Int)+1) gv rs) w h.cal h.lr (by omega) hc).mono ?_
  rintro e w1 ⟨rfl,q1,q2⟩
  exact GoP.of H (h.call ok q2 (ln2:=ln) (at2:=a) (next2:=(a:Int)+1) q1 (by rw[List.length_set];exact h.lr)) (nxa H) rfl H.htk (by omega) (H.rp.set (by omega) rfl) H.hl H.hg
 ·cases hd
theorem u42 (ok:UKok w0 K) (H:Here kind n t a tk xs.length ln rs gl i s s' k) (hop:i.op=42) (h:UX w0 K w tk xs ln (a:Int) ((a:Int)+1) rs gl rv gv) :
  Calls Tryz.prog 112 (args K i) w (GoP w0 K kind n t (mu kind n t tk a)):=by
 have hd:=H.hd
 unfold absD at hd
 rw[if_neg (by omega),if_neg (by omega),if_neg (by omega),if_neg (by omega),if_neg (by omega),if_neg (by omega),if_neg (by omega),if_pos hop]at hd
 split at hd
 ·rename_i hc
  cases hd
  refine (doDrop_any _ K.gf 4 i (K.c ln a ((a:Int)+1) gv rs) w h.cal h.lr (by omega) hc).mono ?_
  rintro e w1 ⟨rfl,q1,q2⟩
  exact GoP.of H (h.call ok q2 (ln2:=ln) (at2:=a) (next2:=(a:Int)+1) q1 (by rw[List.length_set];exact h.lr)) (nxa H) rfl H.htk (by omega) (H.rp.set (by omega) rfl) H.hl H.hg
 ·split at hd
  ·rename_i hc
   cases hd
   refine (doDrop_any _ K.gf 5 i (K.c ln a ((a:Int)+1) gv rs) w h.cal h.lr (by omega) hc).mono ?_
   rintro e w1 ⟨rfl,q1,q2⟩
   exact GoP.of H (h.call ok q2 (ln2:=ln) (at2:=a) (next2:=(a:Int)+1) q1 (by rw[List.length_set];exact h.lr)) (nxa H) rfl H.htk (by omega) (H.rp.set (by omega) rfl) H.hl H.hg
  ·cases hd
theorem u19 (ok:UKok w0 K) (H:Here kind n t a tk xs.length ln rs gl i s s' k) (hop:i.op=19) (h:UX w0 K w tk xs ln (a:Int) ((a:Int)+1) rs gl rv gv) :
  Calls Tryz.prog 95 (args K i) w (GoP w0 K kind n t (mu kind n t tk a)):=by
 have hd:=H.hd
 unfold absD at hd
 rw[if_neg (by omega),if_neg (by omega),if_neg (by omega),if_neg (by omega),if_neg (by omega),if_neg (by omega),if_neg (by omega),if_neg (by omega),if_neg (by omega),if_neg (by omega),if_neg (by omega),if_neg (by omega),if_pos hop]at hd
 split at hd
 ·rename_i hc
  cases hd
  refine (doJump_any _ K.gf i (K.c ln a ((a:Int)+1) gv rs) w h.cal hop).mono ?_
  rintro e w1 ⟨rfl,q1,q2⟩
  exact GoP.of H (h.call ok q2 (ln2:=ln) (at2:=a) (next2:=i.a) q1 h.lr) (by show i.a=((i.a.toNat:Nat):Int);omega) rfl H.htk (by omega) H.rp H.hl H.hg
 ·cases hd
theorem u31 (ok:UKok w0 K) (H:Here kind n t a tk xs.length ln rs gl i s s' k) (hop:i.op=31) (h:UX w0 K w tk xs ln (a:Int) ((a:Int)+1) rs gl rv gv) :
  Calls Tryz.prog 102 (args K i) w (GoP w0 K kind n t (mu kind n t tk a)):=by
 have hd:=H.hd
 unfold absD at hd
 rw[if_neg (by omega),if_neg (by omega),if_neg (by omega),if_neg (by omega),if_neg (by omega),if_neg (by omega),if_neg (by omega),if_neg (by omega),if_neg (by omega),if_pos hop]at hd
 split at hd
 ·rename_i hc
  obtain⟨hb4,h0a,hl0,hgn⟩:=hc
  cases hd
  have hln:ln=0:=H.hl hl0
  have hgl:gl=[]:=by have:=H.hg;rw[hgn]at this;exact this
  subst hgl
  refine (doTry_any _ w0.heap.size K.gf i (K.c ln a ((a:Int)+1) gv rs) [] w h.cal h.gu (by simp) h.bel.size).mono ?_
  rintro e w1 ⟨rfl,gv',gn,q1,q2,q3,q4,q5⟩
  have hgb:∀g∈[(gn,i.a)],w1.heap[g.1]?=some (CtO g.2 0):=by
   intro g hg
   simp only[List.mem_singleton]at hg
   subst hg
   rw[q4]
   show some (Obj.cells #[.int .i64 i.b,.int .i64 i.a,.int .i64 ln] 276)=_
   rw[hb4,hln]
  exact GoP.of H (h.guard ok (gl2:=[(gn,i.a)]) q5 q1 q2 (fun g hg=>.inr (hgb g hg))) (nxa H) rfl H.htk (by omega) H.rp H.hl ⟨gn,by show [(gn,i.a)]=[(gn,((i.a.toNat:Nat):Int))];rw[Int.toNat_of_nonneg h0a]⟩
 ·cases hd
end
end Go.Proofs.YtkajknidfoelcaaGreatDoor.U
namespace Go.Proofs.YtkajknidfoelcaaGreatDoor.U
open Go.RowKit M T
section
variable {w0:World} {K:UK} {kind n t a tk nr:Nat} {ln:Int} {rs:List M.SD} {gl:List (Nat × Int)} {i:ID} {s s':AS} {k:Nat} {w:World} {xs:List RcD} {rv gv:Value}
theorem mtick (K:UK) (tk:Nat) (rv:Value) {w':World} (h:MachAt w' K.gm { K.m tk rv with rticks:=(K.m tk rv).rticks+1 }):MachAt w' K.gm (K.m ((tk+1:Nat):Int) rv):=by
 have e1:((tk+1:Nat):Int)=(tk:Int)+1:=by omega
 rw[e1]
 exact h
theorem mtick2 (K:UK) (tk:Nat) (rv:Value) {w':World} (h:MachAt w' K.gm { K.m tk rv with rticks:=(K.m tk rv).rticks+1+1 }):MachAt w' K.gm (K.m ((tk+2:Nat):Int) rv):=by
 have e1:((tk+2:Nat):Int)=(tk:Int)+1+1:=by omega
 rw[e1]
 exact h
abbrev Out (w0:World) (K:UK) (kind n t a tk:Nat) (fid:Nat) (i:ID) (w:World):Prop :=
 Calls Tryz.prog fid (args K i) w (GoP w0 K kind n t (mu kind n t tk a))∨Calls Tryz.prog fid (args K i) w (ThP w0 K kind n t (mu kind n t tk a))∨Calls Tryz.prog fid (args K i) w (OvP w0 K t)
theorem u3 (ok:UKok w0 K) (hT:K.m0.ticks=(t:Int)) (H:Here kind n t a tk xs.length ln rs gl i s s' k) (hop:i.op=3) (h:UX w0 K w tk xs ln (a:Int) ((a:Int)+1) rs gl rv gv) :
  Out w0 K kind n t a tk 82 i w:=by
 have hT2:=ok.tic.2
 have hd:=H.hd
 unfold absD at hd
 rw[if_neg (by omega),if_neg (by omega),if_neg (by omega),if_neg (by omega),if_pos hop]at hd
 cases hd
 by_cases hq:tk<t
 ·refine .inl ((doTick_go K.gm K.gf i (K.m tk rv) w h.mac (by show (tk:Int)<K.m0.ticks;omega) (by show (0:Int)≤(tk:Int);omega) (by show K.m0.ticks≤_;omega)).mono ?_)
  rintro e w1 ⟨rfl,q1,q2⟩
  exact GoP.of H (h.mach ok (tk2:=tk+1) q2 (mtick K tk rv q1)) (nxa H) rfl (by omega) (by omega) H.rp H.hl H.hg
 ·have e:tk=t:=by have:=H.htk;omega
  refine .inr (.inr ((doTick_over K.gm K.gf i (K.m tk rv) (some K.ov) w h.mac (h.ov ok) (by show (tk:Int)=K.m0.ticks;omega)).mono ?_))
  rintro e w1 ⟨rfl,q1⟩
  subst e
  exact⟨rfl,xs,ln,_,_,rs,gl,rv,gv,h.later ok q1⟩
theorem u1 (ok:UKok w0 K) (hT:K.m0.ticks=(t:Int)) (H:Here kind n t a tk xs.length ln rs gl i s s' k) (hop:i.op=1) (h:UX w0 K w tk xs ln (a:Int) ((a:Int)+1) rs gl rv gv) :
  Out w0 K kind n t a tk 80 i w:=by
 have hT2:=ok.tic.2
 have hd:=H.hd
 unfold absD at hd
 rw[if_neg (by omega),if_neg (by omega),if_neg (by omega),if_pos hop]at hd
 cases hd
 by_cases hq:tk<t
 ·refine .inl ((doLine_go K.gm K.gt K.gc K.gf i (K.m tk rv) (K.c ln a ((a:Int)+1) gv rs) _ _ (fun wk w'=>∃rv',MachAt w' K.gm (K.m ((tk+1:Nat):Int) rv')∧ORow w' w0.heap.size 113 5 rgC rv' (xs++[⟨1,i.a,⟨#[]⟩⟩])∧ButL (K.gm :: rv.ownBlock.toList) wk w') w h.mac ok.run (h.tka ok) h.tsk h.cro h.cal ok.pro (by show (tk:Int)<K.m0.ticks;omega) (by show (0:Int)≤(tk:Int);omega) (by show K.m0.ticks≤_;omega) (fun wk hb hm hc=>?_)).mono ?_)
  ·have hx:UX w0 K wk (tk+1) xs i.a (a:Int) ((a:Int)+1) rs gl rv gv:=h.both ok hb (mtick K tk rv hm) hc h.lr
   have hlen:=H.hb
   refine (recg_go w0.heap.size K.gm ⟨1,i.a,⟨#[]⟩⟩ (K.m ((tk+1:Nat):Int) rv) xs wk hx.mac ok.wat hx.rc (by omega) hx.bel.size).mono ?_
   rintro e w' ⟨rfl,rv',q1,q2,q3⟩
   exact⟨rfl,rv',q1,q2,q3⟩
  ·rintro e w1 ⟨rfl,wk,hb,hm,hc,rv',q1,q2,q3⟩
   have hx:UX w0 K wk (tk+1) xs i.a (a:Int) ((a:Int)+1) rs gl rv gv:=h.both ok hb (mtick K tk rv hm) hc h.lr
   exact GoP.of H (hx.recd ok q3 q1 q2) (nxa H) rfl (by omega) (by simp) H.rp (by intro h9;cases h9) H.hg
 ·have e:tk=t:=by have:=H.htk;omega
  refine .inr (.inr ((doLine_over (some K.ov) K.gm K.gf i (K.m tk rv) w h.mac (by show (tk:Int)=K.m0.ticks;omega) (h.ov ok)).mono ?_))
  rintro e w1 ⟨rfl,q1⟩
  subst e
  exact⟨rfl,xs,ln,_,_,rs,gl,rv,gv,h.later ok q1⟩
theorem u28 (ok:UKok w0 K) (hT:K.m0.ticks=(t:Int)) (H:Here kind n t a tk xs.length ln rs gl i s s' k) (hop:i.op=28) (h:UX w0 K w tk xs ln (a:Int) ((a:Int)+1) rs gl rv gv) :
  Out w0 K kind n t a tk 99 i w:=by
 have hT2:=ok.tic.2
 have hd:=H.hd
 unfold absD at hd
 rw[if_neg (by omega),if_neg (by omega),if_neg (by omega),if_neg (by omega),if_neg (by omega),if_neg (by omega),if_pos hop]at hd
 split at hd
 ·rename_i hc
  obtain⟨ha4,hb1,hc5,hr1,hr4⟩:=hc
  cases hd
  by_cases hq:tk<t
  ·refine .inl ((doCall_go K.gm K.gf i (K.m tk rv) (K.c ln a ((a:Int)+1) gv rs) w h.mac h.cal h.lr ha4 hb1 hc5 (reg_bui H hr1) (reg_l0 H hr4) (by show (tk:Int)<K.m0.ticks;omega) (by show (0:Int)≤(tk:Int);omega) (by show K.m0.ticks≤_;omega)).mono ?_)
   rintro e w1 ⟨rfl,g,q1,q2,q3⟩
   have hx:UX w0 K w1 (tk+1) xs ln (a:Int) ((a:Int)+1) ((rs.set 4 sd0).set 4 (sdL (.slice (some ⟨g,0,none⟩) 1 1))) gl rv gv:=h.both ok q3 (mtick K tk rv q1) q2 (by rw[List.length_set,List.length_set];exact h.lr)
   rw[List.set_set]at hx
   exact GoP.of H hx (nxa H) rfl (by omega) (by omega) (H.rp.set (by omega) ⟨g,rfl⟩) H.hl H.hg
  ·have e:tk=t:=by have:=H.htk;omega
   refine .inr (.inr ((doCall_over (some K.ov) K.gm K.gf i (K.m tk rv) (K.c ln a ((a:Int)+1) gv rs) w h.mac h.cal h.lr ha4 hb1 hc5 (reg_bui H hr1) (reg_l0 H hr4) (by show (tk:Int)=K.m0.ticks;omega) (h.ov ok) (ogf ok)).mono ?_))
   rintro e w1 ⟨rfl,q1,q2⟩
   subst e
   exact⟨rfl,xs,ln,(a:Int),(a:Int)+1,rs.set 4 sd0,gl,rv,gv,h.call ok q2 q1 (by rw[List.length_set];exact h.lr)⟩
 ·cases hd
theorem u18 (ok:UKok w0 K) (hT:K.m0.ticks=(t:Int)) (H:Here kind n t a tk xs.length ln rs gl i s s' k) (hop:i.op=18) (h:UX w0 K w tk xs ln (a:Int) ((a:Int)+1) rs gl rv gv) :
  Out w0 K kind n t a tk 94 i w:=by
 have hT2:=ok.tic.2
 have hd:=H.hd
 unfold absD at hd
 rw[if_neg (by omega),if_neg (by omega),if_neg (by omega),if_neg (by omega),if_neg (by omega),if_neg (by omega),if_neg (by omega),if_neg (by omega),if_pos hop]at hd
 split at hd
 ·rename_i hc
  obtain⟨ha4,hb1,hc5,hd0,hr0⟩:=hc
  cases hd
  by_cases hq:tk<t
  ·refine .inl ((doBin_go K.gm K.gf i (K.m tk rv) (K.c ln a ((a:Int)+1) gv rs) w h.mac h.cal h.lr ha4 hb1 hc5 hd0 (reg_emp H hr0) (by show (tk:Int)<K.m0.ticks;omega) (by show (0:Int)≤(tk:Int);omega) (by show K.m0.ticks≤_;omega)).mono ?_)
   rintro e w1 ⟨rfl,q1,q2,q3⟩
   have hx:UX w0 K w1 (tk+1) xs ln (a:Int) ((a:Int)+1) (rs.set 4 (sdV nothing)) gl rv gv:=h.both ok q3 (mtick K tk rv q1) q2 (by rw[List.length_set];exact h.lr)
   exact GoP.of H hx (nxa H) rfl (by omega) (by omega) (H.rp.set (by omega) rfl) H.hl H.hg
  ·have e:tk=t:=by have:=H.htk;omega
   refine .inr (.inr ((doBin_over (some K.ov) K.gm K.gf i (K.m tk rv) (K.c ln a ((a:Int)+1) gv rs) w h.mac h.cal h.lr ha4 hb1 hc5 hd0 (reg_emp H hr0) (by show (tk:Int)=K.m0.ticks;omega) (h.ov ok)).mono ?_))
   rintro e w1 ⟨rfl,q1⟩
   subst e
   exact⟨rfl,xs,ln,_,_,rs,gl,rv,gv,h.later ok q1⟩
 ·cases hd
theorem UX.setn (ok:UKok w0 K) (h:UX w0 K w tk xs ln (a:Int) ((a:Int)+1) rs gl rv gv) {w1 w2:World} {tk2:Nat} {ln2 at2 next2:Int} {rs2:List M.SD} (hb:ButL [K.gm,K.gf] w w1) (hm:MachAt w1 K.gm (K.m tk2 rv)) (hc:CallAt w1 K.gf (K.c ln2 at2 next2 gv rs2)) (hl:rs2.length=250) {q:Nat} (hq:w.heap.size≤q) {v:Value} (e:w2=w1.setCell ⟨q,0,none⟩ v):UX w0 K w2 tk2 xs ln2 at2 next2 rs2 gl rv gv:=by
 subst e
 have h1:=blk_lt h.mac
 have h2:=blk_lt h.cal
 exact h.both ok (hb.setn hq _ _) (blk_other hm (by omega) _ _) (blk_other hc (by omega) _ _) hl
theorem u41 (ok:UKok w0 K) (hT:K.m0.ticks=(t:Int)) (H:Here kind n t a tk xs.length ln rs gl i s s' k) (hop:i.op=41) (h:UX w0 K w tk xs ln (a:Int) ((a:Int)+1) rs gl rv gv) :
  Out w0 K kind n t a tk 111 i w:=by
 have hT2:=ok.tic.2
 have hd:=H.hd
 have hml:=blk_lt h.mac
 have hfl:=blk_lt h.cal
 unfold absD at hd
 rw[if_neg (by omega),if_neg (by omega),if_neg (by omega),if_neg (by omega),if_neg (by omega),if_neg (by omega),if_neg (by omega),if_neg (by omega),if_neg (by omega),if_neg (by omega),if_neg (by omega),if_pos hop]at hd
 split at hd
 ·rename_i hc
  obtain⟨ha2,hc4,hr2,hr3⟩:=hc
  cases hd
  have hEn:EnR (K.c ln a ((a:Int)+1) gv rs) i:=⟨h.lr,ha2,reg_bui H hr2,reg_nl H hr3⟩
  by_cases hq:tk+1<t
  ·refine .inl ((doEachNext_any K.gm K.gf i (K.c ln a ((a:Int)+1) gv rs) .nilIface none (.inl rfl) (fun wk w'=>ButL [K.gm,K.gf] wk w'∧∃g,MachAt w' K.gm { K.m tk rv with rticks:=(K.m tk rv).rticks+1+1 }∧CallAt w' K.gf (K.c ln a ((a:Int)+1) gv (rs.set 4 (sdL (.slice (some ⟨g,0,none⟩) 1 1))))) w h.cal hEn (fun wk hk=>?_)).mono ?_)
   ·refine (nextCall_go K.gm K.gf i (K.m tk rv) (K.c ln a ((a:Int)+1) gv rs) wk (h.mac.later hk) (h.cal.later hk) h.lr hc4 (by show (tk:Int)+1<K.m0.ticks;omega) (by show (0:Int)≤(tk:Int);omega) (by show K.m0.ticks≤_;omega)).mono ?_
    rintro e w' ⟨rfl,g,q1,q2,q3⟩
    exact⟨rfl,[K.gm,K.gf],q3,fun q hq=>by simp at hq;rcases hq with rfl | rfl<;>assumption,q3,g,q1,q2⟩
   ·rintro e w2 ⟨rfl,wk,w1,hk,⟨q3,g,q1,q2⟩,q,hge,he⟩
    have hx:UX w0 K w2 (tk+2) xs ln (a:Int) ((a:Int)+1) (rs.set 4 (sdL (.slice (some ⟨g,0,none⟩) 1 1))) gl rv gv:=UX.setn ok h ((ButL.of_below hk).trans q3) (mtick2 K tk rv q1) q2 (by rw[List.length_set];exact h.lr) hge he
    exact GoP.of H hx (nxa H) rfl (by omega) (by omega) (H.rp.set (by omega) ⟨g,rfl⟩) H.hl H.hg
  ·by_cases hq2:tk=t
   ·refine .inr (.inr ((doEachNext_any K.gm K.gf i (K.c ln a ((a:Int)+1) gv rs) (ovI (some K.ov)) (some K.ov) (.inr rfl) (fun wk w'=>Below wk.heap.size wk w') w h.cal hEn (fun wk hk=>?_)).mono ?_))
    ·refine (nextCall_ov1 (some K.ov) K.gm K.gf i (K.m tk rv) wk (h.mac.later hk) ((h.ov ok).later hk) (by show (tk:Int)=K.m0.ticks;omega)).mono ?_
     rintro e w' ⟨rfl,q1⟩
     exact⟨rfl,[],ButL.of_below q1,fun q hq=>by simp at hq,q1⟩
    ·rintro e w2 ⟨rfl,wk,w1,hk,q1,q,hge,he⟩
     have hk1:Below w.heap.size w w1:=hk.trans (q1.mono hk.size)
     subst hq2
     exact⟨rfl,xs,ln,(a:Int),(a:Int)+1,rs,gl,rv,gv,UX.setn ok h (ButL.of_below hk1) (h.mac.later hk1) (h.cal.later hk1) h.lr hge he⟩
   ·have hq3:tk+1=t:=by have:=H.htk;omega
    refine .inr (.inr ((doEachNext_any K.gm K.gf i (K.c ln a ((a:Int)+1) gv rs) (ovI (some K.ov)) (some K.ov) (.inr rfl) (fun wk w'=>MachAt w' K.gm { K.m tk rv with rticks:=(K.m tk rv).rticks+1 }∧ButL [K.gm] wk w') w h.cal hEn (fun wk hk=>?_)).mono ?_))
    ·refine (nextCall_ov2 (some K.ov) K.gm K.gf i (K.m tk rv) wk (h.mac.later hk) ((h.ov ok).later hk) (by show (tk:Int)+1=K.m0.ticks;omega) (by show (0:Int)≤(tk:Int);omega) (by show K.m0.ticks≤_;omega) (ogm ok)).mono ?_
     rintro e w' ⟨rfl,q1,q2⟩
     exact⟨rfl,[K.gm],q2,fun q hq=>by simp at hq;subst hq;exact hml,q1,q2⟩
    ·rintro e w2 ⟨rfl,wk,w1,hk,⟨q1,q2⟩,q,hge,he⟩
     subst hq3
     refine⟨rfl,xs,ln,(a:Int),(a:Int)+1,rs,gl,rv,gv,UX.setn ok h ((ButL.of_below hk).trans (q2.mono (fun g hg=>.inl (by simp at hg;subst hg;simp)))) (mtick K tk rv q1) ?_ h.lr hge he⟩
     exact ((h.cal.later hk).but q2 (by simp;exact fun e=>ne_ty h.mac h.cal (by decide) e.symm))
 ·cases hd
end
end Go.Proofs.YtkajknidfoelcaaGreatDoor.U
namespace Go.Proofs.YtkajknidfoelcaaGreatDoor.U
open Go.RowKit M T
attribute [local go_sem] run_store_float
abbrev ThG (v:VD) (s:ByteArray):Obj:=.cells #[.int .i64 v.k,.int .i64 v.n,.float .f64 v.f,.string v.s,.int .i64 v.r,.string s] 163
theorem throwg_any (gm gt gc gf bp op capP:Nat) (m:MachD) (c:CallD) (v:VD) (tx:ByteArray) (Q:World→World→Prop) (w:World) (h:ThR w gm gt gc gf bp op capP m c)
  (HTo:∀W,Below w.heap.size w W→Calls Tryz.prog 54 #[.pointer (some ⟨gm,0,none⟩),.agg #[.int .i64 v.k,.int .i64 v.n,.float .f64 v.f,.string v.s,.int .i64 v.r]] W fun e w'=>e=.returned (.string tx)∧Below W.heap.size W w')
  (HQ:∀wk,Below w.heap.size w wk→Calls Tryz.prog 221 #[.pointer (some ⟨gm,0,none⟩),.agg #[.int .i64 4,.int .i64 0,.int .i64 0,.int .i64 0,.string tx]] wk fun e w'=>e=.returned .nilIface∧Q wk w') :
  Calls Tryz.prog 178 #[.pointer (some ⟨gm,0,none⟩),.agg #[.int .i64 v.k,.int .i64 v.n,.float .f64 v.f,.string v.s,.int .i64 v.r]] w fun e w'=>∃gr s wk,e=.returned (.iface 146 (.pointer (some ⟨gr,0,none⟩)))∧w.heap.size≤gr∧wk.heap[gr]?=some (ThG v s)∧Below w.heap.size w wk∧Q wk w':=by
 obtain⟨W,hW⟩:∃W,w.alloc (vO v)=W:=⟨_,rfl⟩
 have hb:Below w.heap.size w W:=by rw[←hW];exact bw1 _ _
 have bn:W.heap[w.heap.size]?=some (vO v):=by rw[←hW];exact blk_new _ _
 have HN:Hid (W.heap[w.heap.size]?=some (vO v)):=bn
 have HB:Hid (Below w.heap.size w W):=hb
 have HT:Hid (ThR W gm gt gc gf bp op capP m c):=h.later hb
 have HQ':Hid (∀wk,Below w.heap.size w wk→Calls Tryz.prog 221 #[.pointer (some ⟨gm,0,none⟩),.agg #[.int .i64 4,.int .i64 0,.int .i64 0,.int .i64 0,.string tx]] wk fun e w'=>e=.returned .nilIface∧Q wk w'):=HQ
 have HTo':Hid (∀W,Below w.heap.size w W→Calls Tryz.prog 54 #[.pointer (some ⟨gm,0,none⟩),.agg #[.int .i64 v.k,.int .i64 v.n,.float .f64 v.f,.string v.s,.int .i64 v.r]] W fun e w'=>e=.returned (.string tx)∧Below W.heap.size W w'):=HTo
 obtain⟨d0,d1,d2,d3,d4⟩:=vO_cells bn
 clear h hb bn HQ HTo
 go_enter Tryz.func178,Tryz.ntmps178
 go_wp2_with fail
 clear hW
 go_cut [5] from 7 to 11 (fun s5 wx=>∃gr s,s5=.pointer (some ⟨gr,0,none⟩)∧W.heap.size≤gr∧Hid (wx.heap[gr]?=some (ThG v s))∧Hid (Below W.heap.size W wx))
 case first =>
  go_region_with (go_at_call 234;refine (trace_any gm gt gc gf bp op capP m c W.drew HT.out.mac HT.out.run (HT.out.tk.drewN 1) HT.out.cal HT.out.pro HT.out.lin HT.out.prs HT.out.nam).mono ?_;rintro e w1 ⟨⟨s,rfl⟩,hx⟩;replace hx:=und1' hx;obtain⟨f0,f1,f2,f3,f4⟩:=vO_cells (blk_later hx HN.out);have HX:Hid (Below W.heap.size W w1):=hx;clear hx)
  all_goals
   go_wp2_with fail
   go_meet
   exact⟨w1.heap.size,s,rfl,HX.out.size,blk_new _ _,HX.out.trans ((bw1 _ _).mono HX.out.size)⟩
 case rest =>
  obtain⟨gr,s,rfl,hgr,HG,HX⟩:=hcut
  have HT2:Hid (ThR wc gm gt gc gf bp op capP m c):=HT.out.later HX.out
  have HN2:Hid (wc.heap[w.heap.size]?=some (vO v)):=blk_later HX.out HN.out
  obtain⟨f0,f1,f2,f3,f4⟩:=vO_cells HN2.out
  have c75:wc.cell? ⟨gm,75,none⟩=some (.pointer (some ⟨gt,0,none⟩)):=by rw[HT2.out.mac.cell,←HT2.out.run];rfl
  clear d0 d1 d2 d3 d4
  go_wp2_with fail
  go_region_with (first | (go_at_call 193;refine (line_any gt gc gf c wc.drew (HT2.out.tk.drewN 1) HT2.out.cal).mono ?_;rintro e w3 ⟨rfl,n3,rfl⟩;obtain⟨h0,h1,h2,h3,h4⟩:=vO_cells (W:=wc.drew.drewN n3) HN2.out) | (go_at_call 54;refine (HTo'.out _ (by exact bdN _ (HB.out.trans (HX.out.mono HB.out.size)))).mono ?_;rintro e w4 ⟨rfl,hx4⟩;have HX4:Hid (Below wc.heap.size wc w4):=⟨hx4.os,hx4.tape,hx4.output,hx4.size,hx4.block⟩;have HT4:Hid (ThR w4 gm gt gc gf bp op capP m c):=HT2.out.later HX4.out;clear hx4;rw[HT2.out.lin]) | (go_at_call 161;refine (tell_g gm gt gc gf ⟨4,0,tx⟩ m c .nilIface (fun w'=>∃n,Q (w4.drewN n) w') w4 HT4.out.mac HT4.out.run HT4.out.tk HT4.out.cal HT4.out.pro (fun n=>(HQ'.out (w4.drewN n) (bdN n (HB.out.trans ((HX.out.trans (HX4.out.mono HX.out.size)).mono HB.out.size)))).mono (fun e w' h=>⟨h.1,n,h.2⟩))).mono ?_;rintro e w5 ⟨rfl,n5,hq⟩;have HQ5:Hid (Q (w4.drewN n5) w5):=hq;clear hq))
  all_goals
   go_wp2_with fail
   go_ret
   exact⟨gr,s,w4.drewN n5,rfl,by have:=HB.out.size;omega,blk_later (bdN n5 HX4.out) HG.out,bdN n5 (HB.out.trans ((HX.out.trans (HX4.out.mono HX.out.size)).mono HB.out.size)),HQ5.out⟩
end Go.Proofs.YtkajknidfoelcaaGreatDoor.U
namespace Go.Proofs.YtkajknidfoelcaaGreatDoor.U
open Go.RowKit M T
attribute [local go_sem] run_store_float
theorem dothrowg_any (gm gt gc gf bp op capP:Nat) (m:MachD) (c:CallD) (n:ID) (v:VD) (tx:ByteArray) (Q:World→World→Prop) (w:World) (h:ThR w gm gt gc gf bp op capP m c) (hr:c.regs.length=250) (ha:n.a=0) (hs:c.regs[0]?=some (sdV v))
  (HTo:∀W,Below w.heap.size w W→Calls Tryz.prog 54 #[.pointer (some ⟨gm,0,none⟩),.agg #[.int .i64 v.k,.int .i64 v.n,.float .f64 v.f,.string v.s,.int .i64 v.r]] W fun e w'=>e=.returned (.string tx)∧Below W.heap.size W w')
  (HQ:∀wk,Below w.heap.size w wk→Calls Tryz.prog 221 #[.pointer (some ⟨gm,0,none⟩),.agg #[.int .i64 4,.int .i64 0,.int .i64 0,.int .i64 0,.string tx]] wk fun e w'=>e=.returned .nilIface∧Q wk w') :
  Calls Tryz.prog 101 #[.pointer (some ⟨gm,0,none⟩),.pointer (some ⟨gf,0,none⟩),insV n] w fun e w'=>∃gr s wk,e=.returned (.iface 146 (.pointer (some ⟨gr,0,none⟩)))∧w.heap.size≤gr∧wk.heap[gr]?=some (ThG v s)∧Below w.heap.size w wk∧Q wk w':=by
 obtain⟨o,a,b,cc,d⟩:=n
 dsimp only[insV]at ha ⊢
 subst ha
 have HB:Hid _:=bw1 w (InO ⟨o,0,b,cc,d⟩)
 have HT:Hid (ThR (w.alloc (InO ⟨o,0,b,cc,d⟩)) gm gt gc gf bp op capP m c):=h.later HB.out
 have HQ':Hid (∀wk,Below w.heap.size w wk→Calls Tryz.prog 221 #[.pointer (some ⟨gm,0,none⟩),.agg #[.int .i64 4,.int .i64 0,.int .i64 0,.int .i64 0,.string tx]] wk fun e w'=>e=.returned .nilIface∧Q wk w'):=HQ
 have HTo':Hid (∀W,Below w.heap.size w W→Calls Tryz.prog 54 #[.pointer (some ⟨gm,0,none⟩),.agg #[.int .i64 v.k,.int .i64 v.n,.float .f64 v.f,.string v.s,.int .i64 v.r]] W fun e w'=>e=.returned (.string tx)∧Below W.heap.size W w'):=HTo
 clear h HQ HTo
 go_enter Tryz.func101,Tryz.ntmps101
 go_wp2_with fail
 refine (value_pos gf 0 1 v none none 0 0 c _ HT.out.cal hr (by omega) hs).mono ?_
 rintro e w1 ⟨rfl,hx⟩
 have HX:Hid (Below w.heap.size w w1):=HB.out.trans (hx.mono (by simp))
 have HT1:Hid (ThR w1 gm gt gc gf bp op capP m c):=HT.out.later hx
 clear hx
 go_wp2_with fail
 refine (throwg_any gm gt gc gf bp op capP m c v tx Q w1 HT1.out (fun W hW=>HTo'.out W (HX.out.trans (hW.mono HX.out.size))) (fun wk hk=>HQ'.out wk (HX.out.trans (hk.mono HX.out.size)))).mono ?_
 rintro e w2 ⟨gr,s,wk,rfl,h1,h2,h3,h4⟩
 have HE:Hid (w.heap.size≤gr∧wk.heap[gr]?=some (ThG v s)∧Below w.heap.size w wk∧Q wk w2):=⟨Nat.le_trans HX.out.size h1,h2,HX.out.trans (h3.mono HX.out.size),h4⟩
 clear h1 h2 h3 h4
 go_wp2_with fail
 go_ret
 exact⟨gr,s,wk,rfl,HE.out⟩
end Go.Proofs.YtkajknidfoelcaaGreatDoor.U
