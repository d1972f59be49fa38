import Derived.Test.YtjglgbepobmjhaaGreatDoorP01
import Derived.Test.YtjglgbepobmjhaaGreatDoorP03
import Derived.Test.YtjglgbepobmjhaaGreatDoorP04
set_option linter.unusedVariables false
set_option linter.unusedSimpArgs false
set_option maxRecDepth 20000
set_option maxHeartbeats 8000000
namespace Go.Proofs.YtjglgbepobmjhaaGreatDoor.TJ
section
variable (E:Nat→List Nat)
def RN:Nat→Nat→Nat→Prop
 | 0,x,y=>x=y
 | n+1,x,y=>∃z,z∈E x∧RN n z y
def R (x y:Nat):Prop:=∃n,RN E n x y
def Cyc (x:Nat):Prop:=∃y,y∈E x∧R E y x
end
section
variable {E:Nat→List Nat}
theorem R.refl (x:Nat):R E x x:=⟨0,rfl⟩
theorem R.step {x y:Nat} (h:y∈E x):R E x y:=⟨1,y,h,rfl⟩
theorem RN.trans:∀ {n m x y z:Nat},RN E n x y→RN E m y z→RN E (n+m) x z
 | 0,m,x,y,z,h,h'=>by
  have e:x=y:=h
  rw[Nat.zero_add,e];exact h'
 | n+1,m,x,y,z,⟨u,hu,h⟩,h'=>by
  rw[show n+1+m=(n+m)+1 by omega]
  exact⟨u,hu,RN.trans h h'⟩
theorem R.trans {x y z:Nat} (h:R E x y) (h':R E y z):R E x z:=by
 obtain⟨n,a⟩:=h
 obtain⟨m,b⟩:=h'
 exact⟨n+m,a.trans b⟩
theorem RN.closed {P:Nat→Prop} (hP:∀x y,P x→y∈E x→P y):∀ {n x y:Nat},P x→RN E n x y→P y
 | 0,x,y,hx,h=>by
  have e:x=y:=h
  rw[←e];exact hx
 | n+1,x,y,hx,⟨u,hu,h⟩=>RN.closed hP (hP x u hx hu) h
theorem R.closed {P:Nat→Prop} (hP:∀x y,P x→y∈E x→P y) {x y:Nat} (hx:P x) (h:R E x y):P y:=by
 obtain⟨n,a⟩:=h
 exact RN.closed hP hx a
theorem cyc_of {x y:Nat} (hne:x≠y) (h:R E x y) (h':R E y x):Cyc E x:=by
 obtain⟨n,a⟩:=h
 cases n with
 | zero=>exact absurd a hne
 | succ n =>
  obtain⟨u,hu,a'⟩:=a
  exact⟨u,hu,R.trans ⟨n,a'⟩ h'⟩
end
structure S where
 met:Nat→Nat
 low:Nat→Nat
 op:List Nat
 off:Nat→Bool
 count:Nat
 least:Option Nat
def Lst (E:Nat→List Nat) (s:S):Prop :=
 (s.least=none∧∀x,s.off x=true→¬Cyc E x)∨∃l,s.least=some l∧s.off l=true∧Cyc E l∧∀x,s.off x=true→Cyc E x→l≤x
structure W (E:Nat→List Nat) (s:S) (G:List Nat):Prop where
 m1:∀x,s.met x≠0↔x∈s.op∨s.off x=true
 dj:∀x∈s.op,s.off x=false
 srt:s.op.Pairwise fun x y=>s.met x<s.met y
 cnt:∀x,s.met x≤s.count
 cl:∀x y,s.off x=true→y∈E x→s.off y=true
 fwd:∀x∈s.op,∀y∈s.op,s.met x≤s.met y→R E x y
 bwd:∀y∈s.op,∃g∈G,s.met g≤s.met y∧R E y g
 gop:∀g∈G,g∈s.op
 lw:∀x∈s.op,s.low x≤s.met x∧∃z∈s.op,s.met z=s.low x∧R E x z
 dn:∀x∈s.op,x∉G→∀y∈E x,s.met y≠0
 lst:Lst E s
structure V (E:Nat→List Nat) (at_:Nat) (G:List Nat) (s s':S):Prop where
 w:W E s' G
 met:∀x,s.met x≠0→s'.met x=s.met x
 low:∀x,s.met x≠0→s'.low x=s.low x
 op:∃new,s'.op=s.op++new∧(s'.off at_=true→new=[])∧∀x∈new,∀y∈E x,s'.off y=true∨(y∈s'.op∧s'.low at_≤s'.met y)
 off:∀x,s.off x=true→s'.off x=true
 nw:∀x,s'.off x=true→s.off x=false→s.met x=0
 at_:s'.met at_≠0
 cnt:s.count≤s'.count
 newm:∀x,s.met x=0→s'.met x≠0→s.count<s'.met x
def push (s:S) (a:Nat):S:={ s with met:=fun x=>if x=a then s.count+1 else s.met x,low:=fun x=>if x=a then s.count+1 else s.low x,op:=s.op++[a],count:=s.count+1 }
structure I (E:Nat→List Nat) (a:Nat) (G:List Nat) (s0 s:S) (ys:List Nat):Prop where
 w:W E s (a :: G)
 met:∀x,s0.met x≠0→s.met x=s0.met x
 low:∀x,s0.met x≠0→s.low x=s0.low x
 op:∃new,s.op=s0.op++a :: new∧∀x∈new,x≠a→∀y∈E x,s.off y=true∨(y∈s.op∧s.low a≤s.met y)
 own:∀y∈ys,s.off y=true∨(y∈s.op∧s.low a≤s.met y)
 g0:∀g∈G,g∈s0.op
 m0:∀x,s0.met x≠0→x∈s0.op∨s0.off x=true
 off:∀x,s0.off x=true→s.off x=true
 nw:∀x,s.off x=true→s0.off x=false→s0.met x=0
 ma:s.met a=s0.count+1
 un:s0.met a=0
 cnt:s0.count+1≤s.count
 newm:∀x,s0.met x=0→s.met x≠0→s0.count<s.met x
theorem push_I {E:Nat→List Nat} {s:S} {G:List Nat} {a:Nat} (h:W E s G) (hu:s.met a=0) (hg:∀g∈G,R E g a):I E a G s (push s a) []:=by
 have hna:∀x∈s.op,x≠a:=fun x hx e=>by
  have:=(h.m1 x).2 (.inl hx)
  rw[e]at this
  exact this hu
 have hoa:s.off a=false:=by
  cases ho:s.off a with
  | false=>rfl
  | true=>exact absurd hu ((h.m1 a).2 (.inr ho))
 have hm:∀x∈s.op,(push s a).met x=s.met x:=fun x hx=>if_neg (hna x hx)
 have hlw:∀x∈s.op,(push s a).low x=s.low x:=fun x hx=>if_neg (hna x hx)
 have hma:(push s a).met a=s.count+1:=if_pos rfl
 have hla:(push s a).low a=s.count+1:=if_pos rfl
 have hop:(push s a).op=s.op++[a]:=rfl
 have hmem:∀x,x∈(push s a).op↔x∈s.op∨x=a:=fun x=>by rw[hop];simp
 have hmn:∀x,s.met x≠0→(push s a).met x=s.met x:=fun x hx=>if_neg (fun e=>hx (by rw[e];exact hu))
 refine⟨⟨fun x=>?_,fun x hx=>?_,?_,fun x=>?_,h.cl,fun x hx y hy hxy=>?_,fun y hy=>?_,fun g hgg=>?_,fun x hx=>?_,fun x hx hxg y hy=>?_,h.lst⟩,hmn,fun x hx=>if_neg (fun e=>hx (by rw[e];exact hu)),⟨[],rfl,fun x hx=>by cases hx⟩,(fun y hy=>by cases hy),h.gop,fun x hx=>(h.m1 x).1 hx,fun x hx=>hx,fun x hx hx'=>?_,hma,hu,Nat.le_refl _,fun x hx hx'=>?_⟩
 ·rw[hmem]
  by_cases hx:x=a
  ·subst hx
   rw[hma]
   exact⟨fun _=>.inl (.inr rfl),fun _=>by omega⟩
  ·show (if x=a then s.count+1 else s.met x)≠0↔_
   rw[if_neg hx,h.m1 x]
   constructor
   ·rintro (q | q)
    ·exact .inl (.inl q)
    ·exact .inr q
   ·rintro ((q | q) | q)
    ·exact .inl q
    ·exact absurd q hx
    ·exact .inr q
 ·rcases (hmem x).1 hx with q | q
  ·exact h.dj x q
  ·rw[q];exact hoa
 ·rw[hop,List.pairwise_append]
  refine⟨h.srt.imp_of_mem fun hx hy hxy=>by rw[hm _ hx,hm _ hy];exact hxy,by simp,fun x hx y hy=>?_⟩
  obtain rfl:y=a:=by simpa using hy
  rw[hm x hx,hma]
  have:=h.cnt x
  omega
 ·show (if x=a then s.count+1 else s.met x)≤s.count+1
  split
  ·omega
  ·have:=h.cnt x;omega
 ·rcases (hmem x).1 hx with q | q
  ·rcases (hmem y).1 hy with r | r
   ·rw[hm x q,hm y r]at hxy
    exact h.fwd x q y r hxy
   ·rw[r]
    obtain⟨g,hgG,_,hr⟩:=h.bwd x q
    exact hr.trans (hg g hgG)
  ·rcases (hmem y).1 hy with r | r
   ·rw[q,hma,hm y r]at hxy
    have:=h.cnt y
    omega
   ·rw[q,r];exact R.refl _
 ·rcases (hmem y).1 hy with q | q
  ·obtain⟨g,hgG,hl,hr⟩:=h.bwd y q
   exact⟨g,List.mem_cons_of_mem _ hgG,by rw[hm g (h.gop g hgG),hm y q];exact hl,hr⟩
  ·exact⟨a,by simp,by rw[q];exact Nat.le_refl _,by rw[q];exact R.refl _⟩
 ·rcases List.mem_cons.1 hgg with q | q
  ·exact (hmem g).2 (.inr q)
  ·exact (hmem g).2 (.inl (h.gop g q))
 ·rcases (hmem x).1 hx with q | q
  ·obtain⟨h1,z,hz,h2,h3⟩:=h.lw x q
   exact⟨by rw[hlw x q,hm x q];exact h1,z,(hmem z).2 (.inl hz),by rw[hlw x q,hm z hz];exact h2,h3⟩
  ·rw[q]
   exact⟨by rw[hla,hma];exact Nat.le_refl _,a,(hmem a).2 (.inr rfl),by rw[hla,hma],R.refl _⟩
 ·rcases (hmem x).1 hx with q | q
  ·have:=h.dn x q (fun e=>hxg (List.mem_cons_of_mem _ e)) y hy
   rw[hmn y this];exact this
  ·exact absurd (by rw[q];simp) hxg
 ·have hx2:s.off x=true:=hx
  rw[hx']at hx2;cases hx2
 ·by_cases e:x=a
  ·rw[e,hma];omega
  ·have:(push s a).met x=s.met x:=if_neg e
   rw[this]at hx'
   exact absurd hx hx'
def upd (s:S) (a y:Nat):S:=if s.off y=true then s else { s with low:=fun x=>if x=a then min (s.low a) (s.low y) else s.low x }
theorem upd_met (s:S) (a y:Nat):(upd s a y).met=s.met:=by unfold upd;split<;>rfl
theorem upd_op (s:S) (a y:Nat):(upd s a y).op=s.op:=by unfold upd;split<;>rfl
theorem upd_off (s:S) (a y:Nat):(upd s a y).off=s.off:=by unfold upd;split<;>rfl
theorem upd_count (s:S) (a y:Nat):(upd s a y).count=s.count:=by unfold upd;split<;>rfl
theorem upd_least (s:S) (a y:Nat):(upd s a y).least=s.least:=by unfold upd;split<;>rfl
theorem upd_low (s:S) (a y x:Nat) (h:x≠a):(upd s a y).low x=s.low x:=by
 unfold upd
 split
 ·rfl
 ·exact if_neg h
theorem upd_le (s:S) (a y:Nat):(upd s a y).low a≤s.low a:=by
 unfold upd
 split
 ·exact Nat.le_refl _
 ·show (if a=a then min (s.low a) (s.low y) else s.low a)≤_
  rw[if_pos rfl];exact Nat.min_le_left _ _
theorem upd_le' (s:S) (a y:Nat) (h:s.off y=false):(upd s a y).low a≤s.low y:=by
 unfold upd
 rw[if_neg (by rw[h];decide)]
 show (if a=a then min (s.low a) (s.low y) else s.low a)≤_
 rw[if_pos rfl];exact Nat.min_le_right _ _
theorem upd_eq (s:S) (a y:Nat):(upd s a y).low a=s.low a∨(s.off y=false∧(upd s a y).low a=s.low y):=by
 unfold upd
 split
 ·exact .inl rfl
 ·rename_i h
  show (if a=a then min (s.low a) (s.low y) else s.low a)=_∨_
  rw[if_pos rfl]
  by_cases hl:s.low a≤s.low y
  ·exact .inl (Nat.min_eq_left hl)
  ·refine .inr ⟨by simpa using h,?_⟩
   show (if a=a then min (s.low a) (s.low y) else s.low a)=_
   rw[if_pos rfl]
   exact Nat.min_eq_right (Nat.le_of_lt (Nat.lt_of_not_le hl))
theorem W.upd {E:Nat→List Nat} {s:S} {G:List Nat} {a y:Nat} (h:W E s G) (hy:y∈E a) (hm:s.met y≠0):W E (upd s a y) G:=by
 refine⟨by rw[upd_met,upd_op,upd_off];exact h.m1,by rw[upd_op,upd_off];exact h.dj,by rw[upd_op,upd_met];exact h.srt,by rw[upd_met,upd_count];exact h.cnt,by rw[upd_off];exact h.cl,by rw[upd_op,upd_met];exact h.fwd,by rw[upd_op,upd_met];exact h.bwd,by rw[upd_op];exact h.gop,fun x hx=>?_,by rw[upd_op,upd_met];exact h.dn,by unfold Lst;rw[upd_off,upd_least];exact h.lst⟩
 rw[upd_op]at hx ⊢
 rw[upd_met]
 obtain⟨h1,z,hz,h2,h3⟩:=h.lw x hx
 by_cases hxa:x=a
 ·subst hxa
  refine⟨Nat.le_trans (upd_le s x y) h1,?_⟩
  rcases upd_eq s x y with e | ⟨ho,e⟩
  ·exact⟨z,hz,by rw[e];exact h2,h3⟩
  ·rcases (h.m1 y).1 hm with q | q
   ·obtain⟨_,z',hz',h2',h3'⟩:=h.lw y q
    exact⟨z',hz',by rw[e];exact h2',(R.step hy).trans h3'⟩
   ·rw[ho]at q;cases q
 ·rw[upd_low s a y x hxa]
  exact⟨h1,z,hz,h2,h3⟩
theorem I.old {E:Nat→List Nat} {a y:Nat} {G ys:List Nat} {s0 s:S} (h:I E a G s0 s ys) (hy:y∈E a) (hm:s.met y≠0):I E a G s0 (upd s a y) (ys++[y]):=by
 have hle:=upd_le s a y
 refine⟨h.w.upd hy hm,by rw[upd_met];exact h.met,fun x hx=>?_,?_,fun z hz=>?_,h.g0,h.m0,by rw[upd_off];exact h.off,by rw[upd_off];exact h.nw,by rw[upd_met];exact h.ma,h.un,by rw[upd_count];exact h.cnt,by rw[upd_met];exact h.newm⟩
 ·rw[upd_low s a y x (fun e=>hx (by rw[e];exact h.un))];exact h.low x hx
 ·obtain⟨new,h1,h2⟩:=h.op
  refine⟨new,by rw[upd_op];exact h1,fun x hx hxa z hz=>?_⟩
  rw[upd_off,upd_op,upd_met]
  rcases h2 x hx hxa z hz with q | ⟨q,r⟩
  ·exact .inl q
  ·exact .inr ⟨q,Nat.le_trans hle r⟩
 ·rw[upd_off,upd_op,upd_met]
  rcases List.mem_append.1 hz with q | q
  ·rcases h.own z q with q | ⟨q,r⟩
   ·exact .inl q
   ·exact .inr ⟨q,Nat.le_trans hle r⟩
  ·obtain rfl:z=y:=by simpa using q
   rcases (h.w.m1 z).1 hm with q | q
   ·exact .inr ⟨q,Nat.le_trans (upd_le' s a z (h.w.dj z q)) (h.w.lw z q).1⟩
   ·exact .inl q
theorem I.child {E:Nat→List Nat} {a y:Nat} {G ys:List Nat} {s0 s s':S} (h:I E a G s0 s ys) (hy:y∈E a) (hm:s.met y=0) (v:V E y (a :: G) s s'):I E a G s0 (upd s' a y) (ys++[y]):=by
 have hle:=upd_le s' a y
 have hma:s.met a≠0:=by rw[h.ma];omega
 have hla:=v.low a hma
 have keep:∀z,(s.off z=true∨(z∈s.op∧s.low a≤s.met z))→(s'.off z=true∨(z∈s'.op∧(upd s' a y).low a≤s'.met z)):=fun z hz=>by
  rcases hz with q | ⟨q,r⟩
  ·exact .inl (v.off z q)
  ·obtain⟨n2,e2,_⟩:=v.op
   refine .inr ⟨by rw[e2];exact List.mem_append_left _ q,?_⟩
   rw[v.met z ((h.w.m1 z).2 (.inl q))]
   rw[hla]at hle
   omega
 refine⟨v.w.upd hy v.at_,fun x hx=>?_,fun x hx=>?_,?_,fun z hz=>?_,h.g0,h.m0,fun x hx=>?_,fun x hx hx'=>?_,by rw[upd_met,v.met a hma];exact h.ma,h.un,by rw[upd_count];have:=h.cnt;have:=v.cnt;omega,fun x hx hx'=>?_⟩
 ·rw[upd_met]
  have:=h.met x hx
  rw[v.met x (by rw[this];exact hx),this]
 ·rw[upd_low s' a y x (fun e=>hx (by rw[e];exact h.un))]
  have:=h.met x hx
  rw[v.low x (by rw[this];exact hx),h.low x hx]
 ·obtain⟨new,h1,h2⟩:=h.op
  obtain⟨n2,e2,e3,e4⟩:=v.op
  refine⟨new++n2,by rw[upd_op,e2,h1];simp,fun x hx hxa z hz=>?_⟩
  rw[upd_off,upd_op,upd_met]
  rcases List.mem_append.1 hx with q | q
  ·exact keep z (h2 x q hxa z hz)
  ·rcases e4 x q z hz with r | ⟨r,t⟩
   ·exact .inl r
   ·cases ho:s'.off y with
    | true =>
     have:=e3 ho
     rw[this]at q;cases q
    | false=>exact .inr ⟨r,Nat.le_trans (upd_le' s' a y ho) t⟩
 ·rw[upd_off,upd_op,upd_met]
  rcases List.mem_append.1 hz with q | q
  ·exact keep z (h.own z q)
  ·obtain rfl:z=y:=by simpa using q
   rcases (v.w.m1 z).1 v.at_ with q | q
   ·exact .inr ⟨q,Nat.le_trans (upd_le' s' a z (v.w.dj z q)) (v.w.lw z q).1⟩
   ·exact .inl q
 ·rw[upd_off];exact v.off x (h.off x hx)
 ·rw[upd_off]at hx
  cases ho:s.off x with
  | true=>exact h.nw x ho hx'
  | false =>
   have h1:=v.nw x hx ho
   cases h0:s0.met x with
   | zero=>rfl
   | succ k=>have:=h.met x (by omega);omega
 ·rw[upd_met]at hx' ⊢
  by_cases h1:s.met x=0
  ·have:=v.newm x h1 hx'
   have:=h.cnt
   omega
  ·rw[v.met x h1]
   exact h.newm x hx h1
theorem I.leave {E:Nat→List Nat} {a:Nat} {G:List Nat} {s0 s:S} (h:I E a G s0 s (E a)) (hl:s.low a≠s.met a):V E a G s0 s:=by
 obtain⟨new,h1,h2⟩:=h.op
 have hao:a∈s.op:=by rw[h1];simp
 have hlt:s.low a<s.met a:=by have:=(h.w.lw a hao).1;omega
 refine⟨⟨h.w.m1,h.w.dj,h.w.srt,h.w.cnt,h.w.cl,h.w.fwd,fun y hy=>?_,fun g hg=>h.w.gop g (List.mem_cons_of_mem _ hg),h.w.lw,fun x hx hxg y hy=>?_,h.w.lst⟩,h.met,h.low,⟨a :: new,h1,fun ho=>?_,fun x hx y hy=>?_⟩,h.off,h.nw,(by rw[h.ma];omega),by have:=h.cnt;omega,h.newm⟩
 ·obtain⟨g,hg,hgl,hr⟩:=h.w.bwd y hy
  rcases List.mem_cons.1 hg with e | e
  ·subst e
   obtain⟨_,z,hz,hz1,hz2⟩:=h.w.lw g hao
   obtain⟨g',hg',hgl',hr'⟩:=h.w.bwd z hz
   rcases List.mem_cons.1 hg' with e' | e'
   ·subst e';omega
   ·exact⟨g',e',by omega,hr.trans (hz2.trans hr')⟩
  ·exact⟨g,e,hgl,hr⟩
 ·by_cases e:x=a
  ·subst e
   rcases h.own y hy with q | ⟨q,_⟩
   ·exact (h.w.m1 y).2 (.inr q)
   ·exact (h.w.m1 y).2 (.inl q)
  ·exact h.w.dn x hx (fun hh=>by
    rcases List.mem_cons.1 hh with q | q
    ·exact e q
    ·exact hxg q) y hy
 ·rw[h.w.dj a hao]at ho;cases ho
 ·rcases List.mem_cons.1 hx with e | e
  ·rw[e]at hy;exact h.own y hy
  ·by_cases ea:x=a
   ·rw[ea]at hy;exact h.own y hy
   ·exact h2 x e ea y hy
def mn (a:Nat) (new:List Nat):Nat:=new.foldl min a
theorem mn_spec:∀(new:List Nat) (a:Nat),mn a new∈a :: new∧∀x∈a :: new,mn a new≤x
 | [],a=>⟨by simp[mn],fun x hx=>by simp[mn]at hx ⊢;omega⟩
 | b :: bs,a=>by
  obtain⟨h1,h2⟩:=mn_spec bs (min a b)
  have e:mn a (b :: bs)=mn (min a b) bs:=rfl
  rw[e]
  have hmin:min a b=a∨min a b=b:=by
   by_cases h:a≤b
   ·exact .inl (Nat.min_eq_left h)
   ·exact .inr (Nat.min_eq_right (by omega))
  have hle:=h2 (min a b) (by simp)
  refine⟨?_,fun x hx=>?_⟩
  ·rcases List.mem_cons.1 h1 with q | q
   ·rw[q]
    rcases hmin with r | r<;>rw[r]<;>simp
   ·exact List.mem_cons_of_mem _ (List.mem_cons_of_mem _ q)
  ·rcases List.mem_cons.1 hx with q | q
   ·rw[q];exact Nat.le_trans hle (Nat.min_le_left _ _)
   ·rcases List.mem_cons.1 q with r | r
    ·rw[r];exact Nat.le_trans hle (Nat.min_le_right _ _)
    ·exact h2 x (List.mem_cons_of_mem _ r)
def better (l:Option Nat) (f:Nat):Option Nat:=match l with
 | none=>some f
 | some l=>if f<l then some f else some l
def closeS (s:S) (rest:List Nat) (a:Nat) (new:List Nat) (back:Bool):S :=
 { s with op:=rest,off:=fun x=>decide (x∈a :: new) || s.off x,least:=if back=true∨new≠[] then better s.least (mn a new) else s.least }
theorem I.close {E:Nat→List Nat} {a:Nat} {G:List Nat} {s0 s:S} (h:I E a G s0 s (E a)) (hl:s.low a=s.met a) (new:List Nat) (h1:s.op=s0.op++a :: new) (back:Bool) (hb:back=true↔a∈E a):V E a G s0 (closeS s s0.op a new back):=by
 have hsrt:=h.w.srt
 rw[h1,List.pairwise_append]at hsrt
 obtain⟨hs1,hs2,hs3⟩:=hsrt
 have hs4:=List.pairwise_cons.1 hs2
 have hop:∀x,x∈s.op↔x∈s0.op∨x∈a :: new:=fun x=>by rw[h1,List.mem_append]
 have hlt:∀x∈s0.op,s.met x<s.met a:=fun x hx=>hs3 x hx a (by simp)
 have hge:∀x∈a :: new,s.met a≤s.met x:=fun x hx=>by
  rcases List.mem_cons.1 hx with q | q
  ·rw[q];exact Nat.le_refl _
  ·exact Nat.le_of_lt (hs4.1 x q)
 have hsep:∀x,x∈s0.op→x∈a :: new→False:=fun x hx hx'=>by
  have:=hlt x hx;have:=hge x hx';omega
 have hao:a∈s.op:=(hop a).2 (.inr (by simp))
 have hclo:∀x∈a :: new,∀y∈E x,s.off y=true∨y∈a :: new:=fun x hx y hy=>by
  have key:s.off y=true∨(y∈s.op∧s.low a≤s.met y):=by
   by_cases e:x=a
   ·rw[e]at hy;exact h.own y hy
   ·obtain⟨new',h1',h2'⟩:=h.op
    have:new'=new:=by
     rw[h1]at h1'
     have:=List.append_cancel_left h1'
     exact (List.cons.inj this).2.symm
    rw[this]at h2'
    rcases List.mem_cons.1 hx with q | q
    ·exact absurd q e
    ·exact h2' x q e y hy
  rcases key with q | ⟨q,r⟩
  ·exact .inl q
  ·rcases (hop y).1 q with t | t
   ·have:=hlt y t;omega
   ·exact .inr t
 have hP:∀x y,(s.off x=true∨x∈a :: new)→y∈E x→(s.off y=true∨y∈a :: new):=fun x y hx hy=>by
  rcases hx with q | q
  ·exact .inl (h.w.cl x y q hy)
  ·exact hclo x q y hy
 have hback:∀y∈a :: new,R E y a:=fun y hy=>by
  obtain⟨g,hg,_,hr⟩:=h.w.bwd y ((hop y).2 (.inr hy))
  rcases List.mem_cons.1 hg with e | e
  ·rw[←e];exact hr
  ·have hg0:=h.g0 g e
   rcases R.closed hP (.inr hy) hr with q | q
   ·rw[h.w.dj g ((hop g).2 (.inl hg0))]at q;cases q
   ·exact (hsep g hg0 q).elim
 have hfwd:∀y∈a :: new,R E a y:=fun y hy=>h.w.fwd a hao y ((hop y).2 (.inr hy)) (hge y hy)
 have hcyc:(back=true∨new≠[])→∀x∈a :: new,Cyc E x:=fun hh x hx=>by
  by_cases hn:new=[]
  ·rw[hn]at hx
   obtain rfl:x=a:=by simpa using hx
   rcases hh with q | q
   ·exact⟨x,hb.1 q,R.refl _⟩
   ·exact absurd hn q
  ·by_cases e:x=a
   ·subst e
    obtain⟨y,hy⟩:=List.exists_mem_of_ne_nil new hn
    have hne:x≠y:=fun e=>by have:=hs4.1 y hy;rw[←e]at this;omega
    exact cyc_of hne (hfwd y (List.mem_cons_of_mem _ hy)) (hback y (List.mem_cons_of_mem _ hy))
   ·exact cyc_of e (hback x hx) (hfwd x hx)
 have hnoc:¬(back=true∨new≠[])→∀x∈a :: new,¬Cyc E x:=fun hh x hx hc=>by
  have hn:new=[]:=by
   by_cases q:new=[]
   ·exact q
   ·exact absurd (.inr q) hh
  rw[hn]at hx
  obtain rfl:x=a:=by simpa using hx
  obtain⟨y,hy,hr⟩:=hc
  rcases hclo x (by simp) y hy with q | q
  ·have:=R.closed (P:=fun z=>s.off z=true) (fun u v hu hv=>h.w.cl u v hu hv) q hr
   rw[h.w.dj x hao]at this;cases this
  ·rw[hn]at q
   obtain rfl:y=x:=by simpa using q
   exact hh (.inl (hb.2 hy))
 have hoff:∀x,(closeS s s0.op a new back).off x=true↔x∈a :: new∨s.off x=true:=fun x=>by
  show (decide (x∈a :: new) || s.off x)=true↔_
  rw[Bool.or_eq_true,decide_eq_true_iff]
 obtain⟨hmn1,hmn2⟩:=mn_spec new a
 have hlst:Lst E (closeS s s0.op a new back):=by
  by_cases hh:back=true∨new≠[]
  ·have hle:(closeS s s0.op a new back).least=better s.least (mn a new):=if_pos hh
   refine .inr ?_
   rcases h.w.lst with ⟨e,hno⟩ | ⟨l,e,hlo,hlc,hll⟩
   ·refine⟨mn a new,by rw[hle,e];rfl,(hoff _).2 (.inl hmn1),hcyc hh _ hmn1,fun x hx hc=>?_⟩
    rcases (hoff x).1 hx with q | q
    ·exact hmn2 x q
    ·exact absurd hc (hno x q)
   ·by_cases hf:mn a new<l
    ·refine⟨mn a new,by rw[hle,e];exact if_pos hf,(hoff _).2 (.inl hmn1),hcyc hh _ hmn1,fun x hx hc=>?_⟩
     rcases (hoff x).1 hx with q | q
     ·exact hmn2 x q
     ·have:=hll x q hc;omega
    ·refine⟨l,by rw[hle,e];exact if_neg hf,(hoff _).2 (.inr hlo),hlc,fun x hx hc=>?_⟩
     rcases (hoff x).1 hx with q | q
     ·have:=hmn2 x q;omega
     ·exact hll x q hc
  ·have hle:(closeS s s0.op a new back).least=s.least:=if_neg hh
   rcases h.w.lst with ⟨e,hno⟩ | ⟨l,e,hlo,hlc,hll⟩
   ·refine .inl ⟨by rw[hle,e],fun x hx=>?_⟩
    rcases (hoff x).1 hx with q | q
    ·exact hnoc hh x q
    ·exact hno x q
   ·refine .inr ⟨l,by rw[hle,e],(hoff _).2 (.inr hlo),hlc,fun x hx hc=>?_⟩
    rcases (hoff x).1 hx with q | q
    ·exact absurd hc (hnoc hh x q)
    ·exact hll x q hc
 have hofff:∀x,x∉a :: new→s.off x=false→(closeS s s0.op a new back).off x=false:=fun x hx ho=>by
  cases hq:(closeS s s0.op a new back).off x with
  | false=>rfl
  | true =>
   rcases (hoff x).1 hq with q | q
   ·exact absurd q hx
   ·rw[ho]at q;cases q
 refine⟨⟨fun x=>?_,fun x hx=>?_,hs1,h.w.cnt,fun x y hx hy=>?_,fun x hx y hy hxy=>h.w.fwd x ((hop x).2 (.inl hx)) y ((hop y).2 (.inl hy)) hxy,fun y hy=>?_,h.g0,fun x hx=>?_,fun x hx hxg y hy=>?_,hlst⟩,h.met,h.low,⟨[],by simp[closeS],fun _=>rfl,fun x hx=>by cases hx⟩,fun x hx=>(hoff x).2 (.inr (h.off x hx)),fun x hx hx'=>?_,(by show s.met a≠0;rw[h.ma];omega),by have:=h.cnt;show s0.count≤s.count;omega,h.newm⟩
 ·show s.met x≠0↔x∈s0.op∨_
  rw[h.w.m1 x,hop x,hoff x]
  constructor
  ·rintro ((q | q) | q)
   ·exact .inl q
   ·exact .inr (.inl q)
   ·exact .inr (.inr q)
  ·rintro (q | (q | q))
   ·exact .inl (.inl q)
   ·exact .inl (.inr q)
   ·exact .inr q
 ·exact hofff x (fun q=>hsep x hx q) (h.w.dj x ((hop x).2 (.inl hx)))
 ·rcases (hoff x).1 hx with q | q
  ·rcases hclo x q y hy with r | r
   ·exact (hoff y).2 (.inr r)
   ·exact (hoff y).2 (.inl r)
  ·exact (hoff y).2 (.inr (h.w.cl x y q hy))
 ·obtain⟨g,hg,hgl,hr⟩:=h.w.bwd y ((hop y).2 (.inl hy))
  rcases List.mem_cons.1 hg with e | e
  ·subst e
   have:=hlt y hy
   omega
  ·exact⟨g,e,hgl,hr⟩
 ·obtain⟨q1,z,hz,q2,q3⟩:=h.w.lw x ((hop x).2 (.inl hx))
  refine⟨q1,z,?_,q2,q3⟩
  rcases (hop z).1 hz with q | q
  ·exact q
  ·have:=hge z q;have:=hlt x hx;omega
 ·refine h.w.dn x ((hop x).2 (.inl hx)) (fun hh=>?_) y hy
  rcases List.mem_cons.1 hh with q | q
  ·have:=hlt x hx;rw[q]at this;omega
  ·exact hxg q
 ·rcases (hoff x).1 hx with q | q
  ·cases hm:s0.met x with
   | zero=>rfl
   | succ k =>
    rcases h.m0 x (by omega) with r | r
    ·exact (hsep x r q).elim
    ·rw[hx']at r;cases r
  ·exact h.nw x q hx'
theorem W.none {E:Nat→List Nat} {s:S} (h:W E s []):s.op=[]:=by
 cases hs:s.op with
 | nil=>rfl
 | cons x xs =>
  obtain⟨g,hg,_⟩:=h.bwd x (by rw[hs];simp)
  cases hg
end Go.Proofs.YtjglgbepobmjhaaGreatDoor.TJ
namespace Go.Proofs.YtjglgbepobmjhaaGreatDoor
open TJ
structure Bf (E:Nat→List Nat) (a n:Nat) (L:List Nat) (i:Nat) (S:List Bool):Prop where
 le:i≤L.length
 len:S.length=n
 lt:∀x∈L,x<n
 come:∀x∈L,∃y,y∈E a∧R E y x
 first:∀y∈E a,y∈L
 past:∀(j x:Nat),j<i→L[j]?=some x→x≠a∧S[x]?=some true
 seen:∀x:Nat,S[x]?=some true→∀y∈E x,y∈L
 many:L.length≤2+2*S.countP (· == true)
theorem Bf.old {E:Nat→List Nat} {a n i x:Nat} {L:List Nat} {S:List Bool} (h:Bf E a n L i S) (hx:L[i]?=some x) (hne:x≠a) (hs:S[x]?=some true):Bf E a n L (i+1) S :=
 ⟨(List.getElem?_eq_some_iff.1 hx).1,h.len,h.lt,h.come,h.first,fun j y hj hy=>by
  by_cases e:j=i
  ·subst e;rw[hx]at hy;cases hy;exact⟨hne,hs⟩
  ·exact h.past j y (by omega) hy,h.seen,h.many⟩
theorem Bf.new {E:Nat→List Nat} {a n i x:Nat} {L:List Nat} {S:List Bool} (h:Bf E a n L i S) (hx:L[i]?=some x) (hne:x≠a) (hs:S[x]?=some false) (hE:∀y∈E x,y<n) (h2:(E x).length≤2):Bf E a n (L++E x) (i+1) (S.set x true):=by
 have hi:=(List.getElem?_eq_some_iff.1 hx).1
 have hxl:=(List.getElem?_eq_some_iff.1 hs).1
 have hc:=countP_set (· == true) S x true false hs
 simp only[beq_self_eq_true,if_true,show ((false == true)=true)=False by simp,if_false]at hc
 refine⟨by simp;omega,by simpa using h.len,?_,?_,fun y hy=>List.mem_append.2 (.inl (h.first y hy)),?_,?_,?_⟩
 ·intro y hy
  rcases List.mem_append.1 hy with hy | hy
  ·exact h.lt y hy
  ·exact hE y hy
 ·intro y hy
  rcases List.mem_append.1 hy with hy | hy
  ·exact h.come y hy
  ·obtain⟨z,hz,hr⟩:=h.come x (List.mem_of_getElem? hx)
   exact⟨z,hz,hr.trans (R.step hy)⟩
 ·intro j y hj hy
  rw[List.getElem?_append_left (by omega)]at hy
  by_cases e:j=i
  ·subst e
   rw[hx]at hy
   cases hy
   exact⟨hne,by rw[List.getElem?_set_self hxl]⟩
  ·obtain⟨h1,h3⟩:=h.past j y (by omega) hy
   refine⟨h1,?_⟩
   rw[List.getElem?_set]
   split
   ·first | rfl | (rw[if_pos (by assumption)])
   ·exact h3
 ·intro y hy z hz
  rw[List.getElem?_set]at hy
  split at hy
  ·rename_i e;subst e;exact List.mem_append.2 (.inr hz)
  ·exact List.mem_append.2 (.inl (h.seen y hy z hz))
 ·rw[List.length_append]
  have:=h.many
  omega
theorem Bf.none {E:Nat→List Nat} {a n:Nat} {L:List Nat} {S:List Bool} (h:Bf E a n L L.length S):¬Cyc E a:=by
 rintro ⟨y,hy,hr⟩
 have ha:a∈L:=R.closed (P:=fun x=>x∈L) (fun x z hx hz=>by
  obtain⟨j,hj⟩:=List.mem_iff_getElem?.1 hx
  exact h.seen x (h.past j x (List.getElem?_eq_some_iff.1 hj).1 hj).2 z hz) (h.first y hy) hr
 obtain⟨j,hj⟩:=List.mem_iff_getElem?.1 ha
 exact (h.past j a (List.getElem?_eq_some_iff.1 hj).1 hj).1 rfl
def isB (b:Bool):Value→Bool
 | .bool c=>b == c
 | _=>false
def cntB (b:Bool) (w:World) (g:Nat):Nat:=match w.heap[g]? with
 | some (.cells arr _ _)=>arr.toList.countP (isB b)
 | _=>0
theorem cntB_of {b:Bool} {w:World} {g:Nat} {arr:Array Value} {t:TypeId} {fr:Nat × Nat} (h:w.heap[g]?=some (.cells arr t fr)):cntB b w g=arr.toList.countP (isB b):=by
 unfold cntB
 rw[h]
end Go.Proofs.YtjglgbepobmjhaaGreatDoor
namespace Go.Proofs.YtjglgbepobmjhaaGreatDoor
open Go.RowKit
theorem mb_cnt (b:Bool) (l:List Bool):(mb l).toList.countP (isB b)=l.countP (fun c=>b == c):=by
 show List.countP (isB b) (l.map Value.bool)=_
 rw[List.countP_map]
 rfl
end Go.Proofs.YtjglgbepobmjhaaGreatDoor
