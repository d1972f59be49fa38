import Derived.Test.YtkajknidfoelcaaGreatDoorP02
import Derived.Test.YtkajknidfoelcaaGreatDoorP01
import Derived.Laws.OwnMore
set_option linter.unusedVariables false
set_option linter.unusedSimpArgs false
set_option maxRecDepth 20000
set_option maxHeartbeats 8000000
namespace Go.Proofs.YtkajknidfoelcaaGreatDoor
open Go.RowKit
theorem all2_iff {α:Type} {eq:α→α→Bool} (h:∀x y,eq x y=true↔x=y):∀xs ys:List α,all2 eq xs ys=true↔xs=ys
 | [],[]=>by simp[all2]
 | [],_ :: _=>by simp[all2]
 | _ :: _,[]=>by simp[all2]
 | x :: xs,y :: ys=>by simp[all2,h,all2_iff h xs ys]
def sEq (x y:SD):Bool:=all2 (· == ·) x.ts y.ts && all2 gEq x.gs y.gs
def id0:ID:=⟨0,0,0,0,0⟩
def reachW (s:WkS) (t:Nat) (x:SD):Option WkS :=
 match s.st.getD t none with
 | none=>some ⟨s.st.set t (some x),s.due.set t true⟩
 | some y=>if sEq y x=true then some s else none
def leadW:List (Nat × SD)→WkS→Except Nat WkS
 | [],s=>.ok s
 | x :: r,s=>match reachW s x.1 x.2 with
  | some s'=>leadW r s'
  | none=>.error x.1
def behindV (c:List FD) (n:ID) (x:SD):Except Nat SD :=
 match readV c n x.ts with
 | none=>.error 10
 | some r=>match changeV n x.gs with
  | none=>.error 11
  | some gs=>if keptV x.gs r.taken x.ts (writeV n r.ts)=true then .ok ⟨writeV n r.ts,gs⟩ else .error 12
def passW (c:List FD) (ins:List ID) (a:Nat) (s:WkS):Except (Nat × Nat) WkS :=
 match s.st.getD a none with
 | none=>.error (0,0)
 | some x=>match behindV c (ins.getD a id0) x with
  | .error k=>.error (k,a)
  | .ok y=>match leadW (followV (ins.getD a id0) a x y) ⟨s.st,s.due.set a false⟩ with
   | .error t=>.error (13,t)
   | .ok s'=>.ok s'
def IsLeast (due:List Bool) (a:Nat):Prop:=due[a]?=some true∧∀b:Nat,b<a→due[b]?≠some true
def AllOff (due:List Bool):Prop:=∀b:Nat,due[b]?≠some true
theorem IsLeast.uniq {due:List Bool} {a b:Nat} (h:IsLeast due a) (h':IsLeast due b):a=b:=by
 rcases Nat.lt_trichotomy a b with hl | hl | hl
 ·exact absurd h.1 (h'.2 a hl)
 ·exact hl
 ·exact absurd h'.1 (h.2 b hl)
theorem least_or:∀due:List Bool,AllOff due∨∃a,IsLeast due a
 | []=>.inl fun b=>by simp
 | true :: _=>.inr ⟨0,rfl,fun b hb=>by omega⟩
 | false :: r=>by
  rcases least_or r with h | ⟨a,h⟩
  ·exact .inl fun b=>by cases b with | zero=>simp | succ b=>simpa using h b
  ·exact .inr ⟨a+1,by simpa using h.1,fun b hb=>by cases b with | zero=>simp | succ b=>simpa using h.2 b (by omega)⟩
def Runs (c:List FD) (ins:List ID):Nat→WkS→Except (Nat × Nat) WkS→Prop
 | 0,s,r=>(AllOff s.due∧r=.ok s)∨∃a e,IsLeast s.due a∧passW c ins a s=.error e∧r=.error e
 | k+1,s,r=>∃a s',IsLeast s.due a∧passW c ins a s=.ok s'∧Runs c ins k s' r
theorem Runs.uniq {c:List FD} {ins:List ID}:∀ {k k':Nat} {s:WkS} {r r':Except (Nat × Nat) WkS},Runs c ins k s r→Runs c ins k' s r'→r=r'∧k=k'
 | 0,0,s,r,r',h,h'=>by
  rcases h with ⟨h1,rfl⟩ | ⟨a,e,h1,h2,rfl⟩<;>rcases h' with ⟨h3,rfl⟩ | ⟨a',e',h3,h4,rfl⟩
  ·exact⟨rfl,rfl⟩
  ·exact absurd h3.1 (h1 _)
  ·exact absurd h1.1 (h3 _)
  ·cases h1.uniq h3;rw[h2]at h4;cases h4;exact⟨rfl,rfl⟩
 | 0,k'+1,s,r,r',h,h'=>by
  obtain⟨a',s',h3,h4,_⟩:=h'
  rcases h with ⟨h1,rfl⟩ | ⟨a,e,h1,h2,rfl⟩
  ·exact absurd h3.1 (h1 _)
  ·cases h1.uniq h3;rw[h2]at h4;cases h4
 | k+1,0,s,r,r',h,h'=>by
  obtain⟨a',s',h3,h4,_⟩:=h
  rcases h' with ⟨h1,rfl⟩ | ⟨a,e,h1,h2,rfl⟩
  ·exact absurd h3.1 (h1 _)
  ·cases h1.uniq h3;rw[h2]at h4;cases h4
 | k+1,k'+1,s,r,r',h,h'=>by
  obtain⟨a,s1,h1,h2,h5⟩:=h
  obtain⟨a',s2,h3,h4,h6⟩:=h'
  cases h1.uniq h3
  rw[h2]at h4
  cases h4
  obtain⟨e1,e2⟩:=Runs.uniq h5 h6
  exact⟨e1,by rw[e2]⟩
def mu (s:WkS):Nat:=2*s.st.countP (·.isNone)+s.due.countP (· == true)
theorem countP_set {α:Type} (p:α→Bool):∀(l:List α) (i:Nat) (x y:α),l[i]?=some y→(l.set i x).countP p+(if p y then 1 else 0)=l.countP p+(if p x then 1 else 0)
 | [],i,x,y,h=>by simp at h
 | z :: l,0,x,y,h=>by
  simp only[List.getElem?_cons_zero,Option.some.injEq]at h
  subst h
  simp only[List.set_cons_zero,List.countP_cons]
  omega
 | z :: l,i+1,x,y,h=>by
  have ih:=countP_set p l i x y (by simpa using h)
  simp only[List.set_cons_succ,List.countP_cons]
  omega
theorem reachW_len {s s':WkS} {t:Nat} {x:SD} (h:reachW s t x=some s'):s'.st.length=s.st.length∧s'.due.length=s.due.length:=by
 unfold reachW at h
 split at h
 ·cases h;simp
 ·split at h
  ·cases h;exact⟨rfl,rfl⟩
  ·cases h
theorem mu_reach {s s':WkS} {t:Nat} {x:SD} (hl:s.st.length=s.due.length) (h:reachW s t x=some s'):mu s'≤mu s:=by
 unfold reachW at h
 split at h
 ·rename_i h0
  cases h
  by_cases ht:t<s.st.length
  ·have e1:s.st[t]?=some none:=by
    rw[List.getD_eq_getElem?_getD,List.getElem?_eq_getElem ht]at h0
    rw[List.getElem?_eq_getElem ht]
    exact congrArg some (by simpa using h0)
   have e2:s.due[t]?=some (s.due[t]'(by omega)):=List.getElem?_eq_getElem (by omega)
   have c1:=countP_set (·.isNone) s.st t (some x) none e1
   have c2:=countP_set (· == true) s.due t true _ e2
   simp only[Option.isNone_none,Option.isNone_some,if_true,if_false,Bool.false_eq_true,beq_self_eq_true]at c1 c2
   unfold mu
   split at c2<;>dsimp only at c1 c2 ⊢<;>omega
  ·rw[List.set_eq_of_length_le (by omega),List.set_eq_of_length_le (by omega)]
   exact Nat.le_refl _
 ·split at h
  ·cases h;exact Nat.le_refl _
  ·cases h
theorem mu_lead {l:List (Nat × SD)} {s s':WkS} (hl:s.st.length=s.due.length) (h:leadW l s=.ok s'):mu s'≤mu s∧s'.st.length=s.st.length∧s'.due.length=s.due.length:=by
 induction l generalizing s with
 | nil=>cases h;exact⟨Nat.le_refl _,rfl,rfl⟩
 | cons x l ih =>
  unfold leadW at h
  split at h
  ·rename_i s1 h1
   obtain⟨e1,e2⟩:=reachW_len h1
   obtain⟨i1,i2,i3⟩:=ih (by omega) h
   exact⟨Nat.le_trans i1 (mu_reach hl h1),by omega,by omega⟩
  ·cases h
theorem mu_pass {c:List FD} {ins:List ID} {a:Nat} {s s':WkS} (hl:s.st.length=s.due.length) (ha:s.due[a]?=some true) (h:passW c ins a s=.ok s'):mu s'<mu s∧s'.st.length=s.st.length∧s'.due.length=s.due.length:=by
 unfold passW at h
 split at h
 ·cases h
 ·split at h
  ·cases h
  ·split at h
   ·cases h
   ·rename_i s1 h1
    cases h
    obtain⟨i1,i2,i3⟩:=mu_lead (by simpa using hl) h1
    have c2:=countP_set (· == true) s.due a false true ha
    simp only[beq_self_eq_true,if_true]at c2
    refine⟨Nat.lt_of_le_of_lt i1 ?_,i2,by simpa using i3⟩
    unfold mu
    simp at c2 ⊢
    omega
theorem runs_ex (c:List FD) (ins:List ID):∀(m:Nat) (s:WkS),s.st.length=s.due.length→mu s≤m→∃k r,Runs c ins k s r:=by
 intro m
 induction m with
 | zero =>
  intro s hl hm
  rcases least_or s.due with h | ⟨a,h⟩
  ·exact⟨0,_,.inl ⟨h,rfl⟩⟩
  ·cases hp:passW c ins a s with
   | error e=>exact⟨0,_,.inr ⟨a,e,h,hp,rfl⟩⟩
   | ok s'=>have:=(mu_pass hl h.1 hp).1;omega
 | succ m ih =>
  intro s hl hm
  rcases least_or s.due with h | ⟨a,h⟩
  ·exact⟨0,_,.inl ⟨h,rfl⟩⟩
  ·cases hp:passW c ins a s with
   | error e=>exact⟨0,_,.inr ⟨a,e,h,hp,rfl⟩⟩
   | ok s' =>
    obtain⟨p1,p2,p3⟩:=mu_pass hl h.1 hp
    obtain⟨k,r,hr⟩:=ih s' (by omega) (by omega)
    exact⟨k+1,r,a,s',h,hp,hr⟩
def GOk (regs:Nat) (gs:List GD):Prop:=gs.length≤50∧∀g∈gs,0≤g.k∧g.k≤regs
def SOk (regs:Nat) (x:SD):Prop:=x.ts.length=regs∧GOk regs x.gs
structure WOk (regs n:Nat) (s:WkS):Prop where
 l1:s.st.length=n
 l2:s.due.length=n
 ok:∀(a:Nat) x,s.st[a]?=some (some x)→SOk regs x
 due:∀a:Nat,s.due[a]?=some true→∃x,s.st[a]?=some (some x)
theorem reachW_ok {regs n:Nat} {s s':WkS} {t:Nat} {x:SD} (h:WOk regs n s) (hx:SOk regs x) (hr:reachW s t x=some s'):WOk regs n s':=by
 have hl:=reachW_len hr
 unfold reachW at hr
 split at hr
 ·rename_i h0
  cases hr
  refine⟨by simpa using h.l1,by simpa using h.l2,fun a y hy=>?_,fun a ha=>?_⟩
  ·rw[List.getElem?_set]at hy
   split at hy
   ·split at hy
    ·cases hy;exact hx
    ·cases hy
   ·exact h.ok a y hy
  ·rw[List.getElem?_set]at ha
   rw[List.getElem?_set]
   split at ha
   ·rename_i e
    subst e
    split at ha
    ·rename_i hlt
     rw[if_pos rfl,if_pos (by have:=h.l1;have:=h.l2;omega)]
     exact⟨_,rfl⟩
    ·cases ha
   ·rename_i e
    rw[if_neg e]
    exact h.due a ha
 ·split at hr
  ·cases hr;exact h
  ·cases hr
theorem leadW_ok {regs n:Nat} {l:List (Nat × SD)} {s s':WkS} (h:WOk regs n s) (hx:∀y∈l,SOk regs y.2) (hr:leadW l s=.ok s'):WOk regs n s':=by
 induction l generalizing s with
 | nil=>cases hr;exact h
 | cons y l ih =>
  unfold leadW at hr
  split at hr
  ·rename_i s1 h1
   exact ih (reachW_ok h (hx y (by simp)) h1) (fun z hz=>hx z (List.mem_cons_of_mem _ hz)) hr
  ·cases hr
theorem WOk.off {regs n:Nat} {s:WkS} (h:WOk regs n s) (a:Nat):WOk regs n ⟨s.st,s.due.set a false⟩ :=
 ⟨h.l1,by simpa using h.l2,h.ok,fun b hb=>by
  dsimp only at hb ⊢
  rw[List.getElem?_set]at hb
  split at hb
  ·split at hb<;>cases hb
  ·exact h.due b hb⟩
theorem fits_iff {np:Nat} {f:FD} {r x:Int}:fitsB np f r x=true↔(lohi np f r).1≤x∧x≤(lohi np f r).2:=by simp[fitsB,inR]
theorem fits_reg {np:Nat} {f:FD} {r x:Int} (h:fitsB np f r x=true) (h0:0≤f.regs):regOk f.regs.toNat r x:=by
 rw[fits_iff]at h
 intro hw
 have hr:r=2∨r=3∨r=4∨r=5∨r=6∨r=18∨r=19∨r=20:=by
  apply Classical.byContradiction
  intro hn
  apply hw
  unfold wantsV
  have e:¬r=2∧¬r=3∧¬r=4∧¬r=5∧¬r=6∧¬r=18∧¬r=19∧¬r=20:=by omega
  simp[e]
 rcases hr with rfl | rfl | rfl | rfl | rfl | rfl | rfl | rfl<;>simp[lohi,wantsV]at h ⊢<;>first | (split<;>omega) | omega
structure InsOk (regs nI:Nat) (n:ID):Prop where
 op1:1≤n.op
 op2:n.op≤42
 reg:∀x∈fldV n,regOk regs x.1 x.2
 wa:rl n.op 0=1∨n.op=42→0≤n.a∧n.a<regs
 wb:n.op=40→0≤n.a∧n.a+1<regs
 wc:n.op=41→0≤n.c∧n.c<regs
 k31:n.op=31→0≤n.b∧n.b+2≤regs
 k33:n.op=33∨n.op=34→0≤n.a∧n.a≤regs
 ta:n.op=19∨n.op=31→0≤n.a∧n.a<nI
 tb:n.op=20∨n.op=21∨n.op=38∨n.op=39∨n.op=41→0≤n.b∧n.b<nI
theorem insOk_of {np:Nat} {f:FD} {n:ID} (h:fieldsB np f n=true) (h0:0≤f.regs):InsOk f.regs.toNat f.ins.length n:=by
 unfold fieldsB at h
 simp only[Bool.and_eq_true]at h
 obtain⟨⟨⟨⟨ho,ha⟩,hb⟩,hc⟩,hd⟩:=h
 have ho':1≤n.op∧n.op≤42:=by simpa [inR] using ho
 refine⟨ho'.1,ho'.2,?_,?_,?_,?_,?_,?_,?_,?_⟩
 ·intro x hx
  simp only[fldV,List.mem_cons,List.not_mem_nil,or_false]at hx
  rcases hx with rfl | rfl | rfl | rfl
  ·exact fits_reg ha h0
  ·exact fits_reg hb h0
  ·exact fits_reg hc h0
  ·exact fits_reg hd h0
 ·intro e
  rw[fits_iff]at ha
  rcases e with e | e
  ·rw[e]at ha;simp[lohi]at ha;omega
  ·rw[e,show rl 42 0=21 from rfl]at ha;simp[lohi]at ha;omega
 ·intro e;rw[fits_iff,e,show rl 40 0=19 from rfl]at ha;simp[lohi]at ha;omega
 ·intro e;rw[fits_iff,e,show rl 41 2=1 from rfl]at hc;simp[lohi]at hc;omega
 ·intro e;rw[fits_iff,e,show rl 31 1=14 from rfl]at hb;simp[lohi]at hb;omega
 ·rintro (e | e)
  ·rw[fits_iff,e,show rl 33 0=13 from rfl]at ha;simp[lohi]at ha;omega
  ·rw[fits_iff,e,show rl 34 0=13 from rfl]at ha;simp[lohi]at ha;omega
 ·rintro (e | e)
  ·rw[fits_iff,e,show rl 19 0=10 from rfl]at ha;simp[lohi]at ha;omega
  ·rw[fits_iff,e,show rl 31 0=10 from rfl]at ha;simp[lohi]at ha;omega
 ·rintro (e | e | e | e | e)
  ·rw[fits_iff,e,show rl 20 1=10 from rfl]at hb;simp[lohi]at hb;omega
  ·rw[fits_iff,e,show rl 21 1=10 from rfl]at hb;simp[lohi]at hb;omega
  ·rw[fits_iff,e,show rl 38 1=10 from rfl]at hb;simp[lohi]at hb;omega
  ·rw[fits_iff,e,show rl 39 1=10 from rfl]at hb;simp[lohi]at hb;omega
  ·rw[fits_iff,e,show rl 41 1=10 from rfl]at hb;simp[lohi]at hb;omega
theorem rdStep_len {role x:Int} {s s':RdS} (h:rdStep role x s=some s'):s'.ts.length=s.ts.length:=by
 unfold rdStep at h
 split at h
 ·cases h;rfl
 ·split at h
  ·obtain⟨s1,h1,h2⟩:=Option.bind_eq_some_iff.1 h
   have e1:s1.ts.length=s.ts.length:=by
    unfold rdTake at h1
    split at h1
    ·split at h1
     ·cases h1
     ·cases h1;simp
    ·split at h1<;>cases h1<;>rfl
   have e2:s'.ts.length=s1.ts.length:=by
    unfold rdMore at h2
    split at h2
    ·split at h2<;>cases h2;rfl
    ·split at h2
     ·split at h2<;>cases h2;rfl
     ·split at h2
      ·split at h2<;>cases h2;rfl
      ·cases h2;rfl
   rw[e2,e1]
  ·cases h
theorem rdAll_len {fs:List (Int × Int)} {s s':RdS} (h:rdAll fs s=some s'):s'.ts.length=s.ts.length:=by
 induction fs generalizing s with
 | nil=>simp[rdAll]at h;rw[h]
 | cons f fs ih =>
  simp only[rdAll]at h
  obtain⟨s1,h1,h2⟩:=Option.bind_eq_some_iff.1 h
  rw[ih h2,rdStep_len h1]
theorem readV_len {c:List FD} {n:ID} {ts:List Int} {s:RdS} (h:readV c n ts=some s):s.ts.length=ts.length:=by
 rw[readV_all]at h
 obtain⟨s1,h1,h2⟩:=Option.bind_eq_some_iff.1 h
 have:=rdAll_len h1
 split at h2
 ·split at h2
  ·cases h2;exact this
  ·cases h2
 ·cases h2;exact this
theorem writeV_len (n:ID) (ts:List Int):(writeV n ts).length=ts.length:=by
 unfold writeV
 repeat' split
 all_goals simp
theorem changeV_ok {regs nI:Nat} {n:ID} {gs gs':List GD} (hn:InsOk regs nI n) (h:GOk regs gs) (hc:changeV n gs=some gs'):GOk regs gs':=by
 have hd:GOk regs gs.dropLast:=⟨by have:=h.1;simp;omega,fun g hg=>h.2 g (List.dropLast_subset _ hg)⟩
 unfold changeV at hc
 split at hc
 ·rename_i e
  split at hc
  ·rename_i h1
   cases hc
   have:=hn.k31 e
   exact⟨by simp;omega,fun g hg=>by rcases List.mem_append.1 hg with hg | hg;exact h.2 g hg;simp at hg;subst hg;dsimp only;omega⟩
  ·cases hc
 ·split at hc
  ·rename_i e
   split at hc
   ·rename_i h1
    cases hc
    have:=hn.k33 (.inl e)
    exact⟨by simp;omega,fun g hg=>by rcases List.mem_append.1 hg with hg | hg;exact h.2 g hg;simp at hg;subst hg;dsimp only;omega⟩
   ·cases hc
  ·split at hc
   ·split at hc
    ·split at hc
     ·cases hc;exact hd
     ·cases hc
    ·cases hc
   ·split at hc
    ·rename_i e
     split at hc
     ·rename_i g hgl
      split at hc
      ·cases hc
       have:=hn.k33 (.inr e)
       have hne:gs≠[]:=by rintro rfl;simp at hgl
       have hlp:=List.length_pos_iff.2 hne
       exact⟨by have:=h.1;simp;omega,fun g hg=>by rcases List.mem_append.1 hg with hg | hg;exact hd.2 g hg;simp at hg;subst hg;dsimp only;omega⟩
      ·cases hc
     ·cases hc
    ·split at hc
     ·split at hc
      ·split at hc
       ·cases hc;exact h
       ·cases hc
      ·cases hc
     ·split at hc
      ·split at hc
       ·split at hc
        ·cases hc;exact hd
        ·cases hc
       ·cases hc
      ·cases hc;exact h
theorem behindV_ok {regs nI:Nat} {c:List FD} {n:ID} {x y:SD} (hn:InsOk regs nI n) (h:SOk regs x) (hb:behindV c n x=.ok y):SOk regs y:=by
 unfold behindV at hb
 split at hb
 ·cases hb
 ·rename_i r hr
  split at hb
  ·cases hb
  ·rename_i gs hg
   split at hb
   ·cases hb
    exact⟨by rw[writeV_len,readV_len hr];exact h.1,changeV_ok hn h.2 hg⟩
   ·cases hb
theorem caught_ok {regs nI:Nat} {n:ID} {x:SD} (hn:InsOk regs nI n) (h:SOk regs x) (e:n.op=31):SOk regs (caughtV n x):=by
 have:=hn.k31 e
 have hl:=h.1
 exact⟨by simp[caughtV];omega,h.2⟩
theorem followV_ok {regs nI:Nat} {n:ID} {a:Nat} {x y:SD} (hn:InsOk regs nI n) (hx:SOk regs x) (hy:SOk regs y):∀z∈followV n a x y,SOk regs z.2:=by
 intro z hz
 unfold followV at hz
 rcases List.mem_append.1 hz with hz | hz
 ·split at hz
  ·simp at hz;subst hz;exact hy
  ·cases hz
 ·split at hz
  ·simp at hz
   subst hz
   dsimp only
   split
   ·exact hx
   ·split
    ·rename_i e;exact caught_ok hn hx e
    ·exact hy
  ·cases hz
theorem followV_lt {regs nI:Nat} {n:ID} {a:Nat} {x y:SD} (hn:InsOk regs nI n) (ha:goesV n.op=true→a+1<nI):∀z∈followV n a x y,z.1<nI:=by
 intro z hz
 unfold followV at hz
 rcases List.mem_append.1 hz with hz | hz
 ·split at hz
  ·rename_i e;simp at hz;subst hz;exact ha e
  ·cases hz
 ·split at hz
  ·rename_i t ht
   simp at hz
   subst hz
   dsimp only
   unfold targetV at ht
   split at ht
   ·rename_i e;have:=hn.ta e;simp at ht;omega
   ·split at ht
    ·rename_i e;have:=hn.tb e;simp at ht;omega
    ·cases ht
  ·cases hz
theorem passW_ok {regs nI:Nat} {c:List FD} {ins:List ID} {a:Nat} {s s':WkS} (hi:∀n∈ins,InsOk regs nI n) (ha:a<ins.length) (h:WOk regs nI s) (hp:passW c ins a s=.ok s'):WOk regs nI s':=by
 have hn:InsOk regs nI (ins.getD a id0):=hi _ (by rw[List.getD_eq_getElem?_getD,List.getElem?_eq_getElem ha];exact List.getElem_mem ha)
 unfold passW at hp
 split at hp
 ·cases hp
 ·rename_i x hx
  have hx':s.st[a]?=some (some x):=by
   rw[List.getD_eq_getElem?_getD]at hx
   cases hq:s.st[a]? with
   | none=>rw[hq]at hx;cases hx
   | some o=>rw[hq]at hx;simp at hx;rw[hx]
  split at hp
  ·cases hp
  ·rename_i y hy
   split at hp
   ·cases hp
   ·rename_i s1 h1
    cases hp
    exact leadW_ok (h.off a) (followV_ok hn (h.ok a x hx') (behindV_ok hn (h.ok a x hx') hy)) h1
structure NX where
 t:Nat
 a:Option Addr
 c:Nat
 b:Option Addr
 d:Nat
 x:SD
def NX.cells (y:NX):List Value:=[.int .i64 (y.t:Int),.bool true,.slice y.a y.x.ts.length y.c,.slice y.b y.x.gs.length y.d]
theorem NX.len (y:NX):y.cells.length=4:=rfl
structure NX.lie (w:World) (y:NX):Prop where
 h1:SlA w 1 intC y.a y.x.ts
 h2:SlA w 3 GD.cells y.b y.x.gs
theorem NX.lie.later {w w':World} {y:NX} (h:y.lie w) (hb:Below w.heap.size w w'):y.lie w':=⟨h.h1.later hb,h.h2.later hb⟩
theorem flat_int (l:List Int):l.flatMap intC=l.map fun z=>Value.int .i64 z:=by
 induction l with
 | nil=>rfl
 | cons z l ih=>simp[intC,ih]
theorem TyAt.sl {w:World} {g cap:Nat} {ts:List Int} (h:TyAt w g cap ts):SlA w 1 intC (some ⟨g,0,none⟩) ts:=by
 intro i x hx
 have hi:i<ts.length:=(List.getElem?_eq_some_iff.1 hx).1
 refine⟨g,0,rfl,h.lt,fun j v hv=>?_⟩
 have hv':j=0∧v=.int .i64 x:=by cases j with | zero=>simp[intC]at hv;exact⟨rfl,hv.symm⟩ | succ j=>simp[intC]at hv
 obtain⟨rfl,rfl⟩:=hv'
 have:=h.cell hi
 rw[List.getD_eq_getElem?_getD,hx]at this
 simpa using this
def TyV (w:World) (tv:Value) (ts:List Int):Prop:=(ts=[]∧tv=.slice none 0 0)∨∃g cap,tv=.slice (some ⟨g,0,none⟩) ts.length cap∧TyAt w g cap ts
structure ButV (tv:Value) (w w':World):Prop where
 os:w'.os=w.os
 tape:w'.tape=w.tape
 output:w'.output=w.output
 size:w.heap.size≤w'.heap.size
 block:∀k,k<w.heap.size→tv.ownBlock≠some k→w'.heap[k]?=w.heap[k]?
theorem ButV.of_below {tv:Value} {w w':World} (h:Below w.heap.size w w'):ButV tv w w':=⟨h.os,h.tape,h.output,h.size,fun k hk _=>h.block k hk⟩
theorem ButV.below {tv:Value} {B:Nat} {w0 w w':World} (h0:Below B w0 w) (h:ButV tv w w') (hB:∀g,tv.ownBlock=some g→B≤g) (hs:B≤w.heap.size):Below B w0 w' :=
 ⟨h.os.trans h0.os,h.tape.trans h0.tape,h.output.trans h0.output,Nat.le_trans h0.size h.size,fun k hk=>(h.block k (by omega) (fun e=>by have:=hB k e;omega)).trans (h0.block k hk)⟩
theorem TyV.sl {w:World} {tv:Value} {ts:List Int} (h:TyV w tv ts):∃a cap,tv=.slice a ts.length cap∧SlA w 1 intC a ts:=by
 rcases h with ⟨rfl,rfl⟩ | ⟨g,cap,rfl,h⟩
 ·exact⟨none,0,rfl,SlA.nil _ _ _ _⟩
 ·exact⟨_,_,rfl,h.sl⟩
theorem TyV.later {w w':World} {tv:Value} {ts:List Int} (h:TyV w tv ts) (hb:Below w.heap.size w w'):TyV w' tv ts:=by
 rcases h with h | ⟨g,cap,rfl,h⟩
 ·exact .inl h
 ·exact .inr ⟨g,cap,rfl,h.later hb⟩
attribute [local go_sem] run_store_float
def badSize (c:List FD):Prop:=c.length=0∨200<c.length∨6000<total c
theorem parts_1 {c:List FD} (h:badSize c):partsV c=(1,0,0):=by unfold badSize at h;unfold partsV;rw[if_pos h]
theorem parts_2 {c:List FD} (h:¬badSize c) {p i:Nat} (h2:fp hd0 c 0=some (p,i)):partsV c=(2,(p:Int),(i:Int)):=by unfold badSize at h;unfold partsV;rw[if_neg h,h2]
theorem parts_3 {c:List FD} (h:¬badSize c) (h2:fp hd0 c 0=none) {p i:Nat} (h3:fp co0 c 0=some (p,i)):partsV c=(3,(p:Int),(i:Int)):=by unfold badSize at h;unfold partsV;rw[if_neg h,h2,h3]
theorem parts_4 {c:List FD} (h:¬badSize c) (h2:fp hd0 c 0=none) (h3:fp co0 c 0=none) {p i:Nat} (h4:fp na0 c 0=some (p,i)):partsV c=(4,(p:Int),(i:Int)):=by unfold badSize at h;unfold partsV;rw[if_neg h,h2,h3,h4]
theorem parts_5 {c:List FD} (h:¬badSize c) (h2:fp hd0 c 0=none) (h3:fp co0 c 0=none) (h4:fp na0 c 0=none) {p i:Nat} (h5:fp (in0 c.length) c 0=some (p,i)):partsV c=(5,(p:Int),(i:Int)):=by unfold badSize at h;unfold partsV;rw[if_neg h,h2,h3,h4,h5]
theorem parts_0 {c:List FD} (h:¬badSize c) (h2:fp hd0 c 0=none) (h3:fp co0 c 0=none) (h4:fp na0 c 0=none) (h5:fp (in0 c.length) c 0=none):partsV c=(0,0,0):=by unfold badSize at h;unfold partsV;rw[if_neg h,h2,h3,h4,h5]
theorem regs_of {c:List FD} (h2:fp hd0 c 0=none) {p:Nat} {f:FD} (hp:c[p]?=some f):0≤f.regs∧f.regs≤250:=by
 have:=fp_none h2 p f hp
 unfold hd0 at this
 split at this
 ·rename_i h
  simp only[headB,Bool.and_eq_true]at h
  have:=h.1.1.1.1.2
  simpa [inR] using this
 ·cases this
theorem map_at {xs:List FC} {m:Nat} {f:FC} (h:xs[m]?=some f):(xs.map FC.d)[m]?=some f.d:=by simp[h]
theorem drop_end {xs:List FC} {m:Nat} (h:xs.length≤m) (inner:Nat→FD→Option Nat):fp inner ((xs.drop m).map FC.d) m=none:=by rw[List.drop_of_length_le h];rfl
theorem ff_end {α:Type} (ok:Nat→α→Bool) {xs:List α} {m:Nat} (h:xs.length≤m):ff ok (xs.drop m) m=none:=by rw[List.drop_of_length_le h];rfl
theorem sum_take {xs:List FC} {m:Nat} {f:FC} (h:xs[m]?=some f):((xs.take (m+1)).map fun x=>x.d.ins.length).sum=((xs.take m).map fun x=>x.d.ins.length).sum+f.d.ins.length:=by
 obtain⟨hlt,he⟩:=List.getElem?_eq_some_iff.1 h
 rw[List.take_add_one,h]
 simp
theorem sum_le {xs:List FC} (m:Nat):((xs.take m).map fun x=>x.d.ins.length).sum≤(xs.map fun x=>x.d.ins.length).sum:=by
 conv=>rhs;rw[←List.take_append_drop m xs]
 rw[List.map_append,List.sum_append]
 omega
theorem total_eq (xs:List FC):total (xs.map FC.d)=(xs.map fun x=>x.d.ins.length).sum:=by unfold total;rw[List.map_map];rfl
attribute [local go_sem] run_store_float
def mb (l:List Bool):Array Value:=(l.map Value.bool).toArray
theorem mb_get (l:List Bool) (j:Nat) (h:j<l.length):(mb l)[j]?=some (.bool (l.getD j false)):=by
 unfold mb
 simp[List.getD_eq_getElem?_getD,List.getElem?_eq_getElem h]
theorem mb_set (l:List Bool) (j:Nat) (b:Bool):(mb l).setIfInBounds j (.bool b)=mb (l.set j b):=by
 unfold mb
 simp[List.map_set]
theorem make_bool (len:Nat) (hlen:len≤1048576) (w:World):(Instr.makeSlice 171 (.int .i64 (len:Int)) (.int .i64 (len:Int))).run Tryz.prog w=.ok (.slice (some ⟨w.heap.size,0,none⟩) len len) (w.alloc (.cells (mb (List.replicate len false)) 4)):=by
 have hc:(Tryz.prog.info? 4).map (fun i=>(i.zero,i.size,i.bytes))=some (some (.bool false),1,1):=by kernel_rfl
 cases hi:Tryz.prog.info? 4 with
 | none=>rw[hi]at hc;cases hc
 | some i =>
  rw[hi]at hc
  simp only[Option.map_some,Option.some.injEq,Prod.mk.injEq]at hc
  obtain⟨h1,h2,h3⟩:=hc
  have hr:=run_make (P:=Tryz.prog) w 171 4 i (.bool false) Tryz.underlying171 hi h1 .i64 .i64 (len:Int) (len:Int) (by omega) (by omega) (by rw[h3];omega) (by omega)
  have he:madeCells #[.bool false] len=mb (List.replicate len false):=by
   apply Array.toList_inj.1
   rw[toList_madeCells_one]
   simp[mb]
  have hr':=hr
  simp only[Int.toNat_natCast,h2,Nat.mul_one]at hr'
  rw[←he]
  exact hr'
theorem parts_ok {c:List FD} (h:(partsV c).1=0):¬badSize c∧fp hd0 c 0=none∧fp co0 c 0=none∧fp na0 c 0=none∧fp (in0 c.length) c 0=none:=by
 by_cases hb:badSize c
 ·rw[parts_1 hb]at h;cases h
 cases h2:fp hd0 c 0 with
 | some x=>obtain⟨p,i⟩:=x;rw[parts_2 hb h2]at h;cases h
 | none =>
 cases h3:fp co0 c 0 with
 | some x=>obtain⟨p,i⟩:=x;rw[parts_3 hb h2 h3]at h;cases h
 | none =>
 cases h4:fp na0 c 0 with
 | some x=>obtain⟨p,i⟩:=x;rw[parts_4 hb h2 h3 h4]at h;cases h
 | none =>
 cases h5:fp (in0 c.length) c 0 with
 | some x=>obtain⟨p,i⟩:=x;rw[parts_5 hb h2 h3 h4 h5]at h;cases h
 | none=>exact⟨hb,rfl,rfl,rfl,rfl⟩
theorem ins_ok {c:List FD} (h5:fp (in0 c.length) c 0=none) {p:Nat} {f:FD} (hp:c[p]?=some f) {q:Nat} {n:ID} (hq:f.ins[q]?=some n):insB c.length f q n=true:=by
 have:=fp_none h5 p f hp
 unfold in0 at this
 split at this
 ·cases this
 ·have:=ff_none this q n hq
  simpa using this
theorem fn_b {np:Nat} {f:FD} {q:Nat} {n:ID} (h:insB np f q n=true) (h11:n.op=11):0≤n.b∧n.b<np:=by
 simp only[insB,fieldsB,Bool.and_eq_true]at h
 have h9:=h.1.1.1.2
 rw[h11]at h9
 have hr:rl 11 1=9:=rfl
 rw[hr]at h9
 simp[fitsB,lohi,inR]at h9
 omega
theorem f6i_drop {c:List FD} {p:Nat} {f:FD} {mk:List Bool} {ns:List ID} {q:Nat} {n:ID} (h:ns[q]?=some n):f6i c p f (ns.drop q) q mk=if n.op=11 then (if fnB c p f n mk=true then f6i c p f (ns.drop (q+1)) (q+1) (mk.set n.b.toNat true) else (some q,mk)) else f6i c p f (ns.drop (q+1)) (q+1) mk:=by
 obtain⟨hlt,he⟩:=List.getElem?_eq_some_iff.1 h
 rw[List.drop_eq_getElem_cons hlt,he]
 rfl
theorem f6i_end {c:List FD} {p:Nat} {f:FD} {mk:List Bool} {ns:List ID} {q:Nat} (h:ns.length≤q):f6i c p f (ns.drop q) q mk=(none,mk):=by rw[List.drop_of_length_le h];rfl
theorem f6_drop {c:List FD} {mk:List Bool} {xs:List FC} {m:Nat} {f:FC} (h:xs[m]?=some f):f6 c ((xs.drop m).map FC.d) m mk=match f6i c m f.d f.d.ins 0 mk with
  | (some i,k)=>(some (m,i),k)
  | (none,k)=>f6 c ((xs.drop (m+1)).map FC.d) (m+1) k:=by
 obtain⟨hlt,he⟩:=List.getElem?_eq_some_iff.1 h
 rw[List.drop_eq_getElem_cons hlt,he]
 rfl
theorem f6_end {c:List FD} {mk:List Bool} {xs:List FC} {m:Nat} (h:xs.length≤m):f6 c ((xs.drop m).map FC.d) m mk=(none,mk):=by rw[List.drop_of_length_le h];rfl
theorem shape_parts {c:List FD} (h:¬(partsV c).1=0):shapeV c=partsV c:=by unfold shapeV;rw[if_neg h]
def silS (n:ID) (at':Nat):List Nat :=
 if n.op=1∨n.op=3∨n.op=28∨n.op=29∨n.op=30∨(n.op=18∧n.b=12) then []
 else if n.op=19 then [n.a.toNat]
 else if n.op=41 then [n.b.toNat]
 else if n.op=20∨n.op=21∨n.op=38∨n.op=39 then [n.b.toNat,at'+1]
 else if n.op=31 then [n.a.toNat,at'+1]
 else [at'+1]
theorem silS_mem (n:ID) (at' t:Nat):t∈silS n at'↔t∈silentV n at':=by
 unfold silS silentV targetV goesV endsB
 by_cases h1:n.op=1
 ·simp[h1]
 by_cases h3:n.op=3
 ·simp[h3]
 by_cases h28:n.op=28
 ·simp[h28]
 by_cases h29:n.op=29
 ·simp[h29]
 by_cases h30:n.op=30
 ·simp[h30]
 by_cases h19:n.op=19
 ·simp[h19]
 by_cases h41:n.op=41
 ·simp[h41]
 by_cases h31:n.op=31
 ·simp[h31,or_comm]
 by_cases hb:n.op=20∨n.op=21∨n.op=38∨n.op=39
 ·rcases hb with h | h | h | h<;>simp[h,or_comm]
 ·have:¬(n.op=20)∧¬(n.op=21)∧¬(n.op=38)∧¬(n.op=39):=by omega
  by_cases h18:n.op=18∧n.b=12
  ·simp[h18.1,h18.2]
  ·by_cases h:n.op=18
   ·have hb':¬n.b=12:=fun e=>h18 ⟨h,e⟩
    simp[h,hb']
   ·simp[h1,h3,h28,h29,h30,h19,h41,h31,this,h]
end Go.Proofs.YtkajknidfoelcaaGreatDoor
