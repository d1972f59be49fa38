import Derived.Test.YtjglgbepobmjhaaGreatDoorP37
import Derived.Test.YtjglgbepobmjhaaGreatDoorP34
import Derived.Deep.CutRange
import Derived.Deep.WholeRow
set_option linter.unusedVariables false
set_option linter.unusedSimpArgs false
set_option maxRecDepth 20000
set_option maxHeartbeats 8000000
namespace Go.Proofs.YtjglgbepobmjhaaGreatDoor
open Go.RowKit
def tabL {α:Type} (n:Nat) (f:Nat→α):List α:=(List.range n).map f
theorem tabL_len {α:Type} (n:Nat) (f:Nat→α):(tabL n f).length=n:=by simp[tabL]
theorem tabL_at {α:Type} (n:Nat) (f:Nat→α) (i:Nat):(tabL n f)[i]?=if i<n then some (f i) else none:=by
 unfold tabL
 rw[List.getElem?_map]
 by_cases h:i<n
 ·rw[List.getElem?_range h,if_pos h];rfl
 ·rw[List.getElem?_eq_none (by simpa using Nat.le_of_not_lt h),if_neg h];rfl
theorem tabL_getD {α:Type} (n:Nat) (f:Nat→α) (i:Nat) (d:α):(tabL n f).getD i d=if i<n then f i else d:=by
 rw[List.getD_eq_getElem?_getD,tabL_at];split<;>rfl
theorem tabL_set {α:Type} (n:Nat) (f:Nat→α) (i:Nat) (x:α):(tabL n f).set i x=tabL n (fun j=>if j=i then x else f j):=by
 apply List.ext_getElem?
 intro j
 rw[List.getElem?_set,tabL_at,tabL_at,tabL_len]
 by_cases h:i=j
 ·subst h;simp
 ·simp[h,Ne.symm h]
theorem tabL_ext {α:Type} {n:Nat} {f g:Nat→α} (h:∀i,i<n→f i=g i):tabL n f=tabL n g:=by
 apply List.ext_getElem?
 intro j
 rw[tabL_at,tabL_at]
 split
 ·rw[h j (by assumption)]
 ·rfl
theorem tabL_succ {α:Type} (n:Nat) (f:Nat→α):tabL (n+1) f=tabL n f++[f n]:=by
 unfold tabL
 rw[List.range_succ,List.map_append];rfl
def tin (i:Nat):ID :=
 if i=0 then ⟨4,0,0,0,0⟩ else if i=1 then ⟨3,0,0,0,0⟩
 else if i % 4=2 then ⟨31,(i:Int)+2,4,0,0⟩ else if i % 4=3 then ⟨30,0,0,0,0⟩
 else if i % 4=0 then ⟨42,4,0,0,0⟩ else ⟨42,5,0,0,0⟩
def tinK (k i:Nat):ID:=if i=2+4*k then ⟨19,1,0,0,0⟩ else tin i
def throwsI (k:Nat):List ID:=tabL (3+4*k) (tinK k)
def seven:VD:=⟨2,7,0,ByteArray.empty,0⟩
def throwsD (k:Nat):FD:=⟨⟨#[109,97,105,110]⟩,0,0,false,8,[],[seven],throwsI k,[]⟩
def tst (i:Nat):SD :=
 if i=0 then ⟨[0,0,0,0,0,0,0,0],[]⟩ else if i=1 then ⟨[1,0,0,0,0,0,0,0],[]⟩
 else if i % 4=2 then ⟨[1,0,0,0,0,0,0,0],[]⟩ else if i % 4=3 then ⟨[1,0,0,0,0,0,0,0],[⟨true,4,(i:Int)+1⟩]⟩
 else if i % 4=0 then ⟨[1,0,0,0,1,1,0,0],[]⟩ else ⟨[1,0,0,0,0,1,0,0],[]⟩
def wst (n m:Nat) (d:Nat→Bool):WkS:=⟨tabL n (fun i=>if i≤m then some (tst i) else none),tabL n d⟩
theorem wst_reach {n m:Nat} {d:Nat→Bool} (t:Nat) (ht:t=m+1) (hn:t<n):reachW (wst n m d) t (tst t)=some (wst n t (fun j=>if j=t then true else d j)):=by
 subst ht
 unfold reachW wst
 simp only[tabL_getD,if_pos hn,if_neg (show ¬m+1≤m by omega)]
 rw[tabL_set,tabL_set]
 congr 2
 apply tabL_ext
 intro i _
 by_cases h:i=m+1
 ·subst h;simp
 ·by_cases h2:i≤m
  ·simp[h,h2,show i≤m+1 by omega]
  ·simp[h,h2,show ¬i≤m+1 by omega]
theorem wst_again {n m:Nat} {d:Nat→Bool} (t:Nat) (x:SD) (hx:x=tst t) (ht:t≤m) (hn:t<n):reachW (wst n m d) t x=some (wst n m d):=by
 subst hx
 unfold reachW
 rw[show (wst n m d).st.getD t none=some (tst t) by unfold wst;simp only[tabL_getD,if_pos hn,if_pos ht]]
 simp only[(sEq_iff _ _).2 rfl,if_true]
theorem wst_off {n m:Nat} {d:Nat→Bool} (a:Nat):(⟨(wst n m d).st,(wst n m d).due.set a false⟩:WkS)=wst n m (fun j=>if j=a then false else d j):=by
 unfold wst
 rw[tabL_set]
theorem wst_get {n m:Nat} {d:Nat→Bool} (a:Nat) (ha:a≤m) (hn:a<n):(wst n m d).st.getD a none=some (tst a):=by
 unfold wst;simp only[tabL_getD,if_pos hn,if_pos ha]
theorem wst_least {n m:Nat} {d:Nat→Bool} (a:Nat) (hn:a<n) (h1:d a=true) (h2:∀b,b<a→d b=false):IsLeast (wst n m d).due a:=by
 refine⟨by unfold wst;simp only[tabL_at,if_pos hn,h1],fun b hb=>?_⟩
 unfold wst
 simp only[tabL_at,if_pos (Nat.lt_trans hb hn),h2 b hb]
 simp
theorem pass_of {c:List FD} {ins:List ID} {n m:Nat} {d:Nat→Bool} {a:Nat} {y:SD} {s':WkS} (ha:a≤m) (hn:a<n) (hb:behindV c (ins.getD a id0) (tst a)=.ok y)
  (hl:leadW (followV (ins.getD a id0) a (tst a) y) (wst n m (fun j=>if j=a then false else d j))=.ok s'):passW c ins a (wst n m d)=.ok s':=by
 unfold passW
 rw[wst_get a ha hn]
 simp only[hb,wst_off,hl]
theorem throws_ins {k i:Nat} (h:i<3+4*k):(throwsI k).getD i id0=tinK k i:=by
 unfold throwsI;rw[tabL_getD,if_pos h]
def due1 (m:Nat) (j:Nat):Bool:=decide (j=m)
theorem throws_block {k b:Nat} (hb:b<k) {r:Except (Nat × Nat) WkS} {q:Nat} (h:Runs [throwsD k] (throwsI k) q (wst (3+4*k) (2+4*(b+1)) (due1 (2+4*(b+1)))) r) :
  Runs [throwsD k] (throwsI k) (q+4) (wst (3+4*k) (2+4*b) (due1 (2+4*b))) r:=by
 have e2:tst (2+4*b)=⟨[1,0,0,0,0,0,0,0],[]⟩:=by unfold tst;rw[if_neg (by omega),if_neg (by omega),if_pos (by omega)]
 have e3:tst (3+4*b)=⟨[1,0,0,0,0,0,0,0],[⟨true,4,(2+4*b:Nat)+2⟩]⟩:=by
  unfold tst;rw[if_neg (by omega),if_neg (by omega),if_neg (by omega),if_pos (by omega)]
  congr 3;omega
 have e4:tst (4+4*b)=⟨[1,0,0,0,1,1,0,0],[]⟩:=by unfold tst;rw[if_neg (by omega),if_neg (by omega),if_neg (by omega),if_neg (by omega),if_pos (by omega)]
 have e5:tst (5+4*b)=⟨[1,0,0,0,0,1,0,0],[]⟩:=by unfold tst;rw[if_neg (by omega),if_neg (by omega),if_neg (by omega),if_neg (by omega),if_neg (by omega)]
 have e6:tst (2+4*(b+1))=⟨[1,0,0,0,0,0,0,0],[]⟩:=by unfold tst;rw[if_neg (by omega),if_neg (by omega),if_pos (by omega)]
 have i2:(throwsI k).getD (2+4*b) id0=⟨31,(2+4*b:Nat)+2,4,0,0⟩:=by
  rw[throws_ins (by omega)];unfold tinK tin;rw[if_neg (by omega),if_neg (by omega),if_neg (by omega),if_pos (by omega)]
 have i3:(throwsI k).getD (3+4*b) id0=⟨30,0,0,0,0⟩:=by
  rw[throws_ins (by omega)];unfold tinK tin;rw[if_neg (by omega),if_neg (by omega),if_neg (by omega),if_neg (by omega),if_pos (by omega)]
 have i4:(throwsI k).getD (4+4*b) id0=⟨42,4,0,0,0⟩:=by
  rw[throws_ins (by omega)];unfold tinK tin;rw[if_neg (by omega),if_neg (by omega),if_neg (by omega),if_neg (by omega),if_neg (by omega),if_pos (by omega)]
 have i5:(throwsI k).getD (5+4*b) id0=⟨42,5,0,0,0⟩:=by
  rw[throws_ins (by omega)];unfold tinK tin;rw[if_neg (by omega),if_neg (by omega),if_neg (by omega),if_neg (by omega),if_neg (by omega),if_neg (by omega)]
 refine⟨2+4*b,wst (3+4*k) (4+4*b) (fun j=>decide (j=3+4*b) || decide (j=4+4*b)),wst_least _ (by omega) (by simp[due1]) (fun x hx=>by simp[due1]<;>omega),?_,?_⟩
 ·refine pass_of (y:=tst (3+4*b)) (by omega) (by omega) (by rw[i2,e2,e3];rfl) ?_
  rw[i2,e2]
  have hf:followV ⟨31,(2+4*b:Nat)+2,4,0,0⟩ (2+4*b) ⟨[1,0,0,0,0,0,0,0],[]⟩ (tst (3+4*b))=[(3+4*b,tst (3+4*b)),(4+4*b,tst (4+4*b))]:=by
   rw[e4]
   unfold followV
   rw[show goesV 31=true from rfl,show targetV ⟨31,(2+4*b:Nat)+2,4,0,0⟩=some (4+4*b) by unfold targetV;rw[if_pos (by simp)];congr 1;simp only[];omega]
   simp only[if_true,List.singleton_append]
   rw[show 2+4*b+1=3+4*b by omega]
   rfl
  rw[hf]
  unfold leadW
  simp only[]
  rw[wst_reach _ (by omega) (by omega)]
  unfold leadW
  simp only[]
  rw[wst_reach _ (by omega) (by omega)]
  unfold leadW
  show Except.ok _=Except.ok _
  congr 2
  funext j
  simp only[due1]
  by_cases h1:j=4+4*b
  ·simp[h1]
  ·by_cases h2:j=3+4*b
   ·simp[h2]
   ·by_cases h3:j=2+4*b
    ·simp[h3]<;>omega
    ·simp[h1,h2,h3]
 refine⟨3+4*b,wst (3+4*k) (4+4*b) (due1 (4+4*b)),wst_least _ (by omega) (by simp) (fun x hx=>by simp<;>omega),?_,?_⟩
 ·refine pass_of (y:=tst (3+4*b)) (by omega) (by omega) (by rw[i3,e3];rfl) ?_
  rw[i3]
  rw[show followV ⟨30,0,0,0,0⟩ (3+4*b) (tst (3+4*b)) (tst (3+4*b))=[] from rfl]
  unfold leadW
  show Except.ok _=Except.ok _
  congr 2
  funext j
  simp only[due1]
  by_cases h1:j=3+4*b
  ·simp[h1]
  ·simp[h1]
 refine⟨4+4*b,wst (3+4*k) (5+4*b) (due1 (5+4*b)),wst_least _ (by omega) (by simp[due1]) (fun x hx=>by simp[due1]<;>omega),?_,?_⟩
 ·refine pass_of (y:=tst (5+4*b)) (by omega) (by omega) (by rw[i4,e4,e5];rfl) ?_
  rw[i4]
  rw[show followV ⟨42,4,0,0,0⟩ (4+4*b) (tst (4+4*b)) (tst (5+4*b))=[(5+4*b,tst (5+4*b))] by
   rw[show 5+4*b=4+4*b+1 by omega];rfl]
  unfold leadW
  simp only[]
  rw[wst_reach _ (by omega) (by omega)]
  unfold leadW
  show Except.ok _=Except.ok _
  congr 2
  funext j
  simp only[due1]
  by_cases h1:j=5+4*b
  ·simp[h1]
  ·by_cases h2:j=4+4*b
   ·simp[h2]<;>omega
   ·simp[h1,h2]
 refine⟨5+4*b,_,wst_least _ (by omega) (by simp[due1]) (fun x hx=>by simp[due1]<;>omega),?_,h⟩
 ·refine pass_of (y:=tst (2+4*(b+1))) (by omega) (by omega) (by rw[i5,e5,e6];rfl) ?_
  rw[i5]
  rw[show followV ⟨42,5,0,0,0⟩ (5+4*b) (tst (5+4*b)) (tst (2+4*(b+1)))=[(2+4*(b+1),tst (2+4*(b+1)))] by
   rw[show 2+4*(b+1)=5+4*b+1 by omega];rfl]
  unfold leadW
  simp only[]
  rw[wst_reach _ (by omega) (by omega)]
  unfold leadW
  show Except.ok _=Except.ok _
  congr 2
  funext j
  simp only[due1]
  by_cases h1:j=2+4*(b+1)
  ·simp[h1]
  ·by_cases h2:j=5+4*b
   ·simp[h2]<;>omega
   ·simp[h1,h2]
theorem throws_start (k:Nat):startS (throwsD k)=wst (3+4*k) 0 (due1 0):=by
 unfold startS wst
 have hl:(throwsD k).ins.length=3+4*k:=tabL_len _ _
 rw[hl]
 congr 1
 ·apply List.ext_getElem?
  intro j
  rw[tabL_at]
  cases j with
  | zero=>simp[tst,throwsD,startT]
  | succ j =>
   rw[List.getElem?_cons_succ,List.getElem?_replicate]
   by_cases h:j<3+4*k-1
   ·rw[if_pos h,if_pos (by omega),if_neg (by omega)]
   ·rw[if_neg h,if_neg (by omega)]
 ·apply List.ext_getElem?
  intro j
  rw[tabL_at]
  cases j with
  | zero=>simp[due1]
  | succ j =>
   rw[List.getElem?_cons_succ,List.getElem?_replicate]
   by_cases h:j<3+4*k-1
   ·rw[if_pos h,if_pos (by omega)];simp[due1]
   ·rw[if_neg h,if_neg (by omega)]
theorem throws_runs (k:Nat):∃q s,Runs [throwsD k] (throwsI k) q (startS (throwsD k)) (.ok s):=by
 have hend:Runs [throwsD k] (throwsI k) 1 (wst (3+4*k) (2+4*k) (due1 (2+4*k))) (.ok (wst (3+4*k) (2+4*k) (fun _=>false))):=by
  have e2:tst (2+4*k)=⟨[1,0,0,0,0,0,0,0],[]⟩:=by unfold tst;rw[if_neg (by omega),if_neg (by omega),if_pos (by omega)]
  have i2:(throwsI k).getD (2+4*k) id0=⟨19,1,0,0,0⟩:=by rw[throws_ins (by omega)];unfold tinK;rw[if_pos rfl]
  refine⟨2+4*k,_,wst_least _ (by omega) (by simp[due1]) (fun x hx=>by simp[due1]<;>omega),?_,.inl ⟨fun b=>?_,rfl⟩⟩
  ·refine pass_of (y:=tst 1) (by omega) (by omega) (by rw[i2,e2];rfl) ?_
   rw[i2,show followV ⟨19,1,0,0,0⟩ (2+4*k) (tst (2+4*k)) (tst 1)=[(1,tst 1)] from rfl]
   unfold leadW
   simp only[]
   rw[wst_again 1 _ rfl (by omega) (by omega)]
   unfold leadW
   show Except.ok _=Except.ok _
   congr 2
   funext j
   simp only[due1]
   by_cases h1:j=2+4*k
   ·simp[h1]
   ·simp[h1]
  ·unfold wst
   simp only[tabL_at]
   split<;>simp
 have hmid:∀d b:Nat,b+d=k→∃q,Runs [throwsD k] (throwsI k) q (wst (3+4*k) (2+4*b) (due1 (2+4*b))) (.ok (wst (3+4*k) (2+4*k) (fun _=>false))):=by
  intro d
  induction d with
  | zero=>intro b hb;obtain rfl:b=k:=by omega
          exact⟨1,hend⟩
  | succ d ih =>
   intro b hb
   obtain⟨q,hq⟩:=ih (b+1) (by omega)
   exact⟨_,throws_block (by omega) hq⟩
 obtain⟨q,hq⟩:=hmid k 0 (by omega)
 have i0:(throwsI k).getD 0 id0=⟨4,0,0,0,0⟩:=by rw[throws_ins (by omega)];unfold tinK;rw[if_neg (by omega)];rfl
 have i1:(throwsI k).getD 1 id0=⟨3,0,0,0,0⟩:=by rw[throws_ins (by omega)];unfold tinK;rw[if_neg (by omega)];rfl
 refine⟨q+2,wst (3+4*k) (2+4*k) (fun _=>false),?_⟩
 rw[throws_start]
 refine⟨0,wst (3+4*k) 1 (due1 1),wst_least _ (by omega) (by simp[due1]) (fun x hx=>by omega),?_,1,_,wst_least _ (by omega) (by simp[due1]) (fun x hx=>by simp[due1]<;>omega),?_,hq⟩
 ·refine pass_of (y:=tst 1) (by omega) (by omega) (by rw[i0];rfl) ?_
  rw[i0,show followV ⟨4,0,0,0,0⟩ 0 (tst 0) (tst 1)=[(1,tst 1)] from rfl]
  unfold leadW
  simp only[]
  rw[wst_reach 1 (by omega) (by omega)]
  unfold leadW
  show Except.ok _=Except.ok _
  congr 2
  funext j
  simp only[due1]
  by_cases h1:j=1
  ·simp[h1]
  ·by_cases h2:j=0
   ·simp[h2]
   ·simp[h1,h2]
 ·refine pass_of (y:=tst 2) (by omega) (by omega) (by rw[i1];rfl) ?_
  rw[i1,show followV ⟨3,0,0,0,0⟩ 1 (tst 1) (tst 2)=[(2,tst 2)] from rfl]
  unfold leadW
  simp only[]
  rw[wst_reach 2 (by omega) (by omega)]
  unfold leadW
  show Except.ok _=Except.ok _
  congr 2
  funext j
  simp only[due1]
  by_cases h1:j=2
  ·simp[h1]
  ·by_cases h2:j=1
   ·simp[h2]
   ·simp[h1,h2]
theorem rank_rn {E:Nat→List Nat} {rk:Nat→Nat} (h:∀x,∀y∈E x,rk x<rk y):∀ {n x y:Nat},TJ.RN E n x y→rk x≤rk y
 | 0,x,y,hr=>by cases (show x=y from hr);exact Nat.le_refl _
 | n+1,x,y,hr=>by
  obtain⟨z,h1,h2⟩:=hr
  have:=h x z h1
  have:=rank_rn h h2
  omega
theorem rank_cyc {E:Nat→List Nat} {rk:Nat→Nat} (h:∀x,∀y∈E x,rk x<rk y) (x:Nat):¬TJ.Cyc E x:=by
 rintro ⟨y,h1,n,hn⟩
 have:=h x y h1
 have:=rank_rn h hn
 omega
theorem throws_ee (k:Nat):∀x,∀y∈EE (throwsD k) x,(if x=1 then 3+4*k else x)<(if y=1 then 3+4*k else y):=by
 intro x y hy
 unfold EE at hy
 by_cases hx:x<3+4*k
 ·rw[show (throwsD k).ins.getD x id0=tinK k x from throws_ins hx]at hy
  unfold tinK at hy
  split at hy
  ·obtain rfl:y=1:=by simpa [silS] using hy
   rw[if_neg (by omega),if_pos rfl]
   omega
  unfold tin at hy
  split at hy
  ·obtain rfl:y=x+1:=by simpa [silS] using hy
   split<;>split<;>omega
  split at hy
  ·simp[silS]at hy
  split at hy
  ·have:y=x+2∨y=x+1:=by
    have h0:y=((x:Int)+2).toNat∨y=x+1:=by simpa [silS] using hy
    omega
   split<;>split<;>omega
  split at hy
  ·simp[silS]at hy
  split at hy
  ·obtain rfl:y=x+1:=by simpa [silS] using hy
   split<;>split<;>omega
  ·obtain rfl:y=x+1:=by simpa [silS] using hy
   split<;>split<;>omega
 ·rw[show (throwsD k).ins.getD x id0=id0 by
   show (throwsI k).getD x id0=id0
   unfold throwsI;rw[tabL_getD,if_neg hx]]at hy
  obtain rfl:y=x+1:=by simpa [silS,id0] using hy
  split<;>split<;>omega
theorem ff_all {α:Type} {ok:Nat→α→Bool}:∀ {xs:List α} {i:Nat},(∀j x,xs[j]?=some x→ok (i+j) x=true)→ff ok xs i=none
 | [],i,h=>rfl
 | x :: xs,i,h=>by
  unfold ff
  rw[if_pos (by simpa using h 0 x rfl)]
  exact ff_all fun j y hj=>by
   have:=h (j+1) y (by simpa using hj)
   rwa [show i+(j+1)=i+1+j by omega]at this
theorem f6i_skip {c:List FD} {p:Nat} {f:FD}:∀ {ns:List ID} {i:Nat} {made:List Bool},(∀n∈ns,n.op≠11)→f6i c p f ns i made=(none,made)
 | [],i,made,h=>rfl
 | n :: ns,i,made,h=>by
  unfold f6i
  rw[if_neg (h n (by simp))]
  exact f6i_skip fun m hm=>h m (by simp[hm])
theorem throws_fields {k i:Nat} (hk:k≤250) (hi:i<3+4*k):insB 1 (throwsD k) i (tinK k i)=true:=by
 have hl:(throwsD k).ins.length=3+4*k:=tabL_len _ _
 unfold insB
 rw[hl]
 unfold tinK
 split
 ·subst_vars
  simp[fieldsB,fitsB,lohi,rl,rolesL,roleT,inR,hl,endsB]
  omega
 ·rename_i hn
  have hlast:(i+1 == 3+4*k)=false:=by simp;omega
  rw[hlast]
  unfold tin
  split
  ·simp[fieldsB,fitsB,lohi,rl,rolesL,roleT,inR,hl,throwsD]
  split
  ·simp[fieldsB,fitsB,lohi,rl,rolesL,roleT,inR,hl,throwsD]
  split
  ·simp[fieldsB,fitsB,lohi,rl,rolesL,roleT,inR,hl,throwsD]
   have:=tabL_len (3+4*k) (tinK k)
   simp only[throwsI,this]
   omega
  split
  ·simp[fieldsB,fitsB,lohi,rl,rolesL,roleT,inR,hl,throwsD]
  split
  ·simp[fieldsB,fitsB,lohi,rl,rolesL,roleT,inR,hl,throwsD]
  ·simp[fieldsB,fitsB,lohi,rl,rolesL,roleT,inR,hl,throwsD]
theorem throws_op {k i:Nat}:(tinK k i).op≠11:=by
 unfold tinK tin
 repeat' split
 all_goals simp
theorem throws_shape {k:Nat} (hk:k≤250):shapeV [throwsD k]=(0,0,0):=by
 have hl:(throwsD k).ins.length=3+4*k:=tabL_len _ _
 have h0:fp hd0 [throwsD k] 0=none:=by simp[fp,hd0,headB,throwsD,inR];rfl
 have h1:fp co0 [throwsD k] 0=none:=by
  unfold fp co0
  rw[show ff (fun _=>constB) (throwsD k).consts 0=none by
   show ff (fun _=>constB) [seven] 0=none
   decide +kernel]
  rfl
 have h2:fp na0 [throwsD k] 0=none:=rfl
 have h3:fp (in0 [throwsD k].length) [throwsD k] 0=none:=by
  unfold fp in0
  rw[hl,if_neg (by omega),ff_all (fun j x hj=>by
   have hj':(tabL (3+4*k) (tinK k))[j]?=some x:=hj
   rw[tabL_at]at hj'
   split at hj'
   ·cases hj'
    rw[Nat.zero_add]
    exact throws_fields hk (by assumption)
   ·cases hj')]
  rfl
 have hp:partsV [throwsD k]=(0,0,0):=by
  unfold partsV
  rw[if_neg (by simp[total,hl];omega),h0,h1,h2,h3]
 unfold shapeV
 rw[hp,if_pos rfl]
 unfold fnsV f6
 rw[f6i_skip (fun n hn=>by
  obtain⟨i,_,rfl⟩:=List.mem_map.1 (show n∈(List.range (3+4*k)).map (tinK k) from hn)
  exact throws_op)]
 rfl
end Go.Proofs.YtjglgbepobmjhaaGreatDoor
namespace Go.Proofs.YtjglgbepobmjhaaGreatDoor.M
open Go.RowKit
attribute [local go_sem] run_store_float
def instA:Array Value:=instT.toArray
def buiA:Array Value:=buiT.toArray
theorem wpList_store_new {P:Program} {w:World} {ops:Array Oper} {rest:List Oper} {o:Oper} {a:Act} {Q:Exit→Act→World→Prop} (hgd:o.guard=none) (t:TypeId) (x y:Operand) (ho:o.op=.store t x y) (c c':Array Value)
  (hx:a.eval x=.pointer (some ⟨w.heap.size,0,none⟩)) (hy:a.eval y=.agg c') (hi:(P.info? t).map (·.size)=some c'.size) (hs:c.size=c'.size) (h1:c'.all (·.oneCell')=true)
  (h:wpList P ops Q rest (a.put o.dst undef) (w.alloc (.cells c' t))):wpList P ops Q (o :: rest) a (w.alloc (.cells c t)) :=
 wpList_plain hgd fun _ hK=>by
  unfold Oper.wp
  simp only[execOp,ho,hx,hy,Sem.run_bind,run_storeAt_new w t c c' hi hs h1,Result.andThen_ok,Sem.run_pure,Oper.upon_skip]
  exact hK _ _ h
theorem results_new {P:Program} {fn:Func} {w:World} {tmps:Array Value} (k:Nat) (t:TypeId) (c:Array Value) (n:Nat) (e:TypeId) (hres:fn.results=#[.cell k t]) (hk:tmps.getD k undef=.pointer (some ⟨w.heap.size,0,none⟩)) (hu:P.underlying t=some (.array n e)) (hi:(P.info? t).map (·.size)=some c.size) :
  (results fn tmps).run P (w.alloc (.cells c t))=.ok (.agg c) (w.alloc (.cells c t)):=by
 have hl:=run_loadVar_new (P:=P) w t c n e hu hi
 have hk':tmps[k]?.getD undef=.pointer (some ⟨w.heap.size,0,none⟩):=by rw[←hk];simp[Array.getD_eq_getD_getElem?]
 simp[results,hres,hk',asAddr,hl,Result.andThen]
theorem built_any (w:World):Calls Tryz.prog 46 #[] w fun e w'=>e=.returned (.agg buiA)∧Below w.heap.size w w':=by
 go_enter Tryz.func46,Tryz.ntmps46
 go_wp2_with (refine wpList_store_new rfl 93 _ _ rfl _ _ rfl rfl (by kernel_rfl) (by kernel_rfl) (by kernel_rfl) ?_)
 exact bodyPost_ret (v:=.agg buiA) (results_new 0 93 _ 15 92 Tryz.results46 rfl Tryz.underlying93 (by kernel_rfl)) rfl ⟨rfl,bw1 _ _⟩
theorem instr_any (w:World):Calls Tryz.prog 45 #[] w fun e w'=>e=.returned (.agg instA)∧Below w.heap.size w w':=by
 go_enter Tryz.func45,Tryz.ntmps45
 go_wp2_with (refine wpList_store_new rfl 89 _ _ rfl _ _ rfl rfl (by kernel_rfl) (by kernel_rfl) (by kernel_rfl) ?_)
 exact bodyPost_ret (v:=.agg instA) (results_new 0 89 _ 43 88 Tryz.results45 rfl Tryz.underlying89 (by kernel_rfl)) rfl ⟨rfl,bw1 _ _⟩
end Go.Proofs.YtjglgbepobmjhaaGreatDoor.M
namespace Go.Proofs.YtjglgbepobmjhaaGreatDoor.M
open Go.RowKit
attribute [local go_sem] run_store_float
theorem mk_chan (W:World):(Instr.makeChan 141 (.int .i64 0)).run Tryz.prog W=.ok (.chan (some W.heap.size)) (W.alloc (.chan 0 #[] false 0 0 false)):=by kernel_rfl
def taskA (calls:Value) (gch:Nat) (st:Int):Array Value:=#[.int .i64 0,.int .i64 0,.int .i64 st,.int .i64 0,.int .i64 0,.float .f64 0,.string ⟨#[]⟩,.int .i64 0,calls,.chan (some gch),.pointer none,.bool false,.pointer none,.slice none 0 0]
theorem newTask_any (g:Nat) (m:MachD) (w:World) (h:MachAt w g m) (ht:m.tasks=.slice none 0 0) :
  Calls Tryz.prog 47 #[.pointer (some ⟨g,0,none⟩),.agg #[.int .i64 0,.int .i64 0,.float .f64 0,.string ⟨#[]⟩,.int .i64 0]] w fun e w'=>∃gt gk gch cap,e=.returned (.pointer (some ⟨gt,0,none⟩))∧MachAt w' g { m with tasks:=.slice (some ⟨gk,0,none⟩) 1 cap }∧w'.heap[gt]?=some (.cells (taskA (.slice none 0 0) gch 0) 145)∧w'.heap[gch]?=some (.chan 0 #[] false 0 0 false)∧w.heap.size≤gt∧w.heap.size≤gch∧ORow w' w.heap.size 97 1 pC (.slice (some ⟨gk,0,none⟩) 1 cap) [gt]∧ButL [g] w w':=by
 have hmk:=mk_chan
 have hgl:=blk_lt h
 obtain⟨W,hW⟩:∃W,w.alloc (.cells #[.int .i64 0,.int .i64 0,.float .f64 0,.string ⟨#[]⟩,.int .i64 0] 70)=W:=⟨_,rfl⟩
 have hb:=bw1 w (.cells #[.int .i64 0,.int .i64 0,.float .f64 0,.string ⟨#[]⟩,.int .i64 0] 70)
 have bn:=blk_new w (.cells #[.int .i64 0,.int .i64 0,.float .f64 0,.string ⟨#[]⟩,.int .i64 0] 70)
 have hsz:W.heap.size=w.heap.size+1:=by rw[←hW];simp
 rw[hW]at hb bn
 have hm:=h.later hb
 have c74:W.cell? ⟨g,74,none⟩=some (.slice none 0 0):=by rw[hm.cell,←ht];rfl
 have d0:W.cell? ⟨w.heap.size,0,none⟩=some (.int .i64 0):=by rw[blk_cell bn];rfl
 have d1:W.cell? ⟨w.heap.size,1,none⟩=some (.int .i64 0):=by rw[blk_cell bn];rfl
 have d2:W.cell? ⟨w.heap.size,2,none⟩=some (.float .f64 0):=by rw[blk_cell bn];rfl
 have d3:W.cell? ⟨w.heap.size,3,none⟩=some (.string ⟨#[]⟩):=by rw[blk_cell bn];rfl
 have d4:W.cell? ⟨w.heap.size,4,none⟩=some (.int .i64 0):=by rw[blk_cell bn];rfl
 have hc1:=bw1 W (.chan 0 #[] false 0 0 false)
 have e0:=cell_later hc1 d0
 have e1:=cell_later hc1 d1
 have e2:=cell_later hc1 d2
 have e3:=cell_later hc1 d3
 have e4:=cell_later hc1 d4
 have e5:=cell_later hc1 c74
 clear hc1
 obtain⟨W1,hW1⟩:∃W1,((W.alloc (.chan 0 #[] false 0 0 false)).alloc (.cells #[.int .i64 0,.int .i64 0,.int .i64 0,.int .i64 0,.int .i64 0,.float .f64 0,.string ⟨#[]⟩,.int .i64 0,.slice none 0 0,.chan (some (w.heap.size+1)),.pointer none,.bool false,.pointer none,.slice none 0 0] 145)).drew=W1:=⟨_,rfl⟩
 have hb1:Below W.heap.size W W1:=by rw[←hW1];exact (bw2 W (.chan 0 #[] false 0 0 false) (.cells #[.int .i64 0,.int .i64 0,.int .i64 0,.int .i64 0,.int .i64 0,.float .f64 0,.string ⟨#[]⟩,.int .i64 0,.slice none 0 0,.chan (some (w.heap.size+1)),.pointer none,.bool false,.pointer none,.slice none 0 0] 145)).drew
 have hsz1:W1.heap.size=w.heap.size+1+1+1:=by rw[←hW1];simp[hsz]
 have hm1:MachAt W1 g m:=hm.later hb1
 have ht1:W1.heap[w.heap.size+1+1]?=some (.cells (taskA (.slice none 0 0) (w.heap.size+1) 0) 145):=by rw[←hW1];exact blk_newn (by simp[hsz]) _
 have hc1:W1.heap[w.heap.size+1]?=some (.chan 0 #[] false 0 0 false):=by rw[←hW1];exact blk_old (blk_newn (by omega) _) _
 have f74:W1.cell? ⟨g,74,none⟩=some (.slice none 0 0):=by rw[hm1.cell,←ht];rfl
 have hy:=bw1 W1 (.cells #[.pointer (some ⟨w.heap.size+1+1,0,none⟩)] 97)
 obtain⟨g',cap',w2,hr,ho2,hg2⟩:=(ORow.nil (W1.alloc (.cells #[.pointer (some ⟨w.heap.size+1+1,0,none⟩)] 97)) w.heap.size 97 1 pC).app 96 8 Tryz.underlying96 (by kernel_rfl) (by omega) (by omega) (w.heap.size+1+1) (w.heap.size+1+1+1) 96 (show (W1.alloc (.cells #[.pointer (some ⟨w.heap.size+1+1,0,none⟩)] 97)).heap[w.heap.size+1+1+1]?=_ from blk_newn (by omega) _) rfl (by intro u hu;simp[pC]at hu;subst hu;rfl) (by simp) (by simp;omega)
 have hb2:Below W1.heap.size W1 w2:=ButL.nil (ButL.grown (S:=[]) ((ButL.refl [] W1).alloc _) hg2 (fun b e=>by cases e))
 have hm2:MachAt w2 g m:=hm1.later hb2
 have g74:w2.cell? ⟨g,74,none⟩=some (.slice none 0 0):=by rw[hm2.cell,←ht];rfl
 have z2:=blk_frozen hm2
 have HE:Hid (MachAt (w2.setCell ⟨g,74,none⟩ (.slice (some ⟨g',0,none⟩) 1 cap')) g { m with tasks:=.slice (some ⟨g',0,none⟩) 1 cap' }∧(w2.setCell ⟨g,74,none⟩ (.slice (some ⟨g',0,none⟩) 1 cap')).heap[w.heap.size+1+1]?=some (.cells (taskA (.slice none 0 0) (w.heap.size+1) 0) 145)∧(w2.setCell ⟨g,74,none⟩ (.slice (some ⟨g',0,none⟩) 1 cap')).heap[w.heap.size+1]?=some (.chan 0 #[] false 0 0 false)∧w.heap.size≤w.heap.size+1+1∧w.heap.size≤w.heap.size+1∧ORow (w2.setCell ⟨g,74,none⟩ (.slice (some ⟨g',0,none⟩) 1 cap')) w.heap.size 97 1 pC (.slice (some ⟨g',0,none⟩) 1 cap') [w.heap.size+1+1]∧ButL [g] w (w2.setCell ⟨g,74,none⟩ (.slice (some ⟨g',0,none⟩) 1 cap'))):=by
  refine⟨?_,blk_other (blk_later hb2 ht1) (by omega) _ _,blk_other (blk_later hb2 hc1) (by omega) _ _,by omega,by omega,ORow.set_own ho2 (own_ne ho2 hm2 (by decide)) _ _,?_⟩
  ·have:=blk_set hm2 74 (.slice (some ⟨g',0,none⟩) 1 cap')
   rw[MachD.set_tasks]at this
   exact this
  ·exact ((((ButL.of_below hb).thenB hb1).thenB hb2)).set (by simp) _ _
 have HR:Hid _:=hr
 clear h hm hb bn hb1 hm1 ht1 hc1 hy ho2 hg2 hb2 hm2 hr
 go_enter Tryz.func47,Tryz.ntmps47
 go_wp2_with fail
 clear hW
 go_region
 go_wp2_with (at_builtin;refine wpList_append_run rfl _ _ _ rfl _ _ _ _ rfl rfl HR.out ?_)
 go_ret
 exact⟨_,_,_,_,rfl,HE.out⟩
end Go.Proofs.YtjglgbepobmjhaaGreatDoor.M
