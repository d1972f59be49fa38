import Derived.Test.YtkajknidfoelcaaGreatDoorP33
import Derived.Test.YtkajknidfoelcaaGreatDoorP29
import Derived.Test.YtkajknidfoelcaaGreatDoorP31
set_option linter.unusedVariables false
set_option linter.unusedSimpArgs false
set_option maxRecDepth 20000
set_option maxHeartbeats 8000000
namespace Go.Proofs.YtkajknidfoelcaaGreatDoor.U
open Go.RowKit
def cirB (kind:Nat):Nat:=if kind=7∨kind=8 then 4 else if 10≤kind then 3 else 2
def cirP (kind:Nat):List ID:=⟨4,0,0,0,0⟩ :: ⟨4,1,1,0,0⟩ :: if kind=7∨kind=8 then [⟨5,2,1,0,0⟩,⟨40,2,0,0,0⟩] else if 10≤kind then [⟨12,2,0,0,0⟩] else []
def cirM (b:Nat):Nat→List ID
 | 0=>[]
 | 1=>[⟨1,3,0,0,0⟩]
 | 2=>[⟨3,0,0,0,0⟩]
 | 3=>[⟨22,4,0,0,0⟩,⟨28,4,1,-5,0⟩,⟨42,4,0,0,0⟩]
 | 4=>[⟨18,4,12,0,0⟩,⟨42,4,0,0,0⟩]
 | 5=>[⟨18,4,13,0,0⟩,⟨42,4,0,0,0⟩]
 | 6=>[⟨31,((b+2:Nat):Int),4,0,0⟩,⟨30,0,0,0,0⟩,⟨42,4,0,0,0⟩,⟨42,5,0,0,0⟩]
 | 7=>[⟨41,2,((b+3:Nat):Int),4,0⟩,⟨42,4,0,0,0⟩]
 | 8=>[⟨41,2,((b+2:Nat):Int),4,0⟩,⟨42,4,0,0,0⟩]
 | 9=>[⟨3,0,0,0,0⟩,⟨31,((b+3:Nat):Int),4,0,0⟩,⟨30,0,0,0,0⟩,⟨42,4,0,0,0⟩,⟨42,5,0,0,0⟩]
 | 10=>[⟨15,4,2,0,0⟩,⟨42,4,0,0,0⟩]
 | 11=>[⟨16,2,0,0,0⟩]
 | _=>[⟨17,4,22,0,0⟩,⟨42,4,0,0,0⟩]
def cirE (kind:Nat):List ID:=if kind=7 then [⟨22,4,0,0,0⟩,⟨29,-5,0,0,0⟩] else []
def cirI (kind n:Nat):List ID:=cirP kind++(List.replicate n ⟨5,0,0,0,0⟩++(cirM (cirB kind+n) kind++(⟨19,((cirB kind:Nat):Int),0,0,0⟩ :: cirE kind)))
def nothing:VD:=⟨4,0,0,⟨#[]⟩,0⟩
def texter:VD:=⟨8,3,0,⟨#[]⟩,0⟩
def cirD (kind n:Nat):FD:=⟨⟨#[109,97,105,110]⟩,0,0,false,8,[],[nothing,texter],cirI kind n,[]⟩
def cirT:Nat→Bool
 | 1=>true
 | 2=>true
 | 3=>true
 | 4=>true
 | 7=>true
 | 9=>true
 | _=>false
def cirF (kind:Nat):F3:=if cirT kind then (0,0,0) else (14,0,(cirB kind:Int))
def cirX (kind n:Nat):Nat:=if kind=3 then cirB kind+n+1 else cirB kind+n
def cirJ (kind n:Nat):Nat:=cirB kind+n+(cirM (cirB kind+n) kind).length
def cirK (kind n x:Nat):Nat:=if cirJ kind n<x then 2*(cirI kind n).length+x else if cirX kind n<x then x-cirX kind n else x+(cirI kind n).length
def reachB (E:Nat→List Nat):Nat→Nat→Nat→Bool
 | 0,x,y=>x == y
 | k+1,x,y=>x == y || (E x).any fun z=>reachB E k z y
theorem reachB_r {E:Nat→List Nat}:∀ {k x y:Nat},reachB E k x y=true→TJ.R E x y
 | 0,x,y,h=>by
  have e:x=y:=by simpa [reachB] using h
  subst e;exact TJ.R.refl _
 | k+1,x,y,h=>by
  unfold reachB at h
  simp only[Bool.or_eq_true,beq_iff_eq,List.any_eq_true]at h
  rcases h with e | ⟨z,h1,h2⟩
  ·subst e;exact TJ.R.refl _
  ·exact (TJ.R.step h1).trans (reachB_r h2)
theorem low_cyc {E:Nat→List Nat} {B:Nat} (h:∀x,∀y∈E x,(x<B→x<y)∧(B≤x→B≤y)) {j:Nat} (hj:j<B):¬TJ.Cyc E j:=by
 rintro ⟨y,h1,h2⟩
 have h3:j<j:=TJ.R.closed (P:=fun z=>j<z) (fun x z hx hz=>by
  have:=h x z hz
  by_cases hb:x<B
  ·have:=this.1 hb;omega
  ·have:=this.2 (by omega);omega) ((h j y h1).1 hj) h2
 omega
def edgeB (E:Nat→List Nat) (p:Nat→Nat→Bool) (L:Nat):Bool:=(List.range L).all fun i=>(E i).all fun y=>p i y
theorem edge_at {E:Nat→List Nat} {p:Nat→Nat→Bool} {L:Nat} (h:edgeB E p L=true) {x:Nat} (hx:x<L) {y:Nat} (hy:y∈E x):p x y=true:=by
 unfold edgeB at h
 simp only[List.all_eq_true,List.mem_range]at h
 exact h x hx y hy
theorem edge_out {d:FD} {x:Nat} (hx:d.ins.length≤x) {y:Nat} (hy:y∈EE d x):y=x+1:=by
 unfold EE at hy
 rw[List.getD_eq_getElem?_getD,List.getElem?_eq_none_iff.2 hx]at hy
 simpa [silS,id0] using hy
def cirOk (kind n:Nat):Bool :=
 decide ((shapeV [cirD kind n]).1=0) && (match runF [cirD kind n] (cirI kind n) 200 (startS (cirD kind n)) with
  | some (.ok s)=>if cirT kind then edgeB (EE (cirD kind n)) (fun x y=>decide (cirK kind n x<cirK kind n y)) (cirI kind n).length
    else edgeB (EE (cirD kind n)) (fun x y=>if x<cirB kind then decide (x<y) else decide (cirB kind≤y)) (cirI kind n).length && (match s.st[cirB kind]? with | some (some _)=>true | _=>false) && ((EE (cirD kind n) (cirB kind)).any fun y=>reachB (EE (cirD kind n)) 30 y (cirB kind))
  | _=>false)
theorem cir_len (kind n:Nat):cirJ kind n<(cirI kind n).length∧cirX kind n≤(cirI kind n).length∧cirB kind<(cirI kind n).length:=by
 have h1:(cirP kind).length=cirB kind:=by
  unfold cirP cirB
  split
  ·rfl
  ·split<;>rfl
 have h2:(cirI kind n).length=cirB kind+(n+((cirM (cirB kind+n) kind).length+((cirE kind).length+1))):=by
  unfold cirI
  simp only[List.length_append,List.length_replicate,List.length_cons,h1]
 unfold cirJ cirX
 rw[h2]
 refine⟨by omega,?_,by omega⟩
 split
 ·rename_i h
  subst h
  show 2+n+1≤2+(n+(3+_))
  omega
 ·omega
theorem cir_wf {kind n:Nat} (h0:cirOk kind n=true):(shapeV [cirD kind n]).1=0∧(cirT kind=true→WF [cirD kind n] 0 (cirD kind n) none)∧(cirT kind=false→WF [cirD kind n] 0 (cirD kind n) (some (14,0,(cirB kind:Int)))):=by
 unfold cirOk at h0
 simp only[Bool.and_eq_true,decide_eq_true_eq]at h0
 obtain⟨hs,h1⟩:=h0
 refine⟨hs,?_⟩
 cases hr:runF [cirD kind n] (cirI kind n) 200 (startS (cirD kind n)) with
 | none=>rw[hr]at h1;cases h1
 | some r =>
  rw[hr]at h1
  cases r with
  | error e=>cases h1
  | ok s =>
   obtain⟨k',hk'⟩:=runF_runs hr
   obtain⟨hl1,hl2,hl3⟩:=cir_len kind n
   refine⟨fun ht=>?_,fun ht=>?_⟩
   ·simp only[ht,if_true]at h1
    refine⟨k',_,hk',.inr ⟨fun i _=>rank_cyc (rk:=cirK kind n) (fun x y hy=>?_) i,rfl⟩⟩
    by_cases hx:x<(cirI kind n).length
    ·simpa using edge_at h1 hx hy
    ·have:=edge_out (d:=cirD kind n) (by show (cirI kind n).length≤x;omega) hy
     subst this
     unfold cirK
     rw[if_pos (by omega),if_pos (by omega)]
     omega
   ·simp only[ht,Bool.false_eq_true,if_false,Bool.and_eq_true]at h1
    obtain⟨⟨ha,hb⟩,hc⟩:=h1
    refine⟨k',_,hk',.inl ⟨cirB kind,⟨?_,?_,fun j hj _=>low_cyc (fun x y hy=>?_) hj⟩,rfl⟩⟩
    ·split at hb
     ·rename_i x hx;exact⟨x,hx⟩
     ·cases hb
    ·simp only[List.any_eq_true]at hc
     obtain⟨y,h2,h3⟩:=hc
     exact⟨y,h2,reachB_r h3⟩
    ·by_cases hx:x<(cirI kind n).length
     ·have h9:=edge_at ha hx hy
      split at h9
      ·rename_i h8;exact⟨fun _=>by simpa using h9,fun h7=>by omega⟩
      ·rename_i h8;exact⟨fun h7=>absurd h7 h8,fun _=>by simpa using h9⟩
     ·have:=edge_out (d:=cirD kind n) (by show (cirI kind n).length≤x;omega) hy
      omega
theorem cir_ck0 {kind n:Nat} (h0:cirOk kind n=true):CkR [cirD kind n] (cirF kind):=by
 obtain⟨hs,h1,h2⟩:=cir_wf h0
 unfold CkR cirF
 rw[if_pos hs]
 cases ht:cirT kind with
 | true=>exact .inr ⟨h1 ht,rfl⟩
 | false=>exact .inl (h2 ht)
end Go.Proofs.YtkajknidfoelcaaGreatDoor.U
namespace Go.Proofs.YtkajknidfoelcaaGreatDoor.U
open Go.RowKit M T
abbrev RD:Type:=Nat
abbrev RD.no:RD:=0
abbrev RD.emp:RD:=1
abbrev RD.bui:RD:=2
abbrev RD.nl:RD:=3
abbrev RD.l0:RD:=4
abbrev RD.ls:RD:=5
abbrev RD.st:RD:=6
structure AS where
 at':Nat
 rs:List RD
 ln:Bool
 gd:Option Nat
def AS.is (a b:AS):Bool:=(a.at' == b.at') && ((a.rs == b.rs) && ((a.ln == b.ln) && (a.gd == b.gd)))
theorem AS.is_eq {a b:AS} (h:AS.is a b=true):a=b:=by
 cases a
 cases b
 simp only[AS.is,Bool.and_eq_true,beq_iff_eq]at h
 obtain⟨h1,h2,h3,h4⟩:=h
 subst h1 h2 h3 h4
 rfl
def AS.isO:Option AS→AS→Bool
 | some a,b=>a.is b
 | none,_=>false
theorem AS.isO_eq {o:Option AS} {b:AS} (h:AS.isO o b=true):o=some b:=by
 cases o with
 | none=>cases h
 | some a=>exact congrArg some (AS.is_eq h)
def absD (n:ID) (s:AS):Option (AS × Nat) :=
 if n.op=4 then
  if n.a=0∧n.b=0 then some (⟨s.at'+1,s.rs.set 0 .emp,s.ln,s.gd⟩,0)
  else if n.a=1∧n.b=1 then some (⟨s.at'+1,s.rs.set 1 .bui,s.ln,s.gd⟩,0) else none
 else if n.op=5 then
  if n.a=0∧n.b=0∧s.rs[0]?=some .emp then some (⟨s.at'+1,s.rs.set 0 .emp,s.ln,s.gd⟩,0)
  else if n.a=2∧n.b=1∧s.rs[1]?=some .bui then some (⟨s.at'+1,s.rs.set 2 .bui,s.ln,s.gd⟩,0) else none
 else if n.op=40 then
  if n.a=2∧s.rs[2]?=some .bui then some (⟨s.at'+1,s.rs.set 3 .nl,s.ln,s.gd⟩,0) else none
 else if n.op=1 then some (⟨s.at'+1,s.rs,false,s.gd⟩,1)
 else if n.op=3 then some (⟨s.at'+1,s.rs,s.ln,s.gd⟩,1)
 else if n.op=22 then if n.a=4 then some (⟨s.at'+1,s.rs.set 4 .l0,s.ln,s.gd⟩,0) else none
 else if n.op=28 then
  if n.a=4∧n.b=1∧n.c=-5∧s.rs[1]?=some .bui∧s.rs[4]?=some .l0 then some (⟨s.at'+1,s.rs.set 4 .ls,s.ln,s.gd⟩,1) else none
 else if n.op=42 then
  if n.a=4 then some (⟨s.at'+1,s.rs.set 4 .no,s.ln,s.gd⟩,0)
  else if n.a=5 then some (⟨s.at'+1,s.rs.set 5 .no,s.ln,s.gd⟩,0) else none
 else if n.op=18 then
  if n.a=4∧n.b=12∧n.c=0∧n.d=0∧s.rs[0]?=some .emp then some (⟨s.at'+1,s.rs.set 4 .emp,s.ln,s.gd⟩,1) else none
 else if n.op=31 then
  if n.b=4∧0≤n.a∧s.ln=true∧s.gd=none then some (⟨s.at'+1,s.rs,s.ln,some n.a.toNat⟩,0) else none
 else if n.op=30 then
  if n.a=0∧s.rs[0]?=some .emp∧s.rs[4]?=some .no∧s.rs[5]?=some .no∧s.ln=true then
   match s.gd with
   | some hd=>some (⟨hd,(s.rs.set 4 .emp).set 5 .st,true,none⟩,0)
   | none=>none
  else none
 else if n.op=41 then
  if n.a=2∧n.c=4∧s.rs[2]?=some .bui∧s.rs[3]?=some .nl then some (⟨s.at'+1,s.rs.set 4 .ls,s.ln,s.gd⟩,2) else none
 else if n.op=19 then if 0≤n.a then some (⟨n.a.toNat,s.rs,s.ln,s.gd⟩,0) else none
 else none
def trail (ins:List ID):Nat→AS→List AS
 | 0,_=>[]
 | k+1,s=>s :: match ins[s.at']? with
  | none=>[]
  | some n=>match absD n s with
   | none=>[]
   | some (s',_)=>trail ins k s'
def as0 (kind:Nat):AS:=⟨0,[.no,.no,.no,.no,.no,.no],decide (kind≠1),none⟩
def cirS (kind n:Nat):List AS:=trail (cirI kind n) (cirJ kind n+1) (as0 kind)
def cirN (kind n a:Nat):Nat:=if a=cirJ kind n then cirB kind else a+1
def cirW (kind n a:Nat):Nat:=if a≤cirX kind n then cirX kind n-a else cirJ kind n+1-a+(cirX kind n-cirB kind)
def cirG1 (kind n:Nat) (l:List AS) (ins:List ID) (a:Nat):Bool:=match l[a]?,ins[a]? with
 | some s,some i=>decide (s.at'=a) && (match absD i s with
  | some (s',k)=>AS.isO l[cirN kind n a]? s' && (decide (a≠cirX kind n) || decide (0<k))
  | none=>false)
 | _,_=>false
def cirG (kind n:Nat):Bool:=(List.range (cirJ kind n+1)).all (cirG1 kind n (cirS kind n) (cirI kind n)) && AS.isO (cirS kind n)[0]? (as0 kind) && decide (cirJ kind n≤60)
set_option maxRecDepth 100000 in
theorem cirG_1:((List.range 21).all fun n=>cirG 1 n)=true:=by kernel_rfl
set_option maxRecDepth 100000 in
theorem cirG_2:((List.range 21).all fun n=>cirG 2 n)=true:=by kernel_rfl
set_option maxRecDepth 100000 in
theorem cirG_3:((List.range 21).all fun n=>cirG 3 n)=true:=by kernel_rfl
set_option maxRecDepth 100000 in
theorem cirG_4:((List.range 21).all fun n=>cirG 4 n)=true:=by kernel_rfl
set_option maxRecDepth 100000 in
theorem cirG_7:((List.range 21).all fun n=>cirG 7 n)=true:=by kernel_rfl
set_option maxRecDepth 100000 in
theorem cirG_9:((List.range 21).all fun n=>cirG 9 n)=true:=by kernel_rfl
theorem cir_go {kind n:Nat} (ht:cirT kind=true) (hn:n<21):cirG kind n=true:=by
 have get:∀ {k:Nat},((List.range 21).all fun n=>cirG k n)=true→cirG k n=true:=fun h=>by
  simp only[List.all_eq_true,List.mem_range]at h
  exact h n hn
 unfold cirT at ht
 split at ht
 ·exact get cirG_1
 ·exact get cirG_2
 ·exact get cirG_3
 ·exact get cirG_4
 ·exact get cirG_7
 ·exact get cirG_9
 ·cases ht
structure Tab (kind n:Nat):Prop where
 step:∀a,a≤cirJ kind n→∃s i s' k,(cirS kind n)[a]?=some s∧(cirI kind n)[a]?=some i∧s.at'=a∧absD i s=some (s',k)∧(cirS kind n)[cirN kind n a]?=some s'∧(a≠cirX kind n∨0<k)
 st0:(cirS kind n)[0]?=some (as0 kind)
 jl:cirJ kind n≤60
theorem tab_of {kind n:Nat} (h:cirG kind n=true):Tab kind n:=by
 unfold cirG at h
 simp only[Bool.and_eq_true,decide_eq_true_eq,List.all_eq_true,List.mem_range]at h
 refine⟨fun a ha=>?_,AS.isO_eq h.1.2,h.2⟩
 have h1:=h.1.1 a (by omega)
 unfold cirG1 at h1
 split at h1
 ·rename_i s i hs hi
  simp only[Bool.and_eq_true,decide_eq_true_eq]at h1
  obtain⟨h2,h3⟩:=h1
  split at h3
  ·rename_i s' k hd
   simp only[Bool.and_eq_true,Bool.or_eq_true,decide_eq_true_eq]at h3
   exact⟨s,i,s',k,hs,hi,h2,hd,AS.isO_eq h3.1,h3.2⟩
  ·cases h3
 ·cases h1
theorem cirX_le (kind n:Nat) (ht:cirT kind=true):cirB kind≤cirX kind n∧cirX kind n<cirJ kind n:=by
 unfold cirT at ht
 unfold cirX cirJ
 split at ht
 case h_7=>cases ht
 all_goals
  simp only[cirM,List.length_cons,List.length_nil]
  first
  | rw[if_neg (by omega)];omega
  | simp only[if_true];omega
theorem cirN_le (kind n a:Nat) (ht:cirT kind=true) (ha:a≤cirJ kind n):cirN kind n a≤cirJ kind n:=by
 have:=cirX_le kind n ht
 unfold cirN
 split<;>omega
theorem cirW_lt (kind n a:Nat) (ht:cirT kind=true) (ha:a≤cirJ kind n) (hx:a≠cirX kind n):cirW kind n (cirN kind n a)<cirW kind n a:=by
 have:=cirX_le kind n ht
 unfold cirN cirW
 split
 ·rename_i h
  subst h
  rw[if_pos (by omega),if_neg (by omega)]
  omega
 ·split<;>split<;>omega
theorem cirW_le (kind n a:Nat) (ht:cirT kind=true):cirW kind n a≤2*cirJ kind n+1:=by
 have:=cirX_le kind n ht
 unfold cirW
 split<;>omega
def mu (kind n t tk a:Nat):Nat:=(t+1-tk)*128+cirW kind n a
def rep:RD→M.SD→Prop
 | 0,s=>s=sd0
 | 1,s=>s=sdV nothing
 | 2,s=>s=sdV texter
 | 3,s=>s=sdV vd0
 | 4,s=>s=sdL (.slice none 0 0)
 | 5,s=>∃g:Nat,s=sdL (.slice (some ⟨g,0,none⟩) 1 1)
 | _,s=>∃t,s=sdV (strD t)
structure Reps (al:List RD) (rs:List M.SD):Prop where
 la:al.length=6
 lr:rs.length=250
 at_:∀(i:Nat) r,al[i]?=some r→∃s,rs[i]?=some s∧rep r s
 hi:∀i:Nat,6≤i→i<250→rs[i]?=some sd0
theorem Reps.set {al:List RD} {rs:List M.SD} (h:Reps al rs) {i:Nat} (hi:i<6) {r:RD} {s:M.SD} (hr:rep r s):Reps (al.set i r) (rs.set i s):=by
 refine⟨by rw[List.length_set];exact h.la,by rw[List.length_set];exact h.lr,fun j q hj=>?_,fun j h6 h250=>?_⟩
 ·by_cases e:i=j
  ·subst e
   rw[List.getElem?_set_self (by rw[h.la];exact hi)]at hj
   cases hj
   exact⟨s,List.getElem?_set_self (by rw[h.lr];omega),hr⟩
  ·rw[List.getElem?_set_ne e]at hj
   rw[List.getElem?_set_ne e]
   exact h.at_ j q hj
 ·rw[List.getElem?_set_ne (by omega)]
  exact h.hi j h6 h250
theorem Reps.start (kind:Nat):Reps (as0 kind).rs R0:=by
 refine⟨rfl,R0_len,fun i r hi=>?_,fun i _ h=>?_⟩
 ·have hl:i<6:=(List.getElem?_eq_some_iff.1 hi).1
  refine⟨sd0,by unfold R0;rw[List.getElem?_replicate,if_pos (by omega)],?_⟩
  have:r=.no:=by
   have h6:i=0∨i=1∨i=2∨i=3∨i=4∨i=5:=by omega
   rcases h6 with rfl | rfl | rfl | rfl | rfl | rfl<;>exact (Option.some.inj hi).symm
  subst this
  rfl
 ·unfold R0;rw[List.getElem?_replicate,if_pos h]
theorem Reps.low {al:List RD} {rs:List M.SD} (h:Reps al rs) (h4:al[4]?=some .no) (h5:al[5]?=some .no):rs.drop 4=List.replicate 246 sd0:=by
 apply List.ext_getElem?
 intro i
 rw[List.getElem?_drop,List.getElem?_replicate]
 by_cases hi:i<246
 ·rw[if_pos hi]
  by_cases h6:2≤i
  ·exact h.hi (4+i) (by omega) (by omega)
  ·have:i=0∨i=1:=by omega
   rcases this with rfl | rfl
   ·obtain⟨s,h1,h2⟩:=h.at_ 4 _ h4
    rw[h1];exact congrArg some h2
   ·obtain⟨s,h1,h2⟩:=h.at_ 5 _ h5
    rw[h1];exact congrArg some h2
 ·rw[if_neg hi,List.getElem?_eq_none_iff,h.lr]
  omega
end Go.Proofs.YtkajknidfoelcaaGreatDoor.U
namespace Go.Proofs.YtkajknidfoelcaaGreatDoor.U
open Go.RowKit M T
attribute [local go_sem] run_store_float
theorem loadc_any (pm:Value) (g i j cb co cn ccap:Nat) (v:VD) (n:ID) (c:CallD) (w:World) (h:CallAt w g c) (hr:c.regs.length=250) (hop:n.op=4) (ha:n.a=i) (hi:i<250) (hb0:n.b=(j:Int)) (hj:j<cn)
  (hcon:c.consts=.slice (some ⟨cb,co,none⟩) cn ccap) (hlt:cb<w.heap.size) (hcv:∀q u,v.cells[q]?=some u→w.cell? ⟨cb,co+j*5+q,none⟩=some u) :
  Calls Tryz.prog 83 #[pm,.pointer (some ⟨g,0,none⟩),insV n] w fun e w'=>e=.returned .nilIface∧CallAt w' g { c with regs:=c.regs.set i (sdV v) }∧ButL [g] w w':=by
 obtain⟨op,a,b,cc,d⟩:=n
 dsimp only[insV]at hop ha hb0 ⊢
 subst hop ha hb0
 obtain⟨W,hW⟩:∃W,(w.alloc (InO ⟨4,i,j,cc,d⟩)).alloc ZvO=W:=⟨_,rfl⟩
 have hb:Below w.heap.size w W:=by rw[←hW];exact bw2 _ _ _
 have b0:W.heap[w.heap.size]?=some (InO ⟨4,i,j,cc,d⟩):=by rw[←hW];exact blk_old (blk_new _ _) _
 have b1:W.heap[w.heap.size+1]?=some ZvO:=by rw[←hW];exact blk_newn (by simp) _
 have h':=h.later hb
 have hgl:=blk_lt h
 have c7:W.cell? ⟨g,7,none⟩=some (.slice (some ⟨cb,co,none⟩) cn ccap):=by rw[h'.cell 7 (by omega),←hcon];rfl
 have d0:W.cell? ⟨w.heap.size,0,none⟩=some (.int .i64 4):=by rw[blk_cell b0];rfl
 have d1:W.cell? ⟨w.heap.size,1,none⟩=some (.int .i64 (i:Int)):=by rw[blk_cell b0];rfl
 have d2:W.cell? ⟨w.heap.size,2,none⟩=some (.int .i64 (j:Int)):=by rw[blk_cell b0];rfl
 have r0:W.cell? ⟨w.heap.size+1,0,none⟩=some (.int .i64 0):=by rw[blk_cell b1];rfl
 have r1:W.cell? ⟨w.heap.size+1,1,none⟩=some (.int .i64 0):=by rw[blk_cell b1];rfl
 have r2:W.cell? ⟨w.heap.size+1,2,none⟩=some (.float .f64 0):=by rw[blk_cell b1];rfl
 have r3:W.cell? ⟨w.heap.size+1,3,none⟩=some (.string ⟨#[]⟩):=by rw[blk_cell b1];rfl
 have r4:W.cell? ⟨w.heap.size+1,4,none⟩=some (.int .i64 0):=by rw[blk_cell b1];rfl
 have z1:=blk_frozen b1
 have k0:W.cell? ⟨cb,co+j*5,none⟩=some (.int .i64 v.k):=cell_later hb (hcv 0 _ rfl)
 have k1:W.cell? ⟨cb,co+j*5+1,none⟩=some (.int .i64 v.n):=cell_later hb (hcv 1 _ rfl)
 have k2:W.cell? ⟨cb,co+j*5+2,none⟩=some (.float .f64 v.f):=cell_later hb (hcv 2 _ rfl)
 have k3:W.cell? ⟨cb,co+j*5+3,none⟩=some (.string v.s):=cell_later hb (hcv 3 _ rfl)
 have k4:W.cell? ⟨cb,co+j*5+4,none⟩=some (.int .i64 v.r):=cell_later hb (hcv 4 _ rfl)
 have hne:w.heap.size+1≠g:=by omega
 obtain⟨W5,hW5⟩:∃W5,((((W.setCell ⟨w.heap.size+1,0,none⟩ (.int .i64 v.k)).setCell ⟨w.heap.size+1,1,none⟩ (.int .i64 v.n)).setCell ⟨w.heap.size+1,2,none⟩ (.float .f64 v.f)).setCell ⟨w.heap.size+1,3,none⟩ (.string v.s)).setCell ⟨w.heap.size+1,4,none⟩ (.int .i64 v.r)=W5:=⟨_,rfl⟩
 have hb5:W5.heap[w.heap.size+1]?=some (vO v):=by
  rw[←hW5]
  exact blk_set (blk_set (blk_set (blk_set (blk_set b1 0 _) 1 _) 2 _) 3 _) 4 _
 have hc5:CallAt W5 g c:=by rw[←hW5];exact blk5 h' hne _ _ _ _ _
 have hi5:W5.heap[w.heap.size]?=some (InO ⟨4,i,j,cc,d⟩):=by rw[←hW5];exact blk5 b0 (by omega) _ _ _ _ _
 have hx5:ButL [g] w W5:=by rw[←hW5];exact but5 (ButL.of_below hb) (by omega) _ _ _ _ _
 obtain⟨e0,e1,e2,e3,e4⟩:=vO_cells hb5
 have e5:W5.cell? ⟨w.heap.size,1,none⟩=some (.int .i64 (i:Int)):=by rw[blk_cell hi5];rfl
 have HC5:Hid (CallAt W5 g c):=hc5
 have HX5:Hid (ButL [g] w W5):=hx5
 have hcp:(j:Int)<(cn:Int):=by omega
 have hcq:(0:Int)≤(j:Int):=by omega
 clear h h' hb b0 b1 hb5 hc5 hi5 hx5 hcv
 go_enter Tryz.func83,Tryz.ntmps83
 go_wp2_with fail
 clear hW
 go_region
 clear r0 r1 r2 r3 r4 k0 k1 k2 k3 k4 d0 d1 d2 z1 c7
 go_wp2_with fail
 refine (put_any g i v c W5.drew HC5.out hr hi).mono ?_
 rintro e w6 ⟨rfl,hc6,hb6⟩
 have HC6:Hid _:=hc6
 have HB6:Hid _:=hb6
 clear hc6 hb6
 go_wp2_with fail
 go_ret
 exact⟨rfl,HC6.out,HX5.out.drew.trans HB6.out⟩
theorem loadm_any (pm:Value) (g i j:Nat) (h0:Int) (v:VD) (pb la:Option Addr) (ln lc:Nat) (n:ID) (c:CallD) (w:World) (h:CallAt w g c) (hr:c.regs.length=250) (hop:n.op=5) (ha:n.a=i) (hi:i<250) (hb0:n.b=(j:Int)) (hj:j<250)
  (hs:c.regs[j]?=some ⟨h0,v,.pointer pb,.slice la ln lc⟩) :
  Calls Tryz.prog 83 #[pm,.pointer (some ⟨g,0,none⟩),insV n] w fun e w'=>e=.returned .nilIface∧CallAt w' g { c with regs:=c.regs.set i (sdV v) }∧ButL [g] w w':=by
 obtain⟨op,a,b,cc,d⟩:=n
 dsimp only[insV]at hop ha hb0 ⊢
 subst hop ha hb0
 obtain⟨W,hW⟩:∃W,(w.alloc (InO ⟨5,i,j,cc,d⟩)).alloc ZvO=W:=⟨_,rfl⟩
 have hb:Below w.heap.size w W:=by rw[←hW];exact bw2 _ _ _
 have b0:W.heap[w.heap.size]?=some (InO ⟨5,i,j,cc,d⟩):=by rw[←hW];exact blk_old (blk_new _ _) _
 have b1:W.heap[w.heap.size+1]?=some ZvO:=by rw[←hW];exact blk_newn (by simp) _
 have hgl:=blk_lt h
 have d0:W.cell? ⟨w.heap.size,0,none⟩=some (.int .i64 5):=by rw[blk_cell b0];rfl
 have d2:W.cell? ⟨w.heap.size,2,none⟩=some (.int .i64 (j:Int)):=by rw[blk_cell b0];rfl
 have HB:Hid (Below w.heap.size w W):=hb
 have HI:Hid (W.heap[w.heap.size]?=some (InO ⟨5,i,j,cc,d⟩)):=b0
 have HZ:Hid (W.heap[w.heap.size+1]?=some ZvO):=b1
 have HC:Hid (CallAt W g c):=h.later hb
 clear h hb b0 b1
 go_enter Tryz.func83,Tryz.ntmps83
 go_wp2_with fail
 clear hW
 refine (value_pos g j h0 v pb la ln lc c _ HC.out hr hj hs).mono ?_
 rintro e w1 ⟨rfl,hx⟩
 have b1:=blk_later hx HZ.out
 have b0:=blk_later hx HI.out
 have r0:w1.cell? ⟨w.heap.size+1,0,none⟩=some (.int .i64 0):=by rw[blk_cell b1];rfl
 have r1:w1.cell? ⟨w.heap.size+1,1,none⟩=some (.int .i64 0):=by rw[blk_cell b1];rfl
 have r2:w1.cell? ⟨w.heap.size+1,2,none⟩=some (.float .f64 0):=by rw[blk_cell b1];rfl
 have r3:w1.cell? ⟨w.heap.size+1,3,none⟩=some (.string ⟨#[]⟩):=by rw[blk_cell b1];rfl
 have r4:w1.cell? ⟨w.heap.size+1,4,none⟩=some (.int .i64 0):=by rw[blk_cell b1];rfl
 have z1:=blk_frozen b1
 have hne:w.heap.size+1≠g:=by omega
 have h1:CallAt w1 g c:=HC.out.later hx
 have hbw:Below w.heap.size w w1:=HB.out.trans (hx.mono HB.out.size)
 obtain⟨W5,hW5⟩:∃W5,((((w1.setCell ⟨w.heap.size+1,0,none⟩ (.int .i64 v.k)).setCell ⟨w.heap.size+1,1,none⟩ (.int .i64 v.n)).setCell ⟨w.heap.size+1,2,none⟩ (.float .f64 v.f)).setCell ⟨w.heap.size+1,3,none⟩ (.string v.s)).setCell ⟨w.heap.size+1,4,none⟩ (.int .i64 v.r)=W5:=⟨_,rfl⟩
 have hb5:W5.heap[w.heap.size+1]?=some (vO v):=by
  rw[←hW5]
  exact blk_set (blk_set (blk_set (blk_set (blk_set b1 0 _) 1 _) 2 _) 3 _) 4 _
 have hc5:CallAt W5 g c:=by rw[←hW5];exact blk5 h1 hne _ _ _ _ _
 have hi5:W5.heap[w.heap.size]?=some (InO ⟨5,i,j,cc,d⟩):=by rw[←hW5];exact blk5 b0 (by omega) _ _ _ _ _
 have hx5:ButL [g] w W5:=by rw[←hW5];exact but5 (ButL.of_below hbw) (by omega) _ _ _ _ _
 obtain⟨e0,e1,e2,e3,e4⟩:=vO_cells hb5
 have e5:W5.cell? ⟨w.heap.size,1,none⟩=some (.int .i64 (i:Int)):=by rw[blk_cell hi5];rfl
 have HC5:Hid (CallAt W5 g c):=hc5
 have HX5:Hid (ButL [g] w W5):=hx5
 clear hx h1 hbw b0 b1 hb5 hc5 hi5 hx5 d0 d2
 go_wp2_with fail
 refine (put_any g i v c _ HC5.out hr hi).mono ?_
 rintro e w6 ⟨rfl,hc6,hb6⟩
 have HC6:Hid _:=hc6
 have HB6:Hid _:=hb6
 clear hc6 hb6
 go_wp2_with fail
 go_ret
 exact⟨rfl,HC6.out,HX5.out.trans HB6.out⟩
theorem eachb_any (pm:Value) (gf i:Nat) (v:VD) (pb la:Option Addr) (ln lc:Nat) (h0:Int) (n:ID) (c:CallD) (w:World) (hc:CallAt w gf c) (ha:n.a=i) (hi:i+1<250) (hr:c.regs.length=250) (hv:v.k=8) (hs:c.regs[i]?=some ⟨h0,v,.pointer pb,.slice la ln lc⟩) :
  Calls Tryz.prog 110 #[pm,.pointer (some ⟨gf,0,none⟩),insV n] w fun e w'=>e=.returned .nilIface∧CallAt w' gf { c with regs:=c.regs.set (i+1) (sdV vd0) }∧ButL [gf] w w':=by
 obtain⟨op,a,b,cc,d⟩:=n
 dsimp only[insV]at ha ⊢
 subst ha
 obtain⟨W,hW⟩:∃W,w.alloc (InO ⟨op,i,b,cc,d⟩)=W:=⟨_,rfl⟩
 have hb:=bw1 w (InO ⟨op,i,b,cc,d⟩)
 have bn:=blk_new w (InO ⟨op,i,b,cc,d⟩)
 have hsz:W.heap.size=w.heap.size+1:=by rw[←hW];simp
 rw[hW]at hb bn
 have hc':CallAt W gf c:=hc.later hb
 have hgl:=blk_lt hc
 have k1:W.cell? ⟨gf,14+i*8+1,none⟩=some (.int .i64 8):=by have:=hc'.reg hs (j:=1) rfl;rw[←Nat.add_assoc,hv]at this;exact this
 have k2:W.cell? ⟨gf,14+i*8+2,none⟩=some (.int .i64 v.n):=by have:=hc'.reg hs (j:=2) rfl;rwa [←Nat.add_assoc]at this
 have k3:W.cell? ⟨gf,14+i*8+3,none⟩=some (.float .f64 v.f):=by have:=hc'.reg hs (j:=3) rfl;rwa [←Nat.add_assoc]at this
 have k4:W.cell? ⟨gf,14+i*8+4,none⟩=some (.string v.s):=by have:=hc'.reg hs (j:=4) rfl;rwa [←Nat.add_assoc]at this
 have k5:W.cell? ⟨gf,14+i*8+5,none⟩=some (.int .i64 v.r):=by have:=hc'.reg hs (j:=5) rfl;rwa [←Nat.add_assoc]at this
 have d1:W.cell? ⟨w.heap.size,1,none⟩=some (.int .i64 (i:Int)):=by rw[blk_cell bn];rfl
 have HC:Hid (CallAt W gf c):=hc'
 have HB:Hid (Below w.heap.size w W):=hb
 clear hc hc' bn hb
 go_enter Tryz.func110,Tryz.ntmps110
 go_wp2_with fail
 clear hW
 go_region
 go_wp2_with fail
 refine (put_int gf (i+1) _ (by simp) vd0 c _ (CallAt.drew (CallAt.later HC.out (bw1 _ _))) hr hi).mono ?_
 rintro e w6 ⟨rfl,hc6,hb6⟩
 have HC6:Hid (CallAt w6 gf { c with regs:=c.regs.set (i+1) (sdV vd0) }):=hc6
 have HB6:Hid (ButL [gf] w w6):=(((ButL.of_below HB.out).alloc _).drew).trans hb6
 clear hc6 hb6
 go_wp2_with fail
 go_ret
 exact⟨rfl,HC6.out,HB6.out⟩
end Go.Proofs.YtkajknidfoelcaaGreatDoor.U
namespace Go.Proofs.YtkajknidfoelcaaGreatDoor.U
open Go.RowKit M T
attribute [local go_sem] run_store_float
theorem elem_nil (w:World):Calls Tryz.prog 129 #[.slice none 0 0,.int .i64 0] w fun e w'=>e=.returned (.agg #[.int .i64 0,.int .i64 0,.float .f64 0,.string ⟨#[]⟩,.int .i64 0])∧Below w.heap.size w w':=by
 go_enter Tryz.func129,Tryz.ntmps129
 go_wp2_with fail
 exact bodyPost_ret (v:=.agg #[.int .i64 0,.int .i64 0,.float .f64 0,.string ⟨#[]⟩,.int .i64 0]) (by simp[results,Tryz.results129,go_sem]) rfl ⟨rfl,bw1 _ _⟩
theorem first_nil (w:World):Calls Tryz.prog 163 #[.slice none 0 0] w fun e w'=>e=.returned (.agg #[.int .i64 0,.int .i64 0,.float .f64 0,.string ⟨#[]⟩,.int .i64 0])∧Below w.heap.size w w':=by
 go_enter Tryz.func163,Tryz.ntmps163
 go_wp2_with fail
 refine (elem_nil _).mono ?_
 rintro e w1 ⟨rfl,hx⟩
 have hr3:=blk_later hx (blk_new w ZvO)
 have r0:w1.cell? ⟨w.heap.size,0,none⟩=some (.int .i64 0):=by rw[blk_cell hr3];rfl
 have r1:w1.cell? ⟨w.heap.size,1,none⟩=some (.int .i64 0):=by rw[blk_cell hr3];rfl
 have r2:w1.cell? ⟨w.heap.size,2,none⟩=some (.float .f64 0):=by rw[blk_cell hr3];rfl
 have r3:w1.cell? ⟨w.heap.size,3,none⟩=some (.string ⟨#[]⟩):=by rw[blk_cell hr3];rfl
 have r4:w1.cell? ⟨w.heap.size,4,none⟩=some (.int .i64 0):=by rw[blk_cell hr3];rfl
 have z3:=blk_frozen hr3
 have HX:Hid (Below w.heap.size w w1):=(bw1 _ _).trans (hx.mono (by simp))
 clear hx hr3
 go_wp2_with fail
 refine bodyPost_ret (v:=.agg #[.int .i64 0,.int .i64 0,.float .f64 0,.string ⟨#[]⟩,.int .i64 0]) (by simp[results,Tryz.results163,go_sem,r0,r1,r2,r3,r4]) rfl ⟨rfl,?_⟩
 exact ButL.nil (but5 (ButL.of_below HX.out) (Nat.le_refl _) _ _ _ _ _)
theorem textOf_nil (pm:Value) (w:World):Calls Tryz.prog 116 #[pm,.slice none 0 0] w fun e w'=>∃g,e=.returned (.tuple #[.slice (some ⟨g,0,none⟩) 1 1,.nilIface])∧w'.heap[g]?=some (vO (strD ⟨#[110,105,108]⟩))∧w.heap.size≤g∧Below w.heap.size w w':=by
 go_enter Tryz.func116,Tryz.ntmps116
 go_wp2_with fail
 refine (first_nil _).mono ?_
 rintro e w1 ⟨rfl,hx1⟩
 have HX1:Hid (Below w.heap.size w w1):=hx1
 clear hx1
 go_wp2_with fail
 refine (textN _).mono ?_
 rintro e w2 ⟨rfl,hx2⟩
 have HX2:Hid (Below w.heap.size w w2):=HX1.out.trans (hx2.mono HX1.out.size)
 clear hx2
 go_wp2_with fail
 refine (strValue_any _ _).mono ?_
 rintro e w3 ⟨rfl,hx3⟩
 have HX3:Hid (Below w.heap.size w w3):=HX2.out.trans (hx3.mono HX2.out.size)
 clear hx3
 go_wp2_with fail
 exact bodyPost_ret (v:=.tuple #[.slice (some ⟨w3.heap.size,0,none⟩) 1 1,.nilIface]) (by simp[results,Tryz.results116,go_sem]) rfl ⟨w3.heap.size,rfl,blk_new _ _,HX3.out.size,HX3.out.trans ((bw1 _ _).mono HX3.out.size)⟩
abbrev txA:Value:=.agg #[.int .i64 8,.int .i64 3,.float .f64 0,.string ⟨#[]⟩,.int .i64 0]
theorem MachD.bui (m:MachD) {q:Nat} (hq:q<15):m.arr[57+q]?=buiT[q]?:=by
 unfold MachD.arr
 rw[List.getElem?_toArray,List.getElem?_append_left (by show 57+q<72;omega),List.getElem?_append_right (by show 57≤57+q;omega)]
 congr 1
 show 57+q-57=q
 omega
theorem cfT (args:Array Value) (W:World):(callFunc 116 args).run Tryz.prog W=.ok (.enter 116 args) W:=by kernel_rfl
theorem callt_go (gm:Nat) (m:MachD) (w:World) (h:MachAt w gm m) (he:m.rticks<m.ticks) (h0:0≤m.rticks) (h1:m.ticks≤100000) :
  Calls Tryz.prog 177 #[.pointer (some ⟨gm,0,none⟩),txA,.slice none 0 0] w fun e w'=>∃g,e=.returned (.tuple #[.slice (some ⟨g,0,none⟩) 1 1,.nilIface])∧w'.heap[g]?=some (vO (strD ⟨#[110,105,108]⟩))∧w.heap.size≤g∧MachAt w' gm { m with rticks:=m.rticks+1 }∧ButL [gm] w w':=by
 obtain⟨W,hW⟩:∃W,w.alloc (vO ⟨8,3,0,⟨#[]⟩,0⟩)=W:=⟨_,rfl⟩
 have hb:Below w.heap.size w W:=by rw[←hW];exact bw1 _ _
 have bn:W.heap[w.heap.size]?=some (vO ⟨8,3,0,⟨#[]⟩,0⟩):=by rw[←hW];exact blk_new _ _
 have HM:Hid (MachAt W gm m):=h.later hb
 have HB:Hid (Below w.heap.size w W):=hb
 have HN:Hid (W.heap[w.heap.size]?=some (vO ⟨8,3,0,⟨#[]⟩,0⟩)):=bn
 have HNE:Hid (w.heap.size≠gm):=by have:=blk_lt h;show _≠_;omega
 clear h hb bn
 go_enter Tryz.func177,Tryz.ntmps177
 go_wp2_with fail
 go_loopw [2,8] (fun a i wr=>a=.slice none 0 0∧i=.int .i64 0∧wr=W) (fun _ _ _=>0)
 case atStart=>exact⟨rfl,rfl,rfl⟩
 case round =>
  obtain⟨rfl,rfl,rfl⟩:=hrel
  clear hW
  go_wp2_with fail
  refine (tick_go gm m _ HM.out he h0 h1).mono ?_
  rintro e w1 ⟨rfl,hm1,hb1⟩
  have bn1:=hb1.blk HN.out (by simp;exact HNE.out)
  obtain⟨d0,d1,d2,d3,d4⟩:=vO_cells bn1
  have q60:w1.cell? ⟨gm,60,none⟩=some (.func (.func 116) #[] #[]):=by rw[hm1.cell,show (60:Nat)=57+3 from rfl,MachD.bui _ (by omega)];rfl
  have HM1:Hid (MachAt w1 gm { m with rticks:=m.rticks+1 }):=hm1
  have HB1:Hid (ButL [gm] w w1):=(ButL.of_below HB.out).trans hb1
  have hcf:=cfT
  clear hm1 hb1 bn1
  go_wp2_with fail
  go_region_with (go_at_call 116;refine (textOf_nil _ _).mono ?_;rintro e w2 ⟨g,rfl,hg,hge,hx2⟩;have HG:Hid (w2.heap[g]?=some (vO (strD ⟨#[110,105,108]⟩))∧w1.heap.size≤g):=⟨hg,hge⟩;have HX2:Hid (Below w1.heap.size w1 w2):=und1' hx2;clear hg hge hx2)
  all_goals
   go_wp2_with fail
   refine bodyPost_ret (v:=.tuple #[.slice (some ⟨g,0,none⟩) 1 1,.nilIface]) (by simp[results,Tryz.results177,go_sem]) rfl ⟨g,rfl,HG.out.1,?_,HM1.out.later HX2.out,HB1.out.thenB HX2.out⟩
   have:=HG.out.2
   have:=HB1.out.size
   omega
end Go.Proofs.YtkajknidfoelcaaGreatDoor.U
