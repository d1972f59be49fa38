import Derived.Test.YtfejmalmnjmanaaGreatDoorS08
import Derived.Test.YtfejmalmnjmanaaGreatDoorS07
import Derived.Test.YtfejmalmnjmanaaGreatDoorS09
set_option linter.unusedVariables false
set_option linter.unusedSimpArgs false
set_option maxRecDepth 20000
set_option maxHeartbeats 8000000
namespace Go.Proofs.YtfejmalmnjmanaaGreatDoor
open Go.RowKit
abbrev StV (r:Bool) (a:Option Addr) (n c:Nat) (b:Option Addr) (m d:Nat):Value:=.agg #[.bool r,.slice a n c,.slice b m d]
abbrev StO (r:Bool) (a:Option Addr) (n c:Nat) (b:Option Addr) (m d:Nat):Obj:=.cells #[.bool r,.slice a n c,.slice b m d] 58
def gEq (x y:GD):Bool:=x.t==y.t&&x.k==y.k&&x.h==y.h
def all2 {α:Type} (eq:α→α→Bool):List α→List α→Bool
 | [],[]=>true
 | x::xs,y::ys=>eq x y&&all2 eq xs ys
 | _,_=>false
theorem all2_drop {α:Type}{eq:α→α→Bool}{xs ys:List α}{m:Nat}{x y:α} (hx:xs[m]?=some x) (hy:ys[m]?=some y):all2 eq (xs.drop m) (ys.drop m)=(eq x y&&all2 eq (xs.drop (m+1)) (ys.drop (m+1))):=by
 obtain ⟨h1,e1⟩:=List.getElem?_eq_some_iff.1 hx
 obtain ⟨h2,e2⟩:=List.getElem?_eq_some_iff.1 hy
 rw[List.drop_eq_getElem_cons h1,List.drop_eq_getElem_cons h2,e1,e2]
 rfl
theorem all2_end {α:Type}{eq:α→α→Bool}{xs ys:List α}{m:Nat} (h:xs.length≤m) (hl:ys.length=xs.length):all2 eq (xs.drop m) (ys.drop m)=true:=by
 rw[List.drop_of_length_le h,List.drop_of_length_le (by omega)];rfl
theorem all2_len {α:Type}{eq:α→α→Bool}:∀ {xs ys:List α},xs.length≠ys.length→all2 eq xs ys=false
 | [],[],h=>absurd rfl h
 | [],_::_,_=>rfl
 | _::_,[],_=>rfl
 | x::xs,y::ys,h=>by
  unfold all2
  rw[all2_len (by simpa using h),Bool.and_false]
theorem eqg_run (x y:GD) (w:World):(binOp .neq 113 (.agg #[.bool x.t,.int .i64 x.k,.int .i64 x.h]) (.agg #[.bool y.t,.int .i64 y.k,.int .i64 y.h])).run Tryz.prog w=.ok (.bool (!gEq x y)) w:=by
 obtain ⟨a,b,c⟩:=x
 obtain ⟨a',b',c'⟩:=y
 unfold gEq
 simp only
 cases h0:(a==a') <;> cases h1:(b==b') <;> cases h2:(c==c') <;> go_simp
theorem same_any (r r':Bool) (a a' b b':Option Addr) (n n' m m' c c' d d':Nat) (ts ts':List Int) (gs gs':List GD) (w:World)
  (hn:ts.length=n) (hn':ts'.length=n') (hm:gs.length=m) (hm':gs'.length=m') (h1:SlA w 1 intC a ts) (h1':SlA w 1 intC a' ts') (h2:SlA w 3 GD.cells b gs) (h2':SlA w 3 GD.cells b' gs') (ln:n≤1048576) (lm:m≤1048576) :
  Calls Tryz.prog 43 #[StV r a n c b m d,StV r' a' n' c' b' m' d'] w fun e w'=>e=.returned (.bool (all2 (·==·) ts ts'&&all2 gEq gs gs'))∧Below w.heap.size w w':=by
 have H1:Hid (SlA w 1 intC a ts):=h1
 have H1':Hid (SlA w 1 intC a' ts'):=h1'
 have H2:Hid (SlA w 3 GD.cells b gs):=h2
 have H2':Hid (SlA w 3 GD.cells b' gs'):=h2'
 have HN:Hid (ts.length=n):=hn
 have HN':Hid (ts'.length=n'):=hn'
 have HM:Hid (gs.length=m):=hm
 have HM':Hid (gs'.length=m'):=hm'
 clear h1 h1' h2 h2' hn hn' hm hm'
 by_cases hnn:n=n'
 ·by_cases hmm:m=m'
  ·subst hnn hmm
   have f1:((n:Int) != (n:Int))=false:=by simp
   have f2:((m:Int) != (m:Int))=false:=by simp
   go_enter Tryz.func43,Tryz.ntmps43
   go_wp2_with fail
   have B0:Hid (((w.alloc (StO r a n c b m d)).alloc (StO r' a' n c' b' m d')).heap[w.heap.size]?=some (StO r a n c b m d)):=qIz (qKz _ _) _
   have B1:Hid (((w.alloc (StO r a n c b m d)).alloc (StO r' a' n c' b' m d')).heap[w.heap.size+1]?=some (StO r' a' n c' b' m d')):=qNz (by simp) _
   go_loopw [26] (fun i wr=>∃ q:Nat,q≤n∧i=.int .i64 q∧Below w.heap.size w wr∧Hid (wr.heap[w.heap.size]?=some (StO r a n c b m d))∧Hid (wr.heap[w.heap.size+1]?=some (StO r' a' n c' b' m d'))∧Hid (all2 (·==·) (ts.drop q) (ts'.drop q)=all2 (·==·) ts ts')) (fun i _=>n-(intOf i).toNat)
   case atStart=>exact ⟨0,Nat.zero_le _,rfl,bw2 _ _ _,B0,B1,rfl⟩
   case round =>
    clear B0 B1
    obtain ⟨q,hq,rfl,hB,B0,B1,HF⟩:=hrel
    by_cases k1:q<n
    ·obtain ⟨x,hx⟩:∃ x,ts[q]?=some x:=⟨ts[q]'(by rw[HN.out];exact k1),by simp⟩
     obtain ⟨y,hy⟩:∃ y,ts'[q]?=some y:=⟨ts'[q]'(by rw[HN'.out];exact k1),by simp⟩
     obtain ⟨b1,o1,rfl,_,hc⟩:=H1.out q x hx
     obtain ⟨b2,o2,rfl,_,hc'⟩:=H1'.out q y hy
     have e1:wr.cell? ⟨b1,o1+q,none⟩=some (.int .i64 x):=by have h:=cell_later hB (hc 0 _ rfl);simpa using h
     have e2:wr.cell? ⟨b2,o2+q,none⟩=some (.int .i64 y):=by have h:=cell_later hB (hc' 0 _ rfl);simpa using h
     have s0:wr.cell? ⟨w.heap.size,1,none⟩=some (.slice (some ⟨b1,o1,none⟩) n c):=by rw[qAz B0.out];rfl
     have s1:wr.cell? ⟨w.heap.size+1,1,none⟩=some (.slice (some ⟨b2,o2,none⟩) n c'):=by rw[qAz B1.out];rfl
     have HD:Hid (((x==y)&&all2 (·==·) (ts.drop (q+1)) (ts'.drop (q+1)))=all2 (·==·) ts ts'):=by have h:=HF.out;rw[all2_drop hx hy] at h;exact h
     clear hx hy hc hc' HF
     cases hxy:(x==y)
     ·have hne:(x != y)=true:=by simp only[bne,hxy];rfl
      have HR:Hid ((all2 (·==·) ts ts'&&all2 gEq gs gs')=false):=by show (_&&_)=false;rw[←HD.out,hxy];rfl
      go_wp2_with fail
      have l1:=qHz e1;have l2:=qHz e2;have l3:=qHz s0;have l4:=qHz s1
      haveI:=lat_some wr
      clear e1 e2 s0 s1
      refine qOz (by kernel_rfl) (by kernel_rfl) ?_
      repeat (go_big_quiet_step (fail))
      refine wpQuiet_nil ?_
      rintro _ ⟨nq,rfl⟩
      have hz:=hB.trans (nq.below.mono hB.size)
      go_wp2_with fail
      go_ret
      exact ⟨ret_bo HR.out.symm,hz⟩
     ·have hne:(x != y)=false:=by simp only[bne,hxy];rfl
      have HF1:Hid (all2 (·==·) (ts.drop (q+1)) (ts'.drop (q+1))=all2 (·==·) ts ts'):=by have h:=HD.out;rw[hxy,Bool.true_and] at h;exact h
      clear HD
      go_wp2_with fail
      have l1:=qHz e1;have l2:=qHz e2;have l3:=qHz s0;have l4:=qHz s1
      haveI:=lat_some wr
      clear e1 e2 s0 s1
      refine qOz (by kernel_rfl) (by kernel_rfl) ?_
      repeat (go_big_quiet_step (fail))
      refine wpQuiet_nil ?_
      rintro _ ⟨nq,rfl⟩
      have hz:=hB.trans (nq.below.mono hB.size)
      replace B0:Hid _:=qBz nq.below B0.out
      replace B1:Hid _:=qBz nq.below B1.out
      clear l1 l2 l3 l4
      go_wp2_with fail
      go_roundw
      case rel=>exact ⟨q+1,by omega,by go_num,hz,B0,B1,HF1⟩
      case measure=>simp[intOf];omega
    ·have HT:Hid (all2 (·==·) ts ts'=true):=by show all2 _ _ _=true;rw[←HF.out];exact all2_end (by rw[HN.out];omega) (by rw[HN.out,HN'.out])
     clear HF
     have s0:wr.cell? ⟨w.heap.size,2,none⟩=some (.slice b m d):=by rw[qAz B0.out];rfl
     go_wp2_with fail
     clear s0 k1 hq
     go_loopw [44] (fun i wr=>∃ q:Nat,q≤m∧i=.int .i64 q∧Below w.heap.size w wr∧Hid (wr.heap[w.heap.size]?=some (StO r a n c b m d))∧Hid (wr.heap[w.heap.size+1]?=some (StO r' a' n c' b' m d'))∧Hid (all2 gEq (gs.drop q) (gs'.drop q)=all2 gEq gs gs')) (fun i _=>m-(intOf i).toNat)
     case atStart=>exact ⟨0,Nat.zero_le _,rfl,hB,B0,B1,rfl⟩
     case round =>
      clear hB B0 B1
      obtain ⟨q,hq,rfl,hB,B0,B1,HF⟩:=hrel
      by_cases k1:q<m
      ·obtain ⟨x,hx⟩:∃ x,gs[q]?=some x:=⟨gs[q]'(by rw[HM.out];exact k1),by simp⟩
       obtain ⟨y,hy⟩:∃ y,gs'[q]?=some y:=⟨gs'[q]'(by rw[HM'.out];exact k1),by simp⟩
       obtain ⟨b1,o1,rfl,_,hc⟩:=H2.out q x hx
       obtain ⟨b2,o2,rfl,_,hc'⟩:=H2'.out q y hy
       have e0:wr.cell? ⟨b1,o1+q*3,none⟩=some (.bool x.t):=cell_later hB (hc 0 _ rfl)
       have e1:wr.cell? ⟨b1,o1+q*3+1,none⟩=some (.int .i64 x.k):=cell_later hB (hc 1 _ rfl)
       have e2:wr.cell? ⟨b1,o1+q*3+2,none⟩=some (.int .i64 x.h):=cell_later hB (hc 2 _ rfl)
       have g0:wr.cell? ⟨b2,o2+q*3,none⟩=some (.bool y.t):=cell_later hB (hc' 0 _ rfl)
       have g1:wr.cell? ⟨b2,o2+q*3+1,none⟩=some (.int .i64 y.k):=cell_later hB (hc' 1 _ rfl)
       have g2:wr.cell? ⟨b2,o2+q*3+2,none⟩=some (.int .i64 y.h):=cell_later hB (hc' 2 _ rfl)
       have s0:wr.cell? ⟨w.heap.size,2,none⟩=some (.slice (some ⟨b1,o1,none⟩) m d):=by rw[qAz B0.out];rfl
       have s1:wr.cell? ⟨w.heap.size+1,2,none⟩=some (.slice (some ⟨b2,o2,none⟩) m d'):=by rw[qAz B1.out];rfl
       have HD:Hid ((gEq x y&&all2 gEq (gs.drop (q+1)) (gs'.drop (q+1)))=all2 gEq gs gs'):=by have h:=HF.out;rw[all2_drop hx hy] at h;exact h
       have hrun:=eqg_run x y
       clear hx hy hc hc' HF
       cases hxy:gEq x y
       ·rw[hxy] at hrun
        have HR:Hid ((all2 (·==·) ts ts'&&all2 gEq gs gs')=false):=by show (_&&_)=false;rw[←HD.out,hxy,Bool.false_and,Bool.and_false]
        go_wp2_with fail
        have l0:=qHz e0;have l1:=qHz e1;have l2:=qHz e2;have l3:=qHz g0;have l4:=qHz g1;have l5:=qHz g2;have l6:=qHz s0;have l7:=qHz s1
        haveI:=lat_some wr
        clear e0 e1 e2 g0 g1 g2 s0 s1
        refine qOz (by kernel_rfl) (by kernel_rfl) ?_
        repeat (go_big_quiet_step (fail))
        refine wpQuiet_nil ?_
        rintro _ ⟨nq,rfl⟩
        have hz:=hB.trans (nq.below.mono hB.size)
        go_wp2_with fail
        go_ret
        exact ⟨ret_bo HR.out.symm,hz⟩
       ·rw[hxy] at hrun
        have HF1:Hid (all2 gEq (gs.drop (q+1)) (gs'.drop (q+1))=all2 gEq gs gs'):=by have h:=HD.out;rw[hxy,Bool.true_and] at h;exact h
        clear HD
        go_wp2_with fail
        have l0:=qHz e0;have l1:=qHz e1;have l2:=qHz e2;have l3:=qHz g0;have l4:=qHz g1;have l5:=qHz g2;have l6:=qHz s0;have l7:=qHz s1
        haveI:=lat_some wr
        clear e0 e1 e2 g0 g1 g2 s0 s1
        refine qOz (by kernel_rfl) (by kernel_rfl) ?_
        repeat (go_big_quiet_step (fail))
        refine wpQuiet_nil ?_
        rintro _ ⟨nq,rfl⟩
        have hz:=hB.trans (nq.below.mono hB.size)
        replace B0:Hid _:=qBz nq.below B0.out
        replace B1:Hid _:=qBz nq.below B1.out
        clear l0 l1 l2 l3 l4 l5 l6 l7 hrun
        go_wp2_with fail
        go_roundw
        case rel=>exact ⟨q+1,by omega,by go_num,hz,B0,B1,HF1⟩
        case measure=>simp[intOf];omega
      ·have HR:Hid ((all2 (·==·) ts ts'&&all2 gEq gs gs')=true):=by show (_&&_)=true;rw[HT.out,← HF.out,all2_end (by rw[HM.out];omega) (by rw[HM.out,HM'.out])];rfl
       clear HF
       go_wp2_with fail
       go_ret
       exact ⟨ret_bo HR.out.symm,hB⟩
  ·have HR:Hid ((all2 (·==·) ts ts'&&all2 gEq gs gs')=false):=by
    show (_&&_)=false
    rw[all2_len (xs:=gs) (ys:=gs') (by rw[HM.out,HM'.out];exact hmm),Bool.and_false]
   subst hnn
   have f1:((n:Int) != (n:Int))=false:=by simp
   have f2:((m:Int) != (m':Int))=true:=by simp;omega
   go_enter Tryz.func43,Tryz.ntmps43
   go_wp2_with fail
   go_ret
   exact ⟨ret_bo HR.out.symm,bw2 _ _ _⟩
 ·have HR:Hid ((all2 (·==·) ts ts'&&all2 gEq gs gs')=false):=by
   show (_&&_)=false
   rw[all2_len (xs:=ts) (ys:=ts') (by rw[HN.out,HN'.out];exact hnn),Bool.false_and]
  have f1:((n:Int) != (n':Int))=true:=by simp;omega
  go_enter Tryz.func43,Tryz.ntmps43
  go_wp2_with fail
  go_ret
  exact ⟨ret_bo HR.out.symm,bw2 _ _ _⟩
theorem all2_iff {α:Type}{eq:α→α→Bool} (h:∀ x y,eq x y=true ↔ x=y):∀ xs ys:List α,all2 eq xs ys=true ↔ xs=ys
 | [],[]=>by simp[all2]
 | [],_::_=>by simp[all2]
 | _::_,[]=>by simp[all2]
 | x::xs,y::ys=>by simp[all2,h,all2_iff h xs ys]
def sEq (x y:SD):Bool:=all2 (·==·) x.ts y.ts&&all2 gEq x.gs y.gs
def id0:ID:=⟨0,0,0,0,0⟩
def reachW (s:WkS) (t:Nat) (x:SD):Option WkS :=
 match s.st.getD t none with
 | none=>some ⟨s.st.set t (some x),s.due.set t true⟩
 | some y=>if sEq y x=true then some s else none
def leadW:List (Nat × SD)→WkS→Except Nat WkS
 | [],s=>.ok s
 | x::r,s=>match reachW s x.1 x.2 with
  | some s'=>leadW r s'
  | none=>.error x.1
def behindV (c:List FD) (n:ID) (x:SD):Except Nat SD :=
 match readV c n x.ts with
 | none=>.error 10
 | some r=>match changeV n x.gs with
  | none=>.error 11
  | some gs=>if keptV x.gs r.taken x.ts (writeV n r.ts)=true then .ok ⟨writeV n r.ts,gs⟩ else .error 12
def passW (c:List FD) (ins:List ID) (a:Nat) (s:WkS):Except (Nat × Nat) WkS :=
 match s.st.getD a none with
 | none=>.error (0,0)
 | some x=>match behindV c (ins.getD a id0) x with
  | .error k=>.error (k,a)
  | .ok y=>match leadW (followV (ins.getD a id0) a x y) ⟨s.st,s.due.set a false⟩ with
   | .error t=>.error (13,t)
   | .ok s'=>.ok s'
def IsLeast (due:List Bool) (a:Nat):Prop:=due[a]?=some true∧∀ b:Nat,b<a→due[b]?≠some true
def AllOff (due:List Bool):Prop:=∀ b:Nat,due[b]?≠some true
theorem IsLeast.uniq {due:List Bool}{a b:Nat} (h:IsLeast due a) (h':IsLeast due b):a=b:=by
 rcases Nat.lt_trichotomy a b with hl|hl|hl
 ·exact absurd h.1 (h'.2 a hl)
 ·exact hl
 ·exact absurd h'.1 (h.2 b hl)
theorem least_or:∀ due:List Bool,AllOff due∨∃ a,IsLeast due a
 | []=>.inl fun b=>by simp
 | true::_=>.inr ⟨0,rfl,fun b hb=>by omega⟩
 | false::r=>by
  rcases least_or r with h|⟨a,h⟩
  ·exact .inl fun b=>by cases b with|zero=>simp|succ b=>simpa using h b
  ·exact .inr ⟨a+1,by simpa using h.1,fun b hb=>by cases b with|zero=>simp|succ b=>simpa using h.2 b (by omega)⟩
def Runs (c:List FD) (ins:List ID):Nat→WkS→Except (Nat × Nat) WkS→Prop
 | 0,s,r=>(AllOff s.due∧r=.ok s)∨∃ a e,IsLeast s.due a∧passW c ins a s=.error e∧r=.error e
 | k+1,s,r=>∃ a s',IsLeast s.due a∧passW c ins a s=.ok s'∧Runs c ins k s' r
theorem Runs.uniq {c:List FD}{ins:List ID}:∀ {k k':Nat}{s:WkS}{r r':Except (Nat × Nat) WkS},Runs c ins k s r→Runs c ins k' s r'→r=r'∧k=k'
 | 0,0,s,r,r',h,h'=>by
  rcases h with ⟨h1,rfl⟩|⟨a,e,h1,h2,rfl⟩ <;> rcases h' with ⟨h3,rfl⟩|⟨a',e',h3,h4,rfl⟩
  ·exact ⟨rfl,rfl⟩
  ·exact absurd h3.1 (h1 _)
  ·exact absurd h1.1 (h3 _)
  ·cases h1.uniq h3;rw[h2] at h4;cases h4;exact ⟨rfl,rfl⟩
 | 0,k'+1,s,r,r',h,h'=>by
  obtain ⟨a',s',h3,h4,_⟩:=h'
  rcases h with ⟨h1,rfl⟩|⟨a,e,h1,h2,rfl⟩
  ·exact absurd h3.1 (h1 _)
  ·cases h1.uniq h3;rw[h2] at h4;cases h4
 | k+1,0,s,r,r',h,h'=>by
  obtain ⟨a',s',h3,h4,_⟩:=h
  rcases h' with ⟨h1,rfl⟩|⟨a,e,h1,h2,rfl⟩
  ·exact absurd h3.1 (h1 _)
  ·cases h1.uniq h3;rw[h2] at h4;cases h4
 | k+1,k'+1,s,r,r',h,h'=>by
  obtain ⟨a,s1,h1,h2,h5⟩:=h
  obtain ⟨a',s2,h3,h4,h6⟩:=h'
  cases h1.uniq h3
  rw[h2] at h4
  cases h4
  obtain ⟨e1,e2⟩:=Runs.uniq h5 h6
  exact ⟨e1,by rw[e2]⟩
def mu (s:WkS):Nat:=2*s.st.countP (·.isNone)+s.due.countP (·==true)
theorem countP_set {α:Type} (p:α→Bool):∀ (l:List α) (i:Nat) (x y:α),l[i]?=some y→(l.set i x).countP p+(if p y then 1 else 0)=l.countP p+(if p x then 1 else 0)
 | [],i,x,y,h=>by simp at h
 | z::l,0,x,y,h=>by
  simp only[List.getElem?_cons_zero,Option.some.injEq] at h
  subst h
  simp only[List.set_cons_zero,List.countP_cons]
  omega
 | z::l,i+1,x,y,h=>by
  have ih:=countP_set p l i x y (by simpa using h)
  simp only[List.set_cons_succ,List.countP_cons]
  omega
theorem reachW_len {s s':WkS}{t:Nat}{x:SD} (h:reachW s t x=some s'):s'.st.length=s.st.length∧s'.due.length=s.due.length:=by
 unfold reachW at h
 split at h
 ·cases h;simp
 ·split at h
  ·cases h;exact ⟨rfl,rfl⟩
  ·cases h
theorem mu_reach {s s':WkS}{t:Nat}{x:SD} (hl:s.st.length=s.due.length) (h:reachW s t x=some s'):mu s'≤mu s:=by
 unfold reachW at h
 split at h
 ·rename_i h0
  cases h
  by_cases ht:t<s.st.length
  ·have e1:s.st[t]?=some none:=by
    rw[List.getD_eq_getElem?_getD,List.getElem?_eq_getElem ht] at h0
    rw[List.getElem?_eq_getElem ht]
    exact congrArg some (by simpa using h0)
   have e2:s.due[t]?=some (s.due[t]'(by omega)):=List.getElem?_eq_getElem (by omega)
   have c1:=countP_set (·.isNone) s.st t (some x) none e1
   have c2:=countP_set (·==true) s.due t true _ e2
   simp only[Option.isNone_none,Option.isNone_some,if_true,if_false,Bool.false_eq_true,beq_self_eq_true] at c1 c2
   unfold mu
   split at c2 <;> dsimp only at c1 c2 ⊢ <;> omega
  ·rw[List.set_eq_of_length_le (by omega),List.set_eq_of_length_le (by omega)]
   exact Nat.le_refl _
 ·split at h
  ·cases h;exact Nat.le_refl _
  ·cases h
theorem mu_lead {l:List (Nat × SD)}{s s':WkS} (hl:s.st.length=s.due.length) (h:leadW l s=.ok s'):mu s'≤mu s∧s'.st.length=s.st.length∧s'.due.length=s.due.length:=by
 induction l generalizing s with
 | nil=>cases h;exact ⟨Nat.le_refl _,rfl,rfl⟩
 | cons x l ih =>
  unfold leadW at h
  split at h
  ·rename_i s1 h1
   obtain ⟨e1,e2⟩:=reachW_len h1
   obtain ⟨i1,i2,i3⟩:=ih (by omega) h
   exact ⟨Nat.le_trans i1 (mu_reach hl h1),by omega,by omega⟩
  ·cases h
theorem mu_pass {c:List FD}{ins:List ID}{a:Nat}{s s':WkS} (hl:s.st.length=s.due.length) (ha:s.due[a]?=some true) (h:passW c ins a s=.ok s'):mu s'<mu s∧s'.st.length=s.st.length∧s'.due.length=s.due.length:=by
 unfold passW at h
 split at h
 ·cases h
 ·split at h
  ·cases h
  ·split at h
   ·cases h
   ·rename_i s1 h1
    cases h
    obtain ⟨i1,i2,i3⟩:=mu_lead (by simpa using hl) h1
    have c2:=countP_set (·==true) s.due a false true ha
    simp only[beq_self_eq_true,if_true] at c2
    refine ⟨Nat.lt_of_le_of_lt i1 ?_,i2,by simpa using i3⟩
    unfold mu
    simp at c2 ⊢
    omega
theorem runs_ex (c:List FD) (ins:List ID):∀ (m:Nat) (s:WkS),s.st.length=s.due.length→mu s≤m→∃ k r,Runs c ins k s r:=by
 intro m
 induction m with
 | zero =>
  intro s hl hm
  rcases least_or s.due with h|⟨a,h⟩
  ·exact ⟨0,_,.inl ⟨h,rfl⟩⟩
  ·cases hp:passW c ins a s with
   | error e=>exact ⟨0,_,.inr ⟨a,e,h,hp,rfl⟩⟩
   | ok s'=>have:=(mu_pass hl h.1 hp).1;omega
 | succ m ih =>
  intro s hl hm
  rcases least_or s.due with h|⟨a,h⟩
  ·exact ⟨0,_,.inl ⟨h,rfl⟩⟩
  ·cases hp:passW c ins a s with
   | error e=>exact ⟨0,_,.inr ⟨a,e,h,hp,rfl⟩⟩
   | ok s' =>
    obtain ⟨p1,p2,p3⟩:=mu_pass hl h.1 hp
    obtain ⟨k,r,hr⟩:=ih s' (by omega) (by omega)
    exact ⟨k+1,r,a,s',h,hp,hr⟩
def GOk (regs:Nat) (gs:List GD):Prop:=gs.length≤50∧∀ g∈gs,0≤g.k∧g.k≤regs
def SOk (regs:Nat) (x:SD):Prop:=x.ts.length=regs∧GOk regs x.gs
structure WOk (regs n:Nat) (s:WkS):Prop where
 l1:s.st.length=n
 l2:s.due.length=n
 ok:∀ (a:Nat) x,s.st[a]?=some (some x)→SOk regs x
 due:∀ a:Nat,s.due[a]?=some true→∃ x,s.st[a]?=some (some x)
theorem reachW_ok {regs n:Nat}{s s':WkS}{t:Nat}{x:SD} (h:WOk regs n s) (hx:SOk regs x) (hr:reachW s t x=some s'):WOk regs n s':=by
 have hl:=reachW_len hr
 unfold reachW at hr
 split at hr
 ·rename_i h0
  cases hr
  refine ⟨by simpa using h.l1,by simpa using h.l2,fun a y hy=>?_,fun a ha=>?_⟩
  ·rw[List.getElem?_set] at hy
   split at hy
   ·split at hy
    ·cases hy;exact hx
    ·cases hy
   ·exact h.ok a y hy
  ·rw[List.getElem?_set] at ha
   rw[List.getElem?_set]
   split at ha
   ·rename_i e
    subst e
    split at ha
    ·rename_i hlt
     rw[if_pos rfl,if_pos (by have:=h.l1;have:=h.l2;omega)]
     exact ⟨_,rfl⟩
    ·cases ha
   ·rename_i e
    rw[if_neg e]
    exact h.due a ha
 ·split at hr
  ·cases hr;exact h
  ·cases hr
theorem leadW_ok {regs n:Nat}{l:List (Nat × SD)}{s s':WkS} (h:WOk regs n s) (hx:∀ y∈l,SOk regs y.2) (hr:leadW l s=.ok s'):WOk regs n s':=by
 induction l generalizing s with
 | nil=>cases hr;exact h
 | cons y l ih =>
  unfold leadW at hr
  split at hr
  ·rename_i s1 h1
   exact ih (reachW_ok h (hx y (by simp)) h1) (fun z hz=>hx z (List.mem_cons_of_mem _ hz)) hr
  ·cases hr
theorem WOk.off {regs n:Nat}{s:WkS} (h:WOk regs n s) (a:Nat):WOk regs n ⟨s.st,s.due.set a false⟩ :=
 ⟨h.l1,by simpa using h.l2,h.ok,fun b hb=>by
  dsimp only at hb ⊢
  rw[List.getElem?_set] at hb
  split at hb
  ·split at hb <;> cases hb
  ·exact h.due b hb⟩
theorem fits_iff {np:Nat}{f:FD}{r x:Int}:fitsB np f r x=true ↔ (lohi np f r).1≤x∧x≤(lohi np f r).2:=by simp[fitsB,inR]
theorem fits_reg {np:Nat}{f:FD}{r x:Int} (h:fitsB np f r x=true) (h0:0≤f.regs):regOk f.regs.toNat r x:=by
 rw[fits_iff] at h
 intro hw
 have hr:r=2∨r=3∨r=4∨r=5∨r=6∨r=18∨r=19∨r=20:=by
  apply Classical.byContradiction
  intro hn
  apply hw
  unfold wantsV
  have e:¬r=2∧¬r=3∧¬r=4∧¬r=5∧¬r=6∧¬r=18∧¬r=19∧¬r=20:=by omega
  simp[e]
 rcases hr with rfl|rfl|rfl|rfl|rfl|rfl|rfl|rfl <;> simp[lohi,wantsV] at h ⊢ <;> first|(split <;> omega)|omega
structure InsOk (regs nI:Nat) (n:ID):Prop where
 op1:1≤n.op
 op2:n.op≤42
 reg:∀ x∈fldV n,regOk regs x.1 x.2
 wa:rl n.op 0=1∨n.op=42→0≤n.a∧n.a<regs
 wb:n.op=40→0≤n.a∧n.a+1<regs
 wc:n.op=41→0≤n.c∧n.c<regs
 k31:n.op=31→0≤n.b∧n.b+2≤regs
 k33:n.op=33∨n.op=34→0≤n.a∧n.a≤regs
 ta:n.op=19∨n.op=31→0≤n.a∧n.a<nI
 tb:n.op=20∨n.op=21∨n.op=38∨n.op=39∨n.op=41→0≤n.b∧n.b<nI
theorem insOk_of {np:Nat}{f:FD}{n:ID} (h:fieldsB np f n=true) (h0:0≤f.regs):InsOk f.regs.toNat f.ins.length n:=by
 unfold fieldsB at h
 simp only[Bool.and_eq_true] at h
 obtain ⟨⟨⟨⟨ho,ha⟩,hb⟩,hc⟩,hd⟩:=h
 have ho':1≤n.op∧n.op≤42:=by simpa [inR] using ho
 refine ⟨ho'.1,ho'.2,?_,?_,?_,?_,?_,?_,?_,?_⟩
 ·intro x hx
  simp only[fldV,List.mem_cons,List.not_mem_nil,or_false] at hx
  rcases hx with rfl|rfl|rfl|rfl
  ·exact fits_reg ha h0
  ·exact fits_reg hb h0
  ·exact fits_reg hc h0
  ·exact fits_reg hd h0
 ·intro e
  rw[fits_iff] at ha
  rcases e with e|e
  ·rw[e] at ha;simp[lohi] at ha;omega
  ·rw[e,show rl 42 0=21 from rfl] at ha;simp[lohi] at ha;omega
 ·intro e;rw[fits_iff,e,show rl 40 0=19 from rfl] at ha;simp[lohi] at ha;omega
 ·intro e;rw[fits_iff,e,show rl 41 2=1 from rfl] at hc;simp[lohi] at hc;omega
 ·intro e;rw[fits_iff,e,show rl 31 1=14 from rfl] at hb;simp[lohi] at hb;omega
 ·rintro (e|e)
  ·rw[fits_iff,e,show rl 33 0=13 from rfl] at ha;simp[lohi] at ha;omega
  ·rw[fits_iff,e,show rl 34 0=13 from rfl] at ha;simp[lohi] at ha;omega
 ·rintro (e|e)
  ·rw[fits_iff,e,show rl 19 0=10 from rfl] at ha;simp[lohi] at ha;omega
  ·rw[fits_iff,e,show rl 31 0=10 from rfl] at ha;simp[lohi] at ha;omega
 ·rintro (e|e|e|e|e)
  ·rw[fits_iff,e,show rl 20 1=10 from rfl] at hb;simp[lohi] at hb;omega
  ·rw[fits_iff,e,show rl 21 1=10 from rfl] at hb;simp[lohi] at hb;omega
  ·rw[fits_iff,e,show rl 38 1=10 from rfl] at hb;simp[lohi] at hb;omega
  ·rw[fits_iff,e,show rl 39 1=10 from rfl] at hb;simp[lohi] at hb;omega
  ·rw[fits_iff,e,show rl 41 1=10 from rfl] at hb;simp[lohi] at hb;omega
theorem rdStep_len {role x:Int}{s s':RdS} (h:rdStep role x s=some s'):s'.ts.length=s.ts.length:=by
 unfold rdStep at h
 split at h
 ·cases h;rfl
 ·split at h
  ·obtain ⟨s1,h1,h2⟩:=Option.bind_eq_some_iff.1 h
   have e1:s1.ts.length=s.ts.length:=by
    unfold rdTake at h1
    split at h1
    ·split at h1
     ·cases h1
     ·cases h1;simp
    ·split at h1 <;> cases h1 <;> rfl
   have e2:s'.ts.length=s1.ts.length:=by
    unfold rdMore at h2
    split at h2
    ·split at h2 <;> cases h2;rfl
    ·split at h2
     ·split at h2 <;> cases h2;rfl
     ·split at h2
      ·split at h2 <;> cases h2;rfl
      ·cases h2;rfl
   rw[e2,e1]
  ·cases h
theorem rdAll_len {fs:List (Int × Int)}{s s':RdS} (h:rdAll fs s=some s'):s'.ts.length=s.ts.length:=by
 induction fs generalizing s with
 | nil=>simp[rdAll] at h;rw[h]
 | cons f fs ih =>
  simp only[rdAll] at h
  obtain ⟨s1,h1,h2⟩:=Option.bind_eq_some_iff.1 h
  rw[ih h2,rdStep_len h1]
theorem readV_len {c:List FD}{n:ID}{ts:List Int}{s:RdS} (h:readV c n ts=some s):s.ts.length=ts.length:=by
 rw[readV_all] at h
 obtain ⟨s1,h1,h2⟩:=Option.bind_eq_some_iff.1 h
 have:=rdAll_len h1
 split at h2
 ·split at h2
  ·cases h2;exact this
  ·cases h2
 ·cases h2;exact this
theorem writeV_len (n:ID) (ts:List Int):(writeV n ts).length=ts.length:=by
 unfold writeV
 repeat' split
 all_goals simp
theorem changeV_ok {regs nI:Nat}{n:ID}{gs gs':List GD} (hn:InsOk regs nI n) (h:GOk regs gs) (hc:changeV n gs=some gs'):GOk regs gs':=by
 have hd:GOk regs gs.dropLast:=⟨by have:=h.1;simp;omega,fun g hg=>h.2 g (List.dropLast_subset _ hg)⟩
 unfold changeV at hc
 split at hc
 ·rename_i e
  split at hc
  ·rename_i h1
   cases hc
   have:=hn.k31 e
   exact ⟨by simp;omega,fun g hg=>by rcases List.mem_append.1 hg with hg|hg;exact h.2 g hg;simp at hg;subst hg;dsimp only;omega⟩
  ·cases hc
 ·split at hc
  ·rename_i e
   split at hc
   ·rename_i h1
    cases hc
    have:=hn.k33 (.inl e)
    exact ⟨by simp;omega,fun g hg=>by rcases List.mem_append.1 hg with hg|hg;exact h.2 g hg;simp at hg;subst hg;dsimp only;omega⟩
   ·cases hc
  ·split at hc
   ·split at hc
    ·split at hc
     ·cases hc;exact hd
     ·cases hc
    ·cases hc
   ·split at hc
    ·rename_i e
     split at hc
     ·rename_i g hgl
      split at hc
      ·cases hc
       have:=hn.k33 (.inr e)
       have hne:gs≠[]:=by rintro rfl;simp at hgl
       have hlp:=List.length_pos_iff.2 hne
       exact ⟨by have:=h.1;simp;omega,fun g hg=>by rcases List.mem_append.1 hg with hg|hg;exact hd.2 g hg;simp at hg;subst hg;dsimp only;omega⟩
      ·cases hc
     ·cases hc
    ·split at hc
     ·split at hc
      ·split at hc
       ·cases hc;exact h
       ·cases hc
      ·cases hc
     ·split at hc
      ·split at hc
       ·split at hc
        ·cases hc;exact hd
        ·cases hc
       ·cases hc
      ·cases hc;exact h
theorem behindV_ok {regs nI:Nat}{c:List FD}{n:ID}{x y:SD} (hn:InsOk regs nI n) (h:SOk regs x) (hb:behindV c n x=.ok y):SOk regs y:=by
 unfold behindV at hb
 split at hb
 ·cases hb
 ·rename_i r hr
  split at hb
  ·cases hb
  ·rename_i gs hg
   split at hb
   ·cases hb
    exact ⟨by rw[writeV_len,readV_len hr];exact h.1,changeV_ok hn h.2 hg⟩
   ·cases hb
theorem caught_ok {regs nI:Nat}{n:ID}{x:SD} (hn:InsOk regs nI n) (h:SOk regs x) (e:n.op=31):SOk regs (caughtV n x):=by
 have:=hn.k31 e
 have hl:=h.1
 exact ⟨by simp[caughtV];omega,h.2⟩
theorem followV_ok {regs nI:Nat}{n:ID}{a:Nat}{x y:SD} (hn:InsOk regs nI n) (hx:SOk regs x) (hy:SOk regs y):∀ z∈followV n a x y,SOk regs z.2:=by
 intro z hz
 unfold followV at hz
 rcases List.mem_append.1 hz with hz|hz
 ·split at hz
  ·simp at hz;subst hz;exact hy
  ·cases hz
 ·split at hz
  ·simp at hz
   subst hz
   dsimp only
   split
   ·exact hx
   ·split
    ·rename_i e;exact caught_ok hn hx e
    ·exact hy
  ·cases hz
theorem followV_lt {regs nI:Nat}{n:ID}{a:Nat}{x y:SD} (hn:InsOk regs nI n) (ha:goesV n.op=true→a+1<nI):∀ z∈followV n a x y,z.1<nI:=by
 intro z hz
 unfold followV at hz
 rcases List.mem_append.1 hz with hz|hz
 ·split at hz
  ·rename_i e;simp at hz;subst hz;exact ha e
  ·cases hz
 ·split at hz
  ·rename_i t ht
   simp at hz
   subst hz
   dsimp only
   unfold targetV at ht
   split at ht
   ·rename_i e;have:=hn.ta e;simp at ht;omega
   ·split at ht
    ·rename_i e;have:=hn.tb e;simp at ht;omega
    ·cases ht
  ·cases hz
theorem passW_ok {regs nI:Nat}{c:List FD}{ins:List ID}{a:Nat}{s s':WkS} (hi:∀ n∈ins,InsOk regs nI n) (ha:a<ins.length) (h:WOk regs nI s) (hp:passW c ins a s=.ok s'):WOk regs nI s':=by
 have hn:InsOk regs nI (ins.getD a id0):=hi _ (by rw[List.getD_eq_getElem?_getD,List.getElem?_eq_getElem ha];exact List.getElem_mem ha)
 unfold passW at hp
 split at hp
 ·cases hp
 ·rename_i x hx
  have hx':s.st[a]?=some (some x):=by
   rw[List.getD_eq_getElem?_getD] at hx
   cases hq:s.st[a]? with
   | none=>rw[hq] at hx;cases hx
   | some o=>rw[hq] at hx;simp at hx;rw[hx]
  split at hp
  ·cases hp
  ·rename_i y hy
   split at hp
   ·cases hp
   ·rename_i s1 h1
    cases hp
    exact leadW_ok (h.off a) (followV_ok hn (h.ok a x hx') (behindV_ok hn (h.ok a x hx') hy)) h1
theorem wants_nil {nI:Nat}{n:ID} (hn:InsOk 0 nI n):∀ f∈fldV n,(wantsV f.1).1=0:=by
 intro f hf
 apply Classical.byContradiction
 intro h
 obtain ⟨h1,h2⟩:=hn.reg f hf h
 obtain ⟨z,hz⟩:∃ z,(if ((wantsV f.1).2&&decide (f.2<0))=true then -1-f.2 else f.2)=z:=⟨_,rfl⟩
 rw[hz] at h1 h2
 split at h2
 ·omega
 ·split at h2 <;> omega
theorem not_into {nI:Nat}{n:ID} (hn:InsOk 0 nI n):rl n.op 0≠1∧n.op≠42∧n.op≠40∧n.op≠41:=by
 refine ⟨fun e=>?_,fun e=>?_,fun e=>?_,fun e=>?_⟩
 ·have:=hn.wa (.inl e);omega
 ·have:=hn.wa (.inr e);omega
 ·have:=hn.wb e;omega
 ·have:=hn.wc e;omega
theorem not_op {nI:Nat}{n:ID} (hn:InsOk 0 nI n):n.op≠6∧n.op≠22∧n.op≠27∧n.op≠28∧n.op≠11:=by
 have h:=(not_into hn).1
 refine ⟨fun e=>?_,fun e=>?_,fun e=>?_,fun e=>?_,fun e=>?_⟩ <;> (rw[e] at h;exact h rfl)
theorem rdAll_nil:∀ (fs:List (Int × Int)) (s:RdS),(∀ f∈fs,(wantsV f.1).1=0)→rdAll fs s=some s
 | [],s,_=>rfl
 | f::fs,s,h=>by
  simp only[rdAll,rdStep,h f (by simp),if_true,Option.bind_some]
  exact rdAll_nil fs s fun g hg=>h g (List.mem_cons_of_mem _ hg)
theorem readV_nil {nI:Nat} (c:List FD) {n:ID} (hn:InsOk 0 nI n):readV c n []=some ⟨[],[],[]⟩:=by
 rw[readV_all,rdAll_nil _ _ (wants_nil hn),Option.bind_some,if_neg (not_op hn).2.2.2.2]
theorem writeV_nil (n:ID):writeV n []=[]:=by
 unfold writeV
 repeat' split
 all_goals simp
theorem read_nil (n:ID) (nI:Nat) (hn:InsOk 0 nI n) (ac:Option Addr) (lc cc:Nat) (p:Int) (w:World) :
  Calls Tryz.prog 37 #[.agg #[.slice ac lc cc],.int .i64 p,IV n,.slice none 0 0] w fun e w'=>e=.returned (.tuple #[.slice none 0 0,.bool true])∧Below w.heap.size w w':=by
 have h0:=hn.op1
 have h1:=hn.op2
 have h11:(n.op==11)=false:=by have:=(not_op hn).2.2.2.2;simpa using this
 have HW:Hid (Below w.heap.size w (W5 w ac lc cc n)):=W5_below _ _ _ _ _
 have HWN:Hid (∀ f∈fldV n,(wantsV f.1).1=0):=wants_nil hn
 have HN:Hid ((W5 w ac lc cc n).heap[w.heap.size+1]?=some (.cells #[.int .i64 n.op,.int .i64 n.a,.int .i64 n.b,.int .i64 n.c,.int .i64 n.d] 77)):=W5_ins _ _ _ _ _
 have HRo:Hid ((W5 w ac lc cc n).heap[w.heap.size+1+1]?=some (RO n.op)):=W5_roles _ _ _ _ _
 have HFi:Hid ((W5 w ac lc cc n).heap[w.heap.size+1+1+1+1]?=some (.cells #[.int .i64 n.a,.int .i64 n.b,.int .i64 n.c,.int .i64 n.d] 3)):=W5_fields _ _ _ _ _
 obtain ⟨W0,hW0⟩:∃ W0,W5 w ac lc cc n=W0:=⟨_,rfl⟩
 clear hn
 go_enter Tryz.func37,Tryz.ntmps37
 go_wp2_with (first
  | (go_at_call 66;refine (roles_in _ _ h0 h1).mono ?_;rintro e w' ⟨rfl,rfl⟩)
  | (go_at_call 67;refine (fields_any n _).mono ?_;rintro e w' ⟨rfl,rfl⟩))
 rw[hW0] at HN HRo HFi HW
 go_loopw [10,11,30] (fun tv sv i wr=>∃ (m:Nat),m≤4∧i=.int .i64 m∧tv=.slice none 0 0∧sv=.slice none 0 0∧wr=W0) (fun _ _ i _=>4-(intOf i).toNat)
 case atStart=>exact ⟨0,Nat.zero_le _,rfl,rfl,rfl,rfl⟩
 case round =>
  obtain ⟨m,hm,rfl,rfl,rfl,hwr⟩:=hrel
  subst hwr
  by_cases k1:m<4
  ·obtain ⟨f,hf⟩:∃ f,(fldV n)[m]?=some f:=⟨_,List.getElem?_eq_getElem (l:=fldV n) k1⟩
   have c1:wr.cell? ⟨w.heap.size+1+1+1+1,m,none⟩=some (.int .i64 f.2):=by
    rw[qAz HFi.out]
    match m,k1,hf with
    | 0,_,hf=>cases hf;rfl
    | 1,_,hf=>cases hf;rfl
    | 2,_,hf=>cases hf;rfl
    | 3,_,hf=>cases hf;rfl
   have c2:wr.cell? ⟨w.heap.size+1+1,m,none⟩=some (.int .i64 f.1):=by
    rw[qAz HRo.out]
    match m,k1,hf with
    | 0,_,hf=>cases hf;rfl
    | 1,_,hf=>cases hf;rfl
    | 2,_,hf=>cases hf;rfl
    | 3,_,hf=>cases hf;rfl
   have hw0:=HWN.out f (List.mem_of_getElem? hf)
   clear hf
   obtain ⟨ro,x⟩:=f
   simp only at c1 c2 hw0
   obtain ⟨⟨want,opr⟩,hv⟩:∃ v,wantsV ro=v:=⟨_,rfl⟩
   rw[hv] at hw0
   dsimp only at hw0
   have t:(want==0)=true:=by simpa using hw0
   go_wp2_with (go_at_call 68;refine (wants_eq hv _).mono ?_;rintro e w' ⟨rfl,rfl⟩)
   go_roundw
   case rel=>exact ⟨m+1,by omega,by go_num,rfl,by first|rfl|trivial,by first|rfl|trivial⟩
   case measure=>simp[intOf];omega
  ·have q0:wr.cell? ⟨w.heap.size+1,0,none⟩=some (.int .i64 n.op):=by rw[qAz HN.out];rfl
   go_wp2_with fail
   refine bodyPost_ret (v:=.tuple #[.slice none 0 0,.bool true]) (by simp[results,Tryz.results37,go_sem]) rfl ⟨rfl,HW.out⟩
theorem write_nil (n:ID) (nI:Nat) (hn:InsOk 0 nI n) (w:World) :
  Calls Tryz.prog 39 #[IV n,.slice none 0 0] w fun e w'=>e=.returned (.tuple #[])∧Below w.heap.size w w':=by
 have h0:=hn.op1
 have h1:=hn.op2
 obtain ⟨h42,h40,h41⟩:=(not_into hn).2
 obtain ⟨h6,h22,h27,h28,_⟩:=not_op hn
 have hro:=(not_into hn).1
 obtain ⟨op,na,nb,nc,nd⟩:=n
 dsimp only at h0 h1 h42 h40 h41 h6 h22 h27 h28 hro
 clear hn
 have t6:(op==6)=false:=by simpa using h6
 have t22:(op==22)=false:=by simpa using h22
 have t27:(op==27)=false:=by simpa using h27
 have t28:(op==28)=false:=by simpa using h28
 have t40:(op==40)=false:=by simpa using h40
 have t41:(op==41)=false:=by simpa using h41
 have t42:(op==42)=false:=by simpa using h42
 have tr:(rl op 0==1)=false:=by simpa using hro
 go_enter Tryz.func39,Tryz.ntmps39
 go_wp2_with (go_at_call 66;refine (roles_in _ _ h0 h1).mono ?_;rintro e w' ⟨rfl,rfl⟩)
 exact bodyPost_end (v:=.tuple #[]) (by simp[results,Tryz.results39,go_sem]) rfl ⟨rfl,bw2 _ _ _⟩
end Go.Proofs.YtfejmalmnjmanaaGreatDoor
