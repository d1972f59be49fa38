import Derived.Test.YtfejmalmnjmanaaGreatDoorS06
import Derived.Test.YtfejmalmnjmanaaGreatDoorS05
import Derived.Test.YtfejmalmnjmanaaGreatDoorS03
set_option linter.unusedVariables false
set_option linter.unusedSimpArgs false
set_option maxRecDepth 20000
set_option maxHeartbeats 8000000
namespace Go.Proofs.YtfejmalmnjmanaaGreatDoor
open Go.RowKit
structure GD where
 t:Bool
 k:Int
 h:Int
def GD.cells (g:GD):List Value:=[.bool g.t,.int .i64 g.k,.int .i64 g.h]
theorem GD.len (g:GD):g.cells.length=3:=rfl
theorem guards_any (a:Option Addr) (len cap:Nat) (xs:List GD) (w:World) (hl:xs.length=len) (hp:SlA w 3 GD.cells a xs) (hlen:len≤1048576) :
  Calls Tryz.prog 42 #[.slice a len cap] w fun e w'=>(∃ sv,e=.returned sv∧w'.ownsRow w.heap.size 113 3 sv len (xs.flatMap GD.cells))∧Below w.heap.size w w':=by
 have HP:Hid (SlA w 3 GD.cells a xs):=hp
 have HL:Hid (xs.length=len):=hl
 clear hp hl
 go_enter Tryz.func42,Tryz.ntmps42
 go_wp2_with fail
 go_loopw [3,8] (fun o i wr=>∃ (m:Nat) (sv:Value),m≤len∧i=.int .i64 m∧sv=o∧Below w.heap.size w wr∧Hid (wr.ownsRow w.heap.size 113 3 sv m ((xs.take m).flatMap GD.cells))) (fun _ i _=>len-(intOf i).toNat)
 case atStart=>exact ⟨0,_,Nat.zero_le _,rfl,rfl,Below.refl _ _,owns_nil _ _ _ _⟩
 case round =>
  obtain ⟨m,sv,hm,rfl,rfl,hB,HO⟩:=hrel
  by_cases k1:m<len
  ·obtain ⟨x,hx⟩:∃ x,xs[m]?=some x:=⟨xs[m]'(by rw[HL.out];exact k1),by simp⟩
   obtain ⟨b,off,rfl,_,hc⟩:=HP.out m x hx
   have c0:wr.cell? ⟨b,off+m*3,none⟩=some (.bool x.t):=cell_later hB (hc 0 _ rfl)
   have c1:wr.cell? ⟨b,off+m*3+1,none⟩=some (.int .i64 x.k):=cell_later hB (hc 1 _ rfl)
   have c2:wr.cell? ⟨b,off+m*3+2,none⟩=some (.int .i64 x.h):=cell_later hB (hc 2 _ rfl)
   have HT:Hid ((xs.take (m+1)).flatMap GD.cells=(xs.take m).flatMap GD.cells++x.cells):=by
    show List.flatMap GD.cells (xs.take (m+1))=_
    rw[List.take_add_one,hx];simp
   clear hx hc
   have hy:=bw2 wr (.cells #[.bool x.t,.int .i64 x.k,.int .i64 x.h] 113) (.cells #[.bool x.t,.int .i64 x.k,.int .i64 x.h] 113)
   obtain ⟨g',cap',w2,hr,ho',hg⟩:=app_gen 56 113 3 24 Tryz.underlying56 (by kernel_rfl) (by omega) (by omega) w.heap.size ((wr.alloc (.cells #[.bool x.t,.int .i64 x.k,.int .i64 x.h] 113)).alloc (.cells #[.bool x.t,.int .i64 x.k,.int .i64 x.h] 113)) sv m _ x.cells (wr.heap.size+1) 56 (owns_later hy HO.out) (qNz (by simp) _) rfl (by intro u hu;simp[GD.cells] at hu;rcases hu with rfl|rfl|rfl <;> rfl) (by omega) (by have:=hB.size;simp;omega)
   have HR:Hid ((Builtin.append_ #[56,56] 56 #[sv,.slice (some ⟨wr.heap.size+1,0,none⟩) 1 1]).run Tryz.prog ((wr.alloc (.cells #[.bool x.t,.int .i64 x.k,.int .i64 x.h] 113)).alloc (.cells #[.bool x.t,.int .i64 x.k,.int .i64 x.h] 113))=.ok (.slice (some ⟨g',0,none⟩) (m+1) cap') w2):=hr
   have hB2:Below w.heap.size w w2:=below_grown (hB.trans (hy.mono hB.size)) (by have:=hB.size;simp;omega) (owns_later hy HO.out) (Nat.le_refl _) hg
   have HO2:Hid (w2.ownsRow w.heap.size 113 3 (.slice (some ⟨g',0,none⟩) (m+1) cap') (m+1) ((xs.take (m+1)).flatMap GD.cells)):=by show w2.ownsRow _ _ _ _ _ _;rw[HT.out];exact ho'
   clear hr ho' hg hy HT HO
   go_wp2_with (at_builtin;refine qEz rfl _ _ _ rfl _ _ _ _ rfl rfl HR.out ?_)
   go_roundw
   case rel=>exact ⟨m+1,_,by omega,by go_num,rfl,hB2,HO2⟩
   case measure=>simp[intOf];omega
  ·have hml:m=len:=by omega
   subst hml
   have HR:Hid (wr.ownsRow w.heap.size 113 3 sv m (xs.flatMap GD.cells)):=by have h:=HO.out;rw[List.take_of_length_le (by rw[HL.out];omega)] at h;exact h
   clear HO
   go_wp2_with fail
   go_ret
   exact ⟨⟨_,rfl,HR.out⟩,hB⟩
def aboveB (gs:List GD) (k:Int):Bool:=gs.all fun g=>!(g.t&&decide (k<g.k))
theorem above_any (a:Option Addr) (len cap:Nat) (xs:List GD) (k:Int) (w:World) (hl:xs.length=len) (hp:SlA w 3 GD.cells a xs) (hlen:len≤1048576) :
  Calls Tryz.prog 69 #[.slice a len cap,.int .i64 k] w fun e w'=>e=.returned (.bool (aboveB xs k))∧Below w.heap.size w w':=by
 have HP:Hid (SlA w 3 GD.cells a xs):=hp
 have HL:Hid (xs.length=len):=hl
 clear hp hl
 go_enter Tryz.func69,Tryz.ntmps69
 go_wp2_with fail
 go_loopw [9] (fun i wr=>∃ m:Nat,m≤len∧i=.int .i64 m∧Below w.heap.size w wr∧Hid (aboveB (xs.drop m) k=aboveB xs k)) (fun i _=>len-(intOf i).toNat)
 case atStart=>exact ⟨0,Nat.zero_le _,rfl,Below.refl _ _,rfl⟩
 case round =>
  obtain ⟨m,hm,rfl,hB,HF⟩:=hrel
  by_cases k1:m<len
  ·obtain ⟨x,hx⟩:∃ x,xs[m]?=some x:=⟨xs[m]'(by rw[HL.out];exact k1),by simp⟩
   obtain ⟨b,off,rfl,_,hc⟩:=HP.out m x hx
   have c0:wr.cell? ⟨b,off+m*3,none⟩=some (.bool x.t):=cell_later hB (hc 0 _ rfl)
   have c1:wr.cell? ⟨b,off+m*3+1,none⟩=some (.int .i64 x.k):=cell_later hB (hc 1 _ rfl)
   have c2:wr.cell? ⟨b,off+m*3+2,none⟩=some (.int .i64 x.h):=cell_later hB (hc 2 _ rfl)
   have HD:Hid ((!(x.t&&decide (k<x.k))&&aboveB (xs.drop (m+1)) k)=aboveB xs k):=by
    have h:=HF.out
    obtain ⟨hlt,he⟩:=List.getElem?_eq_some_iff.1 hx
    rw[List.drop_eq_getElem_cons hlt,he] at h
    exact h
   clear hx hc HF
   obtain ⟨xt,xk,xh⟩:=x
   simp only at c0 c1 c2 HD
   cases xt
   ·have HF1:Hid (aboveB (xs.drop (m+1)) k=aboveB xs k):=by have h:=HD.out;show aboveB (xs.drop (m+1)) k=aboveB xs k;simpa using h
    clear HD
    go_wp2_with fail
    go_roundw
    case rel=>exact ⟨m+1,by omega,by go_num,qJz hB _,HF1⟩
    case measure=>simp[intOf];omega
   ·by_cases hk:k<xk
    ·have HR:Hid (false=aboveB xs k):=by have h:=HD.out;show false=aboveB xs k;rw[←h];simp[hk]
     clear HD
     go_wp2_with fail
     go_ret
     exact ⟨ret_bo HR.out,qJz hB _⟩
    ·have HF1:Hid (aboveB (xs.drop (m+1)) k=aboveB xs k):=by have h:=HD.out;show aboveB (xs.drop (m+1)) k=aboveB xs k;rw[←h];simp[hk]
     clear HD
     go_wp2_with fail
     go_roundw
     case rel=>exact ⟨m+1,by omega,by go_num,qJz hB _,HF1⟩
     case measure=>simp[intOf];omega
  ·have HR:Hid (true=aboveB xs k):=by have h:=HF.out;rw[List.drop_of_length_le (by rw[HL.out];omega)] at h;exact h
   clear HF
   go_wp2_with fail
   go_ret
   exact ⟨ret_bo HR.out,hB⟩
def wantsV (r:Int):Int × Bool :=
 if r=2 then (1,true) else if r=3 then (3,true) else if r=4∨r=18∨r=19∨r=20 then (1,false) else if r=5 then (2,false) else if r=6 then (3,false) else (0,false)
theorem wants_any (r:Int) (w:World) :
  Calls Tryz.prog 68 #[.int .i64 r] w fun e w'=>e=.returned (.tuple #[.int .i64 (wantsV r).1,.bool (wantsV r).2])∧w'=w:=by
 go_enter Tryz.func68,Tryz.ntmps68
 go_wp2_with fail
 all_goals
  refine bodyPost_ret ?_ rfl ⟨rfl,rfl⟩
  simp_all [results,Tryz.results68,go_sem,wantsV]
structure SD where
 ts:List Int
 gs:List GD
structure RdS where
 ts:List Int
 taken:List Nat
 stay:List Nat
def rdTake (s:RdS) (operand:Bool) (x:Int) (r:Nat):Option RdS :=
 if (operand&&decide (x<0))=true then (if s.stay.contains r=true then none else some ⟨s.ts.set r 0,s.taken++[r],s.stay⟩)
 else if operand=true then some s else some ⟨s.ts,s.taken,s.stay++[r]⟩
def rdMore (s:RdS) (role:Int) (r:Nat):Option RdS :=
 if role=18 then (if s.ts.getD (r+1) 0=1∧s.ts.getD (r+2) 0=1 then some s else none)
 else if role=20 then (if s.ts.getD (r+1) 0=1 then some s else none)
 else if role=19 then (if s.ts.getD (r+1) 0=0 then some ⟨s.ts,s.taken++[r],s.stay⟩ else none)
 else some s
def rdReg (operand:Bool) (x:Int):Nat:=if (operand&&decide (x<0))=true then (-1-x).toNat else x.toNat
def rdStep (role x:Int) (s:RdS):Option RdS :=
 if (wantsV role).1=0 then some s
 else if s.ts.getD (rdReg (wantsV role).2 x) 0=(wantsV role).1 then
  (rdTake s (wantsV role).2 x (rdReg (wantsV role).2 x)).bind fun s'=>rdMore s' role (rdReg (wantsV role).2 x)
 else none
def rdUps (us:List UD) (ts:List Int):Bool:=us.all fun u=>!u.l || ts.getD u.i.toNat 0==2
def readV (c:List FD) (n:ID) (ts:List Int):Option RdS :=
 ((((rdStep (rl n.op 0) n.a ⟨ts,[],[]⟩).bind (rdStep (rl n.op 1) n.b)).bind (rdStep (rl n.op 2) n.c)).bind (rdStep (rl n.op 3) n.d)).bind fun s =>
  if n.op=11 then (if rdUps (c.getD n.b.toNat fd0).ups s.ts=true then some s else none) else some s
def writeV (n:ID) (ts:List Int):List Int :=
 if n.op=6 then ts.set n.a.toNat 2
 else if n.op=22∨n.op=27∨n.op=28 then ts.set n.a.toNat 3
 else if n.op=40 then ts.set (n.a+1).toNat 1
 else if n.op=42 then ts.set n.a.toNat 0
 else if n.op=41 then ts.set n.c.toNat 3
 else if rl n.op 0=1 then ts.set n.a.toNat 1
 else ts
def changeV (n:ID) (gs:List GD):Option (List GD) :=
 if n.op=31 then (if gs.length<50∧aboveB gs n.b=true then some (gs++[⟨true,n.b,n.a⟩]) else none)
 else if n.op=33 then (if gs.length<50∧aboveB gs n.a=true then some (gs++[⟨false,n.a,0⟩]) else none)
 else if n.op=32 then (match gs.getLast? with|some g=>if g.t=true then some gs.dropLast else none|none=>none)
 else if n.op=34 then (match gs.getLast? with|some g=>if g.t=false∧aboveB gs n.a=true then some (gs.dropLast++[⟨false,n.a,g.h⟩]) else none|none=>none)
 else if n.op=35 then (match gs.getLast? with|some g=>if g.t=false then some gs else none|none=>none)
 else if n.op=36 then (match gs.getLast? with|some g=>if g.t=false then some gs.dropLast else none|none=>none)
 else some gs
def keepV (gs:List GD):Int:=gs.foldl (fun k g=>if g.t then max k g.k else k) 0
def keptV (gs:List GD) (taken:List Nat) (before behind:List Int):Bool:=(taken.all fun r=>decide (keepV gs≤(r:Int)))&&before.take (keepV gs).toNat==behind.take (keepV gs).toNat
def goesV (op:Int):Bool:=!endsB op
def targetV (n:ID):Option Nat :=
 if n.op=19∨n.op=31 then some n.a.toNat
 else if n.op=20∨n.op=21∨n.op=38∨n.op=39∨n.op=41 then some n.b.toNat
 else none
def caughtV (n:ID) (s:SD):SD:=⟨((s.ts.take n.b.toNat++[1,1])++List.replicate (s.ts.length-n.b.toNat-2) 0),s.gs⟩
def followV (n:ID) (at':Nat) (before behind:SD):List (Nat × SD) :=
 (if goesV n.op=true then [(at'+1,behind)] else []) ++
  (match targetV n with
   | some t=>[(t,if n.op=41 then before else if n.op=31 then caughtV n before else behind)]
   | none=>[])
structure WkS where
 st:List (Option SD)
 due:List Bool
def silentV (n:ID) (at':Nat):List Nat :=
 (if (goesV n.op&&!(n.op==1 || n.op==3 || n.op==28 || n.op==41 || (n.op==18&&n.b==12)))=true then [at'+1] else [])++(match targetV n with|some t=>[t]|none=>[])
def keptG (taken:List Nat) (before behind:List Int) (g:GD):Bool:=!g.t || ((taken.all fun r=>decide (g.k≤(r:Int)))&&before.take g.k.toNat==behind.take g.k.toNat)
def keptS (gs:List GD) (taken:List Nat) (before behind:List Int):Bool:=gs.all (keptG taken before behind)
theorem take_eq_iff {α:Type} (a b:List α) (hl:a.length=b.length) (m:Nat):a.take m=b.take m ↔ ∀ i,i<m→a[i]?=b[i]?:=by
 constructor
 ·intro h i hi
  have:=congrArg (fun l=>l[i]?) h
  simpa [List.getElem?_take,hi] using this
 ·intro h
  apply List.ext_getElem?
  intro i
  rw[List.getElem?_take,List.getElem?_take]
  split
  ·exact h i (by assumption)
  ·rfl
theorem keep_le (gs:List GD) (k0:Int) (r:Int):(gs.foldl (fun k g=>if g.t then max k g.k else k) k0≤r) ↔ (k0≤r∧∀ g∈gs,g.t=true→g.k≤r):=by
 induction gs generalizing k0 with
 | nil=>simp
 | cons g gs ih =>
  rw[List.foldl_cons,ih]
  cases ht:g.t
  ·simp[ht]
  ·simp only[List.mem_cons,forall_eq_or_imp,ht,if_true,true_implies]
   constructor
   ·rintro ⟨h1,h2⟩;exact ⟨(Int.max_le.1 h1).1,(Int.max_le.1 h1).2,h2⟩
   ·rintro ⟨h1,h2,h3⟩;exact ⟨Int.max_le.2 ⟨h1,h2⟩,h3⟩
theorem keepV_le (gs:List GD) (r:Int) (h0:0≤r):keepV gs≤r ↔ ∀ g∈gs,g.t=true→g.k≤r:=by
 unfold keepV
 rw[keep_le]
 exact ⟨fun h=>h.2,fun h=>⟨h0,h⟩⟩
theorem keepV_nn (gs:List GD):0≤keepV gs:=by
 have:=(keep_le gs 0 (keepV gs)).1 (Int.le_refl _)
 exact this.1
theorem keptS_eq (gs:List GD) (taken:List Nat) (before behind:List Int) (hl:before.length=behind.length):keptS gs taken before behind=keptV gs taken before behind:=by
 rw[Bool.eq_iff_iff]
 unfold keptS keptV keptG
 simp only[List.all_eq_true,Bool.or_eq_true,Bool.not_eq_true',Bool.and_eq_true,decide_eq_true_eq,beq_iff_eq]
 constructor
 ·intro h
  refine ⟨fun r hr=>(keepV_le gs r (by omega)).2 fun g hg ht=>?_,?_⟩
  ·rcases h g hg with h1|h1
   ·rw[ht] at h1;cases h1
   ·exact h1.1 r hr
  ·rw[take_eq_iff _ _ hl]
   intro i hi
   have h0:=keepV_nn gs
   by_cases hh:keepV gs≤(i:Int)
   ·omega
   ·rw[keepV_le gs i (by omega)] at hh
    have ⟨g,hg⟩:=Classical.not_forall.1 hh
    have ⟨hg1,hg2⟩:=Classical.not_imp.1 hg
    have ⟨ht,hk⟩:=Classical.not_imp.1 hg2
    rcases h g hg1 with h1|h1
    ·rw[ht] at h1;cases h1
    ·exact (take_eq_iff _ _ hl _).1 h1.2 i (by omega)
 ·rintro ⟨h1,h2⟩ g hg
  cases ht:g.t
  ·exact .inl rfl
  ·have hk:=(keepV_le gs (keepV gs) (keepV_nn gs)).1 (Int.le_refl _) g hg ht
   exact .inr ⟨fun r hr=>by have:=h1 r hr;omega,by
    rw[take_eq_iff _ _ hl] at h2 ⊢
    exact fun i hi=>h2 i (by omega)⟩
theorem keptBy_any (a:Option Addr) (len cap:Nat) (gs:List GD) (w:World) (hl:gs.length=len) (hp:SlA w 3 GD.cells a gs) (hlen:len≤1048576) :
  Calls Tryz.prog 119 #[.slice a len cap] w fun e w'=>e=.returned (.int .i64 (keepV gs))∧Below w.heap.size w w':=by
 have HP:Hid (SlA w 3 GD.cells a gs):=hp
 have HL:Hid (gs.length=len):=hl
 clear hp hl
 go_enter Tryz.func119,Tryz.ntmps119
 go_wp2_with fail
 go_loopw [3,8] (fun k i wr=>∃ m:Nat,m≤len∧i=.int .i64 m∧k=.int .i64 (keepV (gs.take m))∧Below w.heap.size w wr) (fun _ i _=>len-(intOf i).toNat)
 case atStart=>exact ⟨0,Nat.zero_le _,rfl,rfl,Below.refl _ _⟩
 case round =>
  obtain ⟨m,hm,rfl,rfl,hB⟩:=hrel
  by_cases k1:m<len
  ·obtain ⟨g,hg⟩:∃ g,gs[m]?=some g:=⟨gs[m]'(by rw[HL.out];exact k1),by simp⟩
   obtain ⟨b,off,rfl,hbl,hc⟩:=HP.out m g hg
   have c0:wr.cell? ⟨b,off+m*3,none⟩=some (.bool g.t):=cell_later hB (hc 0 _ rfl)
   have c1:wr.cell? ⟨b,off+m*3+1,none⟩=some (.int .i64 g.k):=cell_later hB (hc 1 _ rfl)
   have c2:wr.cell? ⟨b,off+m*3+2,none⟩=some (.int .i64 g.h):=cell_later hB (hc 2 _ rfl)
   have HT:Hid (keepV (gs.take (m+1))=if g.t then max (keepV (gs.take m)) g.k else keepV (gs.take m)):=by
    show keepV (gs.take (m+1))=_
    rw[List.take_add_one,hg]
    unfold keepV
    simp[List.foldl_append]
   obtain ⟨z,hz⟩:∃ z,keepV (gs.take m)=z:=⟨_,rfl⟩
   rw[hz] at HT ⊢
   clear hg hc
   obtain ⟨t,k,h⟩:=g
   dsimp only at c0 c1 c2 HT
   cases t
   ·go_wp2_with fail
    go_roundw
    case rel=>exact ⟨m+1,by omega,by go_num,by rw[HT.out];rfl,qJz hB _⟩
    case measure=>simp[intOf];omega
   ·go_wp2_with fail
    go_roundw
    case rel=>exact ⟨m+1,by omega,by go_num,by rw[HT.out,if_pos rfl];congr 1;rw[Int.max_def];split <;> split <;> omega,qJz hB _⟩
    case measure=>simp[intOf];omega
  ·have hml:m=len:=by omega
   subst hml
   have HE:Hid (keepV (gs.take m)=keepV gs):=by show _=_;rw[List.take_of_length_le (by rw[HL.out];omega)]
   rw[HE.out]
   go_wp2_with fail
   go_ret
   exact ⟨rfl,hB⟩
def ORow {α:Type} (w:World) (B:Nat) (et:TypeId) (k:Nat) (cells:α→List Value) (sv:Value) (xs:List α):Prop:=w.ownsRow B et k sv xs.length (xs.flatMap cells)
theorem ORow.nil {α:Type} (w:World) (B:Nat) (et:TypeId) (k:Nat) (cells:α→List Value):ORow w B et k cells (.slice none 0 0) []:=owns_nil _ _ _ _
theorem ORow.val {α:Type}{w:World}{B:Nat}{et:TypeId}{k:Nat}{cells:α→List Value}{sv:Value}{xs:List α} (h:ORow w B et k cells sv xs):∃ a cap,sv=.slice a xs.length cap:=by
 rcases h.2 with ⟨rfl,h0⟩|⟨g,cap,cur,rfl,_⟩
 ·exact ⟨none,0,by rw[h0]⟩
 ·exact ⟨_,_,rfl⟩
theorem ORow.keep {α:Type}{w w':World}{B:Nat}{et:TypeId}{k:Nat}{cells:α→List Value}{sv:Value}{xs:List α} (h:ORow w B et k cells sv xs) (hk:∀ j arr,B≤j→w.heap[j]?=some (.cells arr et (0,0))→w'.heap[j]?=w.heap[j]?):ORow w' B et k cells sv xs:=by
 obtain ⟨h1,h2⟩:=h
 refine ⟨h1,?_⟩
 rcases h2 with h2|⟨g,cap,cur,e1,e2,e3,e4⟩
 ·exact .inl h2
 ·exact .inr ⟨g,cap,cur,e1,e2,(hk g cur e2 e3).trans e3,e4⟩
theorem ORow.later {α:Type}{w w':World}{B:Nat}{et:TypeId}{k:Nat}{cells:α→List Value}{sv:Value}{xs:List α} (h:ORow w B et k cells sv xs) (hb:Below w.heap.size w w'):ORow w' B et k cells sv xs:=owns_later hb h
theorem ORow.mono {α:Type}{w:World}{B B':Nat}{et:TypeId}{k:Nat}{cells:α→List Value}{sv:Value}{xs:List α} (h:ORow w B et k cells sv xs) (hb:B'≤B):ORow w B' et k cells sv xs:=by
 obtain ⟨h1,h2⟩:=h
 refine ⟨h1,?_⟩
 rcases h2 with h2|⟨g,cap,cur,e1,e2,e3⟩
 ·exact .inl h2
 ·exact .inr ⟨g,cap,cur,e1,Nat.le_trans hb e2,e3⟩
theorem ORow.app {α:Type}{w:World}{B:Nat}{et:TypeId}{k:Nat}{cells:α→List Value}{sv:Value}{xs:List α} (st:TypeId) (by':Nat) (hu:Tryz.prog.underlying st=some (.slice et)) (hc:(Tryz.prog.info? et).map (fun i=>(i.zero.map (fun z=>z.cells.size),i.size,i.bytes))=some (some k,k,by')) (hk:0<k) (hby:by'≤1000) (h:ORow w B et k cells sv xs) (x:α) (nb:Nat) (ty:TypeId) (hn:w.heap[nb]?=some (.cells (cells x).toArray et)) (hl:(cells x).length=k) (h1:∀ u∈cells x,u.oneCell'=true) (hlen:xs.length≤2000000) (hb:B≤w.heap.size) :
  ∃ g' cap' w',(Builtin.append_ #[st,st] ty #[sv,.slice (some ⟨nb,0,none⟩) 1 1]).run Tryz.prog w=.ok (.slice (some ⟨g',0,none⟩) (xs.length+1) cap') w'∧ORow w' B et k cells (.slice (some ⟨g',0,none⟩) (xs.length+1) cap') (xs++[x])∧w.grownBy w' sv.ownBlock:=by
 obtain ⟨g',cap',w',a1,a2,a3⟩:=app_gen st et k by' hu hc hk hby B w sv xs.length (xs.flatMap cells) (cells x) nb ty h hn hl h1 hlen hb
 refine ⟨g',cap',w',a1,?_,a3⟩
 unfold ORow
 rw[List.length_append,List.flatMap_append]
 simpa using a2
theorem flat_at {α:Type} (cells:α→List Value) (k:Nat):∀ (xs:List α) (i j:Nat) (x:α) (v:Value),(∀ y∈xs,(cells y).length=k)→xs[i]?=some x→(cells x)[j]?=some v→(xs.flatMap cells)[i*k+j]?=some v
 | [],i,j,x,v,_,hx,_=>by simp at hx
 | y::ys,0,j,x,v,hk,hx,hv=>by
  obtain rfl:y=x:=by simpa using hx
  have hj:=(List.getElem?_eq_some_iff.1 hv).1
  rw[Nat.zero_mul,Nat.zero_add,List.flatMap_cons,List.getElem?_append_left hj]
  exact hv
 | y::ys,i+1,j,x,v,hk,hx,hv=>by
  have hy:=hk y (by simp)
  rw[List.flatMap_cons,List.getElem?_append_right (by rw[hy,Nat.add_mul,Nat.one_mul];omega),hy,show (i+1)*k+j-k=i*k+j by rw[Nat.add_mul,Nat.one_mul];omega]
  exact flat_at cells k ys i j x v (fun z hz=>hk z (by simp[hz])) (by simpa using hx) hv
theorem ORow.lies {α:Type}{w:World}{B:Nat}{et:TypeId}{k:Nat}{cells:α→List Value}{sv:Value}{xs:List α} (h:ORow w B et k cells sv xs) (hk:∀ y,(cells y).length=k):∃ a cap,sv=.slice a xs.length cap∧SlA w k cells a xs:=by
 rcases h with ⟨hl,⟨rfl,h0⟩|⟨g,cap,cur,rfl,e2,e3,e4⟩⟩
 ·have:xs=[]:=List.length_eq_zero_iff.1 h0
  subst this
  exact ⟨none,0,rfl,SlA.nil _ _ _ _⟩
 ·refine ⟨_,cap,rfl,fun i x hi=>⟨g,0,rfl,blk_lt e3,fun j v hv=>?_⟩⟩
  have hf:=flat_at cells k xs i j x v (fun y _=>hk y) hi hv
  have hlt:=(List.getElem?_eq_some_iff.1 hf).1
  rw[←e4.2.2.2,List.getElem?_take] at hf
  rw[qAz e3,Nat.zero_add]
  split at hf
  ·simpa using hf
  ·cases hf
theorem ORow.open {α:Type}{w:World}{B:Nat}{et:TypeId}{k:Nat}{cells:α→List Value}{sv:Value}{xs:List α} (h:ORow w B et k cells sv xs) (hk:∀ y,(cells y).length=k) (h0:0<xs.length):∃ g cap,sv=.slice (some ⟨g,0,none⟩) xs.length cap∧B≤g∧xs.length≤cap∧SlA w k cells (some ⟨g,0,none⟩) xs∧(∀ i,w.frozen? ⟨g,i,none⟩=false)∧g<w.heap.size:=by
 obtain ⟨a,cap,e,hs⟩:=h.lies hk
 rcases h with ⟨hl,⟨rfl,h1⟩|⟨g,cap,cur,rfl,e2,e3,e4⟩⟩
 ·omega
 ·cases e
  exact ⟨g,cap,rfl,e2,e4.1,hs,fun i=>qGz e3 i,blk_lt e3⟩
theorem SlA.take {α:Type}{w:World}{k:Nat}{cells:α→List Value}{a:Option Addr}{xs:List α} (h:SlA w k cells a xs) (m:Nat):SlA w k cells a (xs.take m):=by
 intro i x hi
 rw[List.getElem?_take] at hi
 split at hi
 ·exact h i x hi
 ·cases hi
theorem SlA.dropLast {α:Type}{w:World}{k:Nat}{cells:α→List Value}{a:Option Addr}{xs:List α} (h:SlA w k cells a xs):SlA w k cells a xs.dropLast:=by
 rw[List.dropLast_eq_take];exact h.take _
def natC (r:Nat):List Value:=[.int .i64 (r:Int)]
theorem natC_len (r:Nat):(natC r).length=1:=rfl
abbrev GO (x:GD):Obj:=.cells #[.bool x.t,.int .i64 x.k,.int .i64 x.h] 113
theorem kept_drop {gs:List GD}{taken:List Nat}{before behind:List Int}{m:Nat}{x:GD} (hx:gs[m]?=some x) (h:keptS (gs.drop m) taken before behind=keptS gs taken before behind) :
  (keptG taken before behind x&&keptS (gs.drop (m+1)) taken before behind)=keptS gs taken before behind:=by
 obtain ⟨hlt,he⟩:=List.getElem?_eq_some_iff.1 hx
 rw[List.drop_eq_getElem_cons hlt,he] at h
 exact h
theorem kept_any (n:ID) (ag at' ab ah:Option Addr) (lg lt lb cg ct cb ch:Nat) (gs:List GD) (taken:List Nat) (before behind:List Int) (w:World)
  (hlg:gs.length=lg) (hlt:taken.length=lt) (hlb:before.length=lb) (hlh:behind.length=lb) (h1:SlA w 3 GD.cells ag gs) (h2:SlA w 1 natC at' taken) (h3:SlA w 1 intC ab before) (h4:SlA w 1 intC ah behind)
  (l1:lg≤50) (l2:lt≤1000) (l3:lb≤250) (hk:∀ g∈gs,g.t=true→g.k≤lb) (h32:n.op=32→before=behind) :
  Calls Tryz.prog 40 #[IV n,.slice ag lg cg,.slice at' lt ct,.slice ab lb cb,.slice ah lb ch] w fun e w'=>e=.returned (.bool (keptS gs taken before behind))∧Below w.heap.size w w':=by
 have H1:Hid (SlA w 3 GD.cells ag gs):=h1
 have H2:Hid (SlA w 1 natC at' taken):=h2
 have H3:Hid (SlA w 1 intC ab before):=h3
 have H4:Hid (SlA w 1 intC ah behind):=h4
 have HG:Hid (gs.length=lg):=hlg
 have HT:Hid (taken.length=lt):=hlt
 have HB:Hid (before.length=lb):=hlb
 have HH:Hid (behind.length=lb):=hlh
 have HK:Hid (∀ g∈gs,g.t=true→g.k≤lb):=hk
 have H32:Hid (n.op=32→before=behind):=h32
 clear h1 h2 h3 h4 hlg hlt hlb hlh hk h32
 obtain ⟨op,na,nb,nc,nd⟩:=n
 simp only at H32
 go_enter Tryz.func40,Tryz.ntmps40
 go_wp2_with fail
 have B0:Hid ((w.alloc (.cells #[.int .i64 op,.int .i64 na,.int .i64 nb,.int .i64 nc,.int .i64 nd] 77)).heap[w.heap.size]?=some (.cells #[.int .i64 op,.int .i64 na,.int .i64 nb,.int .i64 nc,.int .i64 nd] 77)):=qKz _ _
 go_loopw [18] (fun i wr=>∃ m:Nat,m≤lg∧i=.int .i64 m∧Below w.heap.size w wr∧Hid (wr.heap[w.heap.size]?=some (.cells #[.int .i64 op,.int .i64 na,.int .i64 nb,.int .i64 nc,.int .i64 nd] 77))∧Hid (keptS (gs.drop m) taken before behind=keptS gs taken before behind)) (fun i _=>lg-(intOf i).toNat)
 case atStart=>exact ⟨0,Nat.zero_le _,rfl,bw1 _ _,B0,rfl⟩
 case round =>
  clear B0
  obtain ⟨m,hm,rfl,hB,B0,HF⟩:=hrel
  by_cases k1:m<lg
  ·obtain ⟨x,hx⟩:∃ x,gs[m]?=some x:=⟨gs[m]'(by rw[HG.out];exact k1),by simp⟩
   obtain ⟨b,off,rfl,_,hc⟩:=H1.out m x hx
   have c0:wr.cell? ⟨b,off+m*3,none⟩=some (.bool x.t):=cell_later hB (hc 0 _ rfl)
   have c1:wr.cell? ⟨b,off+m*3+1,none⟩=some (.int .i64 x.k):=cell_later hB (hc 1 _ rfl)
   have c2:wr.cell? ⟨b,off+m*3+2,none⟩=some (.int .i64 x.h):=cell_later hB (hc 2 _ rfl)
   have HD:Hid _:=kept_drop hx HF.out
   have HKx:Hid (x.t=true→x.k≤lb):=HK.out x (List.mem_of_getElem? hx)
   clear hx hc HF
   obtain ⟨xt,xk,xh⟩:=x
   simp only at c0 c1 c2 HD HKx
   cases xt
   ·have HF1:Hid (keptS (gs.drop (m+1)) taken before behind=keptS gs taken before behind):=by have h:=HD.out;show keptS _ _ _ _=_;simpa [keptG] using h
    clear HD
    go_wp2_with fail
    go_roundw
    case rel=>exact ⟨m+1,by omega,by go_num,qJz hB _,qIz B0.out _,HF1⟩
    case measure=>simp[intOf];omega
   ·obtain ⟨wo,rfl⟩:∃ wo,wo=wr:=⟨_,rfl⟩
    have hB1:Below w.heap.size w (wo.alloc (GO ⟨true,xk,xh⟩)):=qJz hB _
    have B1:Hid ((wo.alloc (GO ⟨true,xk,xh⟩)).heap[w.heap.size]?=some (.cells #[.int .i64 op,.int .i64 na,.int .i64 nb,.int .i64 nc,.int .i64 nd] 77)):=qIz B0.out _
    have B2:Hid ((wo.alloc (GO ⟨true,xk,xh⟩)).heap[wo.heap.size]?=some (GO ⟨true,xk,xh⟩)):=qKz _ _
    go_wp2_with fail
    clear c0 c1 c2 B0 hB
    go_loopw [28] (fun i wr=>∃ q:Nat,q≤lt∧i=.int .i64 q∧Below w.heap.size w wr∧Hid (wr.heap[w.heap.size]?=some (.cells #[.int .i64 op,.int .i64 na,.int .i64 nb,.int .i64 nc,.int .i64 nd] 77))∧Hid (wr.heap[wo.heap.size]?=some (GO ⟨true,xk,xh⟩))∧Hid (((taken.drop q).all fun r=>decide (xk≤(r:Int)))=taken.all fun r=>decide (xk≤(r:Int)))) (fun i _=>lt-(intOf i).toNat)
    case atStart=>exact ⟨0,Nat.zero_le _,rfl,hB1,B1,B2,rfl⟩
    case round =>
     clear hB1 B1 B2
     obtain ⟨q,hq,rfl,hB,B0,B2,HF⟩:=hrel
     have g1:wr.cell? ⟨wo.heap.size,1,none⟩=some (.int .i64 xk):=by rw[qAz B2.out];rfl
     by_cases k2:q<lt
     ·obtain ⟨r,hr⟩:∃ r,taken[q]?=some r:=⟨taken[q]'(by rw[HT.out];exact k2),by simp⟩
      obtain ⟨bt,ot,rfl,_,hc⟩:=H2.out q r hr
      have e1:wr.cell? ⟨bt,ot+q,none⟩=some (.int .i64 (r:Int)):=by have h:=cell_later hB (hc 0 _ rfl);simpa using h
      have HE:Hid ((decide (xk≤(r:Int))&&((taken.drop (q+1)).all fun r=>decide (xk≤(r:Int))))=taken.all fun r=>decide (xk≤(r:Int))):=by
       have h:=HF.out
       obtain ⟨hlt,he⟩:=List.getElem?_eq_some_iff.1 hr
       rw[List.drop_eq_getElem_cons hlt,he] at h
       exact h
      clear hr hc HF
      by_cases hrk:(r:Int)<xk
      ·have HR:Hid (false=keptS gs taken before behind):=by
        show false=keptS gs taken before behind
        have hE:=HE.out
        rw[decide_eq_false (by omega),Bool.false_and] at hE
        rw[←HD.out];simp only[keptG,← hE];rfl
       clear HE HD
       go_wp2_with fail
       go_ret
       exact ⟨ret_bo HR.out,hB⟩
      ·have HF1:Hid (((taken.drop (q+1)).all fun r=>decide (xk≤(r:Int)))=taken.all fun r=>decide (xk≤(r:Int))):=by
        have hE:=HE.out
        rw[decide_eq_true (by omega),Bool.true_and] at hE
        exact hE
       clear HE
       go_wp2_with fail
       go_roundw
       case rel=>exact ⟨q+1,by omega,by go_num,hB,B0,B2,HF1⟩
       case measure=>simp[intOf];omega
     ·have HA:Hid ((taken.all fun r=>decide (xk≤(r:Int)))=true):=by have h:=HF.out;rw[List.drop_of_length_le (by rw[HT.out];omega)] at h;exact h.symm
      clear HF
      have o0:wr.cell? ⟨w.heap.size,0,none⟩=some (.int .i64 op):=by rw[qAz B0.out];rfl
      clear g1
      by_cases hA:op=32∧m+1=lg
      ·obtain ⟨rfl,hml⟩:=hA
       have t2:((m:Int)==(lg:Int)-1)=true:=by simp;omega
       have HF1:Hid (keptS (gs.drop (m+1)) taken before behind=keptS gs taken before behind):=by
        show keptS _ _ _ _=_
        rw[←HD.out];simp only[keptG,HA.out,H32.out rfl];simp
       clear HD
       go_wp2_with fail
       go_roundw
       case rel=>exact ⟨m+1,by omega,by go_num,hB,B0,HF1⟩
       case measure=>simp[intOf];omega
      ·have hcase:((op==32)=true∧((m:Int)==(lg:Int)-1)=false)∨(op==32)=false:=by
        by_cases h:op=32
        ·exact .inl ⟨by simpa using h,by simp;omega⟩
        ·exact .inr (by simpa using h)
       rcases hcase with ⟨t1,t2⟩|t1
       all_goals
        go_wp2_with fail
        clear o0
        go_loopw [15] (fun i wr=>∃ q:Nat,q≤lb∧i=.int .i64 q∧Below w.heap.size w wr∧Hid (wr.heap[w.heap.size]?=some (.cells #[.int .i64 op,.int .i64 na,.int .i64 nb,.int .i64 nc,.int .i64 nd] 77))∧Hid (wr.heap[wo.heap.size]?=some (GO ⟨true,xk,xh⟩))∧Hid (∀ i,i<q→before[i]?=behind[i]?)) (fun i _=>lb-(intOf i).toNat)
        case atStart=>exact ⟨0,Nat.zero_le _,rfl,hB,B0,B2,fun i hi=>by omega⟩
        case round =>
         clear hB B0 B2 t1
         obtain ⟨q,hq,rfl,hB,B0,B2,HF⟩:=hrel
         have g1:wr.cell? ⟨wo.heap.size,1,none⟩=some (.int .i64 xk):=by rw[qAz B2.out];rfl
         by_cases k3:(q:Int)<xk
         ·have hql:q<lb:=by have:=HKx.out (by simp);omega
          obtain ⟨x,hx⟩:∃ x,before[q]?=some x:=⟨before[q]'(by rw[HB.out];exact hql),by simp⟩
          obtain ⟨y,hy⟩:∃ y,behind[q]?=some y:=⟨behind[q]'(by rw[HH.out];exact hql),by simp⟩
          obtain ⟨b1,o1,rfl,_,hc⟩:=H3.out q x hx
          obtain ⟨b2,o2,rfl,_,hc'⟩:=H4.out q y hy
          have e1:wr.cell? ⟨b1,o1+q,none⟩=some (.int .i64 x):=by have h:=cell_later hB (hc 0 _ rfl);simpa using h
          have e2:wr.cell? ⟨b2,o2+q,none⟩=some (.int .i64 y):=by have h:=cell_later hB (hc' 0 _ rfl);simpa using h
          cases hxy:(x==y)
          ·have hne:(x != y)=true:=by simp only[bne,hxy];rfl
           have HR:Hid (false=keptS gs taken before behind):=by
            show false=keptS gs taken before behind
            rw[←HD.out]
            have hn:(before.take xk.toNat==behind.take xk.toNat)=false:=by
             cases hb:(before.take xk.toNat==behind.take xk.toNat)
             ·rfl
             ·have:=(take_eq_iff before behind (by rw[HB.out,HH.out]) xk.toNat).1 (by simpa using hb) q (by omega)
              rw[hx,hy] at this
              simp at this hxy;exact absurd this hxy
            simp only[keptG,hn,Bool.and_false];rfl
           clear hx hy hc hc' HF HD
           go_wp2_with fail
           have l1:=qHz e1;have l2:=qHz e2
           haveI:=lat_some wr
           clear e1 e2
           refine qOz (by kernel_rfl) (by kernel_rfl) ?_
           repeat (go_big_quiet_step (fail))
           refine wpQuiet_nil ?_
           rintro _ ⟨nq,rfl⟩
           have hz:=hB.trans (nq.below.mono hB.size)
           go_wp2_with fail
           go_ret
           exact ⟨ret_bo HR.out,hz⟩
          ·have hne:(x != y)=false:=by simp only[bne,hxy];rfl
           have HF1:Hid (∀ i,i<q+1→before[i]?=behind[i]?):=by
            intro i hi
            rcases Nat.lt_or_ge i q with h|h
            ·exact HF.out i h
            ·obtain rfl:i=q:=by omega
             rw[hx,hy];simp at hxy;rw[hxy]
           clear hx hy hc hc' HF
           go_wp2_with fail
           have l1:=qHz e1;have l2:=qHz e2
           haveI:=lat_some wr
           clear e1 e2
           refine qOz (by kernel_rfl) (by kernel_rfl) ?_
           repeat (go_big_quiet_step (fail))
           refine wpQuiet_nil ?_
           rintro _ ⟨nq,rfl⟩
           have hz:=hB.trans (nq.below.mono hB.size)
           replace B0:Hid _:=qBz nq.below B0.out
           replace B2:Hid _:=qBz nq.below B2.out
           clear l1 l2
           go_wp2_with fail
           go_roundw
           case rel=>exact ⟨q+1,by omega,by go_num,hz,B0,B2,HF1⟩
           case measure=>simp[intOf];omega
         ·have HF1:Hid (keptS (gs.drop (m+1)) taken before behind=keptS gs taken before behind):=by
           show keptS _ _ _ _=_
           rw[←HD.out]
           have hn:before.take xk.toNat=behind.take xk.toNat:=(take_eq_iff _ _ (by rw[HB.out,HH.out]) _).2 fun i hi=>HF.out i (by omega)
           simp only[keptG,HA.out,hn];simp
          clear HD HF
          go_wp2_with fail
          go_roundw
          case rel=>exact ⟨m+1,by omega,by go_num,hB,B0,HF1⟩
          case measure=>simp[intOf];omega
  ·have HR:Hid (true=keptS gs taken before behind):=by have h:=HF.out;rw[List.drop_of_length_le (by rw[HG.out];omega)] at h;exact h
   clear HF
   go_wp2_with fail
   go_ret
   exact ⟨ret_bo HR.out,hB⟩
end Go.Proofs.YtfejmalmnjmanaaGreatDoor
