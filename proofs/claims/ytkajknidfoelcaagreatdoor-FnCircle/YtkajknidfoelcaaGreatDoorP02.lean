import Derived.Test.YtkajknidfoelcaaGreatDoorP01
import Derived.LoopN
set_option linter.unusedVariables false
set_option linter.unusedSimpArgs false
set_option maxRecDepth 20000
set_option maxHeartbeats 8000000
namespace Go.Proofs.YtkajknidfoelcaaGreatDoor
open Go.RowKit
attribute [local go_sem] run_store_float
structure FC.own (lo:Nat) (w:World) (x:FC):Prop where
 u:∃g,lo≤g∧x.au=some ⟨g,0,none⟩∧RowG w g 2 242 UD.cells x.d.ups
 c:∃g,lo≤g∧x.ac=some ⟨g,0,none⟩∧RowG w g 5 47 VD.cells x.d.consts
 i:∃g,lo≤g∧x.ai=some ⟨g,0,none⟩∧RowG w g 5 52 ID.cells x.d.ins
 n:∃g,lo≤g∧x.an=some ⟨g,0,none⟩∧RowG w g 4 167 ND.cells x.d.named
theorem FC.own.later {lo:Nat} {w wx:World} {x:FC} (hb:Below w.heap.size w wx) (h:x.own lo w):x.own lo wx :=
 ⟨h.u.imp fun g k=>⟨k.1,k.2.1,k.2.2.later hb⟩,h.c.imp fun g k=>⟨k.1,k.2.1,k.2.2.later hb⟩,h.i.imp fun g k=>⟨k.1,k.2.1,k.2.2.later hb⟩,h.n.imp fun g k=>⟨k.1,k.2.1,k.2.2.later hb⟩⟩
theorem FC.own.set {lo q:Nat} {w:World} {x:FC} (h:x.own lo w) (hq:q<lo) (j:Nat) (v:Value):x.own lo (w.setCell ⟨q,j,none⟩ v) :=
 ⟨h.u.imp fun g k=>⟨k.1,k.2.1,k.2.2.set (by omega) j v⟩,h.c.imp fun g k=>⟨k.1,k.2.1,k.2.2.set (by omega) j v⟩,h.i.imp fun g k=>⟨k.1,k.2.1,k.2.2.set (by omega) j v⟩,h.n.imp fun g k=>⟨k.1,k.2.1,k.2.2.set (by omega) j v⟩⟩
theorem FC.own.lie {lo:Nat} {w:World} {x:FC} (h:x.own lo w):x.lie w:=by
 obtain⟨⟨g1,_,e1,r1⟩,⟨g2,_,e2,r2⟩,⟨g3,_,e3,r3⟩,⟨g4,_,e4,r4⟩⟩:=h
 exact⟨e1▸r1.at,e2▸r2.at,e3▸r3.at,e4▸r4.at⟩
theorem FC.own.mono {lo lo':Nat} {w:World} {x:FC} (h:x.own lo w) (hl:lo'≤lo):x.own lo' w :=
 ⟨h.u.imp fun g k=>⟨by omega,k.2⟩,h.c.imp fun g k=>⟨by omega,k.2⟩,h.i.imp fun g k=>⟨by omega,k.2⟩,h.n.imp fun g k=>⟨by omega,k.2⟩⟩
theorem FC.len (x:FC):x.cells.length=9:=rfl
structure GD where
 t:Bool
 k:Int
 h:Int
def GD.cells (g:GD):List Value:=[.bool g.t,.int .i64 g.k,.int .i64 g.h]
theorem GD.len (g:GD):g.cells.length=3:=rfl
def aboveB (gs:List GD) (k:Int):Bool:=gs.all fun g=>!(g.t && decide (k<g.k))
def wantsV (r:Int):Int × Bool :=
 if r=2 then (1,true) else if r=3 then (3,true) else if r=4∨r=18∨r=19∨r=20 then (1,false) else if r=5 then (2,false) else if r=6 then (3,false) else (0,false)
structure SD where
 ts:List Int
 gs:List GD
structure RdS where
 ts:List Int
 taken:List Nat
 stay:List Nat
def rdTake (s:RdS) (operand:Bool) (x:Int) (r:Nat):Option RdS :=
 if (operand && decide (x<0))=true then (if s.stay.contains r=true then none else some ⟨s.ts.set r 0,s.taken++[r],s.stay⟩)
 else if operand=true then some s else some ⟨s.ts,s.taken,s.stay++[r]⟩
def rdMore (s:RdS) (role:Int) (r:Nat):Option RdS :=
 if role=18 then (if s.ts.getD (r+1) 0=1∧s.ts.getD (r+2) 0=1 then some s else none)
 else if role=20 then (if s.ts.getD (r+1) 0=1 then some s else none)
 else if role=19 then (if s.ts.getD (r+1) 0=0 then some ⟨s.ts,s.taken++[r],s.stay⟩ else none)
 else some s
def rdReg (operand:Bool) (x:Int):Nat:=if (operand && decide (x<0))=true then (-1-x).toNat else x.toNat
def rdStep (role x:Int) (s:RdS):Option RdS :=
 if (wantsV role).1=0 then some s
 else if s.ts.getD (rdReg (wantsV role).2 x) 0=(wantsV role).1 then
  (rdTake s (wantsV role).2 x (rdReg (wantsV role).2 x)).bind fun s'=>rdMore s' role (rdReg (wantsV role).2 x)
 else none
def rdUps (us:List UD) (ts:List Int):Bool:=us.all fun u=>!u.l || ts.getD u.i.toNat 0 == 2
def readV (c:List FD) (n:ID) (ts:List Int):Option RdS :=
 ((((rdStep (rl n.op 0) n.a ⟨ts,[],[]⟩).bind (rdStep (rl n.op 1) n.b)).bind (rdStep (rl n.op 2) n.c)).bind (rdStep (rl n.op 3) n.d)).bind fun s =>
  if n.op=11 then (if rdUps (c.getD n.b.toNat fd0).ups s.ts=true then some s else none) else some s
def writeV (n:ID) (ts:List Int):List Int :=
 if n.op=6 then ts.set n.a.toNat 2
 else if n.op=22∨n.op=27∨n.op=28 then ts.set n.a.toNat 3
 else if n.op=40 then ts.set (n.a+1).toNat 1
 else if n.op=42 then ts.set n.a.toNat 0
 else if n.op=41 then ts.set n.c.toNat 3
 else if rl n.op 0=1 then ts.set n.a.toNat 1
 else ts
def changeV (n:ID) (gs:List GD):Option (List GD) :=
 if n.op=31 then (if gs.length<50∧aboveB gs n.b=true then some (gs++[⟨true,n.b,n.a⟩]) else none)
 else if n.op=33 then (if gs.length<50∧aboveB gs n.a=true then some (gs++[⟨false,n.a,0⟩]) else none)
 else if n.op=32 then (match gs.getLast? with | some g=>if g.t=true then some gs.dropLast else none | none=>none)
 else if n.op=34 then (match gs.getLast? with | some g=>if g.t=false∧aboveB gs n.a=true then some (gs.dropLast++[⟨false,n.a,g.h⟩]) else none | none=>none)
 else if n.op=35 then (match gs.getLast? with | some g=>if g.t=false then some gs else none | none=>none)
 else if n.op=36 then (match gs.getLast? with | some g=>if g.t=false then some gs.dropLast else none | none=>none)
 else some gs
def keepV (gs:List GD):Int:=gs.foldl (fun k g=>if g.t then max k g.k else k) 0
def keptV (gs:List GD) (taken:List Nat) (before behind:List Int):Bool:=(taken.all fun r=>decide (keepV gs≤(r:Int))) && before.take (keepV gs).toNat == behind.take (keepV gs).toNat
def goesV (op:Int):Bool:=!endsB op
def targetV (n:ID):Option Nat :=
 if n.op=19∨n.op=31 then some n.a.toNat
 else if n.op=20∨n.op=21∨n.op=38∨n.op=39∨n.op=41 then some n.b.toNat
 else none
def caughtV (n:ID) (s:SD):SD:=⟨((s.ts.take n.b.toNat++[1,1])++List.replicate (s.ts.length-n.b.toNat-2) 0),s.gs⟩
def followV (n:ID) (at':Nat) (before behind:SD):List (Nat × SD) :=
 (if goesV n.op=true then [(at'+1,behind)] else []) ++
  (match targetV n with
   | some t=>[(t,if n.op=41 then before else if n.op=31 then caughtV n before else behind)]
   | none=>[])
structure WkS where
 st:List (Option SD)
 due:List Bool
def silentV (n:ID) (at':Nat):List Nat :=
 (if (goesV n.op && !(n.op == 1 || n.op == 3 || n.op == 28 || n.op == 41 || (n.op == 18 && n.b == 12)))=true then [at'+1] else [])++(match targetV n with | some t=>[t] | none=>[])
theorem keep_le (gs:List GD) (k0:Int) (r:Int):(gs.foldl (fun k g=>if g.t then max k g.k else k) k0≤r)↔(k0≤r∧∀g∈gs,g.t=true→g.k≤r):=by
 induction gs generalizing k0 with
 | nil=>simp
 | cons g gs ih =>
  rw[List.foldl_cons,ih]
  cases ht:g.t
  ·simp[ht]
  ·simp only[List.mem_cons,forall_eq_or_imp,ht,if_true,true_implies]
   constructor
   ·rintro ⟨h1,h2⟩;exact⟨(Int.max_le.1 h1).1,(Int.max_le.1 h1).2,h2⟩
   ·rintro ⟨h1,h2,h3⟩;exact⟨Int.max_le.2 ⟨h1,h2⟩,h3⟩
theorem keptBy_any (a:Option Addr) (len cap:Nat) (gs:List GD) (w:World) (hl:gs.length=len) (hp:SlA w 3 GD.cells a gs) (hlen:len≤1048576) :
  Calls Tryz.prog 72 #[.slice a len cap] w fun e w'=>e=.returned (.int .i64 (keepV gs))∧Below w.heap.size w w':=by
 have HP:Hid (SlA w 3 GD.cells a gs):=hp
 have HL:Hid (gs.length=len):=hl
 clear hp hl
 go_enter Tryz.func72,Tryz.ntmps72
 go_wp2_with fail
 go_loopw [3,8] (fun k i wr=>∃m:Nat,m≤len∧i=.int .i64 m∧k=.int .i64 (keepV (gs.take m))∧Below w.heap.size w wr) (fun _ i _=>len-(intOf i).toNat)
 case atStart=>exact⟨0,Nat.zero_le _,rfl,rfl,Below.refl _ _⟩
 case round =>
  obtain⟨m,hm,rfl,rfl,hB⟩:=hrel
  by_cases k1:m<len
  ·obtain⟨g,hg⟩:∃g,gs[m]?=some g:=⟨gs[m]'(by rw[HL.out];exact k1),by simp⟩
   obtain⟨b,off,rfl,hbl,hc⟩:=HP.out m g hg
   have c0:wr.cell? ⟨b,off+m*3,none⟩=some (.bool g.t):=cell_later hB (hc 0 _ rfl)
   have c1:wr.cell? ⟨b,off+m*3+1,none⟩=some (.int .i64 g.k):=cell_later hB (hc 1 _ rfl)
   have c2:wr.cell? ⟨b,off+m*3+2,none⟩=some (.int .i64 g.h):=cell_later hB (hc 2 _ rfl)
   have HT:Hid (keepV (gs.take (m+1))=if g.t then max (keepV (gs.take m)) g.k else keepV (gs.take m)):=by
    show keepV (gs.take (m+1))=_
    rw[List.take_add_one,hg]
    unfold keepV
    simp[List.foldl_append]
   obtain⟨z,hz⟩:∃z,keepV (gs.take m)=z:=⟨_,rfl⟩
   rw[hz]at HT ⊢
   clear hg hc
   obtain⟨t,k,h⟩:=g
   dsimp only at c0 c1 c2 HT
   cases t
   ·go_wp2_with fail
    go_roundw
    case rel=>exact⟨m+1,by omega,by go_num,by rw[HT.out];rfl,below_alloc hB _⟩
    case measure=>simp[intOf];omega
   ·go_wp2_with fail
    go_roundw
    case rel=>exact⟨m+1,by omega,by go_num,by rw[HT.out,if_pos rfl];congr 1;rw[Int.max_def];split<;>split<;>omega,below_alloc hB _⟩
    case measure=>simp[intOf];omega
  ·have hml:m=len:=by omega
   subst hml
   have HE:Hid (keepV (gs.take m)=keepV gs):=by show _=_;rw[List.take_of_length_le (by rw[HL.out];omega)]
   rw[HE.out]
   go_wp2_with fail
   go_ret
   exact⟨rfl,hB⟩
def ORow {α:Type} (w:World) (B:Nat) (et:TypeId) (k:Nat) (cells:α→List Value) (sv:Value) (xs:List α):Prop:=w.ownsRow B et k sv xs.length (xs.flatMap cells)
theorem ORow.nil {α:Type} (w:World) (B:Nat) (et:TypeId) (k:Nat) (cells:α→List Value):ORow w B et k cells (.slice none 0 0) []:=owns_nil _ _ _ _
theorem ORow.val {α:Type} {w:World} {B:Nat} {et:TypeId} {k:Nat} {cells:α→List Value} {sv:Value} {xs:List α} (h:ORow w B et k cells sv xs):∃a cap,sv=.slice a xs.length cap:=by
 rcases h.2 with ⟨rfl,h0⟩ | ⟨g,cap,cur,rfl,_⟩
 ·exact⟨none,0,by rw[h0]⟩
 ·exact⟨_,_,rfl⟩
theorem ORow.keep {α:Type} {w w':World} {B:Nat} {et:TypeId} {k:Nat} {cells:α→List Value} {sv:Value} {xs:List α} (h:ORow w B et k cells sv xs) (hk:∀j arr,B≤j→w.heap[j]?=some (.cells arr et (0,0))→w'.heap[j]?=w.heap[j]?):ORow w' B et k cells sv xs:=by
 obtain⟨h1,h2⟩:=h
 refine⟨h1,?_⟩
 rcases h2 with h2 | ⟨g,cap,cur,e1,e2,e3,e4⟩
 ·exact .inl h2
 ·exact .inr ⟨g,cap,cur,e1,e2,(hk g cur e2 e3).trans e3,e4⟩
theorem ORow.later {α:Type} {w w':World} {B:Nat} {et:TypeId} {k:Nat} {cells:α→List Value} {sv:Value} {xs:List α} (h:ORow w B et k cells sv xs) (hb:Below w.heap.size w w'):ORow w' B et k cells sv xs:=owns_later hb h
theorem ORow.mono {α:Type} {w:World} {B B':Nat} {et:TypeId} {k:Nat} {cells:α→List Value} {sv:Value} {xs:List α} (h:ORow w B et k cells sv xs) (hb:B'≤B):ORow w B' et k cells sv xs:=by
 obtain⟨h1,h2⟩:=h
 refine⟨h1,?_⟩
 rcases h2 with h2 | ⟨g,cap,cur,e1,e2,e3⟩
 ·exact .inl h2
 ·exact .inr ⟨g,cap,cur,e1,Nat.le_trans hb e2,e3⟩
theorem ORow.app {α:Type} {w:World} {B:Nat} {et:TypeId} {k:Nat} {cells:α→List Value} {sv:Value} {xs:List α} (st:TypeId) (by':Nat) (hu:Tryz.prog.underlying st=some (.slice et)) (hc:(Tryz.prog.info? et).map (fun i=>(i.zero.map (fun z=>z.cells.size),i.size,i.bytes))=some (some k,k,by')) (hk:0<k) (hby:by'≤1000) (h:ORow w B et k cells sv xs) (x:α) (nb:Nat) (ty:TypeId) (hn:w.heap[nb]?=some (.cells (cells x).toArray et)) (hl:(cells x).length=k) (h1:∀u∈cells x,u.oneCell'=true) (hlen:xs.length≤2000000) (hb:B≤w.heap.size) :
  ∃g' cap' w',(Builtin.append_ #[st,st] ty #[sv,.slice (some ⟨nb,0,none⟩) 1 1]).run Tryz.prog w=.ok (.slice (some ⟨g',0,none⟩) (xs.length+1) cap') w'∧ORow w' B et k cells (.slice (some ⟨g',0,none⟩) (xs.length+1) cap') (xs++[x])∧w.grownBy w' sv.ownBlock:=by
 obtain⟨g',cap',w',a1,a2,a3⟩:=app_gen st et k by' hu hc hk hby B w sv xs.length (xs.flatMap cells) (cells x) nb ty h hn hl h1 hlen hb
 refine⟨g',cap',w',a1,?_,a3⟩
 unfold ORow
 rw[List.length_append,List.flatMap_append]
 simpa using a2
theorem flat_at {α:Type} (cells:α→List Value) (k:Nat):∀(xs:List α) (i j:Nat) (x:α) (v:Value),(∀y∈xs,(cells y).length=k)→xs[i]?=some x→(cells x)[j]?=some v→(xs.flatMap cells)[i*k+j]?=some v
 | [],i,j,x,v,_,hx,_=>by simp at hx
 | y :: ys,0,j,x,v,hk,hx,hv=>by
  obtain rfl:y=x:=by simpa using hx
  have hj:=(List.getElem?_eq_some_iff.1 hv).1
  rw[Nat.zero_mul,Nat.zero_add,List.flatMap_cons,List.getElem?_append_left hj]
  exact hv
 | y :: ys,i+1,j,x,v,hk,hx,hv=>by
  have hy:=hk y (by simp)
  rw[List.flatMap_cons,List.getElem?_append_right (by rw[hy,Nat.add_mul,Nat.one_mul];omega),hy,show (i+1)*k+j-k=i*k+j by rw[Nat.add_mul,Nat.one_mul];omega]
  exact flat_at cells k ys i j x v (fun z hz=>hk z (by simp[hz])) (by simpa using hx) hv
theorem ORow.lies {α:Type} {w:World} {B:Nat} {et:TypeId} {k:Nat} {cells:α→List Value} {sv:Value} {xs:List α} (h:ORow w B et k cells sv xs) (hk:∀y,(cells y).length=k):∃a cap,sv=.slice a xs.length cap∧SlA w k cells a xs:=by
 rcases h with ⟨hl,⟨rfl,h0⟩ | ⟨g,cap,cur,rfl,e2,e3,e4⟩⟩
 ·have:xs=[]:=List.length_eq_zero_iff.1 h0
  subst this
  exact⟨none,0,rfl,SlA.nil _ _ _ _⟩
 ·refine⟨_,cap,rfl,fun i x hi=>⟨g,0,rfl,blk_lt e3,fun j v hv=>?_⟩⟩
  have hf:=flat_at cells k xs i j x v (fun y _=>hk y) hi hv
  have hlt:=(List.getElem?_eq_some_iff.1 hf).1
  rw[←e4.2.2.2,List.getElem?_take]at hf
  rw[blk_cell e3,Nat.zero_add]
  split at hf
  ·simpa using hf
  ·cases hf
theorem ORow.open {α:Type} {w:World} {B:Nat} {et:TypeId} {k:Nat} {cells:α→List Value} {sv:Value} {xs:List α} (h:ORow w B et k cells sv xs) (hk:∀y,(cells y).length=k) (h0:0<xs.length):∃g cap,sv=.slice (some ⟨g,0,none⟩) xs.length cap∧B≤g∧xs.length≤cap∧SlA w k cells (some ⟨g,0,none⟩) xs∧(∀i,w.frozen? ⟨g,i,none⟩=false)∧g<w.heap.size:=by
 obtain⟨a,cap,e,hs⟩:=h.lies hk
 rcases h with ⟨hl,⟨rfl,h1⟩ | ⟨g,cap,cur,rfl,e2,e3,e4⟩⟩
 ·omega
 ·cases e
  exact⟨g,cap,rfl,e2,e4.1,hs,fun i=>blk_frozen e3 i,blk_lt e3⟩
theorem SlA.take {α:Type} {w:World} {k:Nat} {cells:α→List Value} {a:Option Addr} {xs:List α} (h:SlA w k cells a xs) (m:Nat):SlA w k cells a (xs.take m):=by
 intro i x hi
 rw[List.getElem?_take]at hi
 split at hi
 ·exact h i x hi
 ·cases hi
def natC (r:Nat):List Value:=[.int .i64 (r:Int)]
def TyAt (w:World) (g cap:Nat) (ts:List Int):Prop:=∃cur:Array Value,w.heap[g]?=some (.cells cur 3)∧ts.length≤cap∧cur.size=cap∧∀i,i<ts.length→cur[i]?=some (.int .i64 (ts.getD i 0))
theorem TyAt.cell {w:World} {g cap:Nat} {ts:List Int} (h:TyAt w g cap ts) {i:Nat} (hi:i<ts.length):w.cell? ⟨g,i,none⟩=some (.int .i64 (ts.getD i 0)):=by
 obtain⟨cur,h1,_,_,h2⟩:=h
 rw[blk_cell h1];exact h2 i hi
theorem TyAt.froz {w:World} {g cap:Nat} {ts:List Int} (h:TyAt w g cap ts) (i:Nat):w.frozen? ⟨g,i,none⟩=false:=by
 obtain⟨cur,h1,_⟩:=h
 exact blk_frozen h1 i
theorem TyAt.lt {w:World} {g cap:Nat} {ts:List Int} (h:TyAt w g cap ts):g<w.heap.size:=by
 obtain⟨cur,h1,_⟩:=h
 exact blk_lt h1
theorem TyAt.later {w wx:World} {g cap:Nat} {ts:List Int} (hb:Below w.heap.size w wx) (h:TyAt w g cap ts):TyAt wx g cap ts:=by
 obtain⟨cur,h1,h2⟩:=h
 exact⟨cur,blk_later hb h1,h2⟩
theorem TyAt.set {w:World} {g cap:Nat} {ts:List Int} (h:TyAt w g cap ts) (i:Nat) (z:Int):TyAt (w.setCell ⟨g,i,none⟩ (.int .i64 z)) g cap (ts.set i z):=by
 obtain⟨cur,h1,h2,h3,h4⟩:=h
 refine⟨cur.setIfInBounds i (.int .i64 z),blk_set h1 i _,by rw[List.length_set];exact h2,by simpa using h3,fun j hj=>?_⟩
 rw[List.length_set]at hj
 rw[Array.getElem?_setIfInBounds]
 by_cases hij:i=j
 ·subst hij
  rw[if_pos rfl,if_pos (by omega),List.getD_eq_getElem?_getD,List.getElem?_set_self hj];rfl
 ·rw[if_neg hij,h4 j hj,List.getD_eq_getElem?_getD,List.getD_eq_getElem?_getD,List.getElem?_set_ne hij]
structure But (g:Nat) (w w':World):Prop where
 os:w'.os=w.os
 tape:w'.tape=w.tape
 output:w'.output=w.output
 size:w.heap.size≤w'.heap.size
 block:∀k,k<w.heap.size→k≠g→w'.heap[k]?=w.heap[k]?
theorem But.of_below {g:Nat} {w w':World} (h:Below w.heap.size w w'):But g w w':=⟨h.os,h.tape,h.output,h.size,fun k hk _=>h.block k hk⟩
theorem But.set {g:Nat} {w w':World} (h:But g w w') (j:Nat) (v:Value):But g w (w'.setCell ⟨g,j,none⟩ v) :=
 ⟨h.os,h.tape,h.output,by simpa using h.size,fun k hk hg=>by rw[Below.heap_setCell _ _ _ _ (by simpa using hg)];exact h.block k hk hg⟩
theorem But.alloc {g:Nat} {w w':World} (h:But g w w') (o:Obj):But g w (w'.alloc o) :=
 ⟨h.os,h.tape,h.output,by have:=h.size;simp;omega,fun k hk hg=>by have hs:=h.size;show (w'.heap.push o)[k]?=_;rw[Array.getElem?_push,if_neg (by omega)];exact h.block k hk hg⟩
theorem But.below {g B:Nat} {w0 w w':World} (h0:Below B w0 w) (h:But g w w') (hB:B≤g) (hs:B≤w.heap.size):Below B w0 w' :=
 ⟨h.os.trans h0.os,h.tape.trans h0.tape,h.output.trans h0.output,Nat.le_trans h0.size h.size,fun k hk=>(h.block k (by omega) (by omega)).trans (h0.block k hk)⟩
theorem app_where (st et:TypeId) (k by':Nat) (hu:Tryz.prog.underlying st=some (.slice et)) (hc:(Tryz.prog.info? et).map (fun i=>(i.zero.map (fun z=>z.cells.size),i.size,i.bytes))=some (some k,k,by')) (hk:0<k) (hby:by'≤1000)
  (base:Nat) (w:World) (sv:Value) (n:Nat) (xs news:List Value) (nb:Nat) (ty:TypeId) (ho:w.ownsRow base et k sv n xs) (hn:w.heap[nb]?=some (.cells news.toArray et)) (hl:news.length=k) (h1:∀u∈news,u.oneCell'=true) (hlen:n≤2000000)
  {g' n' cap':Nat} {w':World} (hr:(Builtin.append_ #[st,st] ty #[sv,.slice (some ⟨nb,0,none⟩) 1 1]).run Tryz.prog w=.ok (.slice (some ⟨g',0,none⟩) n' cap') w'):some g'=sv.ownBlock∨g'=w.heap.size:=by
 obtain⟨i,z,hi,hz,e1,e2,e3⟩:∃(i:TypeInfo) (z:Value),Tryz.prog.info? et=some i∧i.zero=some z∧i.size=k∧i.bytes=by'∧z.cells.size=k:=by
  cases hi:Tryz.prog.info? et with
  | none=>rw[hi]at hc;cases hc
  | some i =>
   rw[hi]at hc
   simp only[Option.map_some,Option.some.injEq,Prod.mk.injEq]at hc
   obtain⟨h1,h2,h3⟩:=hc
   cases hz:i.zero with
   | none=>rw[hz]at h1;cases h1
   | some z=>rw[hz]at h1;simp at h1;exact⟨i,z,rfl,hz,h2,h3,h1⟩
 have hnews:∀j u,news[j]?=some u→w.cell? ((⟨nb,0,none⟩:Addr).add j)=some u:=fun j u hu=>by
  rw[Addr.add_lit,Nat.zero_add,blk_cell hn]
  simpa using hu
 have hbb:(n+1)*by'≤2000001*1000:=Nat.mul_le_mul (by omega) hby
 subst e1 e2
 rcases ho.2 with ⟨rfl,rfl⟩ | ⟨g,cap,cur,rfl,hbg,hg,hnc,hcm,hcs,htake⟩
 ·have h:=run_append_nil (P:=Tryz.prog) w st ty et i z hu hi hz ⟨nb,0,none⟩ 1 1 news (by omega) hnews (by omega) (by omega) (by omega)
  rw[hr]at h
  injection h with h _
  injection h with h _ _
  cases h
  exact .inr rfl
 ·by_cases hroom:n+1≤cap
  ·have hfit:n*i.size+news.length≤cur.size:=by
    rw[hl,hcs]
    have:=Nat.mul_le_mul_right i.size hroom
    rw[Nat.add_mul,Nat.one_mul]at this
    exact this
   have h:=run_append_room (P:=Tryz.prog) w st ty et i hu hi g n cap cur hg ⟨nb,0,none⟩ 1 1 news (by omega) hnews h1 hroom hfit
   rw[hr]at h
   injection h with h _
   injection h with h _ _
   cases h
   exact .inl rfl
  ·have holds:∀j u,xs[j]?=some u→w.cell? ((⟨g,0,none⟩:Addr).add j)=some u:=ho.cells (g:=g) rfl
   have h:=run_append_grow (P:=Tryz.prog) w st ty et i z hu hi hz ⟨g,0,none⟩ n cap xs ho.1 holds ⟨nb,0,none⟩ 1 1 news (by omega) hnews (by omega) (by omega) (growslice_fits (by omega) (by omega))
   rw[hr]at h
   injection h with h _
   injection h with h _ _
   cases h
   exact .inr rfl
def Apart (a b:Value):Prop:=∀g,a.ownBlock=some g→b.ownBlock≠some g
theorem Apart.nil (b:Value):Apart (.slice none 0 0) b:=fun g h=>by cases h
theorem Apart.symm {a b:Value} (h:Apart a b):Apart b a:=fun g hb ha=>h g ha hb
theorem ORow.own_lt {α:Type} {w:World} {B:Nat} {et:TypeId} {k:Nat} {cells:α→List Value} {sv:Value} {xs:List α} (h:ORow w B et k cells sv xs) {g:Nat} (hg:sv.ownBlock=some g):B≤g∧g<w.heap.size:=by
 rcases h.2 with ⟨rfl,_⟩ | ⟨g',cap,cur,rfl,e2,e3,_⟩
 ·cases hg
 ·cases hg;exact⟨e2,blk_lt e3⟩
theorem ORow.apart {α:Type} {w w':World} {B:Nat} {et:TypeId} {k:Nat} {cells:α→List Value} {sv tv:Value} {xs:List α} (h:ORow w B et k cells sv xs) (ha:Apart sv tv) (hg:w.grownBy w' tv.ownBlock):ORow w' B et k cells sv xs:=by
 obtain⟨h1,h2⟩:=h
 refine⟨h1,?_⟩
 rcases h2 with h2 | ⟨g,cap,cur,e1,e2,e3,e4⟩
 ·exact .inl h2
 ·subst e1
  exact .inr ⟨g,cap,cur,rfl,e2,(hg.block g (blk_lt e3) (fun e=>ha g rfl e.symm)).trans e3,e4⟩
def fldV (n:ID):List (Int × Int):=[(rl n.op 0,n.a),(rl n.op 1,n.b),(rl n.op 2,n.c),(rl n.op 3,n.d)]
def rdAll:List (Int × Int)→RdS→Option RdS
 | [],s=>some s
 | f :: fs,s=>(rdStep f.1 f.2 s).bind (rdAll fs)
theorem readV_all (c:List FD) (n:ID) (ts:List Int):readV c n ts=(rdAll (fldV n) ⟨ts,[],[]⟩).bind fun s=>if n.op=11 then (if rdUps (c.getD n.b.toNat fd0).ups s.ts=true then some s else none) else some s:=by
 unfold readV fldV
 simp only[rdAll]
 cases h0:rdStep (rl n.op 0) n.a ⟨ts,[],[]⟩ with
 | none=>rfl
 | some s0 =>
  simp only[Option.bind_some]
  cases h1:rdStep (rl n.op 1) n.b s0 with
  | none=>rfl
  | some s1 =>
   simp only[Option.bind_some]
   cases h2:rdStep (rl n.op 2) n.c s1 with
   | none=>rfl
   | some s2 =>
    simp only[Option.bind_some]
    cases h3:rdStep (rl n.op 3) n.d s2 with
    | none=>rfl
    | some s3=>rfl
def regOk (len:Nat) (role x:Int):Prop :=
 (wantsV role).1≠0→0≤(if ((wantsV role).2 && decide (x<0))=true then -1-x else x)∧(if ((wantsV role).2 && decide (x<0))=true then -1-x else x)+(if role=18 then 2 else if role=19∨role=20 then 1 else 0)<len
structure RdI (g cap B:Nat) (W0 wr:World) (tv sv:Value) (s:RdS):Prop where
 size:W0.heap.size=B
 lt:g<B
 but:But g W0 wr
 ty:TyAt wr g cap s.ts
 ot:ORow wr B 3 1 natC tv s.taken
 os:ORow wr B 3 1 natC sv s.stay
 ap:Apart tv sv
theorem RdI.blk {g cap B:Nat} {W0 wr:World} {tv sv:Value} {s:RdS} (h:RdI g cap B W0 wr tv sv s) {b:Nat} {o:Obj} (hb:W0.heap[b]?=some o) (hg:b≠g):wr.heap[b]?=some o:=by
 rw[h.but.block b (blk_lt hb) hg];exact hb
theorem RdI.ge {g cap B:Nat} {W0 wr:World} {tv sv:Value} {s:RdS} (h:RdI g cap B W0 wr tv sv s):B≤wr.heap.size:=by
 have:=h.but.size;rw[h.size]at this;exact this
theorem RdI.set {g cap B:Nat} {W0 wr:World} {tv sv:Value} {s:RdS} (h:RdI g cap B W0 wr tv sv s) (r:Nat) (z:Int):RdI g cap B W0 (wr.setCell ⟨g,r,none⟩ (.int .i64 z)) tv sv ⟨s.ts.set r z,s.taken,s.stay⟩:=by
 have hne:∀j arr,B≤j→wr.heap[j]?=some (.cells arr 3 (0,0))→(wr.setCell ⟨g,r,none⟩ (.int .i64 z)).heap[j]?=wr.heap[j]?:=fun j arr hj _=>Below.heap_setCell _ _ _ _ (by show j≠g;have:=h.lt;omega)
 exact⟨h.size,h.lt,h.but.set r _,h.ty.set r z,h.ot.keep hne,h.os.keep hne,h.ap⟩
theorem RdI.alloc {g cap B:Nat} {W0 wr:World} {tv sv:Value} {s:RdS} (h:RdI g cap B W0 wr tv sv s) (o:Obj):RdI g cap B W0 (wr.alloc o) tv sv s :=
 ⟨h.size,h.lt,h.but.alloc o,h.ty.later (bw1 _ _),h.ot.later (bw1 _ _),h.os.later (bw1 _ _),h.ap⟩
abbrev W5 (w:World) (ac:Option Addr) (lc cc:Nat) (n:ID):World :=
 ((((w.alloc (.cells #[.slice ac lc cc] 26)).alloc (.cells #[.int .i64 n.op,.int .i64 n.a,.int .i64 n.b,.int .i64 n.c,.int .i64 n.d] 52)).alloc (RO n.op)).alloc (.cells #[.int .i64 n.op,.int .i64 n.a,.int .i64 n.b,.int .i64 n.c,.int .i64 n.d] 52)).alloc (.cells #[.int .i64 n.a,.int .i64 n.b,.int .i64 n.c,.int .i64 n.d] 3)
def gEq (x y:GD):Bool:=x.t == y.t && x.k == y.k && x.h == y.h
def all2 {α:Type} (eq:α→α→Bool):List α→List α→Bool
 | [],[]=>true
 | x :: xs,y :: ys=>eq x y && all2 eq xs ys
 | _,_=>false
theorem all2_drop {α:Type} {eq:α→α→Bool} {xs ys:List α} {m:Nat} {x y:α} (hx:xs[m]?=some x) (hy:ys[m]?=some y):all2 eq (xs.drop m) (ys.drop m)=(eq x y && all2 eq (xs.drop (m+1)) (ys.drop (m+1))):=by
 obtain⟨h1,e1⟩:=List.getElem?_eq_some_iff.1 hx
 obtain⟨h2,e2⟩:=List.getElem?_eq_some_iff.1 hy
 rw[List.drop_eq_getElem_cons h1,List.drop_eq_getElem_cons h2,e1,e2]
 rfl
theorem all2_end {α:Type} {eq:α→α→Bool} {xs ys:List α} {m:Nat} (h:xs.length≤m) (hl:ys.length=xs.length):all2 eq (xs.drop m) (ys.drop m)=true:=by
 rw[List.drop_of_length_le h,List.drop_of_length_le (by omega)];rfl
theorem all2_len {α:Type} {eq:α→α→Bool}:∀ {xs ys:List α},xs.length≠ys.length→all2 eq xs ys=false
 | [],[],h=>absurd rfl h
 | [],_ :: _,_=>rfl
 | _ :: _,[],_=>rfl
 | x :: xs,y :: ys,h=>by
  unfold all2
  rw[all2_len (by simpa using h),Bool.and_false]
theorem eqg_run (x y:GD) (w:World):(binOp .neq 176 (.agg #[.bool x.t,.int .i64 x.k,.int .i64 x.h]) (.agg #[.bool y.t,.int .i64 y.k,.int .i64 y.h])).run Tryz.prog w=.ok (.bool (!gEq x y)) w:=by
 obtain⟨a,b,c⟩:=x
 obtain⟨a',b',c'⟩:=y
 unfold gEq
 simp only
 cases h0:(a == a')<;>cases h1:(b == b')<;>cases h2:(c == c')<;>go_simp
end Go.Proofs.YtkajknidfoelcaaGreatDoor
