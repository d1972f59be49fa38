import Derived.Test.YtjglgbepobmjhaaGreatDoorP01
import Derived.Laws.FloatArith
import Derived.Deep.RegionWith
import Derived.Deep.QuietTactic
import Derived.BigQuiet
set_option linter.unusedVariables false
set_option linter.unusedSimpArgs false
set_option maxRecDepth 20000
set_option maxHeartbeats 8000000
namespace Go.Proofs.YtjglgbepobmjhaaGreatDoor
open Go.RowKit
attribute [local go_sem] run_store_float
theorem order_self (x:Nat) (h:FloatKind.f64.format.order x 0=some .eq):∃s e,FloatKind.f64.format.read x=.number s 0 e:=by
 have h0:FloatKind.f64.format.read 0=.number false 0 FloatKind.f64.format.leastPlace:=by decide
 unfold Ieee.Format.order at h
 rw[h0]at h
 cases hx:FloatKind.f64.format.read x with
 | number s m e =>
  rw[hx]at h
  simp only[Ieee.Datum.order,Option.some.injEq,Ieee.signed]at h
  refine⟨s,e,?_⟩
  have:=Int.compare_eq_eq.1 h
  have hm:m=0:=by
   have hz:m <<< (e-min e FloatKind.f64.format.leastPlace).toNat=0:=by
    generalize m <<< (e-min e FloatKind.f64.format.leastPlace).toNat=A at this
    rw[Nat.zero_shiftLeft]at this
    cases s<;>simp at this<;>omega
   rw[Nat.shiftLeft_eq]at hz
   rcases Nat.mul_eq_zero.1 hz with h | h
   ·exact h
   ·exact absurd h (Nat.ne_of_gt (Nat.two_pow_pos _))
  rw[hm]
 | infinity s=>rw[hx]at h;simp only[Ieee.Datum.order]at h;cases s<;>simp at h
 | nan s t=>rw[hx]at h;simp[Ieee.Datum.order]at h
end Go.Proofs.YtjglgbepobmjhaaGreatDoor
namespace Go.Proofs.YtjglgbepobmjhaaGreatDoor.Fl
open Go
def Can (M L:Nat):Prop:=M<9007199254740992∧(0<L→4503599627370496≤M)∧L≤2045
def wd (s:Bool) (M L:Nat):Nat:=Ieee.double.word s (L*4503599627370496+M)
theorem read_wd (s:Bool) (M L:Nat) (h:Can M L):Ieee.double.read (wd s M L)=.number s M (-1074+L):=by
 obtain⟨h1,h2,h3⟩:=h
 have e1:Ieee.double.signWeight=9223372036854775808:=by decide
 have e2:Ieee.double.binade=4503599627370496:=by decide
 have e3:Ieee.double.infRung=9218868437227405312:=by decide
 have e4:Ieee.double.leastPlace=-1074:=by decide
 unfold wd Ieee.Format.read Ieee.Format.word
 rw[e1,e2,e3,e4]
 have hs:((if s=true then 9223372036854775808+(L*4503599627370496+M) else L*4503599627370496+M) / 9223372036854775808 % 2 == 1)=s:=by
  cases s<;>simp<;>omega
 have hr:(if s=true then 9223372036854775808+(L*4503599627370496+M) else L*4503599627370496+M) % 9223372036854775808=L*4503599627370496+M:=by
  cases s<;>simp<;>omega
 simp only[hs,hr]
 by_cases hl:L*4503599627370496+M<4503599627370496
 ·rw[if_pos hl]
  have:L=0:=by omega
  subst this;simp
 ·rw[if_neg hl,if_pos (by omega)]
  have hq:4503599627370496+(L*4503599627370496+M) % 4503599627370496=M:=by omega
  have hp:(L*4503599627370496+M) / 4503599627370496-1=L:=by omega
  rw[hq,hp]
theorem read_cases (x:Nat) (hx:x<18446744073709551616) :
  (∃s M L,Can M L∧x=wd s M L∧Ieee.double.read x=.number s M (-1074+L))∨(∃s,Ieee.double.read x=.infinity s)∨(∃s t,Ieee.double.read x=.nan s t):=by
 have e1:Ieee.double.signWeight=9223372036854775808:=by decide
 have e2:Ieee.double.binade=4503599627370496:=by decide
 have e3:Ieee.double.infRung=9218868437227405312:=by decide
 by_cases h:x % 9223372036854775808<9218868437227405312
 ·refine .inl ?_
  obtain⟨s,hs⟩:∃s:Bool,x=(if s then 9223372036854775808+x % 9223372036854775808 else x % 9223372036854775808):=by
   by_cases hb:x<9223372036854775808
   ·exact⟨false,by simp;omega⟩
   ·exact⟨true,by simp;omega⟩
  by_cases hl:x % 9223372036854775808<4503599627370496
  ·have hc:Can (x % 9223372036854775808) 0:=⟨by omega,by omega,by omega⟩
   have hw:x=wd s (x % 9223372036854775808) 0:=by
    unfold wd Ieee.Format.word;rw[e1];cases s<;>simp at hs ⊢<;>omega
   have hr:=read_wd s _ 0 hc
   rw[←hw]at hr
   exact⟨s,_,0,hc,hw,hr⟩
  ·let M:=4503599627370496+x % 9223372036854775808 % 4503599627370496
   let L:=x % 9223372036854775808 / 4503599627370496-1
   have hc:Can M L:=⟨by omega,by omega,by omega⟩
   have hw:x=wd s M L:=by
    unfold wd Ieee.Format.word;rw[e1];cases s<;>simp at hs ⊢<;>omega
   exact⟨s,M,L,hc,hw,by rw[hw];exact read_wd s M L hc⟩
 ·unfold Ieee.Format.read
  rw[e1,e2,e3]
  dsimp only
  rw[if_neg (by omega),if_neg h]
  by_cases hi:x % 9223372036854775808=9218868437227405312
  ·rw[if_pos hi];exact .inr (.inl ⟨_,rfl⟩)
  ·rw[if_neg hi];exact .inr (.inr ⟨_,_,rfl⟩)
def V (s:Bool) (M L:Nat):Int:=if s then -((M*2^L:Nat):Int) else ((M*2^L:Nat):Int)
end Go.Proofs.YtjglgbepobmjhaaGreatDoor.Fl
namespace Go.Proofs.YtjglgbepobmjhaaGreatDoor
open Go.RowKit
theorem fz_two (f:Nat) (hf:f<18446744073709551616) (h:fz f=true):f=0∨f=9223372036854775808:=by
 have h':FloatKind.f64.format.order f 0=some .eq:=by simpa [fz] using h
 obtain⟨s,e,hr⟩:=order_self f h'
 rcases Fl.read_cases f hf with ⟨t,M,L,hc,hw,hm⟩ | ⟨t,hm⟩ | ⟨t,u,hm⟩
 ·have hr':Ieee.double.read f=.number s 0 e:=hr
  rw[hm]at hr'
  simp only[Ieee.Datum.number.injEq]at hr'
  obtain⟨_,h0,_⟩:=hr'
  subst h0
  have hL:L=0:=by
   have:=hc.2.1
   omega
  subst hL
  cases t
  ·left;rw[hw];decide
  ·right;rw[hw];decide
 ·have hr':Ieee.double.read f=.number s 0 e:=hr
  rw[hm]at hr';cases hr'
 ·have hr':Ieee.double.read f=.number s 0 e:=hr
  rw[hm]at hr';cases hr'
theorem vok_fz {v:VD} (h:vok v.k v.n v.f v.s v.r=true) (h3:¬v.k=3):fz v.f=true:=by
 unfold vok at h
 repeat' split at h
 all_goals simp_all[zr]
theorem ret_bo {a b:Bool} (h:a=b):Ending.returned (.bool a)=.returned (.bool b):=by rw[h]
abbrev PV (f:FC):Value:=.agg #[.string f.d.name,.int .i64 f.d.line,.int .i64 f.d.params,.bool f.d.rest,.int .i64 f.d.regs,.slice f.au f.d.ups.length f.cu,.slice f.ac f.d.consts.length f.cc,.slice f.ai f.d.ins.length f.ci,.slice f.an f.d.named.length f.cn]
abbrev RO (op:Int):Obj:=.cells #[.int .i64 (rl op 0),.int .i64 (rl op 1),.int .i64 (rl op 2),.int .i64 (rl op 3)] 3
def fv (n:ID) (k:Nat):Int:=[n.a,n.b,n.c,n.d].getD k 0
theorem fields_all {np:Nat} {f:FD} {n:ID} (h0:1≤n.op) (h1:n.op≤42) (h:∀j,j<4→fitsB np f (rl n.op j) (fv n j)=true):fieldsB np f n=true:=by
 have a0:=h 0 (by omega)
 have a1:=h 1 (by omega)
 have a2:=h 2 (by omega)
 have a3:=h 3 (by omega)
 simp only[fv,List.getD_cons_zero,List.getD_cons_succ]at a0 a1 a2 a3
 simp[fieldsB,inR,h0,h1,a0,a1,a2,a3]
theorem fields_not {np:Nat} {f:FD} {n:ID} {j:Nat} (hj:j<4) (h:fitsB np f (rl n.op j) (fv n j)=false):fieldsB np f n=false:=by
 match j,hj with
 | 0,_=>simp only[fv,List.getD_cons_zero]at h;simp[fieldsB,h]
 | 1,_=>simp only[fv,List.getD_cons_zero,List.getD_cons_succ]at h;simp[fieldsB,h]
 | 2,_=>simp only[fv,List.getD_cons_zero,List.getD_cons_succ]at h;simp[fieldsB,h]
 | 3,_=>simp only[fv,List.getD_cons_zero,List.getD_cons_succ]at h;simp[fieldsB,h]
theorem blk_newn {w:World} {k:Nat} (h:w.heap.size=k) (o:Obj):(w.alloc o).heap[k]?=some o:=by subst h;exact blk_new w o
theorem below_alloc {w w1:World} (h:Below w.heap.size w w1) (o:Obj):Below w.heap.size w (w1.alloc o):=h.alloc h.size o
theorem below_dr (B:Nat) (w:World) (n:Nat):Below B w (w.drewN n):=⟨rfl,rfl,rfl,Nat.le_refl _,fun _ _=>rfl⟩
theorem upsB_not {m:FD} {us:List UD} {j:Nat} {u:UD} (hj:us[j]?=some u) (h:upB m u=false):upsB m us=false:=by
 cases hb:upsB m us
 ·rfl
 ·have:=List.all_eq_true.1 hb u (List.mem_of_getElem? hj)
  rw[h]at this;cases this
theorem upsB_all {m:FD} {us:List UD} (h:∀(j:Nat) (u:UD),us[j]?=some u→upB m u=true):upsB m us=true:=by
 refine List.all_eq_true.2 fun u hu=>?_
 obtain⟨j,hj⟩:=List.getElem?_of_mem hu
 exact h j u hj
structure Lat (w:World) where
 wd:World
 below:Below w.heap.size w wd
theorem lat_some (w:World):Nonempty (Lat w):=⟨⟨w,Below.refl _ _⟩⟩
theorem lat_cell {w:World} {a:Addr} {v:Value} (h:w.cell? a=some v) (x:Lat w):x.wd.cell? a=some v:=cell_later x.below h
theorem lat_calls {P:Program} {f:FuncId} {args:Array Value} {w:World} {x:Lat w} {v:Value}
  (h:Calls P f args x.wd fun e w'=>e=.returned v∧Below x.wd.heap.size x.wd w'):Calls P f args x.wd fun e w'=>e=.returned v∧∃y:Lat w,w'=y.wd :=
 h.mono fun _ w' ⟨he,hb⟩=>⟨he,⟨w',x.below.trans (hb.mono x.below.size)⟩,rfl⟩
theorem wp_region_lat {P:Program} {id:Nat} {Q:Exit→Act→World→Prop} {a:Act} {w:World} {l:List Oper} (hm:P.follows .mixedOrders=true) (hB:Region.lexB .any l.toArray=true)
  (h:wpQuiet P l.toArray (fun w'=>∃x:Lat w,w'=x.wd) (fun a'=>∀w',(∃x:Lat w,w'=x.wd)→Q .normal a' w') l a):(Code.region id l.toArray true).wp P Q a w :=
 wp_region_quiet (C:=fun w'=>∃x:Lat w,w'=x.wd) hm hB ⟨⟨w.drew,(Below.refl _ _).drew⟩,rfl⟩ (by simpa using h)
theorem newblk (w:World) (o:Obj):∃w2,w2=w.alloc o∧Below w.heap.size w w2∧w2.heap[w.heap.size]?=some o∧w2.heap.size=w.heap.size+1:=⟨_,rfl,bw1 _ _,blk_new _ _,by simp⟩
attribute [local go_sem] run_store_float
attribute [local go_sem] run_store_float
structure FC.own (lo:Nat) (w:World) (x:FC):Prop where
 u:∃g,lo≤g∧x.au=some ⟨g,0,none⟩∧RowG w g 2 239 UD.cells x.d.ups
 c:∃g,lo≤g∧x.ac=some ⟨g,0,none⟩∧RowG w g 5 70 VD.cells x.d.consts
 i:∃g,lo≤g∧x.ai=some ⟨g,0,none⟩∧RowG w g 5 47 ID.cells x.d.ins
 n:∃g,lo≤g∧x.an=some ⟨g,0,none⟩∧RowG w g 4 163 ND.cells x.d.named
theorem FC.own.later {lo:Nat} {w wx:World} {x:FC} (hb:Below w.heap.size w wx) (h:x.own lo w):x.own lo wx :=
 ⟨h.u.imp fun g k=>⟨k.1,k.2.1,k.2.2.later hb⟩,h.c.imp fun g k=>⟨k.1,k.2.1,k.2.2.later hb⟩,h.i.imp fun g k=>⟨k.1,k.2.1,k.2.2.later hb⟩,h.n.imp fun g k=>⟨k.1,k.2.1,k.2.2.later hb⟩⟩
theorem FC.own.set {lo q:Nat} {w:World} {x:FC} (h:x.own lo w) (hq:q<lo) (j:Nat) (v:Value):x.own lo (w.setCell ⟨q,j,none⟩ v) :=
 ⟨h.u.imp fun g k=>⟨k.1,k.2.1,k.2.2.set (by omega) j v⟩,h.c.imp fun g k=>⟨k.1,k.2.1,k.2.2.set (by omega) j v⟩,h.i.imp fun g k=>⟨k.1,k.2.1,k.2.2.set (by omega) j v⟩,h.n.imp fun g k=>⟨k.1,k.2.1,k.2.2.set (by omega) j v⟩⟩
theorem FC.own.lie {lo:Nat} {w:World} {x:FC} (h:x.own lo w):x.lie w:=by
 obtain⟨⟨g1,_,e1,r1⟩,⟨g2,_,e2,r2⟩,⟨g3,_,e3,r3⟩,⟨g4,_,e4,r4⟩⟩:=h
 exact⟨e1▸r1.at,e2▸r2.at,e3▸r3.at,e4▸r4.at⟩
theorem FC.own.mono {lo lo':Nat} {w:World} {x:FC} (h:x.own lo w) (hl:lo'≤lo):x.own lo' w :=
 ⟨h.u.imp fun g k=>⟨by omega,k.2⟩,h.c.imp fun g k=>⟨by omega,k.2⟩,h.i.imp fun g k=>⟨by omega,k.2⟩,h.n.imp fun g k=>⟨by omega,k.2⟩⟩
theorem FC.len (x:FC):x.cells.length=9:=rfl
structure GD where
 t:Bool
 k:Int
 h:Int
def GD.cells (g:GD):List Value:=[.bool g.t,.int .i64 g.k,.int .i64 g.h]
theorem GD.len (g:GD):g.cells.length=3:=rfl
def aboveB (gs:List GD) (k:Int):Bool:=gs.all fun g=>!(g.t && decide (k<g.k))
def wantsV (r:Int):Int × Bool :=
 if r=2 then (1,true) else if r=3 then (3,true) else if r=4∨r=18∨r=19∨r=20 then (1,false) else if r=5 then (2,false) else if r=6 then (3,false) else (0,false)
structure SD where
 ts:List Int
 gs:List GD
structure RdS where
 ts:List Int
 taken:List Nat
 stay:List Nat
def rdTake (s:RdS) (operand:Bool) (x:Int) (r:Nat):Option RdS :=
 if (operand && decide (x<0))=true then (if s.stay.contains r=true then none else some ⟨s.ts.set r 0,s.taken++[r],s.stay⟩)
 else if operand=true then some s else some ⟨s.ts,s.taken,s.stay++[r]⟩
def rdMore (s:RdS) (role:Int) (r:Nat):Option RdS :=
 if role=18 then (if s.ts.getD (r+1) 0=1∧s.ts.getD (r+2) 0=1 then some s else none)
 else if role=20 then (if s.ts.getD (r+1) 0=1 then some s else none)
 else if role=19 then (if s.ts.getD (r+1) 0=0 then some ⟨s.ts,s.taken++[r],s.stay⟩ else none)
 else some s
def rdReg (operand:Bool) (x:Int):Nat:=if (operand && decide (x<0))=true then (-1-x).toNat else x.toNat
def rdStep (role x:Int) (s:RdS):Option RdS :=
 if (wantsV role).1=0 then some s
 else if s.ts.getD (rdReg (wantsV role).2 x) 0=(wantsV role).1 then
  (rdTake s (wantsV role).2 x (rdReg (wantsV role).2 x)).bind fun s'=>rdMore s' role (rdReg (wantsV role).2 x)
 else none
def rdUps (us:List UD) (ts:List Int):Bool:=us.all fun u=>!u.l || ts.getD u.i.toNat 0 == 2
def readV (c:List FD) (n:ID) (ts:List Int):Option RdS :=
 ((((rdStep (rl n.op 0) n.a ⟨ts,[],[]⟩).bind (rdStep (rl n.op 1) n.b)).bind (rdStep (rl n.op 2) n.c)).bind (rdStep (rl n.op 3) n.d)).bind fun s =>
  if n.op=11 then (if rdUps (c.getD n.b.toNat fd0).ups s.ts=true then some s else none) else some s
def writeV (n:ID) (ts:List Int):List Int :=
 if n.op=6 then ts.set n.a.toNat 2
 else if n.op=22∨n.op=27∨n.op=28 then ts.set n.a.toNat 3
 else if n.op=40 then ts.set (n.a+1).toNat 1
 else if n.op=42 then ts.set n.a.toNat 0
 else if n.op=41 then ts.set n.c.toNat 3
 else if rl n.op 0=1 then ts.set n.a.toNat 1
 else ts
def changeV (n:ID) (gs:List GD):Option (List GD) :=
 if n.op=31 then (if gs.length<50∧aboveB gs n.b=true then some (gs++[⟨true,n.b,n.a⟩]) else none)
 else if n.op=33 then (if gs.length<50∧aboveB gs n.a=true then some (gs++[⟨false,n.a,0⟩]) else none)
 else if n.op=32 then (match gs.getLast? with | some g=>if g.t=true then some gs.dropLast else none | none=>none)
 else if n.op=34 then (match gs.getLast? with | some g=>if g.t=false∧aboveB gs n.a=true then some (gs.dropLast++[⟨false,n.a,g.h⟩]) else none | none=>none)
 else if n.op=35 then (match gs.getLast? with | some g=>if g.t=false then some gs else none | none=>none)
 else if n.op=36 then (match gs.getLast? with | some g=>if g.t=false then some gs.dropLast else none | none=>none)
 else some gs
def keepV (gs:List GD):Int:=gs.foldl (fun k g=>if g.t then max k g.k else k) 0
def keptV (gs:List GD) (taken:List Nat) (before behind:List Int):Bool:=(taken.all fun r=>decide (keepV gs≤(r:Int))) && before.take (keepV gs).toNat == behind.take (keepV gs).toNat
def goesV (op:Int):Bool:=!endsB op
def targetV (n:ID):Option Nat :=
 if n.op=19∨n.op=31 then some n.a.toNat
 else if n.op=20∨n.op=21∨n.op=38∨n.op=39∨n.op=41 then some n.b.toNat
 else none
def caughtV (n:ID) (s:SD):SD:=⟨((s.ts.take n.b.toNat++[1,1])++List.replicate (s.ts.length-n.b.toNat-2) 0),s.gs⟩
def followV (n:ID) (at':Nat) (before behind:SD):List (Nat × SD) :=
 (if goesV n.op=true then [(at'+1,behind)] else []) ++
  (match targetV n with
   | some t=>[(t,if n.op=41 then before else if n.op=31 then caughtV n before else behind)]
   | none=>[])
structure WkS where
 st:List (Option SD)
 due:List Bool
def silentV (n:ID) (at':Nat):List Nat :=
 (if (goesV n.op && !(n.op == 1 || n.op == 3 || n.op == 28 || n.op == 41 || (n.op == 18 && n.b == 12)))=true then [at'+1] else [])++(match targetV n with | some t=>[t] | none=>[])
theorem keep_le (gs:List GD) (k0:Int) (r:Int):(gs.foldl (fun k g=>if g.t then max k g.k else k) k0≤r)↔(k0≤r∧∀g∈gs,g.t=true→g.k≤r):=by
 induction gs generalizing k0 with
 | nil=>simp
 | cons g gs ih =>
  rw[List.foldl_cons,ih]
  cases ht:g.t
  ·simp[ht]
  ·simp only[List.mem_cons,forall_eq_or_imp,ht,if_true,true_implies]
   constructor
   ·rintro ⟨h1,h2⟩;exact⟨(Int.max_le.1 h1).1,(Int.max_le.1 h1).2,h2⟩
   ·rintro ⟨h1,h2,h3⟩;exact⟨Int.max_le.2 ⟨h1,h2⟩,h3⟩
theorem keptBy_any (a:Option Addr) (len cap:Nat) (gs:List GD) (w:World) (hl:gs.length=len) (hp:SlA w 3 GD.cells a gs) (hlen:len≤1048576) :
  Calls Tryz.prog 70 #[.slice a len cap] w fun e w'=>e=.returned (.int .i64 (keepV gs))∧Below w.heap.size w w':=by
 have HP:Hid (SlA w 3 GD.cells a gs):=hp
 have HL:Hid (gs.length=len):=hl
 clear hp hl
 go_enter Tryz.func70,Tryz.ntmps70
 go_wp2_with fail
 go_loopw [3,8] (fun k i wr=>∃m:Nat,m≤len∧i=.int .i64 m∧k=.int .i64 (keepV (gs.take m))∧Below w.heap.size w wr) (fun _ i _=>len-(intOf i).toNat)
 case atStart=>exact⟨0,Nat.zero_le _,rfl,rfl,Below.refl _ _⟩
 case round =>
  obtain⟨m,hm,rfl,rfl,hB⟩:=hrel
  by_cases k1:m<len
  ·obtain⟨g,hg⟩:∃g,gs[m]?=some g:=⟨gs[m]'(by rw[HL.out];exact k1),by simp⟩
   obtain⟨b,off,rfl,hbl,hc⟩:=HP.out m g hg
   have c0:wr.cell? ⟨b,off+m*3,none⟩=some (.bool g.t):=cell_later hB (hc 0 _ rfl)
   have c1:wr.cell? ⟨b,off+m*3+1,none⟩=some (.int .i64 g.k):=cell_later hB (hc 1 _ rfl)
   have c2:wr.cell? ⟨b,off+m*3+2,none⟩=some (.int .i64 g.h):=cell_later hB (hc 2 _ rfl)
   have HT:Hid (keepV (gs.take (m+1))=if g.t then max (keepV (gs.take m)) g.k else keepV (gs.take m)):=by
    show keepV (gs.take (m+1))=_
    rw[List.take_add_one,hg]
    unfold keepV
    simp[List.foldl_append]
   obtain⟨z,hz⟩:∃z,keepV (gs.take m)=z:=⟨_,rfl⟩
   rw[hz]at HT ⊢
   clear hg hc
   obtain⟨t,k,h⟩:=g
   dsimp only at c0 c1 c2 HT
   cases t
   ·go_wp2_with fail
    go_roundw
    case rel=>exact⟨m+1,by omega,by go_num,by rw[HT.out];rfl,below_alloc hB _⟩
    case measure=>simp[intOf];omega
   ·go_wp2_with fail
    go_roundw
    case rel=>exact⟨m+1,by omega,by go_num,by rw[HT.out,if_pos rfl];congr 1;rw[Int.max_def];split<;>split<;>omega,below_alloc hB _⟩
    case measure=>simp[intOf];omega
  ·have hml:m=len:=by omega
   subst hml
   have HE:Hid (keepV (gs.take m)=keepV gs):=by show _=_;rw[List.take_of_length_le (by rw[HL.out];omega)]
   rw[HE.out]
   go_wp2_with fail
   go_ret
   exact⟨rfl,hB⟩
def ORow {α:Type} (w:World) (B:Nat) (et:TypeId) (k:Nat) (cells:α→List Value) (sv:Value) (xs:List α):Prop:=w.ownsRow B et k sv xs.length (xs.flatMap cells)
theorem ORow.nil {α:Type} (w:World) (B:Nat) (et:TypeId) (k:Nat) (cells:α→List Value):ORow w B et k cells (.slice none 0 0) []:=owns_nil _ _ _ _
theorem ORow.val {α:Type} {w:World} {B:Nat} {et:TypeId} {k:Nat} {cells:α→List Value} {sv:Value} {xs:List α} (h:ORow w B et k cells sv xs):∃a cap,sv=.slice a xs.length cap:=by
 rcases h.2 with ⟨rfl,h0⟩ | ⟨g,cap,cur,rfl,_⟩
 ·exact⟨none,0,by rw[h0]⟩
 ·exact⟨_,_,rfl⟩
theorem ORow.keep {α:Type} {w w':World} {B:Nat} {et:TypeId} {k:Nat} {cells:α→List Value} {sv:Value} {xs:List α} (h:ORow w B et k cells sv xs) (hk:∀j arr,B≤j→w.heap[j]?=some (.cells arr et (0,0))→w'.heap[j]?=w.heap[j]?):ORow w' B et k cells sv xs:=by
 obtain⟨h1,h2⟩:=h
 refine⟨h1,?_⟩
 rcases h2 with h2 | ⟨g,cap,cur,e1,e2,e3,e4⟩
 ·exact .inl h2
 ·exact .inr ⟨g,cap,cur,e1,e2,(hk g cur e2 e3).trans e3,e4⟩
theorem ORow.later {α:Type} {w w':World} {B:Nat} {et:TypeId} {k:Nat} {cells:α→List Value} {sv:Value} {xs:List α} (h:ORow w B et k cells sv xs) (hb:Below w.heap.size w w'):ORow w' B et k cells sv xs:=owns_later hb h
theorem ORow.mono {α:Type} {w:World} {B B':Nat} {et:TypeId} {k:Nat} {cells:α→List Value} {sv:Value} {xs:List α} (h:ORow w B et k cells sv xs) (hb:B'≤B):ORow w B' et k cells sv xs:=by
 obtain⟨h1,h2⟩:=h
 refine⟨h1,?_⟩
 rcases h2 with h2 | ⟨g,cap,cur,e1,e2,e3⟩
 ·exact .inl h2
 ·exact .inr ⟨g,cap,cur,e1,Nat.le_trans hb e2,e3⟩
theorem ORow.app {α:Type} {w:World} {B:Nat} {et:TypeId} {k:Nat} {cells:α→List Value} {sv:Value} {xs:List α} (st:TypeId) (by':Nat) (hu:Tryz.prog.underlying st=some (.slice et)) (hc:(Tryz.prog.info? et).map (fun i=>(i.zero.map (fun z=>z.cells.size),i.size,i.bytes))=some (some k,k,by')) (hk:0<k) (hby:by'≤1000) (h:ORow w B et k cells sv xs) (x:α) (nb:Nat) (ty:TypeId) (hn:w.heap[nb]?=some (.cells (cells x).toArray et)) (hl:(cells x).length=k) (h1:∀u∈cells x,u.oneCell'=true) (hlen:xs.length≤2000000) (hb:B≤w.heap.size) :
  ∃g' cap' w',(Builtin.append_ #[st,st] ty #[sv,.slice (some ⟨nb,0,none⟩) 1 1]).run Tryz.prog w=.ok (.slice (some ⟨g',0,none⟩) (xs.length+1) cap') w'∧ORow w' B et k cells (.slice (some ⟨g',0,none⟩) (xs.length+1) cap') (xs++[x])∧w.grownBy w' sv.ownBlock:=by
 obtain⟨g',cap',w',a1,a2,a3⟩:=app_gen st et k by' hu hc hk hby B w sv xs.length (xs.flatMap cells) (cells x) nb ty h hn hl h1 hlen hb
 refine⟨g',cap',w',a1,?_,a3⟩
 unfold ORow
 rw[List.length_append,List.flatMap_append]
 simpa using a2
theorem flat_at {α:Type} (cells:α→List Value) (k:Nat):∀(xs:List α) (i j:Nat) (x:α) (v:Value),(∀y∈xs,(cells y).length=k)→xs[i]?=some x→(cells x)[j]?=some v→(xs.flatMap cells)[i*k+j]?=some v
 | [],i,j,x,v,_,hx,_=>by simp at hx
 | y :: ys,0,j,x,v,hk,hx,hv=>by
  obtain rfl:y=x:=by simpa using hx
  have hj:=(List.getElem?_eq_some_iff.1 hv).1
  rw[Nat.zero_mul,Nat.zero_add,List.flatMap_cons,List.getElem?_append_left hj]
  exact hv
 | y :: ys,i+1,j,x,v,hk,hx,hv=>by
  have hy:=hk y (by simp)
  rw[List.flatMap_cons,List.getElem?_append_right (by rw[hy,Nat.add_mul,Nat.one_mul];omega),hy,show (i+1)*k+j-k=i*k+j by rw[Nat.add_mul,Nat.one_mul];omega]
  exact flat_at cells k ys i j x v (fun z hz=>hk z (by simp[hz])) (by simpa using hx) hv
theorem ORow.lies {α:Type} {w:World} {B:Nat} {et:TypeId} {k:Nat} {cells:α→List Value} {sv:Value} {xs:List α} (h:ORow w B et k cells sv xs) (hk:∀y,(cells y).length=k):∃a cap,sv=.slice a xs.length cap∧SlA w k cells a xs:=by
 rcases h with ⟨hl,⟨rfl,h0⟩ | ⟨g,cap,cur,rfl,e2,e3,e4⟩⟩
 ·have:xs=[]:=List.length_eq_zero_iff.1 h0
  subst this
  exact⟨none,0,rfl,SlA.nil _ _ _ _⟩
 ·refine⟨_,cap,rfl,fun i x hi=>⟨g,0,rfl,blk_lt e3,fun j v hv=>?_⟩⟩
  have hf:=flat_at cells k xs i j x v (fun y _=>hk y) hi hv
  have hlt:=(List.getElem?_eq_some_iff.1 hf).1
  rw[←e4.2.2.2,List.getElem?_take]at hf
  rw[blk_cell e3,Nat.zero_add]
  split at hf
  ·simpa using hf
  ·cases hf
theorem ORow.open {α:Type} {w:World} {B:Nat} {et:TypeId} {k:Nat} {cells:α→List Value} {sv:Value} {xs:List α} (h:ORow w B et k cells sv xs) (hk:∀y,(cells y).length=k) (h0:0<xs.length):∃g cap,sv=.slice (some ⟨g,0,none⟩) xs.length cap∧B≤g∧xs.length≤cap∧SlA w k cells (some ⟨g,0,none⟩) xs∧(∀i,w.frozen? ⟨g,i,none⟩=false)∧g<w.heap.size:=by
 obtain⟨a,cap,e,hs⟩:=h.lies hk
 rcases h with ⟨hl,⟨rfl,h1⟩ | ⟨g,cap,cur,rfl,e2,e3,e4⟩⟩
 ·omega
 ·cases e
  exact⟨g,cap,rfl,e2,e4.1,hs,fun i=>blk_frozen e3 i,blk_lt e3⟩
theorem SlA.take {α:Type} {w:World} {k:Nat} {cells:α→List Value} {a:Option Addr} {xs:List α} (h:SlA w k cells a xs) (m:Nat):SlA w k cells a (xs.take m):=by
 intro i x hi
 rw[List.getElem?_take]at hi
 split at hi
 ·exact h i x hi
 ·cases hi
theorem SlA.dropLast {α:Type} {w:World} {k:Nat} {cells:α→List Value} {a:Option Addr} {xs:List α} (h:SlA w k cells a xs):SlA w k cells a xs.dropLast:=by
 rw[List.dropLast_eq_take];exact h.take _
def natC (r:Nat):List Value:=[.int .i64 (r:Int)]
end Go.Proofs.YtjglgbepobmjhaaGreatDoor
