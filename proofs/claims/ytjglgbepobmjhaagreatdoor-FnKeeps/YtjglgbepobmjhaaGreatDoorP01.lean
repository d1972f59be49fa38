import Derived.Test.YtjglgbepobmjhaaGreatDoorRows
import Derived.WalkKit
import Derived.WalkSpells
import Derived.WalkLawsBesides
import Derived.ProofKit
import Derived.OpenShut
import Derived.Below
import Derived.Laws.FloatArith
import Derived.OwnWalk
set_option linter.unusedVariables false
set_option linter.unusedSimpArgs false
set_option maxRecDepth 20000
set_option maxHeartbeats 8000000
namespace Go.Proofs.YtjglgbepobmjhaaGreatDoor
open Go.ChangeShapes Go.WideShapes Go.ChangeAt Go.RowKit
section
variable {H:Type} {enc:TypeId × Value→H} {P:Program} {w:World} {base:Nat} {spare:Nat→Bool} {held:Bool}
end
theorem box5 {w w1:World} {c0 c1 c2 c3 c4:Value} {t:TypeId} (hb:Below (w.alloc (.cells #[c0,c1,c2,c3,c4] t)).heap.size (w.alloc (.cells #[c0,c1,c2,c3,c4] t)) w1) :
  Below w.heap.size w w1∧w1.cell? ⟨w.heap.size,0,none⟩=some c0∧w1.cell? ⟨w.heap.size,1,none⟩=some c1∧w1.cell? ⟨w.heap.size,2,none⟩=some c2∧w1.cell? ⟨w.heap.size,3,none⟩=some c3∧w1.cell? ⟨w.heap.size,4,none⟩=some c4:=by
 refine⟨((Below.refl _ _).alloc (Nat.le_refl _) _).trans (hb.mono (by simp)),?_,?_,?_,?_,?_⟩
 all_goals
  rw[hb.cell (by simp)]
  simp[go_sem]
theorem run_store_float (P:Program) (w:World) (a:Addr) (m:Mode) (k:FloatKind) (b:Nat):(store a (.float k b) m).run P w=stored P w a (.float k b) m:=run_store P w a _ m rfl
theorem run_equalIn_float {P:Program} (w:World) (d:Nat) (t:TypeId) (k k':FloatKind) (a b:Nat) (h:P.underlying t=some (.float k')):(Op.equalIn (d+1) t (.float k a) (.float k b)).run P w=.ok (k.format.order a b == some .eq) w:=by
 simp[Op.equalIn,run_underlying h,Op.floatEq]
end Go.Proofs.YtjglgbepobmjhaaGreatDoor
namespace Go.Proofs.YtjglgbepobmjhaaGreatDoor
open Go.RowKit
attribute [local go_sem] run_store_float
abbrev VV (k n:Int) (f:Nat) (s:ByteArray) (r:Int):Value:=.agg #[.int .i64 k,.int .i64 n,.float .f64 f,.string s,.int .i64 r]
theorem bw1 (w:World) (o:Obj):Below w.heap.size w (w.alloc o):=(Below.refl _ _).alloc (Nat.le_refl _) o
theorem bw2 (w:World) (o p:Obj):Below w.heap.size w ((w.alloc o).alloc p):=(bw1 w o).alloc (by simp) p
theorem bw3 (w:World) (o p q:Obj):Below w.heap.size w (((w.alloc o).alloc p).alloc q):=(bw2 w o p).alloc (by simp;omega) q
def fz (f:Nat):Bool:=FloatKind.f64.format.order f 0 == some .eq
def zr (a b c d:Bool) (n:Int) (f:Nat) (s:ByteArray) (r:Int):Bool:=(a || n == 0) && (b || fz f) && (c || s.toList.isEmpty) && (d || r == 0)
def vok (k n:Int) (f:Nat) (s:ByteArray) (r:Int):Bool :=
 if k=0 then zr false false false false n f s r
 else if k=1 then zr true false false false n f s r && (n == 0 || n == 1)
 else if k=2 then zr true false false false n f s r
 else if k=3 then zr false true false false n f s r
 else if k=4 then zr false false true false n f s r && decide ((s.size:Int)≤4000)
 else if k=5∨k=6∨k=7 then zr false false false true n f s r && decide (0≤r)
 else if k=8 then zr true false false false n f s r && decide (0≤n) && decide (n<15)
 else false
attribute [local go_sem] run_store_float
attribute [local go_sem] run_equalIn_float
def ue (k n:Int) (f:Nat) (s:ByteArray) (r:Int):Bool:=zr (k == 1 || k == 2 || k == 8) (k == 3) (k == 4) (k == 5 || k == 6 || k == 7) n f s r
theorem empty_any (k n:Int) (f:Nat) (s:ByteArray) (r:Int) (w:World) :
  Calls Tryz.prog 209 #[VV k n f s r] w fun e w'=>e=.returned (.bool (ue k n f s r))∧Below w.heap.size w w':=by
 go_enter Tryz.func209,Tryz.ntmps209
 go_wp2
 all_goals
  go_ret
  refine⟨?_,by exact bw1 _ _⟩
  simp_all[ue,zr,fz]
def tmV (k n:Int) (f:Nat) (s:ByteArray) (r:Int):Value :=
 if vok k n f s r=false then .nilIface
 else if k=0 then .iface 324 (.agg #[])
 else if k=1 then .iface 325 (.bool (n == 1))
 else if k=2 then .iface 326 (.int .i64 n)
 else if k=3 then .iface 327 (.float .f64 f)
 else if k=4 then .iface 328 (.string s)
 else if k=8 then .iface 331 (.int .i64 n)
 else .iface 330 (.agg #[.int .i64 k,.int .i64 r])
theorem vok_of_ue {k n:Int} {f:Nat} {s:ByteArray} {r:Int} (h:ue k n f s r=false):vok k n f s r=false:=by
 unfold vok
 repeat' split
 all_goals simp_all[ue]
 rename_i h5
 rcases h5 with rfl | rfl | rfl<;>simp_all
theorem term_any (k n:Int) (f:Nat) (s:ByteArray) (r:Int) (w:World) :
  Calls Tryz.prog 131 #[VV k n f s r] w fun e w'=>e=.returned (tmV k n f s r)∧Below w.heap.size w w':=by
 by_cases hu:ue k n f s r=false
 ·have hv:tmV k n f s r=.nilIface:=by unfold tmV;rw[if_pos (vok_of_ue hu)]
  have hV:Hid (tmV k n f s r=.nilIface):=hv
  clear hv
  go_enter Tryz.func131,Tryz.ntmps131
  go_wp2_with (go_at_call 209;refine (empty_any _ _ _ _ _ _).mono ?_;rintro e w' ⟨rfl,hb'⟩;obtain⟨hb,c0,c1,c2,c3,c4⟩:=box5 hb';clear hb')
  go_ret
  exact⟨by rw[hV.out];rfl,hb⟩
 ·go_enter Tryz.func131,Tryz.ntmps131
  go_wp2_with (go_at_call 209;refine (empty_any _ _ _ _ _ _).mono ?_;rintro e w' ⟨rfl,hb'⟩;obtain⟨hb,c0,c1,c2,c3,c4⟩:=box5 hb';clear hb')
  all_goals
   go_ret
   refine⟨?_,by assumption⟩
   simp_all[tmV,vok,ue]
   try omega
theorem iok_any (k n:Int) (f:Nat) (s:ByteArray) (r:Int) (w:World) :
  Calls Tryz.prog 143 #[VV k n f s r] w fun e w'=>e=.returned (.bool (vok k n f s r))∧Below w.heap.size w w':=by
 by_cases hv:vok k n f s r=false
 ·have ht:tmV k n f s r=.nilIface:=by unfold tmV;rw[if_pos hv]
  go_enter Tryz.func143,Tryz.ntmps143
  go_wp2_with (go_at_call 131;refine (term_any _ _ _ _ _ _).mono ?_;rintro e w' ⟨rfl,hb'⟩;obtain⟨hb,c0,c1,c2,c3,c4⟩:=box5 hb';clear hb')
  go_ret
  exact⟨by first | rfl | (rw[hv];rfl),hb⟩
 ·have ht:∃t x,tmV k n f s r=.iface t x:=by unfold tmV;rw[if_neg hv];repeat' split
                                            all_goals exact⟨_,_,rfl⟩
  obtain⟨t,x,ht⟩:=ht
  have hv':vok k n f s r=true:=by simpa using hv
  go_enter Tryz.func143,Tryz.ntmps143
  go_wp2_with (go_at_call 131;refine (term_any _ _ _ _ _ _).mono ?_;rintro e w' ⟨rfl,hb'⟩;obtain⟨hb,c0,c1,c2,c3,c4⟩:=box5 hb';clear hb')
  go_ret
  exact⟨by first | rfl | (rw[hv'];rfl),hb⟩
structure VD where
 k:Int
 n:Int
 f:Nat
 s:ByteArray
 r:Int
def VD.ok (v:VD):Prop:=v.f<18446744073709551616∧v.s.size≤maxLen
def VD.cells (v:VD):List Value:=[.int .i64 v.k,.int .i64 v.n,.float .f64 v.f,.string v.s,.int .i64 v.r]
structure UD where
 l:Bool
 i:Int
def UD.cells (u:UD):List Value:=[.bool u.l,.int .i64 u.i]
structure ID where
 op:Int
 a:Int
 b:Int
 c:Int
 d:Int
def ID.cells (n:ID):List Value:=[.int .i64 n.op,.int .i64 n.a,.int .i64 n.b,.int .i64 n.c,.int .i64 n.d]
structure ND where
 s:ByteArray
 reg:Int
 fr:Int
 to:Int
def ND.cells (n:ND):List Value:=[.string n.s,.int .i64 n.reg,.int .i64 n.fr,.int .i64 n.to]
structure FD where
 name:ByteArray
 line:Int
 params:Int
 rest:Bool
 regs:Int
 ups:List UD
 consts:List VD
 ins:List ID
 named:List ND
structure FC where
 d:FD
 au:Option Addr
 cu:Nat
 ac:Option Addr
 cc:Nat
 ai:Option Addr
 ci:Nat
 an:Option Addr
 cn:Nat
def FC.cells (x:FC):List Value:=[.string x.d.name,.int .i64 x.d.line,.int .i64 x.d.params,.bool x.d.rest,.int .i64 x.d.regs,.slice x.au x.d.ups.length x.cu,.slice x.ac x.d.consts.length x.cc,.slice x.ai x.d.ins.length x.ci,.slice x.an x.d.named.length x.cn]
def SlA {α:Type} (w:World) (k:Nat) (cells:α→List Value) (a:Option Addr) (xs:List α):Prop :=
 ∀i x,xs[i]?=some x→∃b off,a=some ⟨b,off,none⟩∧b<w.heap.size∧∀j v,(cells x)[j]?=some v→w.cell? ⟨b,off+i*k+j,none⟩=some v
theorem SlA.later {α:Type} {w wx:World} {k:Nat} {cells:α→List Value} {a:Option Addr} {xs:List α} (hb:Below w.heap.size w wx) (h:SlA w k cells a xs):SlA wx k cells a xs:=by
 intro i x hi
 obtain⟨b,off,h1,h2,h3⟩:=h i x hi
 exact⟨b,off,h1,Nat.lt_of_lt_of_le h2 hb.size,fun j v hv=>cell_later hb (h3 j v hv)⟩
theorem SlA.nil {α:Type} (w:World) (k:Nat) (cells:α→List Value) (a:Option Addr):SlA w k cells a []:=fun i x h=>by simp at h
structure FD.ok (f:FD):Prop where
 name:f.name.size≤maxLen
 lu:f.ups.length≤1048576
 lc:f.consts.length≤1048576
 li:f.ins.length≤1048576
 ln:f.named.length≤1048576
 c:∀v∈f.consts,v.ok
 n:∀v∈f.named,v.s.size≤maxLen
structure FC.lie (w:World) (x:FC):Prop where
 u:SlA w 2 UD.cells x.au x.d.ups
 c:SlA w 5 VD.cells x.ac x.d.consts
 i:SlA w 5 ID.cells x.ai x.d.ins
 n:SlA w 4 ND.cells x.an x.d.named
theorem FC.lie.later {w wx:World} {x:FC} (hb:Below w.heap.size w wx) (h:x.lie w):x.lie wx:=⟨h.u.later hb,h.c.later hb,h.i.later hb,h.n.later hb⟩
structure CodeAt (w:World) (a:Option Addr) (xs:List FC):Prop where
 row:SlA w 9 FC.cells a xs
 lie:∀x∈xs,x.lie w
 ok:∀x∈xs,x.d.ok
 len:xs.length≤1048576
 all:(xs.map fun x=>x.d.ins.length).sum≤1048576
theorem CodeAt.later {w wx:World} {a:Option Addr} {xs:List FC} (hb:Below w.heap.size w wx) (h:CodeAt w a xs):CodeAt wx a xs:=⟨h.row.later hb,fun x hx=>(h.lie x hx).later hb,h.ok,h.len,h.all⟩
def inR (x lo hi:Int):Bool:=decide (lo≤x) && decide (x≤hi)
def headB (p:Nat) (f:FD):Bool :=
 decide ((f.name.size:Int)≤40) && inR f.line 0 100000 && inR f.regs 0 250 && inR f.params 0 (if f.rest then f.regs-1 else f.regs) &&
  decide ((f.ups.length:Int)≤250) && decide ((f.consts.length:Int)≤500) && (!(p == 0) || (f.params == 0 && (f.ups.length:Int) == 0))
def nanB (f:Nat):Bool:=!(FloatKind.f64.format.order f f == some .eq)
def constB (v:VD):Bool:=vok v.k v.n v.f v.s v.r && !(v.k == 5 || v.k == 6 || v.k == 7) && (if v.k=3 then !nanB v.f else decide (v.f=0))
def namedB (f:FD) (i:Nat) (n:ND):Bool :=
 decide ((i:Int)<500) && inR n.s.size 1 40 && inR n.reg 0 (f.regs-1) && decide (0≤n.fr) && decide (n.fr≤n.to) && decide (n.to≤(f.ins.length:Int))
def roleT:List (List Int) :=
 [[],[11,0,0,0],[12,0,0,0],[0,0,0,0],[1,7,0,0],[1,2,0,0],[1,2,0,0],[1,5,0,0],[5,2,0,0],[1,8,0,0],[8,2,0,0],[1,9,0,0],
  [1,0,0,0],[4,2,2,0],[4,2,3,0],[1,2,2,0],[2,2,2,0],[1,15,2,0],[1,16,2,2],[10,0,0,0],[2,10,0,0],[2,10,0,0],
  [1,0,0,0],[6,2,0,0],[6,3,0,0],[1,3,0,0],[1,6,17,0],[1,6,0,0],[1,2,3,0],[3,0,0,0],[2,0,0,0],[10,14,0,0],
  [0,0,0,0],[13,0,0,0],[13,0,0,0],[2,3,0,0],[0,0,0,0],[18,0,0,0],[18,10,0,0],[18,10,0,0],[19,0,0,0],[20,10,1,0],[21,0,0,0]]
def rolesL (op:Int):List Int:=if 1≤op∧op≤42 then roleT.getD op.toNat [] else []
def lohi (np:Nat) (f:FD) (role:Int):Int × Int :=
 if role=0 then (0,0)
 else if role=1∨role=4∨role=5∨role=6∨role=21 then (0,f.regs-1)
 else if role=2∨role=3 then (-f.regs,f.regs-1)
 else if role=7 then (0,(f.consts.length:Int)-1)
 else if role=8 then (0,(f.ups.length:Int)-1)
 else if role=9 then (0,(np:Int)-1)
 else if role=10 then (0,(f.ins.length:Int)-1)
 else if role=11 then (1,100000)
 else if role=12 then (0,100000)
 else if role=13 then (0,f.regs)
 else if role=14 then (0,f.regs-2)
 else if role=15 then (19,22)
 else if role=16 then (1,18)
 else if role=17 then (0,250)
 else if role=18 then (0,f.regs-3)
 else (0,f.regs-2)
def fitsB (np:Nat) (f:FD) (role x:Int):Bool:=inR x (lohi np f role).1 (lohi np f role).2
def rl (op:Int) (k:Nat):Int:=(rolesL op).getD k 0
def fieldsB (np:Nat) (f:FD) (n:ID):Bool:=inR n.op 1 42 && fitsB np f (rl n.op 0) n.a && fitsB np f (rl n.op 1) n.b && fitsB np f (rl n.op 2) n.c && fitsB np f (rl n.op 3) n.d
def endsB (op:Int):Bool:=op == 19 || op == 29 || op == 30
def insB (np:Nat) (f:FD) (i:Nat) (n:ID):Bool:=fieldsB np f n && (!(i+1 == f.ins.length) || endsB n.op)
def upB (m:FD) (u:UD):Bool:=if u.l then inR u.i 0 (m.regs-1) else inR u.i 0 ((m.ups.length:Int)-1)
def upsB (m:FD) (us:List UD):Bool:=us.all (upB m)
def ff {α:Type} (ok:Nat→α→Bool):List α→Nat→Option Nat
 | [],_=>none
 | x :: xs,i=>if ok i x=true then ff ok xs (i+1) else some i
def fp (inner:Nat→FD→Option Nat):List FD→Nat→Option (Nat × Nat)
 | [],_=>none
 | f :: fs,p=>match inner p f with
  | some i=>some (p,i)
  | none=>fp inner fs (p+1)
def hd0 (p:Nat) (f:FD):Option Nat:=if headB p f=true then none else some 0
def co0 (_:Nat) (f:FD):Option Nat:=ff (fun _=>constB) f.consts 0
def na0 (_:Nat) (f:FD):Option Nat:=ff (namedB f) f.named 0
def in0 (np:Nat) (_:Nat) (f:FD):Option Nat:=if f.ins.length=0 then some 0 else ff (insB np f) f.ins 0
def fd0:FD:=⟨ByteArray.empty,0,0,false,0,[],[],[],[]⟩
def fnB (c:List FD) (p:Nat) (f:FD) (n:ID) (made:List Bool):Bool:=!(decide (n.b≤p) || made.getD n.b.toNat false || !upsB f (c.getD n.b.toNat fd0).ups)
def f6i (c:List FD) (p:Nat) (f:FD):List ID→Nat→List Bool→Option Nat × List Bool
 | [],_,made=>(none,made)
 | n :: ns,i,made=>if n.op=11 then (if fnB c p f n made=true then f6i c p f ns (i+1) (made.set n.b.toNat true) else (some i,made)) else f6i c p f ns (i+1) made
def f6 (c:List FD):List FD→Nat→List Bool→Option (Nat × Nat) × List Bool
 | [],_,made=>(none,made)
 | f :: fs,p,made=>match f6i c p f f.ins 0 made with
  | (some i,m)=>(some (p,i),m)
  | (none,m)=>f6 c fs (p+1) m
def total (c:List FD):Nat:=(c.map fun f=>f.ins.length).sum
abbrev F3:=Int × Int × Int
def partsV (c:List FD):F3 :=
 if c.length=0∨200<c.length∨6000<total c then (1,0,0) else
 match fp hd0 c 0 with
 | some (p,i)=>(2,p,i)
 | none=>match fp co0 c 0 with
  | some (p,i)=>(3,p,i)
  | none=>match fp na0 c 0 with
   | some (p,i)=>(4,p,i)
   | none=>match fp (in0 c.length) c 0 with
    | some (p,i)=>(5,p,i)
    | none=>(0,0,0)
def fnsV (c:List FD):F3 :=
 match f6 c c 0 (List.replicate c.length false) with
 | (some (p,i),_)=>(6,p,i)
 | (none,made)=>match ff (fun _ b=>b) (made.drop 1) 1 with
  | some p=>(7,p,0)
  | none=>(0,0,0)
def shapeV (c:List FD):F3:=if (partsV c).1=0 then fnsV c else partsV c
theorem ff_drop {α:Type} (ok:Nat→α→Bool) {xs:List α} {i:Nat} {x:α} (h:xs[i]?=some x):ff ok (xs.drop i) i=if ok i x=true then ff ok (xs.drop (i+1)) (i+1) else some i:=by
 obtain⟨hlt,he⟩:=List.getElem?_eq_some_iff.1 h
 rw[List.drop_eq_getElem_cons hlt,he]
 rfl
theorem fp_drop (inner:Nat→FD→Option Nat) {xs:List FC} {i:Nat} {x:FC} (h:xs[i]?=some x):fp inner ((xs.drop i).map FC.d) i=match inner i x.d with
  | some j=>some (i,j)
  | none=>fp inner ((xs.drop (i+1)).map FC.d) (i+1):=by
 obtain⟨hlt,he⟩:=List.getElem?_eq_some_iff.1 h
 rw[List.drop_eq_getElem_cons hlt,he]
 rfl
theorem ff_none {α:Type} {ok:Nat→α→Bool}:∀ {xs:List α} {i:Nat},ff ok xs i=none→∀j x,xs[j]?=some x→ok (i+j) x=true
 | [],i,_,j,x,hx=>by simp at hx
 | y :: ys,i,h,j,x,hx=>by
  unfold ff at h
  split at h
  ·rename_i hy
   cases j with
   | zero=>simp at hx;subst hx;exact hy
   | succ j =>
    have:=ff_none h j x (by simpa using hx)
    rw[show i+(j+1)=i+1+j by omega];exact this
  ·cases h
theorem fp_none {inner:Nat→FD→Option Nat}:∀ {fs:List FD} {p:Nat},fp inner fs p=none→∀j f,fs[j]?=some f→inner (p+j) f=none
 | [],p,_,j,f,hf=>by simp at hf
 | g :: gs,p,h,j,f,hf=>by
  unfold fp at h
  split at h
  ·cases h
  ·rename_i hg
   cases j with
   | zero=>simp at hf;subst hf;exact hg
   | succ j =>
    have:=fp_none h j f (by simpa using hf)
    rw[show p+(j+1)=p+1+j by omega];exact this
attribute [local go_sem] run_store_float
theorem blk_cell {w:World} {g:Nat} {arr:Array Value} {t:TypeId} (h:w.heap[g]?=some (.cells arr t)) (j:Nat):w.cell? ⟨g,j,none⟩=arr[j]?:=by simp[World.cell?,h]
theorem blk_frozen {w:World} {g:Nat} {arr:Array Value} {t:TypeId} (h:w.heap[g]?=some (.cells arr t)) (j:Nat):w.frozen? ⟨g,j,none⟩=false:=by simp[World.frozen?,h]
theorem blk_set {w:World} {g:Nat} {arr:Array Value} {t:TypeId} (h:w.heap[g]?=some (.cells arr t)) (j:Nat) (v:Value):(w.setCell ⟨g,j,none⟩ v).heap[g]?=some (.cells (arr.setIfInBounds j v) t):=by
 simp[World.setCell,Array.getElem?_modify,h]
theorem blk_lt {w:World} {g:Nat} {o:Obj} (h:w.heap[g]?=some o):g<w.heap.size:=(Array.getElem?_eq_some_iff.1 h).1
theorem blk_later {w wx:World} {g:Nat} {o:Obj} (hb:Below w.heap.size w wx) (h:w.heap[g]?=some o):wx.heap[g]?=some o:=(hb.block g (blk_lt h)).trans h
theorem blk_new (w:World) (o:Obj):(w.alloc o).heap[w.heap.size]?=some o:=by show (w.heap.push _)[w.heap.size]?=_;rw[Array.getElem?_push,if_pos rfl]
theorem blk_old {w:World} {g:Nat} {o:Obj} (h:w.heap[g]?=some o) (p:Obj):(w.alloc p).heap[g]?=some o:=by
 show (w.heap.push _)[g]?=_;rw[Array.getElem?_push,if_neg (Nat.ne_of_lt (blk_lt h))];exact h
theorem blk_other {w:World} {g k:Nat} {o:Obj} (h:w.heap[g]?=some o) (hk:k≠g) (j:Nat) (v:Value):(w.setCell ⟨k,j,none⟩ v).heap[g]?=some o:=by
 rw[Below.heap_setCell _ _ _ _ (by simpa using hk.symm)];exact h
theorem und1 {B:Nat} {w w':World} (h:Below B w.drew w'):Below B w w':=⟨h.os,h.tape,h.output,h.size,h.block⟩
def putl (ar:Array Value) (o:Nat):List Value→Array Value
 | []=>ar
 | v :: vs=>putl (ar.setIfInBounds o v) (o+1) vs
def ContG {α:Type} (k:Nat) (cells:α→List Value) (xs:List α) (ar:Array Value) (m:Nat):Prop:=∀i q,i<m→xs[i]?=some q→∀j v,(cells q)[j]?=some v→ar[i*k+j]?=some v
def RowG {α:Type} (w:World) (g k:Nat) (t:TypeId) (cells:α→List Value) (xs:List α):Prop:=∃ar,w.heap[g]?=some (.cells ar t)∧ar.size=xs.length*k∧ContG k cells xs ar xs.length
theorem RowG.later {α:Type} {w wx:World} {g k:Nat} {t:TypeId} {cells:α→List Value} {xs:List α} (hb:Below w.heap.size w wx) (h:RowG w g k t cells xs):RowG wx g k t cells xs:=by
 obtain⟨ar,h1,h2,h3⟩:=h
 exact⟨ar,blk_later hb h1,h2,h3⟩
theorem RowG.set {α:Type} {w:World} {g k q:Nat} {t:TypeId} {cells:α→List Value} {xs:List α} (h:RowG w g k t cells xs) (hk:q≠g) (j:Nat) (v:Value):RowG (w.setCell ⟨q,j,none⟩ v) g k t cells xs:=by
 obtain⟨ar,h1,h2,h3⟩:=h
 exact⟨ar,blk_other h1 hk j v,h2,h3⟩
theorem RowG.lt {α:Type} {w:World} {g k:Nat} {t:TypeId} {cells:α→List Value} {xs:List α} (h:RowG w g k t cells xs):g<w.heap.size:=by
 obtain⟨ar,h1,h2,h3⟩:=h
 exact blk_lt h1
theorem RowG.at {α:Type} {w:World} {g k:Nat} {t:TypeId} {cells:α→List Value} {xs:List α} (h:RowG w g k t cells xs):SlA w k cells (some ⟨g,0,none⟩) xs:=by
 intro i x hi
 refine⟨g,0,rfl,h.lt,fun j v hv=>?_⟩
 obtain⟨ar,h1,h2,h3⟩:=h
 rw[Nat.zero_add,blk_cell h1]
 exact h3 i x (List.getElem?_eq_some_iff.1 hi).1 hi j v hv
theorem UD.len (x:UD):x.cells.length=2:=rfl
abbrev VVd (x:VD):Value:=.agg #[.int .i64 x.k,.int .i64 x.n,.float .f64 x.f,.string x.s,.int .i64 x.r]
theorem VD.len (x:VD):x.cells.length=5:=rfl
abbrev IV (x:ID):Value:=.agg #[.int .i64 x.op,.int .i64 x.a,.int .i64 x.b,.int .i64 x.c,.int .i64 x.d]
theorem ID.len (x:ID):x.cells.length=5:=rfl
abbrev NV (x:ND):Value:=.agg #[.string x.s,.int .i64 x.reg,.int .i64 x.fr,.int .i64 x.to]
theorem ND.len (x:ND):x.cells.length=4:=rfl
attribute [local go_sem] run_store_float
theorem owns_later {w w':World} {base:Nat} {e:TypeId} {k:Nat} {sv:Value} {n:Nat} {xs:List Value} (hb:Below w.heap.size w w') (h:w.ownsRow base e k sv n xs):w'.ownsRow base e k sv n xs:=by
 obtain⟨h1,h2⟩:=h
 refine⟨h1,?_⟩
 rcases h2 with h2 | ⟨g,cap,cur,e1,e2,e3,e4⟩
 ·exact .inl h2
 ·exact .inr ⟨g,cap,cur,e1,e2,blk_later hb e3,e4⟩
theorem owns_ge {w:World} {base:Nat} {e:TypeId} {k:Nat} {sv:Value} {n:Nat} {xs:List Value} (h:w.ownsRow base e k sv n xs) {b:Nat} (hb:sv.ownBlock=some b):base≤b:=by
 rcases h.2 with ⟨rfl,_⟩ | ⟨g,cap,cur,rfl,e2,_⟩
 ·cases hb
 ·cases hb;exact e2
theorem below_grown {B:Nat} {w0 w w':World} {sv:Value} {base:Nat} {e:TypeId} {k n:Nat} {xs:List Value} (hB:Below B w0 w) (hsz:B≤w.heap.size) (ho:w.ownsRow base e k sv n xs) (hbase:B≤base) (hg:w.grownBy w' sv.ownBlock):Below B w0 w' :=
 ⟨hg.os.trans hB.os,hg.tape.trans hB.tape,hg.output.trans hB.output,Nat.le_trans hB.size hg.size,fun j hj=>(hg.block j (by omega) (fun he=>by have:=owns_ge ho he.symm;omega)).trans (hB.block j hj)⟩
theorem app_gen (st et:TypeId) (k by':Nat) (hu:Tryz.prog.underlying st=some (.slice et)) (hc:(Tryz.prog.info? et).map (fun i=>(i.zero.map (fun z=>z.cells.size),i.size,i.bytes))=some (some k,k,by')) (hk:0<k) (hby:by'≤1000)
  (base:Nat) (w:World) (sv:Value) (n:Nat) (xs news:List Value) (nb:Nat) (ty:TypeId) (ho:w.ownsRow base et k sv n xs) (hn:w.heap[nb]?=some (.cells news.toArray et)) (hl:news.length=k) (h1:∀u∈news,u.oneCell'=true) (hlen:n≤2000000) (hb:base≤w.heap.size) :
  ∃g' cap' w',(Builtin.append_ #[st,st] ty #[sv,.slice (some ⟨nb,0,none⟩) 1 1]).run Tryz.prog w=.ok (.slice (some ⟨g',0,none⟩) (n+1) cap') w'∧w'.ownsRow base et k (.slice (some ⟨g',0,none⟩) (n+1) cap') (n+1) (xs++news)∧w.grownBy w' sv.ownBlock:=by
 obtain⟨i,z,hi,hz,e1,e2,e3⟩:∃(i:TypeInfo) (z:Value),Tryz.prog.info? et=some i∧i.zero=some z∧i.size=k∧i.bytes=by'∧z.cells.size=k:=by
  cases hi:Tryz.prog.info? et with
  | none=>rw[hi]at hc;cases hc
  | some i =>
   rw[hi]at hc
   simp only[Option.map_some,Option.some.injEq,Prod.mk.injEq]at hc
   obtain⟨h1,h2,h3⟩:=hc
   cases hz:i.zero with
   | none=>rw[hz]at h1;cases h1
   | some z=>rw[hz]at h1;simp at h1;exact⟨i,z,rfl,hz,h2,h3,h1⟩
 obtain⟨v',w',hr,ho',hg,_⟩:=run_append_own (P:=Tryz.prog) w base st ty et i z k by' hu hi hz e1 e2 e3 hk sv n xs ho ⟨nb,0,none⟩ 1 1 news (by omega) (fun j u hu=>by
   show w.cell? (Addr.add ⟨nb,0,none⟩ j)=some u
   rw[Addr.add_lit,Nat.zero_add,blk_cell hn]
   simpa using hu) h1 (by unfold maxLen;omega) (by
   have:(n+1)*by'≤2000001*1000:=Nat.mul_le_mul (by omega) hby
   omega) hb
 rcases ho'.2 with ⟨_,h0⟩ | ⟨g',cap',cur,e5,_⟩
 ·omega
 ·subst e5
  exact⟨g',cap',w',hr,ho',hg⟩
theorem wpList_append_run {P:Program} {w:World} {ops:Array Oper} {rest:List Oper} {o:Oper} {a:Act} {Q:Exit→Act→World→Prop} (hgd:o.guard=none) (s x:Operand) (t:TypeId)
  (ho:o.op=.call { callee:=.builtin .append,args:=#[s,x],argTypes:=#[t,t] }) (sv xv v':Value) (w':World) (hs:a.eval s=sv) (hx:a.eval x=xv) (hrun:(Builtin.append_ #[t,t] o.type #[sv,xv]).run P w=.ok v' w')
  (h:wpList P ops Q rest (a.put o.dst v') w'):wpList P ops Q (o :: rest) a w :=
 wpList_plain hgd fun _ hK=>by
  unfold Oper.wp
  simp[execOp,ho,resolve,invoke,builtin,hs,hx,hrun,Result.andThen]
  exact hK _ _ h
def intC (z:Int):List Value:=[.int .i64 z]
theorem intC_len (z:Int):(intC z).length=1:=rfl
theorem owns_nil (w:World) (base:Nat) (e:TypeId) (k:Nat):w.ownsRow base e k (.slice none 0 0) 0 []:=⟨by simp,.inl ⟨rfl,rfl⟩⟩
attribute [local go_sem] run_store_float
abbrev FV (c p i:Int):Value:=.agg #[.int .i64 c,.int .i64 p,.int .i64 i]
abbrev FO (c p i:Int):Obj:=.cells #[.int .i64 c,.int .i64 p,.int .i64 i] 29
structure Cell9 (w:World) (b o:Nat) (f:FC):Prop where
 c0:w.cell? ⟨b,o,none⟩=some (.string f.d.name)
 c1:w.cell? ⟨b,o+1,none⟩=some (.int .i64 f.d.line)
 c2:w.cell? ⟨b,o+2,none⟩=some (.int .i64 f.d.params)
 c3:w.cell? ⟨b,o+3,none⟩=some (.bool f.d.rest)
 c4:w.cell? ⟨b,o+4,none⟩=some (.int .i64 f.d.regs)
 c5:w.cell? ⟨b,o+5,none⟩=some (.slice f.au f.d.ups.length f.cu)
 c6:w.cell? ⟨b,o+6,none⟩=some (.slice f.ac f.d.consts.length f.cc)
 c7:w.cell? ⟨b,o+7,none⟩=some (.slice f.ai f.d.ins.length f.ci)
 c8:w.cell? ⟨b,o+8,none⟩=some (.slice f.an f.d.named.length f.cn)
theorem Cell9.later {w wx:World} {b o:Nat} {f:FC} (hb:Below w.heap.size w wx) (h:Cell9 w b o f):Cell9 wx b o f :=
 ⟨cell_later hb h.c0,cell_later hb h.c1,cell_later hb h.c2,cell_later hb h.c3,cell_later hb h.c4,cell_later hb h.c5,cell_later hb h.c6,cell_later hb h.c7,cell_later hb h.c8⟩
theorem CodeAt.nine {w:World} {a:Option Addr} {xs:List FC} (h:CodeAt w a xs) {p:Nat} {f:FC} (hp:xs[p]?=some f):∃b off,a=some ⟨b,off,none⟩∧b<w.heap.size∧Cell9 w b (off+p*9) f:=by
 obtain⟨b,off,h1,h2,h3⟩:=h.row p f hp
 exact⟨b,off,h1,h2,⟨h3 0 _ rfl,h3 1 _ rfl,h3 2 _ rfl,h3 3 _ rfl,h3 4 _ rfl,h3 5 _ rfl,h3 6 _ rfl,h3 7 _ rfl,h3 8 _ rfl⟩⟩
abbrev CO (s:Value):Obj:=.cells #[s] 26
abbrev PO (f:FC):Obj:=.cells #[.string f.d.name,.int .i64 f.d.line,.int .i64 f.d.params,.bool f.d.rest,.int .i64 f.d.regs,.slice f.au f.d.ups.length f.cu,.slice f.ac f.d.consts.length f.cc,.slice f.ai f.d.ins.length f.ci,.slice f.an f.d.named.length f.cn] 53
attribute [local go_sem] run_store_float
end Go.Proofs.YtjglgbepobmjhaaGreatDoor
