import Derived.Test.YtfejmalmnjmanaaGreatDoorRows
import Derived.WalkKit
import Derived.WalkSpells
import Derived.WalkLawsBesides
import Derived.ProofKit
import Derived.OpenShut
import Derived.Below
import Derived.Laws.FloatArith
set_option linter.unusedVariables false
set_option linter.unusedSimpArgs false
set_option maxRecDepth 20000
set_option maxHeartbeats 8000000
namespace Go.Proofs.YtfejmalmnjmanaaGreatDoor
open Go.ChangeShapes Go.WideShapes Go.ChangeAt Go.RowKit
section
variable {H:Type}{enc:TypeId × Value→H}{P:Program}{w:World}{base:Nat}{spare:Nat→Bool}{held:Bool}
theorem trod_struct5 {t:TypeId}{f0 f1 f2 f3 f4:Field}{fuel:Nat}{cs:List Value}{x:DataW H × List MemPlace} (ht:P.underlying t=some (.struct #[f0,f1,f2,f3,f4])) (h:DataW.trod enc P w base spare held fuel t cs=some x) :
  ∃ y0 y1 y2 y3 y4 n,x=(.agg [y0.1,y1.1,y2.1,y3.1,y4.1],y0.2++(y1.2++(y2.2++(y3.2++y4.2))))∧cs.length=P.cellsOf t∧DataW.trod enc P w base spare held n f0.type ((cs.drop f0.offset).take (P.cellsOf f0.type))=some y0 ∧
   DataW.trod enc P w base spare held n f1.type ((cs.drop f1.offset).take (P.cellsOf f1.type))=some y1∧DataW.trod enc P w base spare held n f2.type ((cs.drop f2.offset).take (P.cellsOf f2.type))=some y2 ∧
   DataW.trod enc P w base spare held n f3.type ((cs.drop f3.offset).take (P.cellsOf f3.type))=some y3∧DataW.trod enc P w base spare held n f4.type ((cs.drop f4.offset).take (P.cellsOf f4.type))=some y4:=by
 obtain ⟨xs,n,_,rfl,hl,hlen,hf⟩:=DataW.trod_struct ht h
 match xs,hlen with
 | [y0,y1,y2,y3,y4],_=>exact ⟨y0,y1,y2,y3,y4,n,by simp,hl,by simpa using hf 0 f0 rfl,by simpa using hf 1 f1 rfl,by simpa using hf 2 f2 rfl,by simpa using hf 3 f3 rfl,by simpa using hf 4 f4 rfl⟩
theorem trod_float {t:TypeId}{k:FloatKind}{fuel:Nat}{v:Value}{x:DataW H × List MemPlace} (ht:P.underlying t=some (.float k)) (h:DataW.trod enc P w base spare held fuel t [v]=some x):∃ b,v=.float k b∧x=(.lit (.float k b),[])∧(Lit.float k b).wf=true:=by
 cases fuel with
 | zero=>simp[DataW.trod] at h
 | succ n =>
  unfold DataW.trod at h
  rw[ht] at h
  split at h <;> simp_all
end
theorem box5 {w w1:World}{c0 c1 c2 c3 c4:Value}{t:TypeId} (hb:Below (w.alloc (.cells #[c0,c1,c2,c3,c4] t)).heap.size (w.alloc (.cells #[c0,c1,c2,c3,c4] t)) w1) :
  Below w.heap.size w w1∧w1.cell? ⟨w.heap.size,0,none⟩=some c0∧w1.cell? ⟨w.heap.size,1,none⟩=some c1∧w1.cell? ⟨w.heap.size,2,none⟩=some c2∧w1.cell? ⟨w.heap.size,3,none⟩=some c3∧w1.cell? ⟨w.heap.size,4,none⟩=some c4:=by
 refine ⟨((Below.refl _ _).alloc (Nat.le_refl _) _).trans (hb.mono (by simp)),?_,?_,?_,?_,?_⟩
 all_goals
  rw[hb.cell (by simp)]
  simp[go_sem]
theorem run_store_float (P:Program) (w:World) (a:Addr) (m:Mode) (k:FloatKind) (b:Nat):(store a (.float k b) m).run P w=stored P w a (.float k b) m:=run_store P w a _ m rfl
theorem run_equalIn_float {P:Program} (w:World) (d:Nat) (t:TypeId) (k k':FloatKind) (a b:Nat) (h:P.underlying t=some (.float k')):(Op.equalIn (d+1) t (.float k a) (.float k b)).run P w=.ok (k.format.order a b==some .eq) w:=by
 simp[Op.equalIn,run_underlying h,Op.floatEq]
end Go.Proofs.YtfejmalmnjmanaaGreatDoor
namespace Go.Proofs.YtfejmalmnjmanaaGreatDoor
open Go.RowKit
attribute [local go_sem] run_store_float
abbrev VV (k n:Int) (f:Nat) (s:ByteArray) (r:Int):Value:=.agg #[.int .i64 k,.int .i64 n,.float .f64 f,.string s,.int .i64 r]
abbrev VO (k n:Int) (f:Nat) (s:ByteArray) (r:Int):Obj:=.cells #[.int .i64 k,.int .i64 n,.float .f64 f,.string s,.int .i64 r] 121
theorem bw1 (w:World) (o:Obj):Below w.heap.size w (w.alloc o):=(Below.refl _ _).alloc (Nat.le_refl _) o
theorem bw2 (w:World) (o p:Obj):Below w.heap.size w ((w.alloc o).alloc p):=(bw1 w o).alloc (by simp) p
theorem bw3 (w:World) (o p q:Obj):Below w.heap.size w (((w.alloc o).alloc p).alloc q):=(bw2 w o p).alloc (by simp;omega) q
def fz (f:Nat):Bool:=FloatKind.f64.format.order f 0==some .eq
theorem sz_any (k n:Int) (f:Nat) (s:ByteArray) (r l:Int) (w:World) (hs:s.size≤maxLen) (h0:0≤l) (h1:l≤1048576) :
  Calls Tryz.prog 95 #[VV k n f s r,.int .i64 l] w fun e w'=>e=.returned (.int .i64 (if l-s.size<0 then -1 else l-s.size))∧Below w.heap.size w w':=by
 unfold maxLen at hs
 by_cases hc:l-s.size<0
 ·go_enter Tryz.func95,Tryz.ntmps95
  go_wp2
  go_ret
  exact ⟨by first|rfl|rw[if_pos hc],bw1 _ _⟩
 ·go_enter Tryz.func95,Tryz.ntmps95
  go_wp2
  go_ret
  exact ⟨by first|rfl|rw[if_neg hc],bw1 _ _⟩
def zr (a b c d:Bool) (n:Int) (f:Nat) (s:ByteArray) (r:Int):Bool:=(a || n==0)&&(b || fz f)&&(c || s.toList.isEmpty)&&(d || r==0)
theorem zero_any (k n:Int) (f:Nat) (s:ByteArray) (r:Int) (a b c d:Bool) (w:World) :
  Calls Tryz.prog 129 #[VV k n f s r,.bool a,.bool b,.bool c,.bool d] w fun e w'=>e=.returned (.bool (zr a b c d n f s r))∧w'=w.alloc (VO k n f s r):=by
 go_enter Tryz.func129,Tryz.ntmps129
 go_wp2
 all_goals
  go_ret
  refine ⟨?_,?_⟩
  ·simp_all [zr,fz]
  ·simp_all
def vok (k n:Int) (f:Nat) (s:ByteArray) (r:Int):Bool :=
 if k=0 then zr false false false false n f s r
 else if k=1 then zr true false false false n f s r&&(n==0 || n==1)
 else if k=2 then zr true false false false n f s r
 else if k=3 then zr false true false false n f s r
 else if k=4 then zr false false true false n f s r&&decide ((s.size:Int)≤4000)
 else if k=5∨k=6∨k=7 then zr false false false true n f s r&&decide (0≤r)
 else if k=8 then zr true false false false n f s r&&decide (0≤n)&&decide (n<15)
 else false
theorem vok_any (k n:Int) (f:Nat) (s:ByteArray) (r:Int) (w:World) (hs:s.size≤maxLen) :
  Calls Tryz.prog 97 #[VV k n f s r] w fun e w'=>e=.returned (.bool (vok k n f s r))∧Below w.heap.size w w':=by
 unfold maxLen at hs
 go_enter Tryz.func97,Tryz.ntmps97
 go_wp2_with (go_at_call 129;refine (zero_any _ _ _ _ _ _ _ _ _ _).mono ?_;rintro e w' ⟨rfl,rfl⟩)
 all_goals
  go_ret
  refine ⟨?_,by first|exact bw2 _ _ _|exact bw1 _ _⟩
  simp_all [vok]
  try omega
attribute [local go_sem] run_store_float
attribute [local go_sem] run_equalIn_float
def ue (k n:Int) (f:Nat) (s:ByteArray) (r:Int):Bool:=zr (k==1 || k==2 || k==8) (k==3) (k==4) (k==5 || k==6 || k==7) n f s r
theorem empty_any (k n:Int) (f:Nat) (s:ByteArray) (r:Int) (w:World) :
  Calls Tryz.prog 151 #[VV k n f s r] w fun e w'=>e=.returned (.bool (ue k n f s r))∧Below w.heap.size w w':=by
 go_enter Tryz.func151,Tryz.ntmps151
 go_wp2
 all_goals
  go_ret
  refine ⟨?_,by exact bw1 _ _⟩
  simp_all [ue,zr,fz]
def tmV (k n:Int) (f:Nat) (s:ByteArray) (r:Int):Value :=
 if vok k n f s r=false then .nilIface
 else if k=0 then .iface 242 (.agg #[])
 else if k=1 then .iface 243 (.bool (n==1))
 else if k=2 then .iface 244 (.int .i64 n)
 else if k=3 then .iface 245 (.float .f64 f)
 else if k=4 then .iface 246 (.string s)
 else if k=8 then .iface 249 (.int .i64 n)
 else .iface 248 (.agg #[.int .i64 k,.int .i64 r])
theorem vok_of_ue {k n:Int}{f:Nat}{s:ByteArray}{r:Int} (h:ue k n f s r=false):vok k n f s r=false:=by
 unfold vok
 repeat' split
 all_goals simp_all [ue]
 rename_i h5
 rcases h5 with rfl|rfl|rfl <;> simp_all
theorem term_any (k n:Int) (f:Nat) (s:ByteArray) (r:Int) (w:World) :
  Calls Tryz.prog 145 #[VV k n f s r] w fun e w'=>e=.returned (tmV k n f s r)∧Below w.heap.size w w':=by
 by_cases hu:ue k n f s r=false
 ·have hv:tmV k n f s r=.nilIface:=by unfold tmV;rw[if_pos (vok_of_ue hu)]
  have hV:Hid (tmV k n f s r=.nilIface):=hv
  clear hv
  go_enter Tryz.func145,Tryz.ntmps145
  go_wp2_with (go_at_call 151;refine (empty_any _ _ _ _ _ _).mono ?_;rintro e w' ⟨rfl,hb'⟩;obtain ⟨hb,c0,c1,c2,c3,c4⟩:=box5 hb';clear hb')
  go_ret
  exact ⟨by rw[hV.out];rfl,hb⟩
 ·go_enter Tryz.func145,Tryz.ntmps145
  go_wp2_with (go_at_call 151;refine (empty_any _ _ _ _ _ _).mono ?_;rintro e w' ⟨rfl,hb'⟩;obtain ⟨hb,c0,c1,c2,c3,c4⟩:=box5 hb';clear hb')
  all_goals
   go_ret
   refine ⟨?_,by assumption⟩
   simp_all [tmV,vok,ue]
   try omega
theorem iok_any (k n:Int) (f:Nat) (s:ByteArray) (r:Int) (w:World) :
  Calls Tryz.prog 130 #[VV k n f s r] w fun e w'=>e=.returned (.bool (vok k n f s r))∧Below w.heap.size w w':=by
 by_cases hv:vok k n f s r=false
 ·have ht:tmV k n f s r=.nilIface:=by unfold tmV;rw[if_pos hv]
  go_enter Tryz.func130,Tryz.ntmps130
  go_wp2_with (go_at_call 145;refine (term_any _ _ _ _ _ _).mono ?_;rintro e w' ⟨rfl,hb'⟩;obtain ⟨hb,c0,c1,c2,c3,c4⟩:=box5 hb';clear hb')
  go_ret
  exact ⟨by first|rfl|(rw[hv];rfl),hb⟩
 ·have ht:∃ t x,tmV k n f s r=.iface t x:=by unfold tmV;rw[if_neg hv];repeat' split
                                             all_goals exact ⟨_,_,rfl⟩
  obtain ⟨t,x,ht⟩:=ht
  have hv':vok k n f s r=true:=by simpa using hv
  go_enter Tryz.func130,Tryz.ntmps130
  go_wp2_with (go_at_call 145;refine (term_any _ _ _ _ _ _).mono ?_;rintro e w' ⟨rfl,hb'⟩;obtain ⟨hb,c0,c1,c2,c3,c4⟩:=box5 hb';clear hb')
  go_ret
  exact ⟨by first|rfl|(rw[hv'];rfl),hb⟩
structure VD where
 k:Int
 n:Int
 f:Nat
 s:ByteArray
 r:Int
def VD.ok (v:VD):Prop:=v.f<18446744073709551616∧v.s.size≤maxLen
def VD.cells (v:VD):List Value:=[.int .i64 v.k,.int .i64 v.n,.float .f64 v.f,.string v.s,.int .i64 v.r]
structure UD where
 l:Bool
 i:Int
def UD.cells (u:UD):List Value:=[.bool u.l,.int .i64 u.i]
structure ID where
 op:Int
 a:Int
 b:Int
 c:Int
 d:Int
def ID.cells (n:ID):List Value:=[.int .i64 n.op,.int .i64 n.a,.int .i64 n.b,.int .i64 n.c,.int .i64 n.d]
structure ND where
 s:ByteArray
 reg:Int
 fr:Int
 to:Int
def ND.cells (n:ND):List Value:=[.string n.s,.int .i64 n.reg,.int .i64 n.fr,.int .i64 n.to]
structure FD where
 name:ByteArray
 line:Int
 params:Int
 rest:Bool
 regs:Int
 ups:List UD
 consts:List VD
 ins:List ID
 named:List ND
structure FC where
 d:FD
 au:Option Addr
 cu:Nat
 ac:Option Addr
 cc:Nat
 ai:Option Addr
 ci:Nat
 an:Option Addr
 cn:Nat
def FC.cells (x:FC):List Value:=[.string x.d.name,.int .i64 x.d.line,.int .i64 x.d.params,.bool x.d.rest,.int .i64 x.d.regs,.slice x.au x.d.ups.length x.cu,.slice x.ac x.d.consts.length x.cc,.slice x.ai x.d.ins.length x.ci,.slice x.an x.d.named.length x.cn]
def SlA {α:Type} (w:World) (k:Nat) (cells:α→List Value) (a:Option Addr) (xs:List α):Prop :=
 ∀ i x,xs[i]?=some x→∃ b off,a=some ⟨b,off,none⟩∧b<w.heap.size∧∀ j v,(cells x)[j]?=some v→w.cell? ⟨b,off+i*k+j,none⟩=some v
theorem SlA.later {α:Type}{w wx:World}{k:Nat}{cells:α→List Value}{a:Option Addr}{xs:List α} (hb:Below w.heap.size w wx) (h:SlA w k cells a xs):SlA wx k cells a xs:=by
 intro i x hi
 obtain ⟨b,off,h1,h2,h3⟩:=h i x hi
 exact ⟨b,off,h1,Nat.lt_of_lt_of_le h2 hb.size,fun j v hv=>cell_later hb (h3 j v hv)⟩
theorem SlA.nil {α:Type} (w:World) (k:Nat) (cells:α→List Value) (a:Option Addr):SlA w k cells a []:=fun i x h=>by simp at h
structure FD.ok (f:FD):Prop where
 name:f.name.size≤maxLen
 lu:f.ups.length≤1048576
 lc:f.consts.length≤1048576
 li:f.ins.length≤1048576
 ln:f.named.length≤1048576
 c:∀ v∈f.consts,v.ok
 n:∀ v∈f.named,v.s.size≤maxLen
structure FC.lie (w:World) (x:FC):Prop where
 u:SlA w 2 UD.cells x.au x.d.ups
 c:SlA w 5 VD.cells x.ac x.d.consts
 i:SlA w 5 ID.cells x.ai x.d.ins
 n:SlA w 4 ND.cells x.an x.d.named
theorem FC.lie.later {w wx:World}{x:FC} (hb:Below w.heap.size w wx) (h:x.lie w):x.lie wx:=⟨h.u.later hb,h.c.later hb,h.i.later hb,h.n.later hb⟩
structure CodeAt (w:World) (a:Option Addr) (xs:List FC):Prop where
 row:SlA w 9 FC.cells a xs
 lie:∀ x∈xs,x.lie w
 ok:∀ x∈xs,x.d.ok
 len:xs.length≤1048576
 all:(xs.map fun x=>x.d.ins.length).sum≤1048576
theorem CodeAt.later {w wx:World}{a:Option Addr}{xs:List FC} (hb:Below w.heap.size w wx) (h:CodeAt w a xs):CodeAt wx a xs:=⟨h.row.later hb,fun x hx=>(h.lie x hx).later hb,h.ok,h.len,h.all⟩
def inR (x lo hi:Int):Bool:=decide (lo≤x)&&decide (x≤hi)
def headB (p:Nat) (f:FD):Bool :=
 decide ((f.name.size:Int)≤40)&&inR f.line 0 100000&&inR f.regs 0 250&&inR f.params 0 (if f.rest then f.regs-1 else f.regs) &&
  decide ((f.ups.length:Int)≤250)&&decide ((f.consts.length:Int)≤500)&&(!(p==0) || (f.params==0&&(f.ups.length:Int)==0))
def nanB (f:Nat):Bool:=!(FloatKind.f64.format.order f f==some .eq)
def constB (v:VD):Bool:=vok v.k v.n v.f v.s v.r&&!(v.k==5 || v.k==6 || v.k==7)&&(if v.k=3 then !nanB v.f else decide (v.f=0))
def namedB (f:FD) (i:Nat) (n:ND):Bool :=
 decide ((i:Int)<500)&&inR n.s.size 1 40&&inR n.reg 0 (f.regs-1)&&decide (0≤n.fr)&&decide (n.fr≤n.to)&&decide (n.to≤(f.ins.length:Int))
def roleT:List (List Int) :=
 [[],[11,0,0,0],[12,0,0,0],[0,0,0,0],[1,7,0,0],[1,2,0,0],[1,2,0,0],[1,5,0,0],[5,2,0,0],[1,8,0,0],[8,2,0,0],[1,9,0,0],
  [1,0,0,0],[4,2,2,0],[4,2,3,0],[1,2,2,0],[2,2,2,0],[1,15,2,0],[1,16,2,2],[10,0,0,0],[2,10,0,0],[2,10,0,0],
  [1,0,0,0],[6,2,0,0],[6,3,0,0],[1,3,0,0],[1,6,17,0],[1,6,0,0],[1,2,3,0],[3,0,0,0],[2,0,0,0],[10,14,0,0],
  [0,0,0,0],[13,0,0,0],[13,0,0,0],[2,3,0,0],[0,0,0,0],[18,0,0,0],[18,10,0,0],[18,10,0,0],[19,0,0,0],[20,10,1,0],[21,0,0,0]]
def rolesL (op:Int):List Int:=if 1≤op∧op≤42 then roleT.getD op.toNat [] else []
def lohi (np:Nat) (f:FD) (role:Int):Int × Int :=
 if role=0 then (0,0)
 else if role=1∨role=4∨role=5∨role=6∨role=21 then (0,f.regs-1)
 else if role=2∨role=3 then (-f.regs,f.regs-1)
 else if role=7 then (0,(f.consts.length:Int)-1)
 else if role=8 then (0,(f.ups.length:Int)-1)
 else if role=9 then (0,(np:Int)-1)
 else if role=10 then (0,(f.ins.length:Int)-1)
 else if role=11 then (1,100000)
 else if role=12 then (0,100000)
 else if role=13 then (0,f.regs)
 else if role=14 then (0,f.regs-2)
 else if role=15 then (19,22)
 else if role=16 then (1,18)
 else if role=17 then (0,250)
 else if role=18 then (0,f.regs-3)
 else (0,f.regs-2)
def fitsB (np:Nat) (f:FD) (role x:Int):Bool:=inR x (lohi np f role).1 (lohi np f role).2
def rl (op:Int) (k:Nat):Int:=(rolesL op).getD k 0
def fieldsB (np:Nat) (f:FD) (n:ID):Bool:=inR n.op 1 42&&fitsB np f (rl n.op 0) n.a&&fitsB np f (rl n.op 1) n.b&&fitsB np f (rl n.op 2) n.c&&fitsB np f (rl n.op 3) n.d
def endsB (op:Int):Bool:=op==19 || op==29 || op==30
def insB (np:Nat) (f:FD) (i:Nat) (n:ID):Bool:=fieldsB np f n&&(!(i+1==f.ins.length) || endsB n.op)
def upB (m:FD) (u:UD):Bool:=if u.l then inR u.i 0 (m.regs-1) else inR u.i 0 ((m.ups.length:Int)-1)
def upsB (m:FD) (us:List UD):Bool:=us.all (upB m)
def ff {α:Type} (ok:Nat→α→Bool):List α→Nat→Option Nat
 | [],_=>none
 | x::xs,i=>if ok i x=true then ff ok xs (i+1) else some i
def fp (inner:Nat→FD→Option Nat):List FD→Nat→Option (Nat × Nat)
 | [],_=>none
 | f::fs,p=>match inner p f with
  | some i=>some (p,i)
  | none=>fp inner fs (p+1)
def hd0 (p:Nat) (f:FD):Option Nat:=if headB p f=true then none else some 0
def co0 (_:Nat) (f:FD):Option Nat:=ff (fun _=>constB) f.consts 0
def na0 (_:Nat) (f:FD):Option Nat:=ff (namedB f) f.named 0
def in0 (np:Nat) (_:Nat) (f:FD):Option Nat:=if f.ins.length=0 then some 0 else ff (insB np f) f.ins 0
def fd0:FD:=⟨ByteArray.empty,0,0,false,0,[],[],[],[]⟩
def fnB (c:List FD) (p:Nat) (f:FD) (n:ID) (made:List Bool):Bool:=!(decide (n.b≤p) || made.getD n.b.toNat false || !upsB f (c.getD n.b.toNat fd0).ups)
def f6i (c:List FD) (p:Nat) (f:FD):List ID→Nat→List Bool→Option Nat × List Bool
 | [],_,made=>(none,made)
 | n::ns,i,made=>if n.op=11 then (if fnB c p f n made=true then f6i c p f ns (i+1) (made.set n.b.toNat true) else (some i,made)) else f6i c p f ns (i+1) made
def f6 (c:List FD):List FD→Nat→List Bool→Option (Nat × Nat) × List Bool
 | [],_,made=>(none,made)
 | f::fs,p,made=>match f6i c p f f.ins 0 made with
  | (some i,m)=>(some (p,i),m)
  | (none,m)=>f6 c fs (p+1) m
def total (c:List FD):Nat:=(c.map fun f=>f.ins.length).sum
abbrev F3:=Int × Int × Int
def partsV (c:List FD):F3 :=
 if c.length=0∨200<c.length∨6000<total c then (1,0,0) else
 match fp hd0 c 0 with
 | some (p,i)=>(2,p,i)
 | none=>match fp co0 c 0 with
  | some (p,i)=>(3,p,i)
  | none=>match fp na0 c 0 with
   | some (p,i)=>(4,p,i)
   | none=>match fp (in0 c.length) c 0 with
    | some (p,i)=>(5,p,i)
    | none=>(0,0,0)
def fnsV (c:List FD):F3 :=
 match f6 c c 0 (List.replicate c.length false) with
 | (some (p,i),_)=>(6,p,i)
 | (none,made)=>match ff (fun _ b=>b) (made.drop 1) 1 with
  | some p=>(7,p,0)
  | none=>(0,0,0)
def shapeV (c:List FD):F3:=if (partsV c).1=0 then fnsV c else partsV c
theorem ff_drop {α:Type} (ok:Nat→α→Bool) {xs:List α}{i:Nat}{x:α} (h:xs[i]?=some x):ff ok (xs.drop i) i=if ok i x=true then ff ok (xs.drop (i+1)) (i+1) else some i:=by
 obtain ⟨hlt,he⟩:=List.getElem?_eq_some_iff.1 h
 rw[List.drop_eq_getElem_cons hlt,he]
 rfl
theorem fp_drop (inner:Nat→FD→Option Nat) {xs:List FC}{i:Nat}{x:FC} (h:xs[i]?=some x):fp inner ((xs.drop i).map FC.d) i=match inner i x.d with
  | some j=>some (i,j)
  | none=>fp inner ((xs.drop (i+1)).map FC.d) (i+1):=by
 obtain ⟨hlt,he⟩:=List.getElem?_eq_some_iff.1 h
 rw[List.drop_eq_getElem_cons hlt,he]
 rfl
theorem ff_none {α:Type}{ok:Nat→α→Bool}:∀ {xs:List α}{i:Nat},ff ok xs i=none→∀ j x,xs[j]?=some x→ok (i+j) x=true
 | [],i,_,j,x,hx=>by simp at hx
 | y::ys,i,h,j,x,hx=>by
  unfold ff at h
  split at h
  ·rename_i hy
   cases j with
   | zero=>simp at hx;subst hx;exact hy
   | succ j =>
    have:=ff_none h j x (by simpa using hx)
    rw[show i+(j+1)=i+1+j by omega];exact this
  ·cases h
theorem fp_none {inner:Nat→FD→Option Nat}:∀ {fs:List FD}{p:Nat},fp inner fs p=none→∀ j f,fs[j]?=some f→inner (p+j) f=none
 | [],p,_,j,f,hf=>by simp at hf
 | g::gs,p,h,j,f,hf=>by
  unfold fp at h
  split at h
  ·cases h
  ·rename_i hg
   cases j with
   | zero=>simp at hf;subst hf;exact hg
   | succ j =>
    have:=fp_none h j f (by simpa using hf)
    rw[show p+(j+1)=p+1+j by omega];exact this
end Go.Proofs.YtfejmalmnjmanaaGreatDoor
