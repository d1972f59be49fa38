import Derived.Test.YtliahjnnbbgooaaGreatDoorP39
import Derived.Test.YtliahjnnbbgooaaGreatDoorP32
import Derived.Test.YtliahjnnbbgooaaGreatDoorP36
import Derived.Test.YtliahjnnbbgooaaGreatDoorP31
import Derived.Test.YtliahjnnbbgooaaGreatDoorP13
import Derived.Deep.CutRange
set_option linter.unusedVariables false
set_option linter.unusedSimpArgs false
set_option maxRecDepth 20000
set_option maxHeartbeats 8000000
namespace Go.Proofs.YtliahjnnbbgooaaGreatDoor.U
open Go.RowKit M T
inductive RD where
 | no
 | emp
 | bui
 | nl
 | l0
 | ls
 | st
 deriving DecidableEq
structure AS where
 at':Nat
 rs:List RD
 ln:Bool
 gd:Option Nat
 deriving DecidableEq
def absD (n:ID) (s:AS):Option (AS × Nat) :=
 if n.op=4 then
  if n.a=0∧n.b=0 then some (⟨s.at'+1,s.rs.set 0 .emp,s.ln,s.gd⟩,0)
  else if n.a=1∧n.b=1 then some (⟨s.at'+1,s.rs.set 1 .bui,s.ln,s.gd⟩,0) else none
 else if n.op=5 then
  if n.a=0∧n.b=0∧s.rs[0]?=some .emp then some (⟨s.at'+1,s.rs.set 0 .emp,s.ln,s.gd⟩,0)
  else if n.a=2∧n.b=1∧s.rs[1]?=some .bui then some (⟨s.at'+1,s.rs.set 2 .bui,s.ln,s.gd⟩,0) else none
 else if n.op=40 then
  if n.a=2∧s.rs[2]?=some .bui then some (⟨s.at'+1,s.rs.set 3 .nl,s.ln,s.gd⟩,0) else none
 else if n.op=1 then some (⟨s.at'+1,s.rs,false,s.gd⟩,1)
 else if n.op=3 then some (⟨s.at'+1,s.rs,s.ln,s.gd⟩,1)
 else if n.op=22 then if n.a=4 then some (⟨s.at'+1,s.rs.set 4 .l0,s.ln,s.gd⟩,0) else none
 else if n.op=28 then
  if n.a=4∧n.b=1∧n.c=-5∧s.rs[1]?=some .bui∧s.rs[4]?=some .l0 then some (⟨s.at'+1,s.rs.set 4 .ls,s.ln,s.gd⟩,1) else none
 else if n.op=42 then
  if n.a=4 then some (⟨s.at'+1,s.rs.set 4 .no,s.ln,s.gd⟩,0)
  else if n.a=5 then some (⟨s.at'+1,s.rs.set 5 .no,s.ln,s.gd⟩,0) else none
 else if n.op=18 then
  if n.a=4∧n.b=12∧n.c=0∧n.d=0∧s.rs[0]?=some .emp then some (⟨s.at'+1,s.rs.set 4 .emp,s.ln,s.gd⟩,1) else none
 else if n.op=31 then
  if n.b=4∧0≤n.a∧s.ln=true∧s.gd=none then some (⟨s.at'+1,s.rs,s.ln,some n.a.toNat⟩,0) else none
 else if n.op=30 then
  if n.a=0∧s.rs[0]?=some .emp∧s.rs[4]?=some .no∧s.rs[5]?=some .no∧s.ln=true then
   match s.gd with
   | some hd=>some (⟨hd,(s.rs.set 4 .emp).set 5 .st,true,none⟩,0)
   | none=>none
  else none
 else if n.op=41 then
  if n.a=2∧n.c=4∧s.rs[2]?=some .bui∧s.rs[3]?=some .nl then some (⟨s.at'+1,s.rs.set 4 .ls,s.ln,s.gd⟩,2) else none
 else if n.op=19 then if 0≤n.a then some (⟨n.a.toNat,s.rs,s.ln,s.gd⟩,0) else none
 else none
def trail (ins:List ID):Nat→AS→List AS
 | 0,_=>[]
 | k+1,s=>s :: match ins[s.at']? with
  | none=>[]
  | some n=>match absD n s with
   | none=>[]
   | some (s',_)=>trail ins k s'
def as0 (kind:Nat):AS:=⟨0,[.no,.no,.no,.no,.no,.no],decide (kind≠1),none⟩
def cirS (kind n:Nat):List AS:=trail (cirI kind n) (cirJ kind n+1) (as0 kind)
def cirN (kind n a:Nat):Nat:=if a=cirJ kind n then cirB kind else a+1
def cirW (kind n a:Nat):Nat:=if a≤cirX kind n then cirX kind n-a else cirJ kind n+1-a+(cirX kind n-cirB kind)
structure Tab (kind n:Nat):Prop where
 step:∀a,a≤cirJ kind n→∃s i s' k,(cirS kind n)[a]?=some s∧(cirI kind n)[a]?=some i∧s.at'=a∧absD i s=some (s',k)∧(cirS kind n)[cirN kind n a]?=some s'∧(a≠cirX kind n∨0<k)
 st0:(cirS kind n)[0]?=some (as0 kind)
 jl:cirJ kind n≤60
theorem cirX_le (kind n:Nat) (ht:cirT kind=true):cirB kind≤cirX kind n∧cirX kind n<cirJ kind n:=by
 unfold cirT at ht
 unfold cirX cirJ
 split at ht
 case h_7=>cases ht
 all_goals
  simp only[cirM,List.length_cons,List.length_nil]
  first
  | rw[if_neg (by omega)];omega
  | simp only[if_true];omega
theorem cirN_le (kind n a:Nat) (ht:cirT kind=true) (ha:a≤cirJ kind n):cirN kind n a≤cirJ kind n:=by
 have:=cirX_le kind n ht
 unfold cirN
 split<;>omega
theorem cirW_lt (kind n a:Nat) (ht:cirT kind=true) (ha:a≤cirJ kind n) (hx:a≠cirX kind n):cirW kind n (cirN kind n a)<cirW kind n a:=by
 have:=cirX_le kind n ht
 unfold cirN cirW
 split
 ·rename_i h
  subst h
  rw[if_pos (by omega),if_neg (by omega)]
  omega
 ·split<;>split<;>omega
theorem cirW_le (kind n a:Nat) (ht:cirT kind=true):cirW kind n a≤2*cirJ kind n+1:=by
 have:=cirX_le kind n ht
 unfold cirW
 split<;>omega
def mu (kind n t tk a:Nat):Nat:=(t+1-tk)*128+cirW kind n a
def rep:RD→M.SD→Prop
 | .no,s=>s=sd0
 | .emp,s=>s=sdV nothing
 | .bui,s=>s=sdV texter
 | .nl,s=>s=sdV vd0
 | .l0,s=>s=sdL (.slice none 0 0)
 | .ls,s=>∃g:Nat,s=sdL (.slice (some ⟨g,0,none⟩) 1 1)
 | .st,s=>∃t,s=sdV (strD t)
structure Reps (al:List RD) (rs:List M.SD):Prop where
 la:al.length=6
 lr:rs.length=250
 at_:∀(i:Nat) r,al[i]?=some r→∃s,rs[i]?=some s∧rep r s
 hi:∀i:Nat,6≤i→i<250→rs[i]?=some sd0
theorem Reps.set {al:List RD} {rs:List M.SD} (h:Reps al rs) {i:Nat} (hi:i<6) {r:RD} {s:M.SD} (hr:rep r s):Reps (al.set i r) (rs.set i s):=by
 refine⟨by rw[List.length_set];exact h.la,by rw[List.length_set];exact h.lr,fun j q hj=>?_,fun j h6 h250=>?_⟩
 ·by_cases e:i=j
  ·subst e
   rw[List.getElem?_set_self (by rw[h.la];exact hi)]at hj
   cases hj
   exact⟨s,List.getElem?_set_self (by rw[h.lr];omega),hr⟩
  ·rw[List.getElem?_set_ne e]at hj
   rw[List.getElem?_set_ne e]
   exact h.at_ j q hj
 ·rw[List.getElem?_set_ne (by omega)]
  exact h.hi j h6 h250
theorem Reps.low {al:List RD} {rs:List M.SD} (h:Reps al rs) (h4:al[4]?=some .no) (h5:al[5]?=some .no):rs.drop 4=List.replicate 246 sd0:=by
 apply List.ext_getElem?
 intro i
 rw[List.getElem?_drop,List.getElem?_replicate]
 by_cases hi:i<246
 ·rw[if_pos hi]
  by_cases h6:2≤i
  ·exact h.hi (4+i) (by omega) (by omega)
  ·have:i=0∨i=1:=by omega
   rcases this with rfl | rfl
   ·obtain⟨s,h1,h2⟩:=h.at_ 4 _ h4
    rw[h1];exact congrArg some h2
   ·obtain⟨s,h1,h2⟩:=h.at_ 5 _ h5
    rw[h1];exact congrArg some h2
 ·rw[if_neg hi,List.getElem?_eq_none_iff,h.lr]
  omega
end Go.Proofs.YtliahjnnbbgooaaGreatDoor.U
namespace Go.Proofs.YtliahjnnbbgooaaGreatDoor.U
open Go.RowKit M T
attribute [local go_sem] run_store_float
theorem doCall_over (p:Option Addr) (gm gf:Nat) (n:ID) (m:MachD) (c:CallD) (w:World) (hm:MachAt w gm m) (hc:CallAt w gf c) (hr:c.regs.length=250) (ha:n.a=4) (hb:n.b=1) (hcc:n.c=-5) (h1:c.regs[1]?=some (sdV ⟨8,3,0,⟨#[]⟩,0⟩)) (h4:c.regs[4]?=some (sdL (.slice none 0 0))) (he:m.rticks=m.ticks) (ho:OvV w p) (hog:1≠gf) :
  Calls Tryz.prog 70 #[.pointer (some ⟨gm,0,none⟩),.pointer (some ⟨gf,0,none⟩),insV n] w fun e w'=>e=.returned (ovI p)∧CallAt w' gf { c with regs:=c.regs.set 4 sd0 }∧ButL [gf] w w':=by
 obtain⟨op,a,b,cc,d⟩:=n
 dsimp only[insV]at ha hb hcc ⊢
 subst ha hb hcc
 obtain⟨W,hW⟩:∃W,w.alloc (InO ⟨op,4,1,-5,d⟩)=W:=⟨_,rfl⟩
 have hbw:Below w.heap.size w W:=by rw[←hW];exact bw1 _ _
 have bn:W.heap[w.heap.size]?=some (InO ⟨op,4,1,-5,d⟩):=by rw[←hW];exact blk_new _ _
 have hmf:gm≠gf:=ne_ty hm hc (by decide)
 have HM:Hid (MachAt W gm m):=hm.later hbw
 have HC:Hid (CallAt W gf c):=hc.later hbw
 have HB:Hid (Below w.heap.size w W):=hbw
 have HO:Hid (OvV W p):=ho.later hbw
 have d1:W.cell? ⟨w.heap.size,1,none⟩=some (.int .i64 4):=by rw[blk_cell bn];rfl
 have d2:W.cell? ⟨w.heap.size,2,none⟩=some (.int .i64 1):=by rw[blk_cell bn];rfl
 have d3:W.cell? ⟨w.heap.size,3,none⟩=some (.int .i64 (-5)):=by rw[blk_cell bn];rfl
 clear hm hc hbw bn ho
 go_enter Tryz.func70,Tryz.ntmps70
 go_wp2_with fail
 clear hW
 go_region_with (first | (go_at_call 138;refine (value_pos gf 1 1 ⟨8,3,0,⟨#[]⟩,0⟩ none none 0 0 c _ (CallAt.drew HC.out) hr (by omega) h1).mono ?_;rintro e w1 ⟨rfl,hx⟩;replace hx:=und1' hx;have HX1:Hid (Below W.heap.size W w1):=hx;have HC1:Hid (CallAt w1 gf c):=HC.out.later hx;have f3:w1.cell? ⟨w.heap.size,3,none⟩=some (.int .i64 (-5)):=cell_later hx d3;clear hx) | (go_at_call 146;refine (list_neg gf 4 (-5) 3 vd0 none none 0 0 c _ HC1.out hr (by omega) (by omega) (by omega) h4).mono ?_;rintro e w2 ⟨rfl,hc2,hb2⟩;have HC2:Hid (CallAt w2 gf { c with regs:=c.regs.set 4 sd0 }):=hc2;have HB2:Hid (ButL [gf] W w2):=(ButL.of_below HX1.out).trans hb2;have HM2:Hid (MachAt w2 gm m):=HM.out.but HB2.out (by simp;exact hmf);have HO2:Hid (OvV w2 p):=OvV.but HO.out HB2.out (by simp;exact hog);clear hc2 hb2) | (go_at_call 153;refine (callt_over gm m p .nilIface _ HM2.out HO2.out he).mono ?_;rintro e w3 ⟨rfl,hx3⟩;have HC3:Hid (CallAt w3 gf { c with regs:=c.regs.set 4 sd0 }):=CallAt.later HC2.out hx3;have HB3:Hid (ButL [gf] w w3):=((ButL.of_below HB.out).trans HB2.out).thenB hx3;clear hx3;unfold ovI))
 all_goals
  clear d1 d2 d3 f3
  go_wp2_with fail
  go_ret
  exact⟨rfl,HC3.out,HB3.out⟩
theorem doLine_over (p:Option Addr) (gm gf:Nat) (n:ID) (m:MachD) (w:World) (hm:MachAt w gm m) (he:m.rticks=m.ticks) (ho:OvV w p) :
  Calls Tryz.prog 51 #[.pointer (some ⟨gm,0,none⟩),.pointer (some ⟨gf,0,none⟩),insV n] w fun e w'=>e=.returned (ovI p)∧Below w.heap.size w w':=by
 obtain⟨op,a,b,cc,d⟩:=n
 dsimp only[insV]
 have HB:Hid _:=bw1 w (InO ⟨op,a,b,cc,d⟩)
 have HC:Hid (MachAt (w.alloc (InO ⟨op,a,b,cc,d⟩)) gm m):=hm.later HB.out
 have HO:Hid (OvV (w.alloc (InO ⟨op,a,b,cc,d⟩)) p):=ho.later HB.out
 clear hm ho
 go_enter Tryz.func51,Tryz.ntmps51
 go_wp2_with fail
 refine (tick_over gm m p _ HC.out HO.out he).mono ?_
 rintro e w1 ⟨rfl,hb1⟩
 have HB1:Hid (Below w.heap.size w w1):=HB.out.trans (hb1.mono (by simp))
 clear hb1
 unfold ovI
 go_wp2_with fail
 go_ret
 exact⟨rfl,HB1.out⟩
theorem doLine_go (gm gt gc gf:Nat) (n:ID) (m:MachD) (c:CallD) (ta ca:Array Value) (Q:World→World→Prop) (w:World) (hm:MachAt w gm m) (hrn:m.running=.pointer (some ⟨gt,0,none⟩)) (htk:TkAt w gt gc gf) (ht:w.heap[gt]?=some (.cells ta 115)) (hcr:w.heap[gc]?=some (.cells ca 116))
  (hc:CallAt w gf c) (hp:c.proto=0) (he:m.rticks<m.ticks) (h0:0≤m.rticks) (h1:m.ticks≤100000)
  (HQ:∀wk,ButL [gm,gf] w wk→MachAt wk gm { m with rticks:=m.rticks+1 }→CallAt wk gf { c with line:=n.a }→Calls Tryz.prog 206 #[.pointer (some ⟨gm,0,none⟩),.agg #[.int .i64 1,.int .i64 0,.int .i64 0,.int .i64 n.a,.string ⟨#[]⟩]] wk fun e w'=>e=.returned .nilIface∧Q wk w') :
  Calls Tryz.prog 51 #[.pointer (some ⟨gm,0,none⟩),.pointer (some ⟨gf,0,none⟩),insV n] w fun e w'=>e=.returned .nilIface∧∃wk,ButL [gm,gf] w wk∧MachAt wk gm { m with rticks:=m.rticks+1 }∧CallAt wk gf { c with line:=n.a }∧Q wk w':=by
 obtain⟨op,a,b,cc,d⟩:=n
 dsimp only[insV]at HQ ⊢
 have hmf:gm≠gf:=ne_ty hm hc (by decide)
 obtain⟨W,hW⟩:∃W,w.alloc (InO ⟨op,a,b,cc,d⟩)=W:=⟨_,rfl⟩
 have hbw:Below w.heap.size w W:=by rw[←hW];exact bw1 _ _
 have bn:W.heap[w.heap.size]?=some (InO ⟨op,a,b,cc,d⟩):=by rw[←hW];exact blk_new _ _
 have hne:w.heap.size≠gm:=by have:=blk_lt hm;omega
 have HB:Hid (Below w.heap.size w W):=hbw
 have HM:Hid (MachAt W gm m):=hm.later hbw
 have HI:Hid (W.heap[w.heap.size]?=some (InO ⟨op,a,b,cc,d⟩)):=bn
 have HC:Hid (CallAt w gf c):=hc
 have HT:Hid (TkAt w gt gc gf):=htk
 have HTa:Hid (w.heap[gt]?=some (.cells ta 115)):=ht
 have HCa:Hid (w.heap[gc]?=some (.cells ca 116)):=hcr
 have HMm:Hid (MachAt w gm m):=hm
 have HQ':Hid (∀wk,ButL [gm,gf] w wk→MachAt wk gm { m with rticks:=m.rticks+1 }→CallAt wk gf { c with line:=a }→Calls Tryz.prog 206 #[.pointer (some ⟨gm,0,none⟩),.agg #[.int .i64 1,.int .i64 0,.int .i64 0,.int .i64 a,.string ⟨#[]⟩]] wk fun e w'=>e=.returned .nilIface∧Q wk w'):=HQ
 clear hm hc htk ht hcr HQ hbw bn
 go_enter Tryz.func51,Tryz.ntmps51
 go_wp2_with fail
 clear hW
 refine (tick_go gm m _ HM.out he h0 h1).mono ?_
 rintro e w1 ⟨rfl,hm1,hb1⟩
 have d1:w1.cell? ⟨w.heap.size,1,none⟩=some (.int .i64 a):=by rw[blk_cell (hb1.blk HI.out (by simp;exact hne))];rfl
 have hb1':ButL [gm,gf] w w1:=(ButL.of_below HB.out).trans (hb1.mono (fun q hq=>.inl (by simp at hq;subst hq;simp)))
 have hc1:CallAt w1 gf c:=(HC.out.later HB.out).but hb1 (by simp;exact fun e=>hmf e.symm)
 have c11:w1.cell? ⟨gf,11,none⟩=some (.int .i64 c.line):=by rw[hc1.cell 11 (by omega)];rfl
 have z:=blk_frozen hc1
 obtain⟨W3,hW3⟩:∃W3,w1.setCell ⟨gf,11,none⟩ (.int .i64 a)=W3:=⟨_,rfl⟩
 have hc3:CallAt W3 gf { c with line:=a }:=by
  rw[←hW3]
  have h9:=blk_set hc1 11 (.int .i64 a)
  rw[T.CallD.set_line]at h9
  exact h9
 have hb3:ButL [gm,gf] w W3:=by rw[←hW3];exact hb1'.set (by simp) _ _
 have hm3:MachAt W3 gm { m with rticks:=m.rticks+1 }:=by rw[←hW3];exact blk_other hm1 (fun e=>hmf e.symm) _ _
 have HC3:Hid (CallAt W3 gf { c with line:=a }):=hc3
 have HB3:Hid (ButL [gm,gf] w W3):=hb3
 have HM3:Hid (MachAt W3 gm { m with rticks:=m.rticks+1 }):=hm3
 have HT3:Hid (TkAt W3 gt gc gf):=tk_but HT.out HTa.out HCa.out hb3 (by simp;exact⟨ne_ty HTa.out HMm.out (by decide),ne_ty HTa.out HC.out (by decide)⟩) (by simp;exact⟨ne_ty HCa.out HMm.out (by decide),ne_ty HCa.out HC.out (by decide)⟩)
 have e11:W3.cell? ⟨gf,11,none⟩=some (.int .i64 a):=by rw[hc3.cell 11 (by omega)];rfl
 clear hm1 hb1 hb1' hc1 hc3 hb3 hm3
 go_wp2_with fail
 refine (tell_g gm gt gc gf ⟨1,a,⟨#[]⟩⟩ { m with rticks:=m.rticks+1 } { c with line:=a } .nilIface (fun w'=>∃n,Q (W3.drewN n) w') W3 HM3.out hrn HT3.out HC3.out hp (fun n=>(HQ'.out (W3.drewN n) (HB3.out.drewN n) HM3.out HC3.out).mono (fun e w' h=>⟨h.1,n,h.2⟩))).mono ?_
 rintro e w5 ⟨rfl,n5,hq⟩
 have HQ5:Hid (Q (W3.drewN n5) w5):=hq
 clear hq
 go_wp2_with fail
 go_ret
 exact⟨rfl,W3.drewN n5,HB3.out.drewN n5,HM3.out,HC3.out,HQ5.out⟩
end Go.Proofs.YtliahjnnbbgooaaGreatDoor.U
namespace Go.Proofs.YtliahjnnbbgooaaGreatDoor.U
open Go.RowKit M T
attribute [local go_sem] run_store_float
end Go.Proofs.YtliahjnnbbgooaaGreatDoor.U
namespace Go.Proofs.YtliahjnnbbgooaaGreatDoor.U
open Go.RowKit M T
attribute [local go_sem] run_store_float
attribute [local go_sem] m_str_text
end Go.Proofs.YtliahjnnbbgooaaGreatDoor.U
namespace Go.Proofs.YtliahjnnbbgooaaGreatDoor.U
open Go.RowKit M T
attribute [local go_sem] run_store_float
end Go.Proofs.YtliahjnnbbgooaaGreatDoor.U
namespace Go.Proofs.YtliahjnnbbgooaaGreatDoor.U
open Go.RowKit M T
attribute [local go_sem] run_store_float
end Go.Proofs.YtliahjnnbbgooaaGreatDoor.U
namespace Go.Proofs.YtliahjnnbbgooaaGreatDoor.U
open Go.RowKit M T
def GdOk:Option Nat→List (Nat × Int)→Prop
 | none,gl=>gl=[]
 | some hd,gl=>∃gn:Nat,gl=[(gn,(hd:Int))]
def Ph (kind n t a tk nr:Nat) (ln:Int) (rs:List M.SD) (gl:List (Nat × Int)):Prop :=
 a≤cirJ kind n∧tk≤t∧nr+2*mu kind n t tk a≤60000∧∃s,(cirS kind n)[a]?=some s∧Reps s.rs rs∧(s.ln=true→ln=0)∧GdOk s.gd gl
structure Here (kind n t a tk nr:Nat) (ln:Int) (rs:List M.SD) (gl:List (Nat × Int)) (i:ID) (s s':AS) (k:Nat):Prop where
 tab:Tab kind n
 ht:cirT kind=true
 ha:a≤cirJ kind n
 htk:tk≤t
 hb:nr+2*mu kind n t tk a≤60000
 hi:(cirI kind n)[a]?=some i
 at_:s.at'=a
 hd:absD i s=some (s',k)
 nxt:s'.at'=cirN kind n a
 hn:(cirS kind n)[cirN kind n a]?=some s'
 hx:a≠cirX kind n∨0<k
 rp:Reps s.rs rs
 hl:s.ln=true→ln=0
 hg:GdOk s.gd gl
section
variable {w0:World} {K:UK} {kind n t a tk nr:Nat} {ln:Int} {rs:List M.SD} {gl:List (Nat × Int)} {i:ID} {s s':AS} {k:Nat}
theorem Here.go (H:Here kind n t a tk nr ln rs gl i s s' k) {tk' nr':Nat} {ln':Int} {rs':List M.SD} {gl':List (Nat × Int)} (hk:tk'=tk+k) (hle:tk'≤t) (hnr:nr'≤nr+2) (hr:Reps s'.rs rs') (hl:s'.ln=true→ln'=0) (hg:GdOk s'.gd gl') :
  Ph kind n t s'.at' tk' nr' ln' rs' gl'∧mu kind n t tk' s'.at'<mu kind n t tk a:=by
 have hmu:mu kind n t tk' s'.at'<mu kind n t tk a:=by
  rw[H.nxt]
  unfold mu
  by_cases h0:k=0
  ·subst h0
   have h1:a≠cirX kind n:=by rcases H.hx with h | h<;>omega
   have:=cirW_lt kind n a H.ht H.ha h1
   subst hk
   rw[Nat.add_zero]
   omega
  ·have h1:=cirW_le kind n (cirN kind n a) H.ht
   have h2:=H.tab.jl
   have h3:(t+1-tk)*128≥(t+1-tk')*128+128:=by
    have:t+1-tk≥(t+1-tk')+1:=by omega
    have:=Nat.mul_le_mul_right 128 this
    omega
   omega
 refine⟨⟨?_,hle,?_,s',?_,hr,hl,hg⟩,hmu⟩
 ·rw[H.nxt];exact cirN_le kind n a H.ht H.ha
 ·have:=H.hb
  omega
 ·rw[H.nxt];exact H.hn
def GoP (w0:World) (K:UK) (kind n t B:Nat) (e:Ending) (w':World):Prop:=e=.returned .nilIface∧∃(tk:Nat) (xs:List RcD) (at2:Nat) (ln ax:Int) (rs:List M.SD) (gl:List (Nat × Int)) (rv gv:Value),UX w0 K w' tk xs ln ax (at2:Int) rs gl rv gv∧Ph kind n t at2 tk xs.length ln rs gl∧mu kind n t tk at2<B
def ThP (w0:World) (K:UK) (kind n t B:Nat) (e:Ending) (w':World):Prop:=∃gr,e=.returned (.iface 112 (.pointer (some ⟨gr,0,none⟩)))∧Calls Tryz.prog 103 #[.pointer (some ⟨K.gm,0,none⟩),.pointer (some ⟨K.gf,0,none⟩),.iface 112 (.pointer (some ⟨gr,0,none⟩))] w' (GoP w0 K kind n t B)
def OvP (w0:World) (K:UK) (t:Nat) (e:Ending) (w':World):Prop:=e=.returned (ovI (some K.ov))∧∃(xs:List RcD) (ln ax nx:Int) (rs:List M.SD) (gl:List (Nat × Int)) (rv gv:Value),UX w0 K w' t xs ln ax nx rs gl rv gv
variable {w:World} {xs:List RcD} {rv gv:Value}
theorem GoP.of (H:Here kind n t a tk xs.length ln rs gl i s s' k) {w':World} {tk':Nat} {xs':List RcD} {ln' ax nx:Int} {rs':List M.SD} {gl':List (Nat × Int)} {rv' gv':Value} (hx:UX w0 K w' tk' xs' ln' ax nx rs' gl' rv' gv') (hnx:nx=(s'.at':Int)) (hk:tk'=tk+k) (hle:tk'≤t) (hnr:xs'.length≤xs.length+2) (hr:Reps s'.rs rs') (hl:s'.ln=true→ln'=0) (hg:GdOk s'.gd gl') :
  GoP w0 K kind n t (mu kind n t tk a) (.returned .nilIface) w':=by
 obtain⟨h1,h2⟩:=H.go hk hle hnr hr hl hg
 subst hnx
 exact⟨rfl,tk',xs',s'.at',ln',ax,rs',gl',rv',gv',hx,h1,h2⟩
structure Con (w0:World) (K:UK):Prop where
 con:∃cb co ccap,K.c0.consts=.slice (some ⟨cb,co,none⟩) 2 ccap∧cb<w0.heap.size∧∀(j:Nat) v,[nothing,texter][j]?=some v→∀q u,v.cells[q]?=some u→w0.cell? ⟨cb,co+j*5+q,none⟩=some u
theorem og (ok:UKok w0 K):1<w0.heap.size:=World.block_lt_of_cell? _ _ ok.ovr
theorem ogf (ok:UKok w0 K):1≠K.gf:=by have:=og ok;have:=ok.geF;omega
abbrev args (K:UK) (i:ID):Array Value:=#[.pointer (some ⟨K.gm,0,none⟩),.pointer (some ⟨K.gf,0,none⟩),insV i]
theorem u4 (ok:UKok w0 K) (con:Con w0 K) (H:Here kind n t a tk xs.length ln rs gl i s s' k) (hop:i.op=4) (h:UX w0 K w tk xs ln (a:Int) ((a:Int)+1) rs gl rv gv) :
  Calls Tryz.prog 54 (args K i) w (GoP w0 K kind n t (mu kind n t tk a)):=by
 obtain⟨cb,co,ccap,h1,h2,h3⟩:=con.con
 have hlt:cb<w.heap.size:=Nat.lt_of_lt_of_le h2 h.bel.size
 have hd:=H.hd
 unfold absD at hd
 rw[if_pos hop]at hd
 split at hd
 ·rename_i hc
  cases hd
  refine (loadc_any _ K.gf 0 0 cb co 2 ccap nothing i (K.c ln a ((a:Int)+1) gv rs) w h.cal h.lr hop hc.1 (by omega) hc.2 (by omega) h1 hlt (fun q u hu=>cell_later h.bel (h3 0 _ rfl q u hu))).mono ?_
  rintro e w1 ⟨rfl,q1,q2⟩
  exact GoP.of H (h.call ok q2 (ln2:=ln) (at2:=a) (next2:=(a:Int)+1) q1 (by rw[List.length_set];exact h.lr)) (by have:=H.at_;show (a:Int)+1=((s.at'+1:Nat):Int);omega) rfl H.htk (by omega) (H.rp.set (by omega) rfl) H.hl H.hg
 ·split at hd
  ·rename_i hc
   cases hd
   refine (loadc_any _ K.gf 1 1 cb co 2 ccap texter i (K.c ln a ((a:Int)+1) gv rs) w h.cal h.lr hop hc.1 (by omega) hc.2 (by omega) h1 hlt (fun q u hu=>cell_later h.bel (h3 1 _ rfl q u hu))).mono ?_
   rintro e w1 ⟨rfl,q1,q2⟩
   exact GoP.of H (h.call ok q2 (ln2:=ln) (at2:=a) (next2:=(a:Int)+1) q1 (by rw[List.length_set];exact h.lr)) (by have:=H.at_;show (a:Int)+1=((s.at'+1:Nat):Int);omega) rfl H.htk (by omega) (H.rp.set (by omega) rfl) H.hl H.hg
  ·cases hd
theorem reg_emp (H:Here kind n t a tk nr ln rs gl i s s' k) {j:Nat} (hj:s.rs[j]?=some .emp):rs[j]?=some (sdV nothing):=by
 obtain⟨x,h1,h2⟩:=H.rp.at_ j _ hj
 rw[h1];exact congrArg some h2
theorem reg_bui (H:Here kind n t a tk nr ln rs gl i s s' k) {j:Nat} (hj:s.rs[j]?=some .bui):rs[j]?=some (sdV texter):=by
 obtain⟨x,h1,h2⟩:=H.rp.at_ j _ hj
 rw[h1];exact congrArg some h2
theorem reg_l0 (H:Here kind n t a tk nr ln rs gl i s s' k) {j:Nat} (hj:s.rs[j]?=some .l0):rs[j]?=some (sdL (.slice none 0 0)):=by
 obtain⟨x,h1,h2⟩:=H.rp.at_ j _ hj
 rw[h1];exact congrArg some h2
theorem nxa (H:Here kind n t a tk nr ln rs gl i s s' k):(a:Int)+1=((s.at'+1:Nat):Int):=by have:=H.at_;omega
theorem u5 (ok:UKok w0 K) (H:Here kind n t a tk xs.length ln rs gl i s s' k) (hop:i.op=5) (h:UX w0 K w tk xs ln (a:Int) ((a:Int)+1) rs gl rv gv) :
  Calls Tryz.prog 54 (args K i) w (GoP w0 K kind n t (mu kind n t tk a)):=by
 have hd:=H.hd
 unfold absD at hd
 rw[if_neg (by omega),if_pos hop]at hd
 split at hd
 ·rename_i hc
  cases hd
  refine (loadm_any _ K.gf 0 0 1 nothing none none 0 0 i (K.c ln a ((a:Int)+1) gv rs) w h.cal h.lr hop hc.1 (by omega) hc.2.1 (by omega) (reg_emp H hc.2.2)).mono ?_
  rintro e w1 ⟨rfl,q1,q2⟩
  exact GoP.of H (h.call ok q2 (ln2:=ln) (at2:=a) (next2:=(a:Int)+1) q1 (by rw[List.length_set];exact h.lr)) (nxa H) rfl H.htk (by omega) (H.rp.set (by omega) rfl) H.hl H.hg
 ·split at hd
  ·rename_i hc
   cases hd
   refine (loadm_any _ K.gf 2 1 1 texter none none 0 0 i (K.c ln a ((a:Int)+1) gv rs) w h.cal h.lr hop hc.1 (by omega) hc.2.1 (by omega) (reg_bui H hc.2.2)).mono ?_
   rintro e w1 ⟨rfl,q1,q2⟩
   exact GoP.of H (h.call ok q2 (ln2:=ln) (at2:=a) (next2:=(a:Int)+1) q1 (by rw[List.length_set];exact h.lr)) (nxa H) rfl H.htk (by omega) (H.rp.set (by omega) rfl) H.hl H.hg
  ·cases hd
theorem u31 (ok:UKok w0 K) (H:Here kind n t a tk xs.length ln rs gl i s s' k) (hop:i.op=31) (h:UX w0 K w tk xs ln (a:Int) ((a:Int)+1) rs gl rv gv) :
  Calls Tryz.prog 73 (args K i) w (GoP w0 K kind n t (mu kind n t tk a)):=by
 have hd:=H.hd
 unfold absD at hd
 rw[if_neg (by omega),if_neg (by omega),if_neg (by omega),if_neg (by omega),if_neg (by omega),if_neg (by omega),if_neg (by omega),if_neg (by omega),if_neg (by omega),if_pos hop]at hd
 split at hd
 ·rename_i hc
  obtain⟨hb4,h0a,hl0,hgn⟩:=hc
  cases hd
  have hln:ln=0:=H.hl hl0
  have hgl:gl=[]:=by have:=H.hg;rw[hgn]at this;exact this
  subst hgl
  refine (doTry_any _ w0.heap.size K.gf i (K.c ln a ((a:Int)+1) gv rs) [] w h.cal h.gu (by simp) h.bel.size).mono ?_
  rintro e w1 ⟨rfl,gv',gn,q1,q2,q3,q4,q5⟩
  have hgb:∀g∈[(gn,i.a)],w1.heap[g.1]?=some (CtO g.2 0):=by
   intro g hg
   simp only[List.mem_singleton]at hg
   subst hg
   rw[q4]
   show some (Obj.cells #[.int .i64 i.b,.int .i64 i.a,.int .i64 ln] 230)=_
   rw[hb4,hln]
  exact GoP.of H (h.guard ok (gl2:=[(gn,i.a)]) q5 q1 q2 (fun g hg=>.inr (hgb g hg))) (nxa H) rfl H.htk (by omega) H.rp H.hl ⟨gn,by show [(gn,i.a)]=[(gn,((i.a.toNat:Nat):Int))];rw[Int.toNat_of_nonneg h0a]⟩
 ·cases hd
end
end Go.Proofs.YtliahjnnbbgooaaGreatDoor.U
namespace Go.Proofs.YtliahjnnbbgooaaGreatDoor.U
open Go.RowKit M T
section
variable {w0:World} {K:UK} {kind n t a tk nr:Nat} {ln:Int} {rs:List M.SD} {gl:List (Nat × Int)} {i:ID} {s s':AS} {k:Nat} {w:World} {xs:List RcD} {rv gv:Value}
theorem mtick (K:UK) (tk:Nat) (rv:Value) {w':World} (h:MachAt w' K.gm { K.m tk rv with rticks:=(K.m tk rv).rticks+1 }):MachAt w' K.gm (K.m ((tk+1:Nat):Int) rv):=by
 have e1:((tk+1:Nat):Int)=(tk:Int)+1:=by omega
 rw[e1]
 exact h
abbrev Out (w0:World) (K:UK) (kind n t a tk:Nat) (fid:Nat) (i:ID) (w:World):Prop :=
 Calls Tryz.prog fid (args K i) w (GoP w0 K kind n t (mu kind n t tk a))∨Calls Tryz.prog fid (args K i) w (ThP w0 K kind n t (mu kind n t tk a))∨Calls Tryz.prog fid (args K i) w (OvP w0 K t)
theorem u3 (ok:UKok w0 K) (hT:K.m0.ticks=(t:Int)) (H:Here kind n t a tk xs.length ln rs gl i s s' k) (hop:i.op=3) (h:UX w0 K w tk xs ln (a:Int) ((a:Int)+1) rs gl rv gv) :
  Out w0 K kind n t a tk 53 i w:=by
 have hT2:=ok.tic.2
 have hd:=H.hd
 unfold absD at hd
 rw[if_neg (by omega),if_neg (by omega),if_neg (by omega),if_neg (by omega),if_pos hop]at hd
 cases hd
 by_cases hq:tk<t
 ·refine .inl ((doTick_go K.gm K.gf i (K.m tk rv) w h.mac (by show (tk:Int)<K.m0.ticks;omega) (by show (0:Int)≤(tk:Int);omega) (by show K.m0.ticks≤_;omega)).mono ?_)
  rintro e w1 ⟨rfl,q1,q2⟩
  exact GoP.of H (h.mach ok (tk2:=tk+1) q2 (mtick K tk rv q1)) (nxa H) rfl (by omega) (by omega) H.rp H.hl H.hg
 ·have e:tk=t:=by have:=H.htk;omega
  refine .inr (.inr ((doTick_over K.gm K.gf i (K.m tk rv) (some K.ov) w h.mac (h.ov ok) (by show (tk:Int)=K.m0.ticks;omega)).mono ?_))
  rintro e w1 ⟨rfl,q1⟩
  subst e
  exact⟨rfl,xs,ln,_,_,rs,gl,rv,gv,h.later ok q1⟩
theorem u1 (ok:UKok w0 K) (hT:K.m0.ticks=(t:Int)) (H:Here kind n t a tk xs.length ln rs gl i s s' k) (hop:i.op=1) (h:UX w0 K w tk xs ln (a:Int) ((a:Int)+1) rs gl rv gv) :
  Out w0 K kind n t a tk 51 i w:=by
 have hT2:=ok.tic.2
 have hd:=H.hd
 unfold absD at hd
 rw[if_neg (by omega),if_neg (by omega),if_neg (by omega),if_pos hop]at hd
 cases hd
 by_cases hq:tk<t
 ·refine .inl ((doLine_go K.gm K.gt K.gc K.gf i (K.m tk rv) (K.c ln a ((a:Int)+1) gv rs) _ _ (fun wk w'=>∃rv',MachAt w' K.gm (K.m ((tk+1:Nat):Int) rv')∧ORow w' w0.heap.size 67 5 rgC rv' (xs++[⟨1,i.a,⟨#[]⟩⟩])∧ButL (K.gm :: rv.ownBlock.toList) wk w') w h.mac ok.run (h.tka ok) h.tsk h.cro h.cal ok.pro (by show (tk:Int)<K.m0.ticks;omega) (by show (0:Int)≤(tk:Int);omega) (by show K.m0.ticks≤_;omega) (fun wk hb hm hc=>?_)).mono ?_)
  ·have hx:UX w0 K wk (tk+1) xs i.a (a:Int) ((a:Int)+1) rs gl rv gv:=h.both ok hb (mtick K tk rv hm) hc h.lr
   have hlen:=H.hb
   refine (recg_go w0.heap.size K.gm ⟨1,i.a,⟨#[]⟩⟩ (K.m ((tk+1:Nat):Int) rv) xs wk hx.mac ok.wat hx.rc (by omega) hx.bel.size).mono ?_
   rintro e w' ⟨rfl,rv',q1,q2,q3⟩
   exact⟨rfl,rv',q1,q2,q3⟩
  ·rintro e w1 ⟨rfl,wk,hb,hm,hc,rv',q1,q2,q3⟩
   have hx:UX w0 K wk (tk+1) xs i.a (a:Int) ((a:Int)+1) rs gl rv gv:=h.both ok hb (mtick K tk rv hm) hc h.lr
   exact GoP.of H (hx.recd ok q3 q1 q2) (nxa H) rfl (by omega) (by simp) H.rp (by intro h9;cases h9) H.hg
 ·have e:tk=t:=by have:=H.htk;omega
  refine .inr (.inr ((doLine_over (some K.ov) K.gm K.gf i (K.m tk rv) w h.mac (by show (tk:Int)=K.m0.ticks;omega) (h.ov ok)).mono ?_))
  rintro e w1 ⟨rfl,q1⟩
  subst e
  exact⟨rfl,xs,ln,_,_,rs,gl,rv,gv,h.later ok q1⟩
theorem u28 (ok:UKok w0 K) (hT:K.m0.ticks=(t:Int)) (H:Here kind n t a tk xs.length ln rs gl i s s' k) (hop:i.op=28) (h:UX w0 K w tk xs ln (a:Int) ((a:Int)+1) rs gl rv gv) :
  Out w0 K kind n t a tk 70 i w:=by
 have hT2:=ok.tic.2
 have hd:=H.hd
 unfold absD at hd
 rw[if_neg (by omega),if_neg (by omega),if_neg (by omega),if_neg (by omega),if_neg (by omega),if_neg (by omega),if_pos hop]at hd
 split at hd
 ·rename_i hc
  obtain⟨ha4,hb1,hc5,hr1,hr4⟩:=hc
  cases hd
  by_cases hq:tk<t
  ·refine .inl ((doCall_go K.gm K.gf i (K.m tk rv) (K.c ln a ((a:Int)+1) gv rs) w h.mac h.cal h.lr ha4 hb1 hc5 (reg_bui H hr1) (reg_l0 H hr4) (by show (tk:Int)<K.m0.ticks;omega) (by show (0:Int)≤(tk:Int);omega) (by show K.m0.ticks≤_;omega)).mono ?_)
   rintro e w1 ⟨rfl,g,q1,q2,q3⟩
   have hx:UX w0 K w1 (tk+1) xs ln (a:Int) ((a:Int)+1) ((rs.set 4 sd0).set 4 (sdL (.slice (some ⟨g,0,none⟩) 1 1))) gl rv gv:=h.both ok q3 (mtick K tk rv q1) q2 (by rw[List.length_set,List.length_set];exact h.lr)
   rw[List.set_set]at hx
   exact GoP.of H hx (nxa H) rfl (by omega) (by omega) (H.rp.set (by omega) ⟨g,rfl⟩) H.hl H.hg
  ·have e:tk=t:=by have:=H.htk;omega
   refine .inr (.inr ((doCall_over (some K.ov) K.gm K.gf i (K.m tk rv) (K.c ln a ((a:Int)+1) gv rs) w h.mac h.cal h.lr ha4 hb1 hc5 (reg_bui H hr1) (reg_l0 H hr4) (by show (tk:Int)=K.m0.ticks;omega) (h.ov ok) (ogf ok)).mono ?_))
   rintro e w1 ⟨rfl,q1,q2⟩
   subst e
   exact⟨rfl,xs,ln,(a:Int),(a:Int)+1,rs.set 4 sd0,gl,rv,gv,h.call ok q2 q1 (by rw[List.length_set];exact h.lr)⟩
 ·cases hd
end
end Go.Proofs.YtliahjnnbbgooaaGreatDoor.U
namespace Go.Proofs.YtliahjnnbbgooaaGreatDoor.U
open Go.RowKit M T
attribute [local go_sem] run_store_float
theorem dothrowg_any (gm gt gc gf bp op capP:Nat) (m:MachD) (c:CallD) (n:ID) (v:VD) (tx:ByteArray) (Q:World→World→Prop) (w:World) (h:ThR w gm gt gc gf bp op capP m c) (hr:c.regs.length=250) (ha:n.a=0) (hs:c.regs[0]?=some (sdV v))
  (HTo:∀W,Below w.heap.size w W→Calls Tryz.prog 35 #[.pointer (some ⟨gm,0,none⟩),.agg #[.int .i64 v.k,.int .i64 v.n,.float .f64 v.f,.string v.s,.int .i64 v.r]] W fun e w'=>e=.returned (.string tx)∧Below W.heap.size W w')
  (HQ:∀wk,Below w.heap.size w wk→Calls Tryz.prog 206 #[.pointer (some ⟨gm,0,none⟩),.agg #[.int .i64 4,.int .i64 0,.int .i64 0,.int .i64 0,.string tx]] wk fun e w'=>e=.returned .nilIface∧Q wk w') :
  Calls Tryz.prog 72 #[.pointer (some ⟨gm,0,none⟩),.pointer (some ⟨gf,0,none⟩),insV n] w fun e w'=>∃gr s wk,e=.returned (.iface 112 (.pointer (some ⟨gr,0,none⟩)))∧w.heap.size≤gr∧wk.heap[gr]?=some (ThG v s)∧Below w.heap.size w wk∧Q wk w':=by
 obtain⟨o,a,b,cc,d⟩:=n
 dsimp only[insV]at ha ⊢
 subst ha
 have HB:Hid _:=bw1 w (InO ⟨o,0,b,cc,d⟩)
 have HT:Hid (ThR (w.alloc (InO ⟨o,0,b,cc,d⟩)) gm gt gc gf bp op capP m c):=h.later HB.out
 have HQ':Hid (∀wk,Below w.heap.size w wk→Calls Tryz.prog 206 #[.pointer (some ⟨gm,0,none⟩),.agg #[.int .i64 4,.int .i64 0,.int .i64 0,.int .i64 0,.string tx]] wk fun e w'=>e=.returned .nilIface∧Q wk w'):=HQ
 have HTo':Hid (∀W,Below w.heap.size w W→Calls Tryz.prog 35 #[.pointer (some ⟨gm,0,none⟩),.agg #[.int .i64 v.k,.int .i64 v.n,.float .f64 v.f,.string v.s,.int .i64 v.r]] W fun e w'=>e=.returned (.string tx)∧Below W.heap.size W w'):=HTo
 clear h HQ HTo
 go_enter Tryz.func72,Tryz.ntmps72
 go_wp2_with fail
 refine (value_pos gf 0 1 v none none 0 0 c _ HT.out.cal hr (by omega) hs).mono ?_
 rintro e w1 ⟨rfl,hx⟩
 have HX:Hid (Below w.heap.size w w1):=HB.out.trans (hx.mono (by simp))
 have HT1:Hid (ThR w1 gm gt gc gf bp op capP m c):=HT.out.later hx
 clear hx
 go_wp2_with fail
 refine (throwg_any gm gt gc gf bp op capP m c v tx Q w1 HT1.out (fun W hW=>HTo'.out W (HX.out.trans (hW.mono HX.out.size))) (fun wk hk=>HQ'.out wk (HX.out.trans (hk.mono HX.out.size)))).mono ?_
 rintro e w2 ⟨gr,s,wk,rfl,h1,h2,h3,h4⟩
 have HE:Hid (w.heap.size≤gr∧wk.heap[gr]?=some (ThG v s)∧Below w.heap.size w wk∧Q wk w2):=⟨Nat.le_trans HX.out.size h1,h2,HX.out.trans (h3.mono HX.out.size),h4⟩
 clear h1 h2 h3 h4
 go_wp2_with fail
 go_ret
 exact⟨gr,s,wk,rfl,HE.out⟩
end Go.Proofs.YtliahjnnbbgooaaGreatDoor.U
