import Derived.Test.YtliahjnnbbgooaaGreatDoorP36
import Derived.ArgAppend
import Derived.Deep.CutRange
import Derived.Test.YtliahjnnbbgooaaGreatDoorP13
import Derived.Test.YtliahjnnbbgooaaGreatDoorP05
import Derived.Test.YtliahjnnbbgooaaGreatDoorP09
import Derived.BigRegion
import Derived.BigQuiet
import Derived.Deep.QuietTactic
set_option linter.unusedVariables false
set_option linter.unusedSimpArgs false
set_option maxRecDepth 20000
set_option maxHeartbeats 8000000
namespace Go.Proofs.YtliahjnnbbgooaaGreatDoor.J
open Go.RowKit M T U
attribute [local go_sem] run_store_float
def LsAt (w:World) (g:Nat) (xs:List VD):Prop:=∃arr:Array Value,w.heap[g]?=some (.cells arr 49)∧∀(j:Nat) u,(xs.flatMap VD.cells)[j]?=some u→arr[j]?=some u
theorem LsAt.but {S:List Nat} {w w':World} {g:Nat} {xs:List VD} (h:LsAt w g xs) (hb:ButL S w w') (hS:g∉S):LsAt w' g xs:=by
 obtain⟨arr,h1,h2⟩:=h
 exact⟨arr,hb.blk h1 hS,h2⟩
theorem LsAt.later {w w':World} {g:Nat} {xs:List VD} (h:LsAt w g xs) (hb:Below w.heap.size w w'):LsAt w' g xs:=by
 obtain⟨arr,h1,h2⟩:=h
 exact⟨arr,blk_later hb h1,h2⟩
theorem LsAt.drew {w:World} {g:Nat} {xs:List VD} (h:LsAt w g xs):LsAt w.drew g xs:=h
theorem LsAt.lt {w:World} {g:Nat} {xs:List VD} (h:LsAt w g xs):g<w.heap.size:=by
 obtain⟨arr,h1,h2⟩:=h
 exact blk_lt h1
theorem LsAt.ne {w:World} {g q:Nat} {xs:List VD} {a:Array Value} {t:TypeId} (h:LsAt w g xs) (hq:w.heap[q]?=some (.cells a t)) (ht:t≠49):g≠q:=by
 obtain⟨arr,h1,h2⟩:=h
 exact ne_ty h1 hq (fun e=>ht e.symm)
theorem LsAt.cell {w:World} {g:Nat} {xs:List VD} (h:LsAt w g xs) {j:Nat} {u:Value} (hj:(xs.flatMap VD.cells)[j]?=some u):w.cell? ⟨g,j,none⟩=some u:=by
 obtain⟨arr,h1,h2⟩:=h
 rw[blk_cell h1];exact h2 j u hj
theorem ls_of_owns {w:World} {B:Nat} {v:Value} {n:Nat} {xs:List VD} (h:w.ownsRow B 49 5 v n (xs.flatMap VD.cells)) (h0:0<n):∃g cap,v=.slice (some ⟨g,0,none⟩) n cap∧B≤g∧LsAt w g xs∧n≤cap:=by
 rcases h.2 with ⟨_,h9⟩ | ⟨g,cap,cur,e1,e2,e3,e4,e5,e6,e7⟩
 ·omega
 ·refine⟨g,cap,e1,e2,⟨cur,e3,fun j u hu=>?_⟩,e4⟩
  have hj:=(List.getElem?_eq_some_iff.1 hu).1
  rw[←e7,List.getElem?_take]at hu
  rw[h.1]at hj
  rw[if_pos (by omega)]at hu
  rw[←Array.getElem?_toList]
  exact hu
theorem grown_below {w w':World} (h:w.grownBy w' none):Below w.heap.size w w':=⟨h.os,h.tape,h.output,h.size,fun j hj=>h.block j hj (by simp)⟩
theorem flat_len:∀xs:List VD,(xs.flatMap VD.cells).length=xs.length*5
 | []=>rfl
 | x :: xs=>by
  rw[List.flatMap_cons,List.length_append,flat_len xs,List.length_cons,Nat.add_mul]
  show 5+_=_
  omega
theorem val_info:∃(i:TypeInfo) (z:Value),Tryz.prog.info? 49=some i∧i.zero=some z∧i.size=5∧i.bytes=48∧z.cells.size=5:=by
 have hc:(Tryz.prog.info? 49).map (fun i=>(i.zero.map (fun z=>z.cells.size),i.size,i.bytes))=some (some 5,5,48):=by kernel_rfl
 cases hi:Tryz.prog.info? 49 with
 | none=>rw[hi]at hc;cases hc
 | some i =>
  rw[hi]at hc
  simp only[Option.map_some,Option.some.injEq,Prod.mk.injEq]at hc
  obtain⟨h1,h2,h3⟩:=hc
  cases hz:i.zero with
  | none=>rw[hz]at h1;cases h1
  | some z=>rw[hz]at h1;simp at h1;exact⟨i,z,rfl,hz,h2,h3,h1⟩
theorem vd_one (xs:List VD):∀u∈xs.flatMap VD.cells,u.oneCell'=true:=by
 intro u hu
 obtain⟨y,_,hu⟩:=List.mem_flatMap.1 hu
 simp only[VD.cells,List.mem_cons,List.not_mem_nil,or_false]at hu
 rcases hu with rfl | rfl | rfl | rfl | rfl<;>rfl
theorem app_nil (w:World) (nb:Nat) (v:VD) (h:w.heap[nb]?=some (vO v)) (ty:TypeId):∃g cap w',(Builtin.append_ #[57,57] ty #[.slice none 0 0,.slice (some ⟨nb,0,none⟩) 1 1]).run Tryz.prog w=.ok (.slice (some ⟨g,0,none⟩) 1 cap) w'∧LsAt w' g [v]∧w.heap.size≤g∧1≤cap∧Below w.heap.size w w':=by
 obtain⟨i,z,hi,hz,e1,e2,e3⟩:=val_info
 obtain⟨v',w',hr,ho,hg,_⟩:=run_append_own (P:=Tryz.prog) w w.heap.size 57 ty 49 i z 5 48 Tryz.underlying57 hi hz e1 e2 e3 (by omega) (.slice none 0 0) 0 [] (owns_nil _ _ _ _) ⟨nb,0,none⟩ 1 1 ([v].flatMap VD.cells) (by rw[flat_len];rfl) (fun j u hu=>by
  show w.cell? (Addr.add ⟨nb,0,none⟩ j)=some u
  rw[Addr.add_lit,Nat.zero_add,blk_cell h]
  have e:[v].flatMap VD.cells=v.cells:=by simp
  rw[e]at hu
  rw[←Array.getElem?_toList]
  exact hu) (vd_one _) (by unfold maxLen;omega) (by omega) (Nat.le_refl _)
 obtain⟨g,cap,rfl,hge,hL,hcp⟩:=ls_of_owns (xs:=[v]) ho (by omega)
 exact⟨g,cap,w',hr,hL,hge,by omega,grown_below hg⟩
theorem app_two (w:World) (g n:Nat) (xs:List VD) (hL:LsAt w g xs) (hn:xs.length=n) (h0:0<n) (h1:n≤1000) (ty:TypeId):∃g' cap w',(Builtin.append_ #[57,57] ty #[.slice (some ⟨g,0,none⟩) n n,.slice (some ⟨g,0,none⟩) n n]).run Tryz.prog w=.ok (.slice (some ⟨g',0,none⟩) (n+n) cap) w'∧LsAt w' g' (xs++xs)∧w.heap.size≤g'∧n+n≤cap∧Below w.heap.size w w':=by
 obtain⟨i,z,hi,hz,e1,e2,e3⟩:=val_info
 have hc:∀j u,(xs.flatMap VD.cells)[j]?=some u→w.cell? (Addr.add ⟨g,0,none⟩ j)=some u:=fun j u hu=>by
  rw[Addr.add_lit,Nat.zero_add];exact hL.cell hu
 obtain⟨v',w',hr,ho,hg⟩:=run_append_arg_grows (P:=Tryz.prog) (w:=w) 57 ty 49 i z 5 48 Tryz.underlying57 hi hz e1 e2 e3 (by omega) ⟨g,0,none⟩ n n (xs.flatMap VD.cells) (by rw[flat_len,hn]) hc ⟨g,0,none⟩ n n (xs.flatMap VD.cells) (by rw[flat_len,hn]) hc (by omega) (by unfold maxLen;omega) (by omega)
 rw[←List.flatMap_append]at ho
 obtain⟨g',cap,rfl,hge,hL',hcp⟩:=ls_of_owns (xs:=xs++xs) ho (by omega)
 exact⟨g',cap,w',hr,hL',hge,hcp,grown_below hg⟩
theorem wp_append_run {P:Program} {o:Oper} {a:Act} {w:World} {K:Act→World→Prop} {Q:Exit→Act→World→Prop} (s x:Operand) (t:TypeId) (ho:o.op=.call { callee:=.builtin .append,args:=#[s,x],argTypes:=#[t,t] }) (sv xv v':Value) (w':World) (hs:a.eval s=sv) (hx:a.eval x=xv) (hrun:(Builtin.append_ #[t,t] o.type #[sv,xv]).run P w=.ok v' w') (hK:K (a.put o.dst v') w'):Oper.wp P o a w K Q:=by
 unfold Oper.wp
 simp[execOp,ho,resolve,invoke,builtin,hs,hx,hrun,Result.andThen]
 exact hK
structure RAd1 (W0 w3 w:World) (gf I g n cap:Nat) (ra:Option Addr) (rl rc:Nat) (ys:List VD) (c4:CallD) (w':World) (b0 b1 b2 b3 b4 b5 b6:Bool) (x0 x1 x2 x3 x4 x5 x6:Value):Prop where
 P0:b5=false→w'=W0
 P1:b5=true→b6=false→w'=w3
 P2:b6=true→CallAt w' gf c4∧LsAt w' g ys∧ButL [gf] w w'
 c6:b6=true→b2=true∧b5=true
 f0:b0=true→x0=.pointer (some ⟨gf,0,none⟩)
 f1:b1=true→x1=.pointer (some ⟨I,1,none⟩)
 f2:b2=true→x2=.int .i64 4
 f3:b3=true→x3=.slice none 0 0
 f4:b4=true→x4=.slice ra 1 1
 f5:b5=true→x5=.slice (some ⟨g,0,none⟩) 1 cap
 f6:b6=true→x6=.tuple #[]
theorem doAdd_neg (pm:Value) (gf:Nat) (n:ID) (v:VD) (c:CallD) (w:World) (hc:CallAt w gf c) (hr:c.regs.length=250) (hop:n.op=23) (ha:n.a=4) (hb:n.b=-4) (h3:c.regs[3]?=some (sdV v)) (h4:c.regs[4]?=some (sdL (.slice none 0 0))) :
  Calls Tryz.prog 68 #[pm,.pointer (some ⟨gf,0,none⟩),insV n] w fun e w'=>e=.returned .nilIface∧∃g cap,CallAt w' gf { c with regs:=(c.regs.set 3 sd0).set 4 (sdL (.slice (some ⟨g,0,none⟩) 1 cap)) }∧LsAt w' g [v]∧w.heap.size≤g∧1≤cap∧ButL [gf] w w':=by
 obtain⟨op,a,b,cc,d⟩:=n
 dsimp only[insV]at hop ha hb ⊢
 subst hop ha hb
 obtain⟨W,hW⟩:∃W,w.alloc (InO ⟨23,4,-4,cc,d⟩)=W:=⟨_,rfl⟩
 have hbw:Below w.heap.size w W:=by rw[←hW];exact bw1 _ _
 have bn:W.heap[w.heap.size]?=some (InO ⟨23,4,-4,cc,d⟩):=by rw[←hW];exact blk_new _ _
 have hgl:=blk_lt hc
 have HC:Hid (CallAt W gf c):=hc.later hbw
 have HB:Hid (Below w.heap.size w W):=hbw
 have HI:Hid (W.heap[w.heap.size]?=some (InO ⟨23,4,-4,cc,d⟩)):=bn
 have d0:W.cell? ⟨w.heap.size,0,none⟩=some (.int .i64 23):=by rw[blk_cell bn];rfl
 have d2:W.cell? ⟨w.heap.size,2,none⟩=some (.int .i64 (-4)):=by rw[blk_cell bn];rfl
 clear hc hbw bn
 go_enter Tryz.func68,Tryz.ntmps68
 go_wp2_with fail
 clear hW
 refine (value_neg gf 3 (-4) 1 v none none 0 0 c _ HC.out hr (by omega) (by omega) (by omega) h3).mono ?_
 rintro e w1 ⟨rfl,hc1,hb1⟩
 obtain⟨W2,hW2⟩:∃W2,w1.alloc (vO v)=W2:=⟨_,rfl⟩
 have hbW2:Below w1.heap.size w1 W2:=by rw[←hW2];exact bw1 _ _
 have bn2:=blk_later hbW2 (hb1.blk HI.out (by simp;omega))
 have hc2:CallAt W2 gf { c with regs:=c.regs.set 3 sd0 }:=hc1.later hbW2
 have HB2:Hid (ButL [gf] w W2):=((ButL.of_below HB.out).trans hb1).thenB hbW2
 have HC2:Hid (CallAt W2 gf { c with regs:=c.regs.set 3 sd0 }):=hc2
 have HV2:Hid (W2.heap[w1.heap.size]?=some (vO v)):=by show _=_;rw[←hW2];exact blk_new _ _
 have k1:W2.cell? ⟨w.heap.size,1,none⟩=some (.int .i64 4):=by rw[blk_cell bn2];rfl
 have h4':(c.regs.set 3 sd0)[4]?=some (sdL (.slice none 0 0)):=by rw[List.getElem?_set_ne (by omega)];exact h4
 have a7:W2.cell? ⟨gf,53,none⟩=some (.slice none 0 0):=hc2.reg h4' (j:=7) rfl
 have HSZ:Hid (w.heap.size<W2.heap.size):=blk_lt bn2
 clear hc1 hb1 hc2 hbW2 bn2 d0 d2
 go_wp2_with fail
 clear hW2
 go_region
 go_wp2_with fail
 obtain⟨g,cap,w3,hr3,hL3,hge3,hcp,hb3⟩:=app_nil W2.drew.drew w1.heap.size v HV2.out 57
 replace hb3:=und1' (und1' hb3)
 have HR3:Hid _:=hr3
 have k3:w3.cell? ⟨w.heap.size,1,none⟩=some (.int .i64 4):=cell_later hb3 k1
 have HC3:Hid (CallAt w3 gf { c with regs:=c.regs.set 3 sd0 }):=CallAt.later HC2.out hb3
 have HL3:Hid (LsAt w3 g [v]∧W2.heap.size≤g):=⟨hL3,hge3⟩
 have HB3:Hid (ButL [gf] w w3):=HB2.out.thenB hb3
 clear hr3 hL3 hge3 hb3
 refine wp_region_inv (by kernel_rfl) (fun base listed a' w'=>∃b0 b1 b2 b3 b4 b5 b6 x0 x1 x2 x3 x4 x5 x6,listed=#[b0,b1,b2,b3,b4,b5,b6]∧a'=(((((((base.put (some 37) x0).put (some 38) x1).put (some 39) x2).put (some 40) x3).put (some 41) x4).put (some 42) x5).put (some 43) x6)∧RAd1 W2.drew.drew w3 w gf w.heap.size g 1 cap (some ⟨w1.heap.size,0,none⟩) 1 1 [v] { c with regs:=(c.regs.set 3 sd0).set 4 (sdL (.slice (some ⟨g,0,none⟩) 1 cap)) } w' b0 b1 b2 b3 b4 b5 b6 x0 x1 x2 x3 x4 x5 x6) ?_ ?_ ?_
 ·exact⟨false,false,false,false,false,false,false,undef,undef,undef,undef,undef,undef,undef,rfl,by kernel_rfl,⟨fun _=>rfl,nofun,nofun,nofun,nofun,nofun,nofun,nofun,nofun,nofun,nofun⟩⟩
 ·rintro i listed a' w' ⟨b0,b1,b2,b3,b4,b5,b6,x0,x1,x2,x3,x4,x5,x6,rfl,rfl,hI⟩ hr
  have hi:=ready_lt hr
  have hun:=(mem_ready.1 hr).1
  simp only[List.size_toArray,List.length_cons,List.length_nil,Nat.zero_add,Nat.reduceAdd]at hi
  have hi':i=0∨i=1∨i=2∨i=3∨i=4∨i=5∨i=6:=by omega
  clear hi
  rcases hi' with rfl | rfl | rfl | rfl | rfl | rfl | rfl
  ·have hbi:b0=false:=by simpa using hun
   subst hbi 
   clear hr hun
   refine wpOp_step rfl (fun K hK=>?_)
   go_simp
   exact hK _ _ ⟨true,b1,b2,b3,b4,b5,b6,(.pointer (some ⟨gf,0,none⟩)),x1,x2,x3,x4,x5,x6,rfl,by kernel_rfl,{ hI with f0:=fun _=>rfl }⟩
  ·have hbi:b1=false:=by simpa using hun
   subst hbi 
   clear hr hun
   refine wpOp_step rfl (fun K hK=>?_)
   go_simp
   exact hK _ _ ⟨b0,true,b2,b3,b4,b5,b6,x0,(.pointer (some ⟨w.heap.size,1,none⟩)),x2,x3,x4,x5,x6,rfl,by kernel_rfl,{ hI with f1:=fun _=>rfl }⟩
  ·have hbi:b2=false:=by simpa using hun
   have e1:b1=true:=by simpa using ready_dep hr rfl ⟨1,.data⟩ (by simp) rfl
   have n6:b6=false:=by
    cases hg:b6 with
    | false=>rfl
    | true=>have h9:=(hI.c6 hg).1;rw[hbi]at h9;cases h9
   subst hbi e1 n6
   clear hr hun
   obtain rfl:=hI.f1 rfl
   have hcell:w'.cell? ⟨w.heap.size,1,none⟩=some (.int .i64 4):=by
    cases h5:b5 with
    | false=>rw[hI.P0 h5];exact k1
    | true=>rw[hI.P1 h5 rfl];exact k3
   refine wpOp_step rfl (fun K hK=>?_)
   go_simp
   exact hK _ _ ⟨b0,true,true,b3,b4,b5,false,x0,(.pointer (some ⟨w.heap.size,1,none⟩)),(.int .i64 4),x3,x4,x5,x6,rfl,by kernel_rfl,{ hI with P2:=nofun,c6:=nofun,f2:=fun _=>rfl,f6:=nofun }⟩
  ·have hbi:b3=false:=by simpa using hun
   subst hbi 
   clear hr hun
   refine wpOp_step rfl (fun K hK=>?_)
   go_simp
   exact hK _ _ ⟨b0,b1,b2,true,b4,b5,b6,x0,x1,x2,(.slice none 0 0),x4,x5,x6,rfl,by kernel_rfl,{ hI with f3:=fun _=>rfl }⟩
  ·have hbi:b4=false:=by simpa using hun
   subst hbi 
   clear hr hun
   refine wpOp_step rfl (fun K hK=>?_)
   go_simp
   exact hK _ _ ⟨b0,b1,b2,b3,true,b5,b6,x0,x1,x2,x3,(.slice (some ⟨w1.heap.size,0,none⟩) 1 1),x5,x6,rfl,by kernel_rfl,{ hI with f4:=fun _=>rfl }⟩
  ·have hbi:b5=false:=by simpa using hun
   have e3:b3=true:=by simpa using ready_dep hr rfl ⟨3,.data⟩ (by simp) rfl
   have e4:b4=true:=by simpa using ready_dep hr rfl ⟨4,.data⟩ (by simp) rfl
   have n6:b6=false:=by
    cases hg:b6 with
    | false=>rfl
    | true=>have h9:=(hI.c6 hg).2;rw[hbi]at h9;cases h9
   subst hbi e3 e4 n6
   clear hr hun
   obtain rfl:=hI.f3 rfl
   obtain rfl:=hI.f4 rfl
   have hw:=hI.P0 rfl
   subst hw
   refine wpOp_step rfl (fun K hK=>?_)
   refine wp_append_run (.tmp 40) (.tmp 41) 57 rfl (.slice none 0 0) (.slice (some ⟨w1.heap.size,0,none⟩) 1 1) (.slice (some ⟨g,0,none⟩) 1 cap) w3 (by kernel_rfl) (by kernel_rfl) HR3.out ?_
   exact hK _ _ ⟨b0,b1,b2,true,true,true,false,x0,x1,x2,(.slice none 0 0),(.slice (some ⟨w1.heap.size,0,none⟩) 1 1),(.slice (some ⟨g,0,none⟩) 1 cap),x6,rfl,by kernel_rfl,{ hI with P0:=nofun,P1:=fun _ _=>rfl,P2:=nofun,c6:=nofun,f5:=fun _=>rfl,f6:=nofun }⟩
  ·have hbi:b6=false:=by simpa using hun
   have e0:b0=true:=by simpa using ready_dep hr rfl ⟨0,.data⟩ (by simp) rfl
   have e2:b2=true:=by simpa using ready_dep hr rfl ⟨2,.data⟩ (by simp) rfl
   have e5:b5=true:=by simpa using ready_dep hr rfl ⟨5,.data⟩ (by simp) rfl
   subst hbi e0 e2 e5
   clear hr hun
   obtain rfl:=hI.f0 rfl
   obtain rfl:=hI.f2 rfl
   obtain rfl:=hI.f5 rfl
   have hw:=hI.P1 rfl rfl
   subst hw
   refine wpOp_step rfl (fun K hK=>?_)
   go_simp
   refine (putList_any gf 4 1 cap (some ⟨g,0,none⟩) { c with regs:=c.regs.set 3 sd0 } _ HC3.out (by show (c.regs.set 3 sd0).length=250;rw[List.length_set];exact hr) (by omega)).mono ?_
   rintro e w4 ⟨rfl,hc4,hb4⟩
   have HC4:Hid (CallAt w4 gf { c with regs:=(c.regs.set 3 sd0).set 4 (sdL (.slice (some ⟨g,0,none⟩) 1 cap)) }):=hc4
   have HL4:Hid (LsAt w4 g [v]):=HL3.out.1.but hb4 (by simp;exact HL3.out.1.ne HC3.out (by decide))
   have HB4:Hid (ButL [gf] w w4):=HB3.out.trans hb4
   clear hc4 hb4
   exact hK _ _ ⟨true,b1,true,b3,b4,true,true,(.pointer (some ⟨gf,0,none⟩)),x1,(.int .i64 4),x3,x4,(.slice (some ⟨g,0,none⟩) 1 cap),(.tuple #[]),rfl,by kernel_rfl,{ hI with P0:=nofun,P1:=(fun _ h=>by cases h),P2:=fun _=>⟨HC4.out,HL4.out,HB4.out⟩,c6:=fun _=>⟨rfl,rfl⟩,f6:=fun _=>rfl }⟩
 ·rintro listed a' w' ⟨b0,b1,b2,b3,b4,b5,b6,x0,x1,x2,x3,x4,x5,x6,rfl,rfl,hI⟩ hrd
  have e0:b0=true:=by simpa using ready_nextb hrd 0 rfl (by simp[Region.binds])
  have e1:b1=true:=by simpa using ready_nextb hrd 1 rfl (by simp[Region.binds,e0])
  have e2:b2=true:=by simpa using ready_nextb hrd 2 rfl (by simp[Region.binds,e0,e1])
  have e3:b3=true:=by simpa using ready_nextb hrd 3 rfl (by simp[Region.binds,e0,e1,e2])
  have e4:b4=true:=by simpa using ready_nextb hrd 4 rfl (by simp[Region.binds,e0,e1,e2,e3])
  have e5:b5=true:=by simpa using ready_nextb hrd 5 rfl (by simp[Region.binds,e0,e1,e2,e3,e4])
  have e6:b6=true:=by simpa using ready_nextb hrd 6 rfl (by simp[Region.binds,e0,e1,e2,e3,e4,e5])
  subst e0 e1 e2 e3 e4 e5 e6
  clear hrd
  obtain⟨p1,p2,p3⟩:=hI.P2 rfl
  have HE:Hid (CallAt w' gf { c with regs:=(c.regs.set 3 sd0).set 4 (sdL (.slice (some ⟨g,0,none⟩) 1 cap)) }∧LsAt w' g [v]∧ButL [gf] w w'):=⟨p1,p2,p3⟩
  clear hI p1 p2 p3
  go_wp2_with fail
  go_ret
  exact⟨rfl,g,cap,HE.out.1,HE.out.2.1,by have:=HL3.out.2;have:=HSZ.out;omega,hcp,HE.out.2.2⟩
theorem doAdd_pos (pm:Value) (gf:Nat) (n:ID) (v:VD) (c:CallD) (w:World) (hc:CallAt w gf c) (hr:c.regs.length=250) (hop:n.op=23) (ha:n.a=4) (hb:n.b=0) (h3:c.regs[0]?=some (sdV v)) (h4:c.regs[4]?=some (sdL (.slice none 0 0))) :
  Calls Tryz.prog 68 #[pm,.pointer (some ⟨gf,0,none⟩),insV n] w fun e w'=>e=.returned .nilIface∧∃g cap,CallAt w' gf { c with regs:=c.regs.set 4 (sdL (.slice (some ⟨g,0,none⟩) 1 cap)) }∧LsAt w' g [v]∧w.heap.size≤g∧1≤cap∧ButL [gf] w w':=by
 obtain⟨op,a,b,cc,d⟩:=n
 dsimp only[insV]at hop ha hb ⊢
 subst hop ha hb
 obtain⟨W,hW⟩:∃W,w.alloc (InO ⟨23,4,0,cc,d⟩)=W:=⟨_,rfl⟩
 have hbw:Below w.heap.size w W:=by rw[←hW];exact bw1 _ _
 have bn:W.heap[w.heap.size]?=some (InO ⟨23,4,0,cc,d⟩):=by rw[←hW];exact blk_new _ _
 have hgl:=blk_lt hc
 have HC:Hid (CallAt W gf c):=hc.later hbw
 have HB:Hid (Below w.heap.size w W):=hbw
 have HI:Hid (W.heap[w.heap.size]?=some (InO ⟨23,4,0,cc,d⟩)):=bn
 have d0:W.cell? ⟨w.heap.size,0,none⟩=some (.int .i64 23):=by rw[blk_cell bn];rfl
 have d2:W.cell? ⟨w.heap.size,2,none⟩=some (.int .i64 0):=by rw[blk_cell bn];rfl
 clear hc hbw bn
 go_enter Tryz.func68,Tryz.ntmps68
 go_wp2_with fail
 clear hW
 refine (value_pos gf 0 1 v none none 0 0 c _ HC.out hr (by omega) h3).mono ?_
 rintro e w1 ⟨rfl,hx1⟩
 have hc1:CallAt w1 gf c:=HC.out.later hx1
 have hb1:ButL [gf] W w1:=ButL.of_below hx1
 clear hx1
 obtain⟨W2,hW2⟩:∃W2,w1.alloc (vO v)=W2:=⟨_,rfl⟩
 have hbW2:Below w1.heap.size w1 W2:=by rw[←hW2];exact bw1 _ _
 have bn2:=blk_later hbW2 (hb1.blk HI.out (by simp;omega))
 have hc2:CallAt W2 gf c:=hc1.later hbW2
 have HB2:Hid (ButL [gf] w W2):=((ButL.of_below HB.out).trans hb1).thenB hbW2
 have HC2:Hid (CallAt W2 gf c):=hc2
 have HV2:Hid (W2.heap[w1.heap.size]?=some (vO v)):=by show _=_;rw[←hW2];exact blk_new _ _
 have k1:W2.cell? ⟨w.heap.size,1,none⟩=some (.int .i64 4):=by rw[blk_cell bn2];rfl
 have h4':=h4
 have a7:W2.cell? ⟨gf,53,none⟩=some (.slice none 0 0):=hc2.reg h4' (j:=7) rfl
 have HSZ:Hid (w.heap.size<W2.heap.size):=blk_lt bn2
 clear hc1 hb1 hc2 hbW2 bn2 d0 d2
 go_wp2_with fail
 clear hW2
 go_region
 go_wp2_with fail
 obtain⟨g,cap,w3,hr3,hL3,hge3,hcp,hb3⟩:=app_nil W2.drew.drew w1.heap.size v HV2.out 57
 replace hb3:=und1' (und1' hb3)
 have HR3:Hid _:=hr3
 have k3:w3.cell? ⟨w.heap.size,1,none⟩=some (.int .i64 4):=cell_later hb3 k1
 have HC3:Hid (CallAt w3 gf c):=CallAt.later HC2.out hb3
 have HL3:Hid (LsAt w3 g [v]∧W2.heap.size≤g):=⟨hL3,hge3⟩
 have HB3:Hid (ButL [gf] w w3):=HB2.out.thenB hb3
 clear hr3 hL3 hge3 hb3
 refine wp_region_inv (by kernel_rfl) (fun base listed a' w'=>∃b0 b1 b2 b3 b4 b5 b6 x0 x1 x2 x3 x4 x5 x6,listed=#[b0,b1,b2,b3,b4,b5,b6]∧a'=(((((((base.put (some 37) x0).put (some 38) x1).put (some 39) x2).put (some 40) x3).put (some 41) x4).put (some 42) x5).put (some 43) x6)∧RAd1 W2.drew.drew w3 w gf w.heap.size g 1 cap (some ⟨w1.heap.size,0,none⟩) 1 1 [v] { c with regs:=c.regs.set 4 (sdL (.slice (some ⟨g,0,none⟩) 1 cap)) } w' b0 b1 b2 b3 b4 b5 b6 x0 x1 x2 x3 x4 x5 x6) ?_ ?_ ?_
 ·exact⟨false,false,false,false,false,false,false,undef,undef,undef,undef,undef,undef,undef,rfl,by kernel_rfl,⟨fun _=>rfl,nofun,nofun,nofun,nofun,nofun,nofun,nofun,nofun,nofun,nofun⟩⟩
 ·rintro i listed a' w' ⟨b0,b1,b2,b3,b4,b5,b6,x0,x1,x2,x3,x4,x5,x6,rfl,rfl,hI⟩ hr
  have hi:=ready_lt hr
  have hun:=(mem_ready.1 hr).1
  simp only[List.size_toArray,List.length_cons,List.length_nil,Nat.zero_add,Nat.reduceAdd]at hi
  have hi':i=0∨i=1∨i=2∨i=3∨i=4∨i=5∨i=6:=by omega
  clear hi
  rcases hi' with rfl | rfl | rfl | rfl | rfl | rfl | rfl
  ·have hbi:b0=false:=by simpa using hun
   subst hbi 
   clear hr hun
   refine wpOp_step rfl (fun K hK=>?_)
   go_simp
   exact hK _ _ ⟨true,b1,b2,b3,b4,b5,b6,(.pointer (some ⟨gf,0,none⟩)),x1,x2,x3,x4,x5,x6,rfl,by kernel_rfl,{ hI with f0:=fun _=>rfl }⟩
  ·have hbi:b1=false:=by simpa using hun
   subst hbi 
   clear hr hun
   refine wpOp_step rfl (fun K hK=>?_)
   go_simp
   exact hK _ _ ⟨b0,true,b2,b3,b4,b5,b6,x0,(.pointer (some ⟨w.heap.size,1,none⟩)),x2,x3,x4,x5,x6,rfl,by kernel_rfl,{ hI with f1:=fun _=>rfl }⟩
  ·have hbi:b2=false:=by simpa using hun
   have e1:b1=true:=by simpa using ready_dep hr rfl ⟨1,.data⟩ (by simp) rfl
   have n6:b6=false:=by
    cases hg:b6 with
    | false=>rfl
    | true=>have h9:=(hI.c6 hg).1;rw[hbi]at h9;cases h9
   subst hbi e1 n6
   clear hr hun
   obtain rfl:=hI.f1 rfl
   have hcell:w'.cell? ⟨w.heap.size,1,none⟩=some (.int .i64 4):=by
    cases h5:b5 with
    | false=>rw[hI.P0 h5];exact k1
    | true=>rw[hI.P1 h5 rfl];exact k3
   refine wpOp_step rfl (fun K hK=>?_)
   go_simp
   exact hK _ _ ⟨b0,true,true,b3,b4,b5,false,x0,(.pointer (some ⟨w.heap.size,1,none⟩)),(.int .i64 4),x3,x4,x5,x6,rfl,by kernel_rfl,{ hI with P2:=nofun,c6:=nofun,f2:=fun _=>rfl,f6:=nofun }⟩
  ·have hbi:b3=false:=by simpa using hun
   subst hbi 
   clear hr hun
   refine wpOp_step rfl (fun K hK=>?_)
   go_simp
   exact hK _ _ ⟨b0,b1,b2,true,b4,b5,b6,x0,x1,x2,(.slice none 0 0),x4,x5,x6,rfl,by kernel_rfl,{ hI with f3:=fun _=>rfl }⟩
  ·have hbi:b4=false:=by simpa using hun
   subst hbi 
   clear hr hun
   refine wpOp_step rfl (fun K hK=>?_)
   go_simp
   exact hK _ _ ⟨b0,b1,b2,b3,true,b5,b6,x0,x1,x2,x3,(.slice (some ⟨w1.heap.size,0,none⟩) 1 1),x5,x6,rfl,by kernel_rfl,{ hI with f4:=fun _=>rfl }⟩
  ·have hbi:b5=false:=by simpa using hun
   have e3:b3=true:=by simpa using ready_dep hr rfl ⟨3,.data⟩ (by simp) rfl
   have e4:b4=true:=by simpa using ready_dep hr rfl ⟨4,.data⟩ (by simp) rfl
   have n6:b6=false:=by
    cases hg:b6 with
    | false=>rfl
    | true=>have h9:=(hI.c6 hg).2;rw[hbi]at h9;cases h9
   subst hbi e3 e4 n6
   clear hr hun
   obtain rfl:=hI.f3 rfl
   obtain rfl:=hI.f4 rfl
   have hw:=hI.P0 rfl
   subst hw
   refine wpOp_step rfl (fun K hK=>?_)
   refine wp_append_run (.tmp 40) (.tmp 41) 57 rfl (.slice none 0 0) (.slice (some ⟨w1.heap.size,0,none⟩) 1 1) (.slice (some ⟨g,0,none⟩) 1 cap) w3 (by kernel_rfl) (by kernel_rfl) HR3.out ?_
   exact hK _ _ ⟨b0,b1,b2,true,true,true,false,x0,x1,x2,(.slice none 0 0),(.slice (some ⟨w1.heap.size,0,none⟩) 1 1),(.slice (some ⟨g,0,none⟩) 1 cap),x6,rfl,by kernel_rfl,{ hI with P0:=nofun,P1:=fun _ _=>rfl,P2:=nofun,c6:=nofun,f5:=fun _=>rfl,f6:=nofun }⟩
  ·have hbi:b6=false:=by simpa using hun
   have e0:b0=true:=by simpa using ready_dep hr rfl ⟨0,.data⟩ (by simp) rfl
   have e2:b2=true:=by simpa using ready_dep hr rfl ⟨2,.data⟩ (by simp) rfl
   have e5:b5=true:=by simpa using ready_dep hr rfl ⟨5,.data⟩ (by simp) rfl
   subst hbi e0 e2 e5
   clear hr hun
   obtain rfl:=hI.f0 rfl
   obtain rfl:=hI.f2 rfl
   obtain rfl:=hI.f5 rfl
   have hw:=hI.P1 rfl rfl
   subst hw
   refine wpOp_step rfl (fun K hK=>?_)
   go_simp
   refine (putList_any gf 4 1 cap (some ⟨g,0,none⟩) c _ HC3.out hr (by omega)).mono ?_
   rintro e w4 ⟨rfl,hc4,hb4⟩
   have HC4:Hid (CallAt w4 gf { c with regs:=c.regs.set 4 (sdL (.slice (some ⟨g,0,none⟩) 1 cap)) }):=hc4
   have HL4:Hid (LsAt w4 g [v]):=HL3.out.1.but hb4 (by simp;exact HL3.out.1.ne HC3.out (by decide))
   have HB4:Hid (ButL [gf] w w4):=HB3.out.trans hb4
   clear hc4 hb4
   exact hK _ _ ⟨true,b1,true,b3,b4,true,true,(.pointer (some ⟨gf,0,none⟩)),x1,(.int .i64 4),x3,x4,(.slice (some ⟨g,0,none⟩) 1 cap),(.tuple #[]),rfl,by kernel_rfl,{ hI with P0:=nofun,P1:=(fun _ h=>by cases h),P2:=fun _=>⟨HC4.out,HL4.out,HB4.out⟩,c6:=fun _=>⟨rfl,rfl⟩,f6:=fun _=>rfl }⟩
 ·rintro listed a' w' ⟨b0,b1,b2,b3,b4,b5,b6,x0,x1,x2,x3,x4,x5,x6,rfl,rfl,hI⟩ hrd
  have e0:b0=true:=by simpa using ready_nextb hrd 0 rfl (by simp[Region.binds])
  have e1:b1=true:=by simpa using ready_nextb hrd 1 rfl (by simp[Region.binds,e0])
  have e2:b2=true:=by simpa using ready_nextb hrd 2 rfl (by simp[Region.binds,e0,e1])
  have e3:b3=true:=by simpa using ready_nextb hrd 3 rfl (by simp[Region.binds,e0,e1,e2])
  have e4:b4=true:=by simpa using ready_nextb hrd 4 rfl (by simp[Region.binds,e0,e1,e2,e3])
  have e5:b5=true:=by simpa using ready_nextb hrd 5 rfl (by simp[Region.binds,e0,e1,e2,e3,e4])
  have e6:b6=true:=by simpa using ready_nextb hrd 6 rfl (by simp[Region.binds,e0,e1,e2,e3,e4,e5])
  subst e0 e1 e2 e3 e4 e5 e6
  clear hrd
  obtain⟨p1,p2,p3⟩:=hI.P2 rfl
  have HE:Hid (CallAt w' gf { c with regs:=c.regs.set 4 (sdL (.slice (some ⟨g,0,none⟩) 1 cap)) }∧LsAt w' g [v]∧ButL [gf] w w'):=⟨p1,p2,p3⟩
  clear hI p1 p2 p3
  go_wp2_with fail
  go_ret
  exact⟨rfl,g,cap,HE.out.1,HE.out.2.1,by have:=HL3.out.2;have:=HSZ.out;omega,hcp,HE.out.2.2⟩
end Go.Proofs.YtliahjnnbbgooaaGreatDoor.J
namespace Go.Proofs.YtliahjnnbbgooaaGreatDoor
open Go.RowKit
def penC (r:Nat) (iv tv:Value):Array Value:=#[.string ⟨#[109,97,105,110]⟩,.int .i64 0,.int .i64 0,.bool false,.int .i64 r,.slice none 0 0,.slice none 0 0,iv,.slice none 0 0,tv,.int .i64 0,.int .i64 0]
structure Pen (w0 w:World) (g r:Nat) (l:List ID):Prop where
 bel:Below w0.heap.size w0 w
 ge:w0.heap.size≤g
 row:∃iv tv,w.heap[g]?=some (.cells (penC r iv tv) 64)∧ORow w w0.heap.size 55 5 ID.cells iv l
theorem idC_len (n:ID):n.cells.length=5:=rfl
theorem Pen.drewN {w0 w:World} {g r:Nat} {l:List ID} (h:Pen w0 w g r l) (n:Nat):Pen w0 (w.drewN n) g r l:=by
 obtain⟨h1,h2,iv,tv,h3,h4⟩:=h
 exact⟨⟨h1.os,h1.tape,h1.output,h1.size,h1.block⟩,h2,iv,tv,h3,h4⟩
theorem Pen.drew {w0 w:World} {g r:Nat} {l:List ID} (h:Pen w0 w g r l):Pen w0 w.drew g r l:=by
 obtain⟨h1,h2,iv,tv,h3,h4⟩:=h
 exact⟨⟨h1.os,h1.tape,h1.output,h1.size,h1.block⟩,h2,iv,tv,h3,h4⟩
theorem Pen.at {w0 w:World} {g r:Nat} {l:List ID} (h:Pen w0 w g r l):∃a cap,w.cell? ⟨g,7,none⟩=some (.slice a l.length cap):=by
 obtain⟨h1,h2,iv,tv,h3,h4⟩:=h
 obtain⟨a,c,rfl⟩:=h4.val
 exact⟨a,c,by rw[blk_cell h3];rfl⟩
theorem flat_setc {α:Type} (cells:α→List Value) (k:Nat):∀(xs:List α) (i j:Nat) (x x':α) (v:Value),(∀y∈xs,(cells y).length=k)→xs[i]?=some x→j<k→cells x'=(cells x).set j v→(xs.flatMap cells).set (i*k+j) v=(xs.set i x').flatMap cells
 | [],i,j,x,x',v,_,hx,_,_=>by simp at hx
 | y :: ys,0,j,x,x',v,hk,hx,hj,hc=>by
  obtain rfl:y=x:=by simpa using hx
  have hy:=hk y (by simp)
  rw[Nat.zero_mul,Nat.zero_add,List.flatMap_cons,List.set_append_left _ _ (by omega),List.set_cons_zero,List.flatMap_cons,hc]
 | y :: ys,i+1,j,x,x',v,hk,hx,hj,hc=>by
  have hy:=hk y (by simp)
  rw[List.flatMap_cons,List.set_append_right _ _ (by rw[hy,Nat.add_mul,Nat.one_mul];omega),hy,show (i+1)*k+j-k=i*k+j by rw[Nat.add_mul,Nat.one_mul];omega,List.set_cons_succ,List.flatMap_cons]
  rw[flat_setc cells k ys i j x x' v (fun z hz=>hk z (by simp[hz])) (by simpa using hx) hj hc]
theorem ORow.setc {α:Type} {w:World} {B:Nat} {et:TypeId} {k:Nat} {cells:α→List Value} {g n cap:Nat} {xs:List α} (h:ORow w B et k cells (.slice (some ⟨g,0,none⟩) n cap) xs) (hk:∀y,(cells y).length=k) {i j:Nat} {x x':α} {v:Value} (hx:xs[i]?=some x) (hj:j<k) (hc:cells x'=(cells x).set j v):ORow (w.setCell ⟨g,i*k+j,none⟩ v) B et k cells (.slice (some ⟨g,0,none⟩) n cap) (xs.set i x'):=by
 obtain⟨h1,h2⟩:=h
 have hf:=flat_setc cells k xs i j x x' v (fun y _=>hk y) hx hj hc
 refine⟨by rw[←hf,List.length_set,List.length_set];exact h1,?_⟩
 rcases h2 with ⟨e,_⟩ | ⟨g',c',cur,e,hb,hg,hl,hm,hs,ht⟩
 ·cases e
 ·injection e with e1 e2 e3
  injection e1 with e1
  injection e1 with e1
  subst e1 e2 e3
  rw[List.length_set]
  refine .inr ⟨g,_,cur.setIfInBounds (i*k+j) v,rfl,hb,blk_set hg _ _,hl,hm,by simpa using hs,?_⟩
  rw[Array.toList_setIfInBounds,List.take_set,ht,hf]
def setA (l:List ID) (i:Nat) (z:Int):List ID:=match l[i]? with | some n=>l.set i ⟨n.op,z,n.b,n.c,n.d⟩ | none=>l
theorem Pen.open {w0 w:World} {g r:Nat} {l:List ID} (h:Pen w0 w g r l) {i:Nat} {n:ID} (hi:l[i]?=some n):∃gi cap,w.cell? ⟨g,7,none⟩=some (.slice (some ⟨gi,0,none⟩) l.length cap)∧w.cell? ⟨gi,i*5+1,none⟩=some (.int .i64 n.a)∧(∀q,w.frozen? ⟨gi,q,none⟩=false)∧∀z:Int,Pen w0 (w.setCell ⟨gi,i*5+1,none⟩ (.int .i64 z)) g r (setA l i z):=by
 obtain⟨h1,h2,iv,tv,h3,h4⟩:=h
 have hlt:=(List.getElem?_eq_some_iff.1 hi).1
 obtain⟨gi,cap,rfl,hge,_,hs,hfz,_⟩:=h4.open idC_len (by omega)
 obtain⟨b,off,e,_,hc⟩:=hs i n hi
 have e':gi=b∧0=off:=by injection e with e;injection e with e1 e2;exact⟨e1,e2⟩
 obtain⟨rfl,rfl⟩:=e'
 have hne:gi≠g:=by
  rintro rfl
  rcases h4.2 with ⟨e1,_⟩ | ⟨g0,c0,cur,e1,_,e3,_⟩
  ·cases e1
  ·injection e1 with e1 _ _;injection e1 with e1;injection e1 with e1;subst e1;rw[h3]at e3;cases e3
 refine⟨gi,cap,by rw[blk_cell h3];rfl,by have:=hc 1 _ rfl;simpa using this,hfz,fun z=>⟨h1.setCell (p:=⟨gi,i*5+1,none⟩) hge _,h2,_,tv,blk_other h3 hne _ _,?_⟩⟩
 unfold setA
 rw[hi]
 exact ORow.setc h4 idC_len hi (by omega) rfl
theorem Pen.code {w0 w:World} {g r:Nat} {l:List ID} (h:Pen w0 w g r l):∃(f:FC),f.d=⟨⟨#[109,97,105,110]⟩,0,0,false,r,[],[],l,[]⟩∧(∃tv,w.heap[g]?=some (.cells (f.cells++[tv,Value.int .i64 0,Value.int .i64 0]).toArray 64))∧∀q j v,q<w0.heap.size→f.lie (w.setCell ⟨q,j,none⟩ v):=by
 obtain⟨h1,h2,iv,tv,h3,h4⟩:=h
 obtain⟨a,cap,rfl,hs⟩:=h4.lies idC_len
 refine⟨⟨⟨⟨#[109,97,105,110]⟩,0,0,false,r,[],[],l,[]⟩,none,0,none,0,a,cap,none,0⟩,rfl,⟨tv,h3⟩,fun q j v hq=>⟨SlA.nil _ _ _ _,SlA.nil _ _ _ _,?_,SlA.nil _ _ _ _⟩⟩
 have h5:=ORow.set_own h4 (g:=q) (fun e=>by have:=owns_ge h4 e;omega) j v
 obtain⟨a',cap',e,hs'⟩:=h5.lies idC_len
 injection e with e1 e2 e3
 subst e1
 exact hs'
theorem code_one {w:World} {g:Nat} {f:FC} (hb:w.heap[g]?=some (.cells f.cells.toArray 61)) (hl:f.lie w) (hok:f.d.ok):CodeAt w (some ⟨g,0,none⟩) [f]:=by
 refine⟨fun i x hx=>?_,fun x hx=>by rw[List.mem_singleton.1 hx];exact hl,fun x hx=>by rw[List.mem_singleton.1 hx];exact hok,by simp,by simpa using hok.li⟩
 have hi:i=0∧f=x:=by
  cases i with
  | zero=>exact⟨rfl,by simpa using hx⟩
  | succ i=>simp at hx
 obtain⟨rfl,rfl⟩:=hi
 refine⟨g,0,rfl,blk_lt hb,fun j v hv=>?_⟩
 rw[blk_cell hb]
 simpa using hv
end Go.Proofs.YtliahjnnbbgooaaGreatDoor
namespace Go.Proofs.YtliahjnnbbgooaaGreatDoor.J
open Go.RowKit M T U
attribute [local go_sem] run_store_float
theorem clip_any (g n cap:Nat) (h:n≤cap) (hn:n≤1000) (w:World):Calls Tryz.prog 210 #[.slice (some ⟨g,0,none⟩) n cap] w fun e w'=>e=.returned (.slice (some ⟨g,0,none⟩) n n)∧w'=w:=by
 have h1:(n:Int)≤(cap:Int):=by omega
 have h2:(0:Int)≤(n:Int):=by omega
 go_enter Tryz.func210,Tryz.ntmps210
 go_wp2_with fail
 go_ret
 exact⟨rfl,rfl⟩
theorem set_cell (c:CallD) {i j:Nat} {s s':M.SD} {v:Value} (hs:c.regs[i]?=some s) (hj:j<8) (hc:s'.cells=s.cells.set j v):c.arr.setIfInBounds (14+(i*8+j)) v={ c with regs:=c.regs.set i s' }.arr:=by
 unfold CallD.arr
 rw[List.setIfInBounds_toArray,List.set_append_right _ _ (by show (14:Nat)≤_;omega),show 14+(i*8+j)-c.hd.length=i*8+j by show 14+(i*8+j)-14=_;omega,flat_setc SD.cells 8 c.regs i j s s' v (fun y _=>sd_len y) hs hj hc]
 rfl
theorem clipped {w:World} {gf g n cap:Nat} {c:CallD} (h:CallAt w gf c) (h4:c.regs[4]?=some (sdL (.slice (some ⟨g,0,none⟩) n cap))):CallAt (w.setCell ⟨gf,53,none⟩ (.slice (some ⟨g,0,none⟩) n n)) gf { c with regs:=c.regs.set 4 (sdL (.slice (some ⟨g,0,none⟩) n n)) }:=by
 have h9:=blk_set h 53 (.slice (some ⟨g,0,none⟩) n n)
 have e:=set_cell c (i:=4) (j:=7) (s':=sdL (.slice (some ⟨g,0,none⟩) n n)) (v:=.slice (some ⟨g,0,none⟩) n n) h4 (by omega) rfl
 rw[show 14+(4*8+7)=53 from rfl]at e
 rw[e]at h9
 exact h9
theorem list_pos (gf g n cap:Nat) (hcp:n≤cap) (hn:n≤1000) (c:CallD) (w:World) (h:CallAt w gf c) (hr:c.regs.length=250) (h4:c.regs[4]?=some (sdL (.slice (some ⟨g,0,none⟩) n cap))) :
  Calls Tryz.prog 146 #[.pointer (some ⟨gf,0,none⟩),.int .i64 4] w fun e w'=>e=.returned (.slice (some ⟨g,0,none⟩) n n)∧CallAt w' gf { c with regs:=c.regs.set 4 (sdL (.slice (some ⟨g,0,none⟩) n n)) }∧ButL [gf] w w':=by
 have a7:w.cell? ⟨gf,53,none⟩=some (.slice (some ⟨g,0,none⟩) n cap):=h.reg h4 (j:=7) rfl
 have z:=blk_frozen h
 have hF:=run_fldL 3 vd0 none (some ⟨g,0,none⟩) n n
 obtain⟨W2,hW2⟩:∃W2,w.setCell ⟨gf,53,none⟩ (.slice (some ⟨g,0,none⟩) n n)=W2:=⟨_,rfl⟩
 have HC2:Hid (CallAt W2 gf { c with regs:=c.regs.set 4 (sdL (.slice (some ⟨g,0,none⟩) n n)) }):=by show CallAt _ _ _;rw[←hW2];exact clipped h h4
 have HB2:Hid (ButL [gf] w W2):=by show ButL _ _ _;rw[←hW2];exact (ButL.refl _ _).set (by simp) _ _
 have HG4:Hid ((c.regs.set 4 (sdL (.slice (some ⟨g,0,none⟩) n n)))[4]?=some ⟨3,vd0,.pointer none,.slice (some ⟨g,0,none⟩) n n⟩):=List.getElem?_set_self (by omega)
 clear h h4
 go_enter Tryz.func146,Tryz.ntmps146
 go_wp2_with fail
 go_region_with (go_at_call 210;refine (clip_any g n cap hcp hn _).mono ?_;rintro e w1 ⟨rfl,rfl⟩)
 all_goals
  clear hW2 a7 z
  go_wp2_with fail
  refine (operand_pos gf 4 3 vd0 none (some ⟨g,0,none⟩) n n { c with regs:=c.regs.set 4 (sdL (.slice (some ⟨g,0,none⟩) n n)) } W2.drew (CallAt.drew HC2.out) (by show (c.regs.set 4 _).length=250;rw[List.length_set];exact hr) (by omega) HG4.out).mono ?_
  rintro e w3 ⟨rfl,hx3⟩
  have HC3:Hid (CallAt w3 gf { c with regs:=c.regs.set 4 (sdL (.slice (some ⟨g,0,none⟩) n n)) }):=HC2.out.later (und1' hx3)
  have HB3:Hid (ButL [gf] w w3):=HB2.out.thenB (und1' hx3)
  clear hx3
  go_wp2_with fail
  go_ret
  exact⟨rfl,HC3.out,HB3.out⟩
end Go.Proofs.YtliahjnnbbgooaaGreatDoor.J
