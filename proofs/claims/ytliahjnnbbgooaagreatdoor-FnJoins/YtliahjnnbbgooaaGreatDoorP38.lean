import Derived.Test.YtliahjnnbbgooaaGreatDoorP37
import Derived.Test.YtliahjnnbbgooaaGreatDoorP32
import Derived.Test.YtliahjnnbbgooaaGreatDoorP33
import Derived.Test.YtliahjnnbbgooaaGreatDoorP36
set_option linter.unusedVariables false
set_option linter.unusedSimpArgs false
set_option maxRecDepth 20000
set_option maxHeartbeats 8000000
namespace Go.Proofs.YtliahjnnbbgooaaGreatDoor.J
open Go.RowKit M T U
attribute [local go_sem] run_store_float
structure RAd2 (W0 w3 w:World) (gf I g n cap:Nat) (ra:Option Addr) (rl rc:Nat) (ys:List VD) (c4:CallD) (w':World) (b0 b1 b2 b3 b4 b5 b6:Bool) (x0 x1 x2 x3 x4 x5 x6:Value):Prop where
 P0:b5=false→w'=W0
 P1:b5=true→b6=false→w'=w3
 P2:b6=true→CallAt w' gf c4∧LsAt w' g ys∧ButL [gf] w w'
 c6:b6=true→b2=true∧b5=true
 f0:b0=true→x0=.pointer (some ⟨gf,0,none⟩)
 f1:b1=true→x1=.pointer (some ⟨I,1,none⟩)
 f2:b2=true→x2=.int .i64 4
 f3:b3=true→x3=.slice ra rl rc
 f4:b4=true→x4=.slice ra rl rc
 f5:b5=true→x5=.slice (some ⟨g,0,none⟩) n cap
 f6:b6=true→x6=.tuple #[]
theorem doJoin_go (pm:Value) (gf gl n cap0:Nat) (i:ID) (xs:List VD) (c:CallD) (w:World) (hc:CallAt w gf c) (hr:c.regs.length=250) (hop:i.op=24) (ha:i.a=4) (hb:i.b=4) (h4:c.regs[4]?=some (sdL (.slice (some ⟨gl,0,none⟩) n cap0))) (hcp0:n≤cap0) (hn0:0<n) (hn:n+n≤250) (hL:LsAt w gl xs) (hx:xs.length=n) :
  Calls Tryz.prog 68 #[pm,.pointer (some ⟨gf,0,none⟩),insV i] w fun e w'=>e=.returned .nilIface∧∃g cap,CallAt w' gf { c with regs:=c.regs.set 4 (sdL (.slice (some ⟨g,0,none⟩) (n+n) cap)) }∧LsAt w' g (xs++xs)∧w.heap.size≤g∧n+n≤cap∧ButL [gf] w w':=by
 obtain⟨op,a,b,cc,d⟩:=i
 dsimp only[insV]at hop ha hb ⊢
 subst hop ha hb
 obtain⟨W,hW⟩:∃W,w.alloc (InO ⟨24,4,4,cc,d⟩)=W:=⟨_,rfl⟩
 have hbw:Below w.heap.size w W:=by rw[←hW];exact bw1 _ _
 have bn:W.heap[w.heap.size]?=some (InO ⟨24,4,4,cc,d⟩):=by rw[←hW];exact blk_new _ _
 have hgl:=blk_lt hc
 have HC:Hid (CallAt W gf c):=hc.later hbw
 have HB:Hid (Below w.heap.size w W):=hbw
 have HI:Hid (W.heap[w.heap.size]?=some (InO ⟨24,4,4,cc,d⟩)):=bn
 have HL:Hid (LsAt W gl xs):=hL.later hbw
 have hgne:gl≠gf:=hL.ne hc (by decide)
 have d0:W.cell? ⟨w.heap.size,0,none⟩=some (.int .i64 24):=by rw[blk_cell bn];rfl
 have d2:W.cell? ⟨w.heap.size,2,none⟩=some (.int .i64 4):=by rw[blk_cell bn];rfl
 have h250:¬(250:Int)<(n:Int)+(n:Int):=by omega
 clear hc hbw bn hL
 go_enter Tryz.func68,Tryz.ntmps68
 go_wp2_with fail
 clear hW
 refine (list_pos gf gl n cap0 hcp0 (by omega) c _ HC.out hr h4).mono ?_
 rintro e W2 ⟨rfl,hc2,hb2⟩
 have bn2:=hb2.blk HI.out (by simp;omega)
 have HB2:Hid (ButL [gf] w W2):=(ButL.of_below HB.out).trans hb2
 have HC2:Hid (CallAt W2 gf { c with regs:=c.regs.set 4 (sdL (.slice (some ⟨gl,0,none⟩) n n)) }):=hc2
 have HL2:Hid (LsAt W2 gl xs):=HL.out.but hb2 (by simp;exact hgne)
 have k1:W2.cell? ⟨w.heap.size,1,none⟩=some (.int .i64 4):=by rw[blk_cell bn2];rfl
 have h4':(c.regs.set 4 (sdL (.slice (some ⟨gl,0,none⟩) n n)))[4]?=some (sdL (.slice (some ⟨gl,0,none⟩) n n)):=List.getElem?_set_self (by omega)
 have a7:W2.cell? ⟨gf,53,none⟩=some (.slice (some ⟨gl,0,none⟩) n n):=hc2.reg h4' (j:=7) rfl
 have HSZ:Hid (w.heap.size<W2.heap.size):=blk_lt bn2
 clear hc2 hb2 bn2 d0 d2 h4'
 go_wp2_with fail
 go_region
 go_wp2_with fail
 obtain⟨g,cap,w3,hr3,hL3,hge3,hcp,hb3⟩:=app_two W2.drew.drew gl n xs HL2.out hx hn0 (by omega) 57
 replace hb3:=und1' (und1' hb3)
 have HR3:Hid _:=hr3
 have k3:w3.cell? ⟨w.heap.size,1,none⟩=some (.int .i64 4):=cell_later hb3 k1
 have HC3:Hid (CallAt w3 gf { c with regs:=c.regs.set 4 (sdL (.slice (some ⟨gl,0,none⟩) n n)) }):=CallAt.later HC2.out hb3
 have HL3:Hid (LsAt w3 g (xs++xs)∧W2.heap.size≤g):=⟨hL3,hge3⟩
 have HB3:Hid (ButL [gf] w w3):=HB2.out.thenB hb3
 clear hr3 hL3 hge3 hb3
 refine wp_region_inv (by kernel_rfl) (fun base listed a' w'=>∃b0 b1 b2 b3 b4 b5 b6 x0 x1 x2 x3 x4 x5 x6,listed=#[b0,b1,b2,b3,b4,b5,b6]∧a'=(((((((base.put (some 37) x0).put (some 38) x1).put (some 39) x2).put (some 40) x3).put (some 41) x4).put (some 42) x5).put (some 43) x6)∧RAd2 W2.drew.drew w3 w gf w.heap.size g (n+n) cap (some ⟨gl,0,none⟩) n n (xs++xs) { c with regs:=c.regs.set 4 (sdL (.slice (some ⟨g,0,none⟩) (n+n) cap)) } w' b0 b1 b2 b3 b4 b5 b6 x0 x1 x2 x3 x4 x5 x6) ?_ ?_ ?_
 ·exact⟨false,false,false,false,false,false,false,undef,undef,undef,undef,undef,undef,undef,rfl,by kernel_rfl,⟨fun _=>rfl,nofun,nofun,nofun,nofun,nofun,nofun,nofun,nofun,nofun,nofun⟩⟩
 ·rintro i listed a' w' ⟨b0,b1,b2,b3,b4,b5,b6,x0,x1,x2,x3,x4,x5,x6,rfl,rfl,hI⟩ hr
  have hi:=ready_lt hr
  have hun:=(mem_ready.1 hr).1
  simp only[List.size_toArray,List.length_cons,List.length_nil,Nat.zero_add,Nat.reduceAdd]at hi
  have hi':i=0∨i=1∨i=2∨i=3∨i=4∨i=5∨i=6:=by omega
  clear hi
  rcases hi' with rfl | rfl | rfl | rfl | rfl | rfl | rfl
  ·have hbi:b0=false:=by simpa using hun
   subst hbi 
   clear hr hun
   refine wpOp_step rfl (fun K hK=>?_)
   go_simp
   exact hK _ _ ⟨true,b1,b2,b3,b4,b5,b6,(.pointer (some ⟨gf,0,none⟩)),x1,x2,x3,x4,x5,x6,rfl,by kernel_rfl,{ hI with f0:=fun _=>rfl }⟩
  ·have hbi:b1=false:=by simpa using hun
   subst hbi 
   clear hr hun
   refine wpOp_step rfl (fun K hK=>?_)
   go_simp
   exact hK _ _ ⟨b0,true,b2,b3,b4,b5,b6,x0,(.pointer (some ⟨w.heap.size,1,none⟩)),x2,x3,x4,x5,x6,rfl,by kernel_rfl,{ hI with f1:=fun _=>rfl }⟩
  ·have hbi:b2=false:=by simpa using hun
   have e1:b1=true:=by simpa using ready_dep hr rfl ⟨1,.data⟩ (by simp) rfl
   have n6:b6=false:=by
    cases hg:b6 with
    | false=>rfl
    | true=>have h9:=(hI.c6 hg).1;rw[hbi]at h9;cases h9
   subst hbi e1 n6
   clear hr hun
   obtain rfl:=hI.f1 rfl
   have hcell:w'.cell? ⟨w.heap.size,1,none⟩=some (.int .i64 4):=by
    cases h5:b5 with
    | false=>rw[hI.P0 h5];exact k1
    | true=>rw[hI.P1 h5 rfl];exact k3
   refine wpOp_step rfl (fun K hK=>?_)
   go_simp
   exact hK _ _ ⟨b0,true,true,b3,b4,b5,false,x0,(.pointer (some ⟨w.heap.size,1,none⟩)),(.int .i64 4),x3,x4,x5,x6,rfl,by kernel_rfl,{ hI with P2:=nofun,c6:=nofun,f2:=fun _=>rfl,f6:=nofun }⟩
  ·have hbi:b3=false:=by simpa using hun
   subst hbi 
   clear hr hun
   refine wpOp_step rfl (fun K hK=>?_)
   go_simp
   exact hK _ _ ⟨b0,b1,b2,true,b4,b5,b6,x0,x1,x2,(.slice (some ⟨gl,0,none⟩) n n),x4,x5,x6,rfl,by kernel_rfl,{ hI with f3:=fun _=>rfl }⟩
  ·have hbi:b4=false:=by simpa using hun
   subst hbi 
   clear hr hun
   refine wpOp_step rfl (fun K hK=>?_)
   go_simp
   exact hK _ _ ⟨b0,b1,b2,b3,true,b5,b6,x0,x1,x2,x3,(.slice (some ⟨gl,0,none⟩) n n),x5,x6,rfl,by kernel_rfl,{ hI with f4:=fun _=>rfl }⟩
  ·have hbi:b5=false:=by simpa using hun
   have e3:b3=true:=by simpa using ready_dep hr rfl ⟨3,.data⟩ (by simp) rfl
   have e4:b4=true:=by simpa using ready_dep hr rfl ⟨4,.data⟩ (by simp) rfl
   have n6:b6=false:=by
    cases hg:b6 with
    | false=>rfl
    | true=>have h9:=(hI.c6 hg).2;rw[hbi]at h9;cases h9
   subst hbi e3 e4 n6
   clear hr hun
   obtain rfl:=hI.f3 rfl
   obtain rfl:=hI.f4 rfl
   have hw:=hI.P0 rfl
   subst hw
   refine wpOp_step rfl (fun K hK=>?_)
   refine wp_append_run (.tmp 40) (.tmp 41) 57 rfl (.slice (some ⟨gl,0,none⟩) n n) (.slice (some ⟨gl,0,none⟩) n n) (.slice (some ⟨g,0,none⟩) (n+n) cap) w3 (by kernel_rfl) (by kernel_rfl) HR3.out ?_
   exact hK _ _ ⟨b0,b1,b2,true,true,true,false,x0,x1,x2,(.slice (some ⟨gl,0,none⟩) n n),(.slice (some ⟨gl,0,none⟩) n n),(.slice (some ⟨g,0,none⟩) (n+n) cap),x6,rfl,by kernel_rfl,{ hI with P0:=nofun,P1:=fun _ _=>rfl,P2:=nofun,c6:=nofun,f5:=fun _=>rfl,f6:=nofun }⟩
  ·have hbi:b6=false:=by simpa using hun
   have e0:b0=true:=by simpa using ready_dep hr rfl ⟨0,.data⟩ (by simp) rfl
   have e2:b2=true:=by simpa using ready_dep hr rfl ⟨2,.data⟩ (by simp) rfl
   have e5:b5=true:=by simpa using ready_dep hr rfl ⟨5,.data⟩ (by simp) rfl
   subst hbi e0 e2 e5
   clear hr hun
   obtain rfl:=hI.f0 rfl
   obtain rfl:=hI.f2 rfl
   obtain rfl:=hI.f5 rfl
   have hw:=hI.P1 rfl rfl
   subst hw
   refine wpOp_step rfl (fun K hK=>?_)
   go_simp
   refine (putList_any gf 4 (n+n) cap (some ⟨g,0,none⟩) { c with regs:=c.regs.set 4 (sdL (.slice (some ⟨gl,0,none⟩) n n)) } _ HC3.out (by show (c.regs.set 4 _).length=250;rw[List.length_set];exact hr) (by omega)).mono ?_
   rintro e w4 ⟨rfl,hc4,hb4⟩
   have HC4:Hid (CallAt w4 gf { c with regs:=c.regs.set 4 (sdL (.slice (some ⟨g,0,none⟩) (n+n) cap)) }):=by have h9:=hc4;simp only[List.set_set]at h9;exact h9
   have HL4:Hid (LsAt w4 g (xs++xs)):=HL3.out.1.but hb4 (by simp;exact HL3.out.1.ne HC3.out (by decide))
   have HB4:Hid (ButL [gf] w w4):=HB3.out.trans hb4
   clear hc4 hb4
   exact hK _ _ ⟨true,b1,true,b3,b4,true,true,(.pointer (some ⟨gf,0,none⟩)),x1,(.int .i64 4),x3,x4,(.slice (some ⟨g,0,none⟩) (n+n) cap),(.tuple #[]),rfl,by kernel_rfl,{ hI with P0:=nofun,P1:=(fun _ h=>by cases h),P2:=fun _=>⟨HC4.out,HL4.out,HB4.out⟩,c6:=fun _=>⟨rfl,rfl⟩,f6:=fun _=>rfl }⟩
 ·rintro listed a' w' ⟨b0,b1,b2,b3,b4,b5,b6,x0,x1,x2,x3,x4,x5,x6,rfl,rfl,hI⟩ hrd
  have e0:b0=true:=by simpa using ready_nextb hrd 0 rfl (by simp[Region.binds])
  have e1:b1=true:=by simpa using ready_nextb hrd 1 rfl (by simp[Region.binds,e0])
  have e2:b2=true:=by simpa using ready_nextb hrd 2 rfl (by simp[Region.binds,e0,e1])
  have e3:b3=true:=by simpa using ready_nextb hrd 3 rfl (by simp[Region.binds,e0,e1,e2])
  have e4:b4=true:=by simpa using ready_nextb hrd 4 rfl (by simp[Region.binds,e0,e1,e2,e3])
  have e5:b5=true:=by simpa using ready_nextb hrd 5 rfl (by simp[Region.binds,e0,e1,e2,e3,e4])
  have e6:b6=true:=by simpa using ready_nextb hrd 6 rfl (by simp[Region.binds,e0,e1,e2,e3,e4,e5])
  subst e0 e1 e2 e3 e4 e5 e6
  clear hrd
  obtain⟨p1,p2,p3⟩:=hI.P2 rfl
  have HE:Hid (CallAt w' gf { c with regs:=c.regs.set 4 (sdL (.slice (some ⟨g,0,none⟩) (n+n) cap)) }∧LsAt w' g (xs++xs)∧ButL [gf] w w'):=⟨p1,p2,p3⟩
  clear hI p1 p2 p3
  go_wp2_with fail
  go_ret
  exact⟨rfl,g,cap,HE.out.1,HE.out.2.1,by have:=HL3.out.2;have:=HSZ.out;omega,hcp,HE.out.2.2⟩
theorem doJoin_long (gm gf gl n cap0:Nat) (i:ID) (c:CallD) (P:Ending→World→Prop) (w:World) (hc:CallAt w gf c) (hr:c.regs.length=250) (hop:i.op=24) (ha:i.a=4) (hb:i.b=4) (h4:c.regs[4]?=some (sdL (.slice (some ⟨gl,0,none⟩) n cap0))) (hcp0:n≤cap0) (hn0:250<n+n) (hn:n≤1000)
  (HQ:∀wk,ButL [gf] w wk→CallAt wk gf { c with regs:=c.regs.set 4 (sdL (.slice (some ⟨gl,0,none⟩) n n)) }→Calls Tryz.prog 144 #[.pointer (some ⟨gm,0,none⟩),.int .i64 4] wk fun e w'=>∃gr,e=.returned (.iface 112 (.pointer (some ⟨gr,0,none⟩)))∧P e w') :
  Calls Tryz.prog 68 #[.pointer (some ⟨gm,0,none⟩),.pointer (some ⟨gf,0,none⟩),insV i] w P:=by
 obtain⟨op,a,b,cc,d⟩:=i
 dsimp only[insV]at hop ha hb ⊢
 subst hop ha hb
 obtain⟨W,hW⟩:∃W,w.alloc (InO ⟨24,4,4,cc,d⟩)=W:=⟨_,rfl⟩
 have hbw:Below w.heap.size w W:=by rw[←hW];exact bw1 _ _
 have bn:W.heap[w.heap.size]?=some (InO ⟨24,4,4,cc,d⟩):=by rw[←hW];exact blk_new _ _
 have hgl:=blk_lt hc
 have HC:Hid (CallAt W gf c):=hc.later hbw
 have HB:Hid (Below w.heap.size w W):=hbw
 have HI:Hid (W.heap[w.heap.size]?=some (InO ⟨24,4,4,cc,d⟩)):=bn
 have d0:W.cell? ⟨w.heap.size,0,none⟩=some (.int .i64 24):=by rw[blk_cell bn];rfl
 have d2:W.cell? ⟨w.heap.size,2,none⟩=some (.int .i64 4):=by rw[blk_cell bn];rfl
 have h250:(250:Int)<(n:Int)+(n:Int):=by omega
 have HQ':Hid (∀wk,ButL [gf] w wk→CallAt wk gf { c with regs:=c.regs.set 4 (sdL (.slice (some ⟨gl,0,none⟩) n n)) }→Calls Tryz.prog 144 #[.pointer (some ⟨gm,0,none⟩),.int .i64 4] wk fun e w'=>∃gr,e=.returned (.iface 112 (.pointer (some ⟨gr,0,none⟩)))∧P e w'):=HQ
 clear hc hbw bn HQ
 go_enter Tryz.func68,Tryz.ntmps68
 go_wp2_with fail
 clear hW
 refine (list_pos gf gl n cap0 hcp0 hn c _ HC.out hr h4).mono ?_
 rintro e W2 ⟨rfl,hc2,hb2⟩
 have bn2:=hb2.blk HI.out (by simp;omega)
 have HB2:Hid (ButL [gf] w W2):=(ButL.of_below HB.out).trans hb2
 have HC2:Hid (CallAt W2 gf { c with regs:=c.regs.set 4 (sdL (.slice (some ⟨gl,0,none⟩) n n)) }):=hc2
 have k1:W2.cell? ⟨w.heap.size,1,none⟩=some (.int .i64 4):=by rw[blk_cell bn2];rfl
 have h4':(c.regs.set 4 (sdL (.slice (some ⟨gl,0,none⟩) n n)))[4]?=some (sdL (.slice (some ⟨gl,0,none⟩) n n)):=List.getElem?_set_self (by omega)
 have a7:W2.cell? ⟨gf,53,none⟩=some (.slice (some ⟨gl,0,none⟩) n n):=hc2.reg h4' (j:=7) rfl
 clear hc2 hb2 bn2 d0 d2 h4'
 go_wp2_with fail
 go_region
 go_wp2_with fail
 refine (HQ'.out _ (HB2.out.drew) (CallAt.drew HC2.out)).mono ?_
 rintro e w5 ⟨gr,rfl,hp⟩
 have HP:Hid (P (.returned (.iface 112 (.pointer (some ⟨gr,0,none⟩)))) w5):=hp
 clear hp
 go_wp2_with fail
 exact HP.out
end Go.Proofs.YtliahjnnbbgooaaGreatDoor.J
namespace Go.Proofs.YtliahjnnbbgooaaGreatDoor.J
open Go.RowKit M T U
def mt (K:UK) (z:Int) (rv tv:Value):MachD:={ K.m0 with rticks:=z,recs:=rv,tables:=tv }
structure JX (w0:World) (K:UK) (w:World) (tk:Nat) (xs:List RcD) (ln at' next:Int) (rs:List M.SD) (gl:List (Nat × Int)) (rv gv tv:Value) (ts:List Nat):Prop where
 bel:Below w0.heap.size w0 w
 mac:MachAt w K.gm (mt K tk rv tv)
 cal:CallAt w K.gf (K.c ln at' next gv rs)
 tsk:w.heap[K.gt]?=some (.cells (taskA (.slice (some ⟨K.gc,0,none⟩) 1 K.cc) K.gch 2) 115)
 cro:w.heap[K.gc]?=some (.cells K.ca 116)
 row:w.heap[K.gk]?=some (.cells K.ka 85)
 cha:w.heap[K.gch]?=some (.chan 0 #[] false 0 0 false)
 gu:ORow w w0.heap.size 277 1 vC gv (gl.map fun g=>caV g.1)
 gb:∀g∈gl,w.heap[g.1]?=some (Ct0 g.2)
 rc:ORow w w0.heap.size 67 5 rgC rv xs
 lr:rs.length=250
 tb:ORow w w0.heap.size 249 1 pC tv ts
 tn:ts=[]→tv.ownBlock=none
section
variable {w0:World} {K:UK} {w w':World} {tk:Nat} {xs:List RcD} {ln at' next:Int} {rs:List M.SD} {gl:List (Nat × Int)} {rv gv tv:Value} {ts:List Nat}
def twr (K:UK) (rv gv:Value):List Nat:=K.gm :: K.gf :: (gv.ownBlock.toList++rv.ownBlock.toList)
theorem JX.wrTy (ok:UKok w0 K) (h:JX w0 K w tk xs ln at' next rs gl rv gv tv ts):∀g∈twr K rv gv,w0.heap.size≤g∧∃a t,w.heap[g]?=some (.cells a t)∧(t=97∨t=152∨t=277∨t=67):=by
 intro g hg
 simp only[twr,List.mem_cons,List.mem_append,Option.mem_toList]at hg
 rcases hg with rfl | rfl | hg | hg
 ·exact⟨ok.geM,_,_,h.mac,.inl rfl⟩
 ·exact⟨ok.geF,_,_,h.cal,.inr (.inl rfl)⟩
 ·obtain⟨h1,cur,h2⟩:=own_blk h.gu hg
  exact⟨h1,_,_,h2,.inr (.inr (.inl rfl))⟩
 ·obtain⟨h1,cur,h2⟩:=own_blk h.rc hg
  exact⟨h1,_,_,h2,.inr (.inr (.inr rfl))⟩
theorem JX.keep (ok:UKok w0 K) (h:JX w0 K w tk xs ln at' next rs gl rv gv tv ts) (hb:ButL (twr K rv gv) w w') {q:Nat} {b:Array Value} {u:TypeId} (hq:w.heap[q]?=some (.cells b u)) (n1:u≠97) (n2:u≠152) (n3:u≠277) (n4:u≠67):w'.heap[q]?=some (.cells b u):=by
 refine hb.blk hq (fun hm=>?_)
 obtain⟨_,a,t,ht,hc⟩:=h.wrTy ok q hm
 rw[hq]at ht
 injection ht with ht
 injection ht with _ ht
 subst ht
 rcases hc with e | e | e | e
 ·exact n1 e
 ·exact n2 e
 ·exact n3 e
 ·exact n4 e
theorem JX.step (ok:UKok w0 K) (h:JX w0 K w tk xs ln at' next rs gl rv gv tv ts) (hb:ButL (twr K rv gv) w w') {tk2:Nat} {xs2:List RcD} {ln2 at2 next2:Int} {rs2:List M.SD} {gl2:List (Nat × Int)} {rv2 gv2:Value}
  (mac:MachAt w' K.gm (mt K tk2 rv2 tv)) (cal:CallAt w' K.gf (K.c ln2 at2 next2 gv2 rs2)) (gu:ORow w' w0.heap.size 277 1 vC gv2 (gl2.map fun g=>caV g.1)) (gb:∀g∈gl2,g∈gl∨w'.heap[g.1]?=some (Ct0 g.2)) (rc:ORow w' w0.heap.size 67 5 rgC rv2 xs2) (lr:rs2.length=250):JX w0 K w' tk2 xs2 ln2 at2 next2 rs2 gl2 rv2 gv2 tv ts:=by
 refine⟨hb.below h.bel (fun g hg=>(h.wrTy ok g hg).1) h.bel.size,mac,cal,h.keep ok hb h.tsk (by decide) (by decide) (by decide) (by decide),h.keep ok hb h.cro (by decide) (by decide) (by decide) (by decide),h.keep ok hb h.row (by decide) (by decide) (by decide) (by decide),hb.blk h.cha (fun hm=>?_),gu,fun g hg=>?_,rc,lr,ORow.butn h.tb hb (fun g e hg=>?_),h.tn⟩
 ·obtain⟨_,a,t,ht,_⟩:=h.wrTy ok _ hm
  rw[h.cha]at ht;cases ht
 ·rcases gb g hg with e | e
  ·exact h.keep ok hb (h.gb g e) (by decide) (by decide) (by decide) (by decide)
  ·exact e
 ·obtain⟨_,a,t,ht,hc⟩:=h.wrTy ok g hg
  obtain⟨cur,h2⟩:=ORow.ty h.tb e
  rw[h2]at ht
  injection ht with ht
  injection ht with _ ht
  subst ht
  rcases hc with e | e | e | e<;>exact absurd e (by decide)
theorem JX.mf (h:JX w0 K w tk xs ln at' next rs gl rv gv tv ts):K.gm≠K.gf:=ne_ty h.mac h.cal (by decide)
theorem JX.sub (h:JX w0 K w tk xs ln at' next rs gl rv gv tv ts) {S:List Nat} (hb:ButL S w w') (hS:∀g∈S,g∈twr K rv gv):ButL (twr K rv gv) w w':=hb.mono (fun g hg=>.inl (hS g hg))
theorem JX.call (ok:UKok w0 K) (h:JX w0 K w tk xs ln at' next rs gl rv gv tv ts) {ln2 at2 next2:Int} {rs2:List M.SD} (hb:ButL [K.gf] w w') (hc:CallAt w' K.gf (K.c ln2 at2 next2 gv rs2)) (hl:rs2.length=250):JX w0 K w' tk xs ln2 at2 next2 rs2 gl rv gv tv ts :=
 h.step ok (h.sub hb (fun g hg=>by simp at hg;subst hg;simp[twr])) (h.mac.but hb (by simp;exact h.mf)) hc (ORow.butn h.gu hb (fun g e hg=>by simp at hg;subst hg;exact own_ne h.gu h.cal (by decide) e)) (fun g hg=>.inl hg) (ORow.butn h.rc hb (fun g e hg=>by simp at hg;subst hg;exact own_ne h.rc h.cal (by decide) e)) hl
theorem JX.mach (ok:UKok w0 K) (h:JX w0 K w tk xs ln at' next rs gl rv gv tv ts) {tk2:Nat} (hb:ButL [K.gm] w w') (hm:MachAt w' K.gm (mt K tk2 rv tv)):JX w0 K w' tk2 xs ln at' next rs gl rv gv tv ts :=
 h.step ok (h.sub hb (fun g hg=>by simp at hg;subst hg;simp[twr])) hm (h.cal.but hb (by simp;exact h.mf.symm)) (ORow.butn h.gu hb (fun g e hg=>by simp at hg;subst hg;exact own_ne h.gu h.mac (by decide) e)) (fun g hg=>.inl hg) (ORow.butn h.rc hb (fun g e hg=>by simp at hg;subst hg;exact own_ne h.rc h.mac (by decide) e)) h.lr
theorem JX.later (ok:UKok w0 K) (h:JX w0 K w tk xs ln at' next rs gl rv gv tv ts) (hb:Below w.heap.size w w'):JX w0 K w' tk xs ln at' next rs gl rv gv tv ts :=
 h.call ok (ButL.of_below hb) (h.cal.later hb) h.lr
theorem JX.recd (ok:UKok w0 K) (h:JX w0 K w tk xs ln at' next rs gl rv gv tv ts) {rv2:Value} {x:RcD} (hb:ButL (K.gm :: rv.ownBlock.toList) w w') (hm:MachAt w' K.gm (mt K tk rv2 tv)) (hr:ORow w' w0.heap.size 67 5 rgC rv2 (xs++[x])):JX w0 K w' tk (xs++[x]) ln at' next rs gl rv2 gv tv ts:=by
 refine h.step ok (h.sub hb (fun g hg=>?_)) hm (h.cal.but hb ?_) (ORow.butn h.gu hb (fun g e hg=>?_)) (fun g hg=>.inl hg) hr h.lr
 ·simp only[List.mem_cons,Option.mem_toList]at hg
  simp only[twr,List.mem_cons,List.mem_append,Option.mem_toList]
  rcases hg with e | e
  ·exact .inl e
  ·exact .inr (.inr (.inr e))
 ·simp only[List.mem_cons,Option.mem_toList,not_or]
  exact⟨h.mf.symm,own_ne h.rc h.cal (by decide)⟩
 ·simp only[List.mem_cons,Option.mem_toList]at hg
  rcases hg with rfl | hg
  ·exact own_ne h.gu h.mac (by decide) e
  ·obtain⟨_,cur,h2⟩:=own_blk h.rc hg
   exact own_ne h.gu h2 (by decide) e
theorem JX.guard (ok:UKok w0 K) (h:JX w0 K w tk xs ln at' next rs gl rv gv tv ts) {gv2:Value} {gl2:List (Nat × Int)} (hb:ButL (K.gf :: gv.ownBlock.toList) w w') (hc:CallAt w' K.gf (K.c ln at' next gv2 rs)) (hg2:ORow w' w0.heap.size 277 1 vC gv2 (gl2.map fun g=>caV g.1)) (gb:∀g∈gl2,g∈gl∨w'.heap[g.1]?=some (Ct0 g.2)):JX w0 K w' tk xs ln at' next rs gl2 rv gv2 tv ts:=by
 refine h.step ok (h.sub hb (fun g hg=>?_)) (h.mac.but hb ?_) hc hg2 gb (ORow.butn h.rc hb (fun g e hg=>?_)) h.lr
 ·simp only[List.mem_cons,Option.mem_toList]at hg
  simp only[twr,List.mem_cons,List.mem_append,Option.mem_toList]
  rcases hg with e | e
  ·exact .inr (.inl e)
  ·exact .inr (.inr (.inl e))
 ·simp only[List.mem_cons,Option.mem_toList,not_or]
  exact⟨h.mf,own_ne h.gu h.mac (by decide)⟩
 ·simp only[List.mem_cons,Option.mem_toList]at hg
  rcases hg with rfl | hg
  ·exact own_ne h.rc h.cal (by decide) e
  ·obtain⟨_,cur,h2⟩:=own_blk h.gu hg
   exact own_ne h.rc h2 (by decide) e
theorem JX.tka (ok:UKok w0 K) (h:JX w0 K w tk xs ln at' next rs gl rv gv tv ts):TkAt w K.gt K.gc K.gf :=
 ⟨⟨K.cc,by rw[blk_cell h.tsk];rfl,ok.cc1⟩,by rw[blk_cell h.tsk];rfl,by rw[blk_cell h.cro];exact ok.ca0⟩
theorem JX.thr (ok:UKok w0 K) (h:JX w0 K w tk xs ln at' next rs gl rv gv tv ts) (h0:ln=0):ThR w K.gm K.gt K.gc K.gf K.bp K.op K.capP (mt K tk rv tv) (K.c ln at' next gv rs) :=
 ⟨h.mac,ok.run,h.tka ok,h.cal,ok.pro,h0,ok.prs,cell_later h.bel ok.nam⟩
theorem JX.ov (ok:UKok w0 K) (h:JX w0 K w tk xs ln at' next rs gl rv gv tv ts):OvV w (some K.ov):=ok.ovr.later h.bel
theorem JX.both (ok:UKok w0 K) (h:JX w0 K w tk xs ln at' next rs gl rv gv tv ts) {tk2:Nat} {ln2 at2 next2:Int} {rs2:List M.SD} (hb:ButL [K.gm,K.gf] w w') (hm:MachAt w' K.gm (mt K tk2 rv tv)) (hc:CallAt w' K.gf (K.c ln2 at2 next2 gv rs2)) (hl:rs2.length=250):JX w0 K w' tk2 xs ln2 at2 next2 rs2 gl rv gv tv ts:=by
 refine h.step ok (h.sub hb (fun g hg=>?_)) hm hc (ORow.butn h.gu hb (fun g e hg=>?_)) (fun g hg=>.inl hg) (ORow.butn h.rc hb (fun g e hg=>?_)) hl
 ·simp only[List.mem_cons,List.not_mem_nil,or_false]at hg
  simp only[twr,List.mem_cons]
  rcases hg with e | e
  ·exact .inl e
  ·exact .inr (.inl e)
 ·simp only[List.mem_cons,List.not_mem_nil,or_false]at hg
  rcases hg with rfl | rfl
  ·exact own_ne h.gu h.mac (by decide) e
  ·exact own_ne h.gu h.cal (by decide) e
 ·simp only[List.mem_cons,List.not_mem_nil,or_false]at hg
  rcases hg with rfl | rfl
  ·exact own_ne h.rc h.mac (by decide) e
  ·exact own_ne h.rc h.cal (by decide) e
end
end Go.Proofs.YtliahjnnbbgooaaGreatDoor.J
