import Derived.Test.YtjglgbepobmjhaaGreatDoorP38
import Derived.Deep.CutRange
import Derived.Deep.WholeRow
set_option linter.unusedVariables false
set_option linter.unusedSimpArgs false
set_option maxRecDepth 20000
set_option maxHeartbeats 8000000
namespace Go.Proofs.YtjglgbepobmjhaaGreatDoor.M
open Go.RowKit
attribute [local go_sem] run_store_float
theorem ne_ty {w:World} {g g':Nat} {a a':Array Value} {t t':TypeId} (h:w.heap[g]?=some (.cells a t)) (h':w.heap[g']?=some (.cells a' t')) (ht:t≠t'):g≠g':=by
 rintro rfl
 rw[h]at h'
 injection h' with h'
 injection h' with _ h'
 exact ht h'
theorem own_ne {α:Type} {w:World} {B:Nat} {et:TypeId} {k:Nat} {cells:α→List Value} {sv:Value} {xs:List α} (ho:ORow w B et k cells sv xs) {g:Nat} {a:Array Value} {t:TypeId} (h:w.heap[g]?=some (.cells a t)) (ht:t≠et):sv.ownBlock≠some g:=by
 intro e
 rcases ho.2 with ⟨e1,_⟩ | ⟨g0,c0,cur,e1,_,e3,_⟩
 ·rw[e1]at e;cases e
 ·rw[e1]at e
  have e':g0=g:=Option.some.inj e
  subst e'
  exact ne_ty h e3 ht rfl
theorem _root_.Go.Proofs.YtjglgbepobmjhaaGreatDoor.ButL.undrew {S:List Nat} {w w':World} (h:ButL S w.drew w'):ButL S w w':=⟨h.os,h.tape,h.output,h.size,h.block⟩
theorem doTable_any (B gm gf i:Nat) (n:ID) (m:MachD) (c:CallD) (gs:List Nat) (w:World) (hm:MachAt w gm m) (hc:CallAt w gf c) (ho:ORow w B 292 1 pC m.tables gs) (ha:n.a=i) (hi:i<250) (hr:c.regs.length=250) (hl:gs.length≤1000) (hB:B≤w.heap.size) (h0:m.living=0) (h1:0≤m.since) (h2:m.since+1≤m.cells) (h3:m.cells≤1000000) (h4:0≤m.made) (h5:m.made≤100000) :
  Calls Tryz.prog 86 #[.pointer (some ⟨gm,0,none⟩),.pointer (some ⟨gf,0,none⟩),insV n] w fun e w'=>e=.returned .nilIface∧∃tv gn,MachAt w' gm { m with since:=m.since+1,made:=m.made+1,tables:=tv }∧CallAt w' gf { c with regs:=c.regs.set i (sdV (tabV gs.length)) }∧ORow w' B 292 1 pC tv (gs++[gn])∧w.heap.size≤gn∧w'.heap[gn]?=some ShO∧ButL (gm :: gf :: m.tables.ownBlock.toList) w w':=by
 obtain⟨op,a,b,cc,d⟩:=n
 dsimp only[insV]at ha ⊢
 subst ha
 have hmf:gm≠gf:=ne_ty hm hc (by decide)
 have hb:=bw1 w (InO ⟨op,i,b,cc,d⟩)
 have HM:Hid (MachAt (w.alloc (InO ⟨op,i,b,cc,d⟩)) gm m):=hm.later hb
 have HC:Hid (CallAt (w.alloc (InO ⟨op,i,b,cc,d⟩)) gf c):=hc.later hb
 have HO:Hid (ORow (w.alloc (InO ⟨op,i,b,cc,d⟩)) B 292 1 pC m.tables gs):=ho.later hb
 have HI:Hid ((w.alloc (InO ⟨op,i,b,cc,d⟩)).heap[w.heap.size]?=some (InO ⟨op,i,b,cc,d⟩)):=blk_new _ _
 have HB:Hid (ButL (gm :: gf :: m.tables.ownBlock.toList) w (w.alloc (InO ⟨op,i,b,cc,d⟩))):=ButL.of_below hb
 have HBs:Hid (B≤(w.alloc (InO ⟨op,i,b,cc,d⟩)).heap.size):=by show B≤_;simp;omega
 have HL:Hid (w.heap.size<(w.alloc (InO ⟨op,i,b,cc,d⟩)).heap.size):=by show w.heap.size<_;simp
 have HF:Hid (gf<w.heap.size∧gm<w.heap.size):=⟨blk_lt hc,blk_lt hm⟩
 clear hm hc ho hb
 go_enter Tryz.func86,Tryz.ntmps86
 go_wp2_with fail
 refine (spend_ok gm m 1 _ HM.out (by omega) (by omega) h1 (by omega) h3 h4 (by omega)).mono ?_
 rintro e w1 ⟨rfl,hm1,hb1⟩
 have HM1:Hid _:=hm1
 have HC1:Hid (CallAt w1 gf c):=HC.out.but hb1 (by simp;exact hmf.symm)
 have HO1:Hid (ORow w1 B 292 1 pC m.tables gs):=HO.out.butn hb1 (fun q e hq=>own_ne HO.out HM.out (by decide) (by simpa using (by rw[e];simpa using hq)))
 have HI1:Hid (w1.heap[w.heap.size]?=some (InO ⟨op,i,b,cc,d⟩)):=hb1.blk HI.out (by simp;exact fun e=>ne_ty HM.out HI.out (by decide) e.symm)
 have HB1:Hid (ButL (gm :: gf :: m.tables.ownBlock.toList) w w1):=HB.out.then hb1 (fun q hq=>.inl (by simp at hq ⊢;exact .inl hq))
 have hsz1:=hb1.size
 clear hm1 hb1 HM HC HO HB
 have d1:w1.cell? ⟨w.heap.size,1,none⟩=some (.int .i64 (i:Int)):=by rw[blk_cell HI1.out];rfl
 go_wp2_with fail
 go_region_with (first | (go_at_call 165;refine (newTable_any B gm _ gs w1.drew HM1.out HO1.out (by omega) (by have:=HBs.out;show B≤w1.heap.size;omega)).mono ?_;rintro e w2 ⟨rfl,tv,gn,hm2,ho2,hgn,hn2,hb2⟩;have HM2:Hid _:=hm2;have HO2:Hid _:=ho2;have HN2:Hid _:=hn2;have HB2:Hid (ButL (gm :: m.tables.ownBlock.toList) w1 w2):=hb2.undrew;have HC2:Hid (CallAt w2 gf c):=HC1.out.but hb2.undrew (by simp;exact⟨hmf.symm,own_ne HO1.out HC1.out (by decide)⟩);have HI2:Hid (w2.heap[w.heap.size]?=some (InO ⟨op,i,b,cc,d⟩)):=hb2.undrew.blk HI1.out (by simp;exact⟨fun e=>ne_ty HM1.out HI1.out (by decide) e.symm,own_ne HO1.out HI1.out (by decide)⟩);have d2:w2.cell? ⟨w.heap.size,1,none⟩=some (.int .i64 (i:Int)):=(by rw[blk_cell HI2.out];rfl);have hgn2:w1.heap.size≤gn:=hgn;clear hm2 ho2 hn2 hb2 hgn) | (go_at_call 126;refine (put_any gf i (tabV gs.length) c _ HC2.out hr hi).mono ?_;rintro e w3 ⟨rfl,hc3,hb3⟩;have HC3:Hid _:=hc3;have HB3:Hid (ButL [gf] w2 w3):=hb3;clear hc3 hb3))
 all_goals
  go_wp2_with fail
  go_ret
  refine⟨rfl,tv,gn,MachAt.but HM2.out HB3.out (by simp;exact hmf),HC3.out,ORow.butn HO2.out HB3.out (fun q e hq=>own_ne HO2.out HC2.out (by decide) (by simpa using (by rw[e];simpa using hq))),by have:=HL.out;omega,HB3.out.blk HN2.out (by simp;exact fun e=>ne_ty HC2.out HN2.out (by decide) e.symm),?_⟩
  refine (HB1.out.then HB2.out (fun q hq=>.inl ?_)).then HB3.out (fun q hq=>.inl ?_)
  ·simp at hq ⊢;exact hq.imp id .inr
  ·simp at hq ⊢;exact .inr (.inl hq)
theorem put_int (g i:Nat) (p:Int) (hp:p=(i:Int)) (v:VD) (c:CallD) (w:World) (h:CallAt w g c) (hr:c.regs.length=250) (hi:i<250) :
  Calls Tryz.prog 126 #[.pointer (some ⟨g,0,none⟩),.int .i64 p,.agg #[.int .i64 v.k,.int .i64 v.n,.float .f64 v.f,.string v.s,.int .i64 v.r]] w fun e w'=>e=.returned (.tuple #[])∧CallAt w' g { c with regs:=c.regs.set i (sdV v) }∧ButL [g] w w':=by
 subst hp
 exact put_any g i v c w h hr hi
def intD (n:Int):VD:=⟨2,n,0,⟨#[]⟩,0⟩
theorem doEach_any (B gm gf i r gn:Nat) (n:ID) (m:MachD) (c:CallD) (gs:List Nat) (w:World) (hm:MachAt w gm m) (hc:CallAt w gf c) (ho:ORow w B 292 1 pC m.tables gs) (ha:n.a=i) (hi:i+1<250) (hr:c.regs.length=250) (hl:gs.length≤1000) (hs:c.regs[i]?=some (sdV (tabV r))) (hgr:gs[r]?=some gn) (hn:w.heap[gn]?=some ShO) :
  Calls Tryz.prog 108 #[.pointer (some ⟨gm,0,none⟩),.pointer (some ⟨gf,0,none⟩),insV n] w fun e w'=>e=.returned .nilIface∧CallAt w' gf { c with regs:=c.regs.set (i+1) (sdV (intD 0)) }∧ButL [gf] w w':=by
 obtain⟨op,a,b,cc,d⟩:=n
 dsimp only[insV]at ha ⊢
 subst ha
 obtain⟨W,hW⟩:∃W,w.alloc (InO ⟨op,i,b,cc,d⟩)=W:=⟨_,rfl⟩
 have hb:=bw1 w (InO ⟨op,i,b,cc,d⟩)
 have bn:=blk_new w (InO ⟨op,i,b,cc,d⟩)
 have hsz:W.heap.size=w.heap.size+1:=by rw[←hW];simp
 rw[hW]at hb bn
 have hc':CallAt W gf c:=hc.later hb
 have hgl:=blk_lt hc
 have k1:W.cell? ⟨gf,14+i*8+1,none⟩=some (.int .i64 5):=by have:=hc'.reg hs (j:=1) rfl;rwa [←Nat.add_assoc]at this
 have k2:W.cell? ⟨gf,14+i*8+2,none⟩=some (.int .i64 0):=by have:=hc'.reg hs (j:=2) rfl;rwa [←Nat.add_assoc]at this
 have k3:W.cell? ⟨gf,14+i*8+3,none⟩=some (.float .f64 0):=by have:=hc'.reg hs (j:=3) rfl;rwa [←Nat.add_assoc]at this
 have k4:W.cell? ⟨gf,14+i*8+4,none⟩=some (.string ⟨#[]⟩):=by have:=hc'.reg hs (j:=4) rfl;rwa [←Nat.add_assoc]at this
 have k5:W.cell? ⟨gf,14+i*8+5,none⟩=some (.int .i64 (r:Int)):=by have:=hc'.reg hs (j:=5) rfl;rwa [←Nat.add_assoc]at this
 have d1:W.cell? ⟨w.heap.size,1,none⟩=some (.int .i64 (i:Int)):=by rw[blk_cell bn];rfl
 have HM:Hid (MachAt W gm m):=hm.later hb
 have HC:Hid (CallAt W gf c):=hc'
 have HO:Hid (ORow W B 292 1 pC m.tables gs):=ho.later hb
 have HN:Hid (W.heap[gn]?=some ShO):=blk_later hb hn
 have HI:Hid (W.heap[w.heap.size]?=some (InO ⟨op,i,b,cc,d⟩)):=bn
 have HB:Hid (Below w.heap.size w W):=hb
 clear hm hc hc' ho hn bn hb
 go_enter Tryz.func108,Tryz.ntmps108
 go_wp2_with fail
 clear hW
 go_region
 go_wp2_with fail
 have hb9:=bw1 W (.cells #[.int .i64 5,.int .i64 0,.float .f64 0,.string ⟨#[]⟩,.int .i64 (r:Int)] 70)
 have hm9:=MachAt.later HM.out hb9
 have ho9:=ORow.later HO.out hb9
 have hn9:=blk_later hb9 HN.out
 refine (handler_none B gm r gn m gs _ (W.alloc (.cells #[.int .i64 5,.int .i64 0,.float .f64 0,.string ⟨#[]⟩,.int .i64 (r:Int)] 70)).drew hm9 ho9 hgr hn9 (by omega)).mono ?_
 rintro e w1 ⟨rfl,hx⟩
 have hb1:Below W.heap.size W w1:=hb9.trans ((und1 hx).mono hb9.size)
 have HC1:Hid (CallAt w1 gf c):=CallAt.later HC.out hb1
 have HI1:Hid (w1.heap[w.heap.size]?=some (InO ⟨op,i,b,cc,d⟩)):=blk_later hb1 HI.out
 have HB1:Hid (Below w.heap.size w w1):=HB.out.trans (hb1.mono HB.out.size)
 have d2:w1.cell? ⟨w.heap.size,1,none⟩=some (.int .i64 (i:Int)):=by rw[blk_cell HI1.out];rfl
 have hgl1:gf<w1.heap.size:=blk_lt HC1.out
 clear hx hb1 hb9 hm9 ho9 hn9 k1 k2 k3 k4 k5 d1
 go_wp2_with fail
 obtain⟨W2,hW2⟩:∃W2,w1.alloc (.cells #[.int .i64 0,.int .i64 0,.float .f64 0,.string ⟨#[]⟩,.int .i64 0] 70)=W2:=⟨_,rfl⟩
 rw[hW2]
 have hb2:=bw1 w1 (.cells #[.int .i64 0,.int .i64 0,.float .f64 0,.string ⟨#[]⟩,.int .i64 0] 70)
 rw[hW2]at hb2
 have HC2:Hid (CallAt W2 gf c):=CallAt.later HC1.out hb2
 have HI2:Hid (W2.heap[w.heap.size]?=some (InO ⟨op,i,b,cc,d⟩)):=blk_later hb2 HI1.out
 have HB2:Hid (Below w.heap.size w W2):=HB1.out.trans (hb2.mono HB1.out.size)
 have d3:W2.cell? ⟨w.heap.size,1,none⟩=some (.int .i64 (i:Int)):=by rw[blk_cell HI2.out];rfl
 clear hb2 hW2 d2 HC1 HI1 HB1 hgl1
 go_region_with (first | (go_at_call 182;refine (intValue_any 0 _).mono ?_;rintro e w3 ⟨rfl,hx⟩;replace hx:=und1 hx;have HC3:Hid (CallAt w3 gf c):=CallAt.later HC2.out hx;have HI3:Hid (w3.heap[w.heap.size]?=some (InO ⟨op,i,b,cc,d⟩)):=blk_later hx HI2.out;have HB3:Hid (Below w.heap.size w w3):=HB2.out.trans (hx.mono HB2.out.size);have d4:w3.cell? ⟨w.heap.size,1,none⟩=some (.int .i64 (i:Int)):=(by rw[blk_cell HI3.out];rfl);clear hx) | (go_at_call 126;refine (put_int gf (i+1) _ ((IntWalk.i64_in _ (by omega)).trans (by simp)) (intD 0) c _ HC3.out hr hi).mono ?_;rintro e w4 ⟨rfl,hc4,hb4⟩;have HC4:Hid _:=hc4;have HB4:Hid (ButL [gf] w3 w4):=hb4;clear hc4 hb4))
 all_goals
  go_wp2_with fail
  go_ret
  exact⟨rfl,HC4.out,(ButL.of_below HB3.out).trans HB4.out⟩
end Go.Proofs.YtjglgbepobmjhaaGreatDoor.M
namespace Go.Proofs.YtjglgbepobmjhaaGreatDoor.M
open Go.RowKit
attribute [local go_sem] run_store_float
def instA:Array Value:=instT.toArray
def buiA:Array Value:=buiT.toArray
theorem wpList_store_new {P:Program} {w:World} {ops:Array Oper} {rest:List Oper} {o:Oper} {a:Act} {Q:Exit→Act→World→Prop} (hgd:o.guard=none) (t:TypeId) (x y:Operand) (ho:o.op=.store t x y) (c c':Array Value)
  (hx:a.eval x=.pointer (some ⟨w.heap.size,0,none⟩)) (hy:a.eval y=.agg c') (hi:(P.info? t).map (·.size)=some c'.size) (hs:c.size=c'.size) (h1:c'.all (·.oneCell')=true)
  (h:wpList P ops Q rest (a.put o.dst undef) (w.alloc (.cells c' t))):wpList P ops Q (o :: rest) a (w.alloc (.cells c t)) :=
 wpList_plain hgd fun _ hK=>by
  unfold Oper.wp
  simp only[execOp,ho,hx,hy,Sem.run_bind,run_storeAt_new w t c c' hi hs h1,Result.andThen_ok,Sem.run_pure,Oper.upon_skip]
  exact hK _ _ h
theorem results_new {P:Program} {fn:Func} {w:World} {tmps:Array Value} (k:Nat) (t:TypeId) (c:Array Value) (n:Nat) (e:TypeId) (hres:fn.results=#[.cell k t]) (hk:tmps.getD k undef=.pointer (some ⟨w.heap.size,0,none⟩)) (hu:P.underlying t=some (.array n e)) (hi:(P.info? t).map (·.size)=some c.size) :
  (results fn tmps).run P (w.alloc (.cells c t))=.ok (.agg c) (w.alloc (.cells c t)):=by
 have hl:=run_loadVar_new (P:=P) w t c n e hu hi
 have hk':tmps[k]?.getD undef=.pointer (some ⟨w.heap.size,0,none⟩):=by rw[←hk];simp[Array.getD_eq_getD_getElem?]
 simp[results,hres,hk',asAddr,hl,Result.andThen]
theorem built_any (w:World):Calls Tryz.prog 46 #[] w fun e w'=>e=.returned (.agg buiA)∧Below w.heap.size w w':=by
 go_enter Tryz.func46,Tryz.ntmps46
 go_wp2_with (refine wpList_store_new rfl 93 _ _ rfl _ _ rfl rfl (by kernel_rfl) (by kernel_rfl) (by kernel_rfl) ?_)
 exact bodyPost_ret (v:=.agg buiA) (results_new 0 93 _ 15 92 Tryz.results46 rfl Tryz.underlying93 (by kernel_rfl)) rfl ⟨rfl,bw1 _ _⟩
theorem instr_any (w:World):Calls Tryz.prog 45 #[] w fun e w'=>e=.returned (.agg instA)∧Below w.heap.size w w':=by
 go_enter Tryz.func45,Tryz.ntmps45
 go_wp2_with (refine wpList_store_new rfl 89 _ _ rfl _ _ rfl rfl (by kernel_rfl) (by kernel_rfl) (by kernel_rfl) ?_)
 exact bodyPost_ret (v:=.agg instA) (results_new 0 89 _ 43 88 Tryz.results45 rfl Tryz.underlying89 (by kernel_rfl)) rfl ⟨rfl,bw1 _ _⟩
end Go.Proofs.YtjglgbepobmjhaaGreatDoor.M
namespace Go.Proofs.YtjglgbepobmjhaaGreatDoor.M
open Go.RowKit
attribute [local go_sem] run_store_float
theorem mk_chan (W:World):(Instr.makeChan 141 (.int .i64 0)).run Tryz.prog W=.ok (.chan (some W.heap.size)) (W.alloc (.chan 0 #[] false 0 0 false)):=by kernel_rfl
def taskA (calls:Value) (gch:Nat) (st:Int):Array Value:=#[.int .i64 0,.int .i64 0,.int .i64 st,.int .i64 0,.int .i64 0,.float .f64 0,.string ⟨#[]⟩,.int .i64 0,calls,.chan (some gch),.pointer none,.bool false,.pointer none,.slice none 0 0]
theorem newTask_any (g:Nat) (m:MachD) (w:World) (h:MachAt w g m) (ht:m.tasks=.slice none 0 0) :
  Calls Tryz.prog 47 #[.pointer (some ⟨g,0,none⟩),.agg #[.int .i64 0,.int .i64 0,.float .f64 0,.string ⟨#[]⟩,.int .i64 0]] w fun e w'=>∃gt gk gch cap,e=.returned (.pointer (some ⟨gt,0,none⟩))∧MachAt w' g { m with tasks:=.slice (some ⟨gk,0,none⟩) 1 cap }∧w'.heap[gt]?=some (.cells (taskA (.slice none 0 0) gch 0) 145)∧w'.heap[gch]?=some (.chan 0 #[] false 0 0 false)∧w.heap.size≤gt∧w.heap.size≤gch∧ORow w' w.heap.size 97 1 pC (.slice (some ⟨gk,0,none⟩) 1 cap) [gt]∧ButL [g] w w':=by
 have hmk:=mk_chan
 have hgl:=blk_lt h
 obtain⟨W,hW⟩:∃W,w.alloc (.cells #[.int .i64 0,.int .i64 0,.float .f64 0,.string ⟨#[]⟩,.int .i64 0] 70)=W:=⟨_,rfl⟩
 have hb:=bw1 w (.cells #[.int .i64 0,.int .i64 0,.float .f64 0,.string ⟨#[]⟩,.int .i64 0] 70)
 have bn:=blk_new w (.cells #[.int .i64 0,.int .i64 0,.float .f64 0,.string ⟨#[]⟩,.int .i64 0] 70)
 have hsz:W.heap.size=w.heap.size+1:=by rw[←hW];simp
 rw[hW]at hb bn
 have hm:=h.later hb
 have c74:W.cell? ⟨g,74,none⟩=some (.slice none 0 0):=by rw[hm.cell,←ht];rfl
 have d0:W.cell? ⟨w.heap.size,0,none⟩=some (.int .i64 0):=by rw[blk_cell bn];rfl
 have d1:W.cell? ⟨w.heap.size,1,none⟩=some (.int .i64 0):=by rw[blk_cell bn];rfl
 have d2:W.cell? ⟨w.heap.size,2,none⟩=some (.float .f64 0):=by rw[blk_cell bn];rfl
 have d3:W.cell? ⟨w.heap.size,3,none⟩=some (.string ⟨#[]⟩):=by rw[blk_cell bn];rfl
 have d4:W.cell? ⟨w.heap.size,4,none⟩=some (.int .i64 0):=by rw[blk_cell bn];rfl
 have hc1:=bw1 W (.chan 0 #[] false 0 0 false)
 have e0:=cell_later hc1 d0
 have e1:=cell_later hc1 d1
 have e2:=cell_later hc1 d2
 have e3:=cell_later hc1 d3
 have e4:=cell_later hc1 d4
 have e5:=cell_later hc1 c74
 clear hc1
 obtain⟨W1,hW1⟩:∃W1,((W.alloc (.chan 0 #[] false 0 0 false)).alloc (.cells #[.int .i64 0,.int .i64 0,.int .i64 0,.int .i64 0,.int .i64 0,.float .f64 0,.string ⟨#[]⟩,.int .i64 0,.slice none 0 0,.chan (some (w.heap.size+1)),.pointer none,.bool false,.pointer none,.slice none 0 0] 145)).drew=W1:=⟨_,rfl⟩
 have hb1:Below W.heap.size W W1:=by rw[←hW1];exact (bw2 W (.chan 0 #[] false 0 0 false) (.cells #[.int .i64 0,.int .i64 0,.int .i64 0,.int .i64 0,.int .i64 0,.float .f64 0,.string ⟨#[]⟩,.int .i64 0,.slice none 0 0,.chan (some (w.heap.size+1)),.pointer none,.bool false,.pointer none,.slice none 0 0] 145)).drew
 have hsz1:W1.heap.size=w.heap.size+1+1+1:=by rw[←hW1];simp[hsz]
 have hm1:MachAt W1 g m:=hm.later hb1
 have ht1:W1.heap[w.heap.size+1+1]?=some (.cells (taskA (.slice none 0 0) (w.heap.size+1) 0) 145):=by rw[←hW1];exact blk_newn (by simp[hsz]) _
 have hc1:W1.heap[w.heap.size+1]?=some (.chan 0 #[] false 0 0 false):=by rw[←hW1];exact blk_old (blk_newn (by omega) _) _
 have f74:W1.cell? ⟨g,74,none⟩=some (.slice none 0 0):=by rw[hm1.cell,←ht];rfl
 have hy:=bw1 W1 (.cells #[.pointer (some ⟨w.heap.size+1+1,0,none⟩)] 97)
 obtain⟨g',cap',w2,hr,ho2,hg2⟩:=(ORow.nil (W1.alloc (.cells #[.pointer (some ⟨w.heap.size+1+1,0,none⟩)] 97)) w.heap.size 97 1 pC).app 96 8 Tryz.underlying96 (by kernel_rfl) (by omega) (by omega) (w.heap.size+1+1) (w.heap.size+1+1+1) 96 (show (W1.alloc (.cells #[.pointer (some ⟨w.heap.size+1+1,0,none⟩)] 97)).heap[w.heap.size+1+1+1]?=_ from blk_newn (by omega) _) rfl (by intro u hu;simp[pC]at hu;subst hu;rfl) (by simp) (by simp;omega)
 have hb2:Below W1.heap.size W1 w2:=ButL.nil (ButL.grown (S:=[]) ((ButL.refl [] W1).alloc _) hg2 (fun b e=>by cases e))
 have hm2:MachAt w2 g m:=hm1.later hb2
 have g74:w2.cell? ⟨g,74,none⟩=some (.slice none 0 0):=by rw[hm2.cell,←ht];rfl
 have z2:=blk_frozen hm2
 have HE:Hid (MachAt (w2.setCell ⟨g,74,none⟩ (.slice (some ⟨g',0,none⟩) 1 cap')) g { m with tasks:=.slice (some ⟨g',0,none⟩) 1 cap' }∧(w2.setCell ⟨g,74,none⟩ (.slice (some ⟨g',0,none⟩) 1 cap')).heap[w.heap.size+1+1]?=some (.cells (taskA (.slice none 0 0) (w.heap.size+1) 0) 145)∧(w2.setCell ⟨g,74,none⟩ (.slice (some ⟨g',0,none⟩) 1 cap')).heap[w.heap.size+1]?=some (.chan 0 #[] false 0 0 false)∧w.heap.size≤w.heap.size+1+1∧w.heap.size≤w.heap.size+1∧ORow (w2.setCell ⟨g,74,none⟩ (.slice (some ⟨g',0,none⟩) 1 cap')) w.heap.size 97 1 pC (.slice (some ⟨g',0,none⟩) 1 cap') [w.heap.size+1+1]∧ButL [g] w (w2.setCell ⟨g,74,none⟩ (.slice (some ⟨g',0,none⟩) 1 cap'))):=by
  refine⟨?_,blk_other (blk_later hb2 ht1) (by omega) _ _,blk_other (blk_later hb2 hc1) (by omega) _ _,by omega,by omega,ORow.set_own ho2 (own_ne ho2 hm2 (by decide)) _ _,?_⟩
  ·have:=blk_set hm2 74 (.slice (some ⟨g',0,none⟩) 1 cap')
   rw[MachD.set_tasks]at this
   exact this
  ·exact ((((ButL.of_below hb).thenB hb1).thenB hb2)).set (by simp) _ _
 have HR:Hid _:=hr
 clear h hm hb bn hb1 hm1 ht1 hc1 hy ho2 hg2 hb2 hm2 hr
 go_enter Tryz.func47,Tryz.ntmps47
 go_wp2_with fail
 clear hW
 go_region
 go_wp2_with (at_builtin;refine wpList_append_run rfl _ _ _ rfl _ _ _ _ rfl rfl HR.out ?_)
 go_ret
 exact⟨_,_,_,_,rfl,HE.out⟩
end Go.Proofs.YtjglgbepobmjhaaGreatDoor.M
