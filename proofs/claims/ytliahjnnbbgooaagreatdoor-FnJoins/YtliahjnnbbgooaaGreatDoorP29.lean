import Derived.Test.YtliahjnnbbgooaaGreatDoorP28
import Derived.Test.YtliahjnnbbgooaaGreatDoorP01
import Derived.Test.YtliahjnnbbgooaaGreatDoorP09
import Derived.RangeFuncCalls
import Derived.OwnWalkIn
import Derived.OrdersIn
set_option linter.unusedVariables false
set_option linter.unusedSimpArgs false
set_option maxRecDepth 20000
set_option maxHeartbeats 8000000
namespace Go.Proofs.YtliahjnnbbgooaaGreatDoor.T
open Go.RowKit M
attribute [local go_sem] run_store_float
theorem small0 (w:World):Calls Tryz.prog 339 #[.int .i64 0] w fun e w'=>e=.returned (.string ⟨#[48]⟩)∧w'=w:=by
 go_enter Tryz.func339,Tryz.ntmps339
 go_wp2_with fail
 go_ret
 exact⟨rfl,rfl⟩
theorem format0 (w:World):Calls Tryz.prog 328 #[.int .i64 0,.int .i64 10] w fun e w'=>e=.returned (.string ⟨#[48]⟩)∧w'=w:=by
 go_enter Tryz.func328,Tryz.ntmps328
 go_wp2_with fail
 refine (small0 _).mono ?_
 rintro e w1 ⟨rfl,rfl⟩
 go_wp2_with fail
 go_ret
 exact⟨rfl,rfl⟩
theorem iitoa0 (w:World):Calls Tryz.prog 306 #[.int .i64 0] w fun e w'=>e=.returned (.string ⟨#[48]⟩)∧w'=w:=by
 go_enter Tryz.func306,Tryz.ntmps306
 go_wp2_with fail
 refine (format0 _).mono ?_
 rintro e w1 ⟨rfl,rfl⟩
 go_wp2_with fail
 go_ret
 exact⟨rfl,rfl⟩
theorem itoa0 (w:World):Calls Tryz.prog 267 #[.int .i64 0] w fun e w'=>e=.returned (.string ⟨#[48]⟩)∧w'=w:=by
 go_enter Tryz.func267,Tryz.ntmps267
 go_wp2_with fail
 refine (iitoa0 _).mono ?_
 rintro e w1 ⟨rfl,rfl⟩
 go_wp2_with fail
 go_ret
 exact⟨rfl,rfl⟩
theorem m_int_text (d:Nat) (v:Value) (w:World):(method (d+1) 284 v "loop.example/punch/impl.text").run Tryz.prog w=.ok (389,v) w:=by kernel_rfl
attribute [local go_sem] m_int_text
end Go.Proofs.YtliahjnnbbgooaaGreatDoor.T
namespace Go.Proofs.YtliahjnnbbgooaaGreatDoor.T
open Go.RowKit M
attribute [local go_sem] run_store_float
def ovI (p:Option Addr):Value:=.iface 484 (.pointer p)
def OvV (w:World) (p:Option Addr):Prop:=w.cell? ⟨1,0,none⟩=some (ovI p)
theorem OvV.later {w w':World} {p:Option Addr} (h:OvV w p) (hb:Below w.heap.size w w'):OvV w' p:=cell_later hb h
theorem tick_over (g:Nat) (m:MachD) (p:Option Addr) (w:World) (h:MachAt w g m) (ho:OvV w p) (he:m.rticks=m.ticks) :
  Calls Tryz.prog 136 #[.pointer (some ⟨g,0,none⟩)] w fun e w'=>e=.returned (ovI p)∧Below w.heap.size w w':=by
 have c12:w.cell? ⟨g,12,none⟩=some (.int .i64 m.ticks):=by rw[h.cell,←he];rfl
 have c3:w.cell? ⟨g,3,none⟩=some (.int .i64 m.ticks):=by rw[h.cell];rfl
 have c0:w.cell? ⟨1,0,none⟩=some (.iface 484 (.pointer p)):=ho
 clear h he ho
 go_enter Tryz.func136,Tryz.ntmps136
 go_wp2_with fail
 go_region
 go_wp2_with fail
 go_ret
 exact⟨rfl,(Below.refl _ _).drew⟩
theorem tick_go (g:Nat) (m:MachD) (w:World) (h:MachAt w g m) (he:m.rticks<m.ticks) (h0:0≤m.rticks) (h1:m.ticks≤100000) :
  Calls Tryz.prog 136 #[.pointer (some ⟨g,0,none⟩)] w fun e w'=>e=.returned .nilIface∧MachAt w' g { m with rticks:=m.rticks+1 }∧ButL [g] w w':=by
 have c12:w.cell? ⟨g,12,none⟩=some (.int .i64 m.rticks):=by rw[h.cell];rfl
 have c3:w.cell? ⟨g,3,none⟩=some (.int .i64 m.ticks):=by rw[h.cell];rfl
 have hne:¬m.rticks=m.ticks:=by omega
 have z:=blk_frozen h
 have HM:Hid (MachAt w g m):=h
 clear h
 go_enter Tryz.func136,Tryz.ntmps136
 go_wp2_with fail
 go_region
 go_wp2_with fail
 go_ret
 refine⟨rfl,?_,((ButL.refl _ _).drew).set (by simp) _ _⟩
 have h9:=blk_set (w:=w.drew) HM.out 12 (.int .i64 (m.rticks+1))
 rw[MachD.set_ticks]at h9
 exact h9
theorem doTick_over (g gf:Nat) (n:ID) (m:MachD) (p:Option Addr) (w:World) (h:MachAt w g m) (ho:OvV w p) (he:m.rticks=m.ticks) :
  Calls Tryz.prog 53 #[.pointer (some ⟨g,0,none⟩),.pointer (some ⟨gf,0,none⟩),insV n] w fun e w'=>e=.returned (ovI p)∧Below w.heap.size w w':=by
 obtain⟨op,a,b,cc,d⟩:=n
 dsimp only[insV]
 have HB:Hid _:=bw1 w (InO ⟨op,a,b,cc,d⟩)
 have HC:Hid (MachAt (w.alloc (InO ⟨op,a,b,cc,d⟩)) g m):=h.later HB.out
 have HO:Hid (OvV (w.alloc (InO ⟨op,a,b,cc,d⟩)) p):=ho.later HB.out
 clear h ho
 go_enter Tryz.func53,Tryz.ntmps53
 go_wp2_with fail
 refine (tick_over g m p _ HC.out HO.out he).mono ?_
 rintro e w1 ⟨rfl,hb1⟩
 have HB1:Hid _:=hb1
 clear hb1
 go_wp2_with fail
 go_ret
 exact⟨rfl,HB.out.trans (HB1.out.mono (by simp))⟩
theorem doTick_go (g gf:Nat) (n:ID) (m:MachD) (w:World) (h:MachAt w g m) (he:m.rticks<m.ticks) (h0:0≤m.rticks) (h1:m.ticks≤100000) :
  Calls Tryz.prog 53 #[.pointer (some ⟨g,0,none⟩),.pointer (some ⟨gf,0,none⟩),insV n] w fun e w'=>e=.returned .nilIface∧MachAt w' g { m with rticks:=m.rticks+1 }∧ButL [g] w w':=by
 obtain⟨op,a,b,cc,d⟩:=n
 dsimp only[insV]
 have HB:Hid _:=bw1 w (InO ⟨op,a,b,cc,d⟩)
 have HC:Hid (MachAt (w.alloc (InO ⟨op,a,b,cc,d⟩)) g m):=h.later HB.out
 clear h
 go_enter Tryz.func53,Tryz.ntmps53
 go_wp2_with fail
 refine (tick_go g m _ HC.out he h0 h1).mono ?_
 rintro e w1 ⟨rfl,hm1,hb1⟩
 have HM1:Hid _:=hm1
 have HB1:Hid _:=hb1
 clear hb1 hm1
 go_wp2_with fail
 go_ret
 exact⟨rfl,HM1.out,(ButL.of_below HB.out).trans HB1.out⟩
structure TkAt (w:World) (gt gc gf:Nat):Prop where
 calls:∃cap,w.cell? ⟨gt,8,none⟩=some (.slice (some ⟨gc,0,none⟩) 1 cap)∧1≤cap
 num:w.cell? ⟨gt,1,none⟩=some (.int .i64 0)
 call:w.cell? ⟨gc,0,none⟩=some (.pointer (some ⟨gf,0,none⟩))
theorem topen_any (gt gc gf:Nat) (w:World) (h:TkAt w gt gc gf) :
  Calls Tryz.prog 205 #[.pointer (some ⟨gt,0,none⟩)] w fun e w'=>e=.returned (.pointer (some ⟨gf,0,none⟩))∧∃n,w'=w.drewN n:=by
 obtain⟨cap,c8,hcap⟩:=h.calls
 have c0:=h.call
 clear h
 go_enter Tryz.func205,Tryz.ntmps205
 go_wp2_with fail
 go_region
 go_wp2_with fail
 go_ret
 exact⟨rfl,1,rfl⟩
end Go.Proofs.YtliahjnnbbgooaaGreatDoor.T
namespace Go.Proofs.YtliahjnnbbgooaaGreatDoor.M
open Go.RowKit
attribute [local go_sem] run_store_float
theorem ne_ty {w:World} {g g':Nat} {a a':Array Value} {t t':TypeId} (h:w.heap[g]?=some (.cells a t)) (h':w.heap[g']?=some (.cells a' t')) (ht:t≠t'):g≠g':=by
 rintro rfl
 rw[h]at h'
 injection h' with h'
 injection h' with _ h'
 exact ht h'
theorem own_ne {α:Type} {w:World} {B:Nat} {et:TypeId} {k:Nat} {cells:α→List Value} {sv:Value} {xs:List α} (ho:ORow w B et k cells sv xs) {g:Nat} {a:Array Value} {t:TypeId} (h:w.heap[g]?=some (.cells a t)) (ht:t≠et):sv.ownBlock≠some g:=by
 intro e
 rcases ho.2 with ⟨e1,_⟩ | ⟨g0,c0,cur,e1,_,e3,_⟩
 ·rw[e1]at e;cases e
 ·rw[e1]at e
  have e':g0=g:=Option.some.inj e
  subst e'
  exact ne_ty h e3 ht rfl
theorem _root_.Go.Proofs.YtliahjnnbbgooaaGreatDoor.ButL.undrew {S:List Nat} {w w':World} (h:ButL S w.drew w'):ButL S w w':=⟨h.os,h.tape,h.output,h.size,h.block⟩
def intD (n:Int):VD:=⟨2,n,0,⟨#[]⟩,0⟩
end Go.Proofs.YtliahjnnbbgooaaGreatDoor.M
namespace Go.Proofs.YtliahjnnbbgooaaGreatDoor.T
open Go.RowKit M
attribute [local go_sem] run_store_float
def rcC (k:Int):List Value:=[.int .i64 k,.int .i64 0,.int .i64 0,.int .i64 0,.string ⟨#[55]⟩]
theorem ORow.drew {α:Type} {w:World} {B:Nat} {et:TypeId} {k:Nat} {cells:α→List Value} {sv:Value} {xs:List α} (h:ORow w B et k cells sv xs):ORow w.drew B et k cells sv xs:=h
theorem watch_any (p i:Value) (w:World):Calls Tryz.prog 10 #[p,i] w fun e w'=>e=.returned .nilIface∧w'=w:=by
 go_enter Tryz.func10,Tryz.ntmps10
 go_wp2_with fail
 go_ret
 exact⟨rfl,rfl⟩
end Go.Proofs.YtliahjnnbbgooaaGreatDoor.T
namespace Go.Proofs.YtliahjnnbbgooaaGreatDoor.T
open Go.RowKit M
attribute [local go_sem] run_store_float
theorem TkAt.drewN {w:World} {gt gc gf:Nat} (h:TkAt w gt gc gf) (n:Nat):TkAt (w.drewN n) gt gc gf:=⟨h.calls,h.num,h.call⟩
theorem TkAt.later {w w':World} {gt gc gf:Nat} (h:TkAt w gt gc gf) (hb:Below w.heap.size w w'):TkAt w' gt gc gf:=by
 obtain⟨⟨cap,h1,h2⟩,h3,h4⟩:=h
 exact⟨⟨cap,cell_later hb h1,h2⟩,cell_later hb h3,cell_later hb h4⟩
theorem line_any (gt gc gf:Nat) (c:CallD) (w:World) (h:TkAt w gt gc gf) (hc:CallAt w gf c) :
  Calls Tryz.prog 169 #[.pointer (some ⟨gt,0,none⟩)] w fun e w'=>e=.returned (.int .i64 c.line)∧∃n,w'=w.drewN n:=by
 have HT:Hid (TkAt w gt gc gf):=h
 have HC:Hid (CallAt w gf c):=hc
 clear h hc
 go_enter Tryz.func169,Tryz.ntmps169
 go_wp2_with fail
 refine (topen_any gt gc gf _ HT.out).mono ?_
 rintro e w1 ⟨rfl,n,rfl⟩
 have c11:(w.drewN n).cell? ⟨gf,11,none⟩=some (.int .i64 c.line):=by rw[(HC.out.drewN n).cell 11 (by omega)];rfl
 go_wp2_with fail
 go_ret
 exact⟨rfl,n,rfl⟩
theorem join1 (ga cap:Nat) (s sep:ByteArray) (w:World) (h:w.cell? ⟨ga,0,none⟩=some (.string s)) :
  Calls Tryz.prog 168 #[.slice (some ⟨ga,0,none⟩) 1 cap,.string sep] w fun e w'=>e=.returned (.string s)∧w'=w:=by
 go_enter Tryz.func168,Tryz.ntmps168
 go_wp2_with fail
 go_ret
 exact⟨rfl,rfl⟩
end Go.Proofs.YtliahjnnbbgooaaGreatDoor.T
namespace Go.Proofs.YtliahjnnbbgooaaGreatDoor.U
open Go.RowKit M T
attribute [local go_sem] run_store_float
def vA (v:VD):Value:=.agg #[.int .i64 v.k,.int .i64 v.n,.float .f64 v.f,.string v.s,.int .i64 v.r]
abbrev vO (v:VD):Obj:=.cells #[.int .i64 v.k,.int .i64 v.n,.float .f64 v.f,.string v.s,.int .i64 v.r] 49
theorem vO_cells {W:World} {b:Nat} {v:VD} (h:W.heap[b]?=some (vO v)):W.cell? ⟨b,0,none⟩=some (.int .i64 v.k)∧W.cell? ⟨b,1,none⟩=some (.int .i64 v.n)∧W.cell? ⟨b,2,none⟩=some (.float .f64 v.f)∧W.cell? ⟨b,3,none⟩=some (.string v.s)∧W.cell? ⟨b,4,none⟩=some (.int .i64 v.r):=by
 refine⟨?_,?_,?_,?_,?_⟩<;>(rw[blk_cell h];rfl)
theorem ntext_any (w:World):Calls Tryz.prog 383 #[.agg #[]] w fun e w'=>e=.returned (.string ⟨#[110,105,108]⟩)∧Below w.heap.size w w':=by
 go_enter Tryz.func383,Tryz.ntmps383
 go_wp2_with fail
 go_ret
 exact⟨rfl,bw1 _ _⟩
theorem stext_any (s:ByteArray) (w:World):Calls Tryz.prog 399 #[.string s] w fun e w'=>e=.returned (.string s)∧w'=w:=by
 go_enter Tryz.func399,Tryz.ntmps399
 go_wp2_with fail
 go_ret
 exact⟨rfl,rfl⟩
theorem m_nil_text (d:Nat) (v:Value) (w:World):(method (d+1) 282 v "loop.example/punch/impl.text").run Tryz.prog w=.ok (383,v) w:=by kernel_rfl
theorem m_str_text (d:Nat) (v:Value) (w:World):(method (d+1) 286 v "loop.example/punch/impl.text").run Tryz.prog w=.ok (399,v) w:=by kernel_rfl
theorem tmN:tmV 0 0 0 ⟨#[]⟩ 0=.iface 282 (.agg #[]):=by
 have h:vok 0 0 0 ⟨#[]⟩ 0=true:=by simp[vok,zr,fz];first | done | rfl | decide
 unfold tmV
 rw[if_neg (by simp[h])]
 simp
theorem tmS (s:ByteArray) (hs:s.size≤4000):tmV 4 0 0 s 0=.iface 286 (.string s):=by
 have h:vok 4 0 0 s 0=true:=by
  have h4:decide ((s.size:Int)≤4000)=true:=by simp;omega
  unfold vok
  rw[if_neg (by omega),if_neg (by omega),if_neg (by omega),if_neg (by omega),if_pos rfl,h4]
  simp[zr,fz]
  first | done | rfl | decide
 unfold tmV
 rw[if_neg (by simp[h])]
 simp
attribute [local go_sem] m_nil_text m_str_text
theorem textN (w:World):Calls Tryz.prog 34 #[.agg #[.int .i64 0,.int .i64 0,.float .f64 0,.string ⟨#[]⟩,.int .i64 0]] w fun e w'=>e=.returned (.string ⟨#[110,105,108]⟩)∧Below w.heap.size w w':=by
 go_enter Tryz.func34,Tryz.ntmps34
 go_wp2_with fail
 refine (term_any 0 0 0 ⟨#[]⟩ 0 _).mono ?_
 rintro e w1 ⟨rfl,hx⟩
 rw[tmN]
 go_wp2_with (go_at_call 383;refine (ntext_any _).mono ?_;rintro e w2 ⟨rfl,hx2⟩)
 go_ret
 have h1:=(bw1 w _).trans (hx.mono (by simp))
 exact⟨rfl,h1.trans (hx2.mono h1.size)⟩
theorem textS (s:ByteArray) (hs:s.size≤4000) (w:World):Calls Tryz.prog 34 #[.agg #[.int .i64 4,.int .i64 0,.float .f64 0,.string s,.int .i64 0]] w fun e w'=>e=.returned (.string s)∧Below w.heap.size w w':=by
 go_enter Tryz.func34,Tryz.ntmps34
 go_wp2_with fail
 refine (term_any 4 0 0 s 0 _).mono ?_
 rintro e w1 ⟨rfl,hx⟩
 rw[tmS s hs]
 go_wp2_with (go_at_call 399;refine (stext_any _ _).mono ?_;rintro e w2 ⟨rfl,rfl⟩)
 go_ret
 exact⟨rfl,(bw1 _ _).trans (hx.mono (by simp))⟩
theorem entry_no (pm:Value) (v:VD) (name:ByteArray) (hv:v.k≠5) (w:World):Calls Tryz.prog 105 #[pm,vA v,.string name] w fun e w'=>e=.returned (.agg #[.int .i64 0,.int .i64 0,.float .f64 0,.string ⟨#[]⟩,.int .i64 0])∧Below w.heap.size w w':=by
 obtain⟨k,n,f,s,r⟩:=v
 dsimp only[vA]at hv ⊢
 go_enter Tryz.func105,Tryz.ntmps105
 go_wp2_with fail
 exact bodyPost_ret (v:=.agg #[.int .i64 0,.int .i64 0,.float .f64 0,.string ⟨#[]⟩,.int .i64 0]) (by simp[results,Tryz.results105,go_sem]) rfl ⟨rfl,bw2 _ _ _⟩
theorem toldS (pm:Value) (s:ByteArray) (hs:s.size≤4000) (w:World):Calls Tryz.prog 35 #[pm,.agg #[.int .i64 4,.int .i64 0,.float .f64 0,.string s,.int .i64 0]] w fun e w'=>e=.returned (.string s)∧Below w.heap.size w w':=by
 obtain⟨W,hW⟩:∃W,w.alloc (vO ⟨4,0,0,s,0⟩)=W:=⟨_,rfl⟩
 have hb:Below w.heap.size w W:=by rw[←hW];exact bw1 _ _
 have bn:W.heap[w.heap.size]?=some (vO ⟨4,0,0,s,0⟩):=by rw[←hW];exact blk_new _ _
 obtain⟨d0,d1,d2,d3,d4⟩:=vO_cells bn
 have HB:Hid (Below w.heap.size w W):=hb
 have HN:Hid (W.heap[w.heap.size]?=some (vO ⟨4,0,0,s,0⟩)):=bn
 clear hb bn
 go_enter Tryz.func35,Tryz.ntmps35
 go_wp2_with fail
 refine (entry_no _ ⟨4,0,0,s,0⟩ _ (by show (4:Int)≠5;decide) _).mono ?_
 rintro e w1 ⟨rfl,hx⟩
 have hb2:Below W.heap.size W (w1.alloc (.cells #[.int .i64 0,.int .i64 0,.float .f64 0,.string ⟨#[]⟩,.int .i64 0] 49)):=hx.trans ((bw1 _ _).mono hx.size)
 obtain⟨f0,f1,f2,f3,f4⟩:=vO_cells (blk_later hb2 HN.out)
 have HX:Hid (Below w.heap.size w (w1.alloc (.cells #[.int .i64 0,.int .i64 0,.float .f64 0,.string ⟨#[]⟩,.int .i64 0] 49))):=HB.out.trans (hb2.mono HB.out.size)
 clear hx hb2 d0 d1 d2 d3 d4 hW
 go_wp2_with fail
 refine (textS s hs _).mono ?_
 rintro e w2 ⟨rfl,hx2⟩
 have HX2:Hid (Below w.heap.size w w2):=HX.out.trans (hx2.mono HX.out.size)
 clear hx2
 go_wp2_with fail
 go_ret
 exact⟨rfl,HX2.out⟩
end Go.Proofs.YtliahjnnbbgooaaGreatDoor.U
namespace Go.Proofs.YtliahjnnbbgooaaGreatDoor.U
open Go.RowKit M T
attribute [local go_sem] run_store_float
structure RcD where
 k:Int
 l:Int
 s:ByteArray
def rgC (x:RcD):List Value:=[.int .i64 x.k,.int .i64 0,.int .i64 0,.int .i64 x.l,.string x.s]
theorem rgC_len (x:RcD):(rgC x).length=5:=rfl
abbrev RgO (x:RcD):Obj:=.cells #[.int .i64 x.k,.int .i64 0,.int .i64 0,.int .i64 x.l,.string x.s] 67
theorem recg_go (B gm:Nat) (x:RcD) (m:MachD) (ks:List RcD) (w:World) (h:MachAt w gm m) (hw:m.watch=.func (.func 10) #[] #[]) (ho:ORow w B 67 5 rgC m.recs ks) (hl:ks.length<100000) (hB:B≤w.heap.size) :
  Calls Tryz.prog 206 #[.pointer (some ⟨gm,0,none⟩),.agg #[.int .i64 x.k,.int .i64 0,.int .i64 0,.int .i64 x.l,.string x.s]] w fun e w'=>e=.returned .nilIface∧∃rv,MachAt w' gm { m with recs:=rv }∧ORow w' B 67 5 rgC rv (ks++[x])∧ButL (gm :: m.recs.ownBlock.toList) w w':=by
 obtain⟨ag,cg,hgv⟩:=ho.val
 obtain⟨W,hW⟩:∃W,w.alloc (RgO x)=W:=⟨_,rfl⟩
 have hb:=bw1 w (RgO x)
 have bn:=blk_new w (RgO x)
 have hsz:W.heap.size=w.heap.size+1:=by rw[←hW];simp
 rw[hW]at hb bn
 have h':MachAt W gm m:=h.later hb
 have hgl:=blk_lt h
 have c8:W.cell? ⟨gm,8,none⟩=some (.slice ag ks.length cg):=by rw[h'.cell,←hgv];rfl
 have d0:W.cell? ⟨w.heap.size,0,none⟩=some (.int .i64 x.k):=by rw[blk_cell bn];rfl
 have d1:W.cell? ⟨w.heap.size,1,none⟩=some (.int .i64 0):=by rw[blk_cell bn];rfl
 have d2:W.cell? ⟨w.heap.size,2,none⟩=some (.int .i64 0):=by rw[blk_cell bn];rfl
 have d3:W.cell? ⟨w.heap.size,3,none⟩=some (.int .i64 x.l):=by rw[blk_cell bn];rfl
 have d4:W.cell? ⟨w.heap.size,4,none⟩=some (.string x.s):=by rw[blk_cell bn];rfl
 have hb2:=bw1 W (RgO x)
 have ho2:=ORow.drew ((ho.later hb).later hb2)
 rw[hgv]at ho2
 obtain⟨g',cap',w2,hr,ho3,hg3⟩:=ho2.app 24 48 Tryz.underlying24 (by kernel_rfl) (by omega) (by omega) x (w.heap.size+1) 24 (show (W.alloc (RgO x)).heap[w.heap.size+1]?=_ from blk_newn (by omega) _) rfl (by intro u hu;simp[rgC]at hu;rcases hu with rfl | rfl | rfl | rfl<;>rfl) (by omega) (by simp;omega)
 have hne:(Value.slice ag ks.length cg).ownBlock≠some gm:=by rw[←hgv];exact own_ne ho h (by decide)
 have hx:∀(q:Nat) o,(W.alloc (RgO x)).heap[q]?=some o→(Value.slice ag ks.length cg).ownBlock≠some q→w2.heap[q]?=some o:=fun q o hq hn=>(hg3.block q (blk_lt hq) (fun e=>hn e.symm)).trans hq
 have h2:MachAt w2 gm m:=hx gm _ (blk_old h' _) hne
 have p8:w2.cell? ⟨gm,8,none⟩=some (.slice ag ks.length cg):=by rw[h2.cell,←hgv];rfl
 have z2:=blk_frozen h2
 obtain⟨W3,hW3⟩:∃W3,w2.setCell ⟨gm,8,none⟩ (.slice (some ⟨g',0,none⟩) (ks.length+1) cap')=W3:=⟨_,rfl⟩
 have HE:Hid (MachAt W3 gm { m with recs:=.slice (some ⟨g',0,none⟩) (ks.length+1) cap' }∧ORow W3 B 67 5 rgC (.slice (some ⟨g',0,none⟩) (ks.length+1) cap') (ks++[x])∧ButL (gm :: m.recs.ownBlock.toList) w W3):=by
  rw[←hW3]
  refine⟨?_,ORow.set_own ho3 (own_ne ho3 h2 (by decide)) _ _,?_⟩
  ·have:=blk_set h2 8 (.slice (some ⟨g',0,none⟩) (ks.length+1) cap')
   rw[MachD.set_recs]at this
   exact this
  ·refine ButL.set ?_ (by simp) _ _
   rw[hgv]
   exact ButL.grown (((ButL.of_below hb).thenB hb2).drew) hg3 (fun q e=>.inl (by rw[e];simp))
 have q8:W3.cell? ⟨gm,8,none⟩=some (.slice (some ⟨g',0,none⟩) (ks.length+1) cap'):=by rw[HE.out.1.cell];rfl
 have q6:W3.cell? ⟨gm,6,none⟩=some (.func (.func 10) #[] #[]):=by rw[HE.out.1.cell,←hw];rfl
 have c8a:(W.alloc (RgO x)).cell? ⟨gm,8,none⟩=some (.slice ag ks.length cg):=cell_later (bw1 _ _) c8
 have hne2:¬(ks.length:Int)=100000:=by omega
 have HR:Hid _:=hr
 clear hr ho3 hg3 hx h2 ho2 hb2 ho h' h bn hb hne
 go_enter Tryz.func206,Tryz.ntmps206
 go_wp2_with fail
 clear hW
 go_region_law (refine step_append_run rfl _ _ _ rfl _ _ _ _ rfl rfl HR.out ?_)
 all_goals
  go_wp2_with fail
  clear HR
  go_region_with (go_at_call 10;refine (watch_any _ _ _).mono ?_;rintro e w5 ⟨rfl,rfl⟩)
 all_goals
  go_wp2_with fail
  go_ret
  refine⟨rfl,_,(HE.out.1:MachAt W3.drew gm _),HE.out.2.1,HE.out.2.2.drew⟩
theorem tell_g (gm gt gc gf:Nat) (x:RcD) (m:MachD) (c:CallD) (R:Value) (Q:World→Prop) (w:World) (h:MachAt w gm m) (hr:m.running=.pointer (some ⟨gt,0,none⟩)) (ht:TkAt w gt gc gf) (hc:CallAt w gf c) (hp:c.proto=0)
  (HQ:∀n,Calls Tryz.prog 206 #[.pointer (some ⟨gm,0,none⟩),.agg #[.int .i64 x.k,.int .i64 0,.int .i64 0,.int .i64 x.l,.string x.s]] (w.drewN n) fun e w'=>e=.returned R∧Q w') :
  Calls Tryz.prog 137 #[.pointer (some ⟨gm,0,none⟩),.int .i64 x.k,.int .i64 x.l,.string x.s] w fun e w'=>e=.returned R∧Q w':=by
 have c75:w.cell? ⟨gm,75,none⟩=some (.pointer (some ⟨gt,0,none⟩)):=by rw[h.cell,←hr];rfl
 have HT:Hid (TkAt w gt gc gf):=ht
 have HC:Hid (CallAt w gf c):=hc
 have HQ':Hid (∀n,Calls Tryz.prog 206 #[.pointer (some ⟨gm,0,none⟩),.agg #[.int .i64 x.k,.int .i64 0,.int .i64 0,.int .i64 x.l,.string x.s]] (w.drewN n) fun e w'=>e=.returned R∧Q w'):=HQ
 clear h ht hc HQ
 go_enter Tryz.func137,Tryz.ntmps137
 go_wp2_with fail
 refine (topen_any gt gc gf _ HT.out).mono ?_
 rintro e w1 ⟨rfl,n,rfl⟩
 have d5:(w.drewN n).cell? ⟨gf,5,none⟩=some (.int .i64 0):=by rw[(HC.out.drewN n).cell 5 (by omega),←hp];rfl
 have d75:(w.drewN n).cell? ⟨gm,75,none⟩=some (.pointer (some ⟨gt,0,none⟩)):=c75
 have d1:(w.drewN n).cell? ⟨gt,1,none⟩=some (.int .i64 0):=HT.out.num
 clear c75
 go_wp2_with fail
 refine (HQ'.out n).mono ?_
 rintro e w2 ⟨rfl,hq⟩
 have HQ2:Hid (Q w2):=hq
 clear hq
 go_wp2_with fail
 go_ret
 exact⟨rfl,HQ2.out⟩
end Go.Proofs.YtliahjnnbbgooaaGreatDoor.U
namespace Go.Proofs.YtliahjnnbbgooaaGreatDoor
open Go.RowKit
theorem oper_in {P:Program} {o:Oper} {a:Act} {w:World} {K:Act→World→Prop} {Q:Exit→Act→World→Prop} (l n:Nat) (hd:∀c,o.op≠.defer c) (h:o.wp P a w K Q):o.wpIn (Fence.wide.inRound l) n P a w K Q:=by
 refine⟨fun _ _=>trivial,?_⟩
 rw[Oper.semAt_plain _ _ _ hd]
 unfold Oper.wp at h
 generalize (execOp a.eval o).run P w=r at *
 cases r with
 | ok x w' =>
  cases x<;>simp only[Oper.upon,Oper.uponIn]at h ⊢
  all_goals first
   | exact h
   | exact⟨(fun e=>by cases e),CallsIn.inRound l (callsIn_wide.2 h)⟩
   | exact⟨(fun e=>by cases e),(fun c cs _=>(let ⟨v,w9,r9,s9⟩:=h c cs;⟨v,w9,r9,stepsIn_wide.2 s9⟩))⟩
 | halt x w'=>cases x<;>simp only[Oper.upon,Oper.uponIn]at h ⊢<;>exact h
theorem wpOpIn_step {P:Program} {ops:Array Oper} {Q:Exit→Act→World→Prop} {l n i:Nat} {o:Oper} {K:Act→World→Prop} {a:Act} {w:World} (ho:ops[i]?=some o) (hd:∀c,o.op≠.defer c)
  (h:∀K':Act→World→Prop,(∀a w,K a w→K' a w)→if Region.wanted o (yielded ops a.tmps)=true then Oper.wp P o a w K' Q else K' (a.put o.dst undef) w):wpOpIn (Fence.wide.inRound l) n P ops Q i K a w:=by
 have h:=h K (fun _ _ h=>h)
 unfold wpOpIn
 rw[ho]
 show if Region.wanted o (yielded ops a.tmps)=true then _ else _
 split
 ·rename_i hw;rw[if_pos hw]at h;exact oper_in l n hd h
 ·rename_i hw;rw[if_neg hw]at h;exact⟨fun _ _=>trivial,h⟩
theorem wpAnyIn_inv {G:Fence} {n:Nat} {P:Program} {ops:Array Oper} {Q:Exit→Act→World→Prop} {md:Region.Mode} (Inv:Array Bool→Act→World→Prop)
  (hstep:∀i listed a w,Inv listed a w→i∈Region.ready md ops listed→wpOpIn G n P ops Q i (Inv (listed.setIfInBounds i true)) a w)
  (hend:∀listed a w,Inv listed a w→Region.ready md ops listed=[]→Q .normal a w) :
  ∀(fuel:Nat) (listed:Array Bool) (a:Act) (w:World),listed.toList.count false≤fuel→Inv listed a w→wpAnyIn G n P md ops Q fuel listed a w:=by
 have hin:∀(listed:Array Bool) (i:Nat),i∈Region.ready md ops listed→listed.toList[i]?=some false:=by
  intro listed i hi
  have h:=(mem_ready.1 hi).1
  rw[Array.getElem?_toList]
  rcases Nat.lt_or_ge i listed.size with h' | h'
  ·simp[h']at h ⊢;exact h
  ·simp[Array.getElem?_eq_none h']at h
 intro fuel
 induction fuel with
 | zero =>
  intro listed a w hc hI
  have hr:Region.ready md ops listed=[]:=by
   cases hr:Region.ready md ops listed with
   | nil=>rfl
   | cons i r =>
    have h:=hin listed i (by rw[hr];simp)
    have:=count_set _ i h
    omega
  exact⟨hr,hend _ _ _ hI hr⟩
 | succ fuel ih =>
  intro listed a w hc hI
  refine⟨hend _ _ _ hI,fun i hi=>?_⟩
  refine wpOpIn_mono (fun a' w' h=>ih _ a' w' ?_ h) (hstep i listed a w hI hi)
  have:=count_set _ i (hin listed i hi)
  rw[Array.toList_setIfInBounds]
  omega
theorem wpIn_region_inv {P:Program} {id l n:Nat} {ops:Array Oper} {Q:Exit→Act→World→Prop} {a:Act} {w:World} (hm:P.follows .mixedOrders=true) (F:Act→Array Bool→Act→World→Prop)
  (h0:F a (Array.replicate ops.size false) a w.drew)
  (hstep:∀i listed a' w',F a listed a' w'→i∈Region.ready .any ops listed→wpOpIn (Fence.wide.inRound l) n P ops Q i (F a (listed.setIfInBounds i true)) a' w')
  (hend:∀listed a' w',F a listed a' w'→Region.ready .any ops listed=[]→Q .normal a' w'):(Code.region id ops true).wpIn (Fence.wide.inRound l) n P Q a w :=
 wpIn_region_any hm (wpAnyIn_inv (F a) hstep hend ops.size _ a w.drew (by simp) h0)
end Go.Proofs.YtliahjnnbbgooaaGreatDoor
