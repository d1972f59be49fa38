import Derived.Test.YtkajknidfoelcaaGreatDoorP28
import Derived.Test.YtkajknidfoelcaaGreatDoorP09
import Derived.RangeFuncCalls
import Derived.OwnWalkIn
import Derived.OrdersIn
set_option linter.unusedVariables false
set_option linter.unusedSimpArgs false
set_option maxRecDepth 20000
set_option maxHeartbeats 8000000
namespace Go.Proofs.YtkajknidfoelcaaGreatDoor.U
open Go.RowKit M T
attribute [local go_sem] run_store_float
def vA (v:VD):Value:=.agg #[.int .i64 v.k,.int .i64 v.n,.float .f64 v.f,.string v.s,.int .i64 v.r]
abbrev vO (v:VD):Obj:=.cells #[.int .i64 v.k,.int .i64 v.n,.float .f64 v.f,.string v.s,.int .i64 v.r] 47
theorem vO_cells {W:World} {b:Nat} {v:VD} (h:W.heap[b]?=some (vO v)):W.cell? ⟨b,0,none⟩=some (.int .i64 v.k)∧W.cell? ⟨b,1,none⟩=some (.int .i64 v.n)∧W.cell? ⟨b,2,none⟩=some (.float .f64 v.f)∧W.cell? ⟨b,3,none⟩=some (.string v.s)∧W.cell? ⟨b,4,none⟩=some (.int .i64 v.r):=by
 refine⟨?_,?_,?_,?_,?_⟩<;>(rw[blk_cell h];rfl)
theorem ntext_any (w:World):Calls Tryz.prog 399 #[.agg #[]] w fun e w'=>e=.returned (.string ⟨#[110,105,108]⟩)∧Below w.heap.size w w':=by
 go_enter Tryz.func399,Tryz.ntmps399
 go_wp2_with fail
 go_ret
 exact⟨rfl,bw1 _ _⟩
theorem stext_any (s:ByteArray) (w:World):Calls Tryz.prog 415 #[.string s] w fun e w'=>e=.returned (.string s)∧w'=w:=by
 go_enter Tryz.func415,Tryz.ntmps415
 go_wp2_with fail
 go_ret
 exact⟨rfl,rfl⟩
theorem m_nil_text (d:Nat) (v:Value) (w:World):(method (d+1) 327 v "loop.example/punch/impl.text").run Tryz.prog w=.ok (399,v) w:=by kernel_rfl
theorem m_str_text (d:Nat) (v:Value) (w:World):(method (d+1) 331 v "loop.example/punch/impl.text").run Tryz.prog w=.ok (415,v) w:=by kernel_rfl
theorem tmN:tmV 0 0 0 ⟨#[]⟩ 0=.iface 327 (.agg #[]):=by
 have h:vok 0 0 0 ⟨#[]⟩ 0=true:=by simp[vok,zr,fz];first | done | rfl | decide
 unfold tmV
 rw[if_neg (by simp[h])]
 simp
theorem tmS (s:ByteArray) (hs:s.size≤4000):tmV 4 0 0 s 0=.iface 331 (.string s):=by
 have h:vok 4 0 0 s 0=true:=by
  have h4:decide ((s.size:Int)≤4000)=true:=by simp;omega
  unfold vok
  rw[if_neg (by omega),if_neg (by omega),if_neg (by omega),if_neg (by omega),if_pos rfl,h4]
  simp[zr,fz]
  first | done | rfl | decide
 unfold tmV
 rw[if_neg (by simp[h])]
 simp
attribute [local go_sem] m_nil_text m_str_text
theorem textN (w:World):Calls Tryz.prog 53 #[.agg #[.int .i64 0,.int .i64 0,.float .f64 0,.string ⟨#[]⟩,.int .i64 0]] w fun e w'=>e=.returned (.string ⟨#[110,105,108]⟩)∧Below w.heap.size w w':=by
 go_enter Tryz.func53,Tryz.ntmps53
 go_wp2_with fail
 refine (term_any 0 0 0 ⟨#[]⟩ 0 _).mono ?_
 rintro e w1 ⟨rfl,hx⟩
 rw[tmN]
 go_wp2_with (go_at_call 399;refine (ntext_any _).mono ?_;rintro e w2 ⟨rfl,hx2⟩)
 go_ret
 have h1:=(bw1 w _).trans (hx.mono (by simp))
 exact⟨rfl,h1.trans (hx2.mono h1.size)⟩
theorem textS (s:ByteArray) (hs:s.size≤4000) (w:World):Calls Tryz.prog 53 #[.agg #[.int .i64 4,.int .i64 0,.float .f64 0,.string s,.int .i64 0]] w fun e w'=>e=.returned (.string s)∧Below w.heap.size w w':=by
 go_enter Tryz.func53,Tryz.ntmps53
 go_wp2_with fail
 refine (term_any 4 0 0 s 0 _).mono ?_
 rintro e w1 ⟨rfl,hx⟩
 rw[tmS s hs]
 go_wp2_with (go_at_call 415;refine (stext_any _ _).mono ?_;rintro e w2 ⟨rfl,rfl⟩)
 go_ret
 exact⟨rfl,(bw1 _ _).trans (hx.mono (by simp))⟩
theorem entry_no (pm:Value) (v:VD) (name:ByteArray) (hv:v.k≠5) (w:World):Calls Tryz.prog 134 #[pm,vA v,.string name] w fun e w'=>e=.returned (.agg #[.int .i64 0,.int .i64 0,.float .f64 0,.string ⟨#[]⟩,.int .i64 0])∧Below w.heap.size w w':=by
 obtain⟨k,n,f,s,r⟩:=v
 dsimp only[vA]at hv ⊢
 go_enter Tryz.func134,Tryz.ntmps134
 go_wp2_with fail
 exact bodyPost_ret (v:=.agg #[.int .i64 0,.int .i64 0,.float .f64 0,.string ⟨#[]⟩,.int .i64 0]) (by simp[results,Tryz.results134,go_sem]) rfl ⟨rfl,bw2 _ _ _⟩
theorem toldS (pm:Value) (s:ByteArray) (hs:s.size≤4000) (w:World):Calls Tryz.prog 54 #[pm,.agg #[.int .i64 4,.int .i64 0,.float .f64 0,.string s,.int .i64 0]] w fun e w'=>e=.returned (.string s)∧Below w.heap.size w w':=by
 obtain⟨W,hW⟩:∃W,w.alloc (vO ⟨4,0,0,s,0⟩)=W:=⟨_,rfl⟩
 have hb:Below w.heap.size w W:=by rw[←hW];exact bw1 _ _
 have bn:W.heap[w.heap.size]?=some (vO ⟨4,0,0,s,0⟩):=by rw[←hW];exact blk_new _ _
 obtain⟨d0,d1,d2,d3,d4⟩:=vO_cells bn
 have HB:Hid (Below w.heap.size w W):=hb
 have HN:Hid (W.heap[w.heap.size]?=some (vO ⟨4,0,0,s,0⟩)):=bn
 clear hb bn
 go_enter Tryz.func54,Tryz.ntmps54
 go_wp2_with fail
 refine (entry_no _ ⟨4,0,0,s,0⟩ _ (by show (4:Int)≠5;decide) _).mono ?_
 rintro e w1 ⟨rfl,hx⟩
 have hb2:Below W.heap.size W (w1.alloc (.cells #[.int .i64 0,.int .i64 0,.float .f64 0,.string ⟨#[]⟩,.int .i64 0] 47)):=hx.trans ((bw1 _ _).mono hx.size)
 obtain⟨f0,f1,f2,f3,f4⟩:=vO_cells (blk_later hb2 HN.out)
 have HX:Hid (Below w.heap.size w (w1.alloc (.cells #[.int .i64 0,.int .i64 0,.float .f64 0,.string ⟨#[]⟩,.int .i64 0] 47))):=HB.out.trans (hb2.mono HB.out.size)
 clear hx hb2 d0 d1 d2 d3 d4 hW
 go_wp2_with fail
 refine (textS s hs _).mono ?_
 rintro e w2 ⟨rfl,hx2⟩
 have HX2:Hid (Below w.heap.size w w2):=HX.out.trans (hx2.mono HX.out.size)
 clear hx2
 go_wp2_with fail
 go_ret
 exact⟨rfl,HX2.out⟩
end Go.Proofs.YtkajknidfoelcaaGreatDoor.U
namespace Go.Proofs.YtkajknidfoelcaaGreatDoor.U
open Go.RowKit M T
attribute [local go_sem] run_store_float
structure RcD where
 k:Int
 l:Int
 s:ByteArray
def rgC (x:RcD):List Value:=[.int .i64 x.k,.int .i64 0,.int .i64 0,.int .i64 x.l,.string x.s]
abbrev RgO (x:RcD):Obj:=.cells #[.int .i64 x.k,.int .i64 0,.int .i64 0,.int .i64 x.l,.string x.s] 113
theorem recg_go (B gm:Nat) (x:RcD) (m:MachD) (ks:List RcD) (w:World) (h:MachAt w gm m) (hw:m.watch=.func (.func 19) #[] #[]) (ho:ORow w B 113 5 rgC m.recs ks) (hl:ks.length<100000) (hB:B≤w.heap.size) :
  Calls Tryz.prog 221 #[.pointer (some ⟨gm,0,none⟩),.agg #[.int .i64 x.k,.int .i64 0,.int .i64 0,.int .i64 x.l,.string x.s]] w fun e w'=>e=.returned .nilIface∧∃rv,MachAt w' gm { m with recs:=rv }∧ORow w' B 113 5 rgC rv (ks++[x])∧ButL (gm :: m.recs.ownBlock.toList) w w':=by
 obtain⟨ag,cg,hgv⟩:=ho.val
 obtain⟨W,hW⟩:∃W,w.alloc (RgO x)=W:=⟨_,rfl⟩
 have hb:=bw1 w (RgO x)
 have bn:=blk_new w (RgO x)
 have hsz:W.heap.size=w.heap.size+1:=by rw[←hW];simp
 rw[hW]at hb bn
 have h':MachAt W gm m:=h.later hb
 have hgl:=blk_lt h
 have c8:W.cell? ⟨gm,8,none⟩=some (.slice ag ks.length cg):=by rw[h'.cell,←hgv];rfl
 have d0:W.cell? ⟨w.heap.size,0,none⟩=some (.int .i64 x.k):=by rw[blk_cell bn];rfl
 have d1:W.cell? ⟨w.heap.size,1,none⟩=some (.int .i64 0):=by rw[blk_cell bn];rfl
 have d2:W.cell? ⟨w.heap.size,2,none⟩=some (.int .i64 0):=by rw[blk_cell bn];rfl
 have d3:W.cell? ⟨w.heap.size,3,none⟩=some (.int .i64 x.l):=by rw[blk_cell bn];rfl
 have d4:W.cell? ⟨w.heap.size,4,none⟩=some (.string x.s):=by rw[blk_cell bn];rfl
 have hb2:=bw1 W (RgO x)
 have ho2:=ORow.drew ((ho.later hb).later hb2)
 rw[hgv]at ho2
 obtain⟨g',cap',w2,hr,ho3,hg3⟩:=ho2.app 32 48 Tryz.underlying32 (by kernel_rfl) (by omega) (by omega) x (w.heap.size+1) 32 (show (W.alloc (RgO x)).heap[w.heap.size+1]?=_ from blk_newn (by omega) _) rfl (by intro u hu;simp[rgC]at hu;rcases hu with rfl | rfl | rfl | rfl<;>rfl) (by omega) (by simp;omega)
 have hne:(Value.slice ag ks.length cg).ownBlock≠some gm:=by rw[←hgv];exact own_ne ho h (by decide)
 have hx:∀(q:Nat) o,(W.alloc (RgO x)).heap[q]?=some o→(Value.slice ag ks.length cg).ownBlock≠some q→w2.heap[q]?=some o:=fun q o hq hn=>(hg3.block q (blk_lt hq) (fun e=>hn e.symm)).trans hq
 have h2:MachAt w2 gm m:=hx gm _ (blk_old h' _) hne
 have p8:w2.cell? ⟨gm,8,none⟩=some (.slice ag ks.length cg):=by rw[h2.cell,←hgv];rfl
 have z2:=blk_frozen h2
 obtain⟨W3,hW3⟩:∃W3,w2.setCell ⟨gm,8,none⟩ (.slice (some ⟨g',0,none⟩) (ks.length+1) cap')=W3:=⟨_,rfl⟩
 have HE:Hid (MachAt W3 gm { m with recs:=.slice (some ⟨g',0,none⟩) (ks.length+1) cap' }∧ORow W3 B 113 5 rgC (.slice (some ⟨g',0,none⟩) (ks.length+1) cap') (ks++[x])∧ButL (gm :: m.recs.ownBlock.toList) w W3):=by
  rw[←hW3]
  refine⟨?_,ORow.set_own ho3 (own_ne ho3 h2 (by decide)) _ _,?_⟩
  ·have:=blk_set h2 8 (.slice (some ⟨g',0,none⟩) (ks.length+1) cap')
   rw[MachD.set_recs]at this
   exact this
  ·refine ButL.set ?_ (by simp) _ _
   rw[hgv]
   exact ButL.grown (((ButL.of_below hb).thenB hb2).drew) hg3 (fun q e=>.inl (by rw[e];simp))
 have q8:W3.cell? ⟨gm,8,none⟩=some (.slice (some ⟨g',0,none⟩) (ks.length+1) cap'):=by rw[HE.out.1.cell];rfl
 have q6:W3.cell? ⟨gm,6,none⟩=some (.func (.func 19) #[] #[]):=by rw[HE.out.1.cell,←hw];rfl
 have c8a:(W.alloc (RgO x)).cell? ⟨gm,8,none⟩=some (.slice ag ks.length cg):=cell_later (bw1 _ _) c8
 have hne2:¬(ks.length:Int)=100000:=by omega
 have HR:Hid _:=hr
 clear hr ho3 hg3 hx h2 ho2 hb2 ho h' h bn hb hne
 go_enter Tryz.func221,Tryz.ntmps221
 go_wp2_with fail
 clear hW
 go_region_law (refine step_append_run rfl _ _ _ rfl _ _ _ _ rfl rfl HR.out ?_)
 all_goals
  go_wp2_with fail
  clear HR
  go_region_with (go_at_call 19;refine (watch_any _ _ _).mono ?_;rintro e w5 ⟨rfl,rfl⟩)
 all_goals
  go_wp2_with fail
  go_ret
  refine⟨rfl,_,(HE.out.1:MachAt W3.drew gm _),HE.out.2.1,HE.out.2.2.drew⟩
theorem tell_g (gm gt gc gf:Nat) (x:RcD) (m:MachD) (c:CallD) (R:Value) (Q:World→Prop) (w:World) (h:MachAt w gm m) (hr:m.running=.pointer (some ⟨gt,0,none⟩)) (ht:TkAt w gt gc gf) (hc:CallAt w gf c) (hp:c.proto=0)
  (HQ:∀n,Calls Tryz.prog 221 #[.pointer (some ⟨gm,0,none⟩),.agg #[.int .i64 x.k,.int .i64 0,.int .i64 0,.int .i64 x.l,.string x.s]] (w.drewN n) fun e w'=>e=.returned R∧Q w') :
  Calls Tryz.prog 161 #[.pointer (some ⟨gm,0,none⟩),.int .i64 x.k,.int .i64 x.l,.string x.s] w fun e w'=>e=.returned R∧Q w':=by
 have c75:w.cell? ⟨gm,75,none⟩=some (.pointer (some ⟨gt,0,none⟩)):=by rw[h.cell,←hr];rfl
 have HT:Hid (TkAt w gt gc gf):=ht
 have HC:Hid (CallAt w gf c):=hc
 have HQ':Hid (∀n,Calls Tryz.prog 221 #[.pointer (some ⟨gm,0,none⟩),.agg #[.int .i64 x.k,.int .i64 0,.int .i64 0,.int .i64 x.l,.string x.s]] (w.drewN n) fun e w'=>e=.returned R∧Q w'):=HQ
 clear h ht hc HQ
 go_enter Tryz.func161,Tryz.ntmps161
 go_wp2_with fail
 refine (topen_any gt gc gf _ HT.out).mono ?_
 rintro e w1 ⟨rfl,n,rfl⟩
 have d5:(w.drewN n).cell? ⟨gf,5,none⟩=some (.int .i64 0):=by rw[(HC.out.drewN n).cell 5 (by omega),←hp];rfl
 have d75:(w.drewN n).cell? ⟨gm,75,none⟩=some (.pointer (some ⟨gt,0,none⟩)):=c75
 have d1:(w.drewN n).cell? ⟨gt,1,none⟩=some (.int .i64 0):=HT.out.num
 clear c75
 go_wp2_with fail
 refine (HQ'.out n).mono ?_
 rintro e w2 ⟨rfl,hq⟩
 have HQ2:Hid (Q w2):=hq
 clear hq
 go_wp2_with fail
 go_ret
 exact⟨rfl,HQ2.out⟩
end Go.Proofs.YtkajknidfoelcaaGreatDoor.U
namespace Go.Proofs.YtkajknidfoelcaaGreatDoor
open Go.RowKit
theorem oper_in {P:Program} {o:Oper} {a:Act} {w:World} {K:Act→World→Prop} {Q:Exit→Act→World→Prop} (l n:Nat) (hd:∀c,o.op≠.defer c) (h:o.wp P a w K Q):o.wpIn (Fence.wide.inRound l) n P a w K Q:=by
 refine⟨fun _ _=>trivial,?_⟩
 rw[Oper.semAt_plain _ _ _ hd]
 unfold Oper.wp at h
 generalize (execOp a.eval o).run P w=r at *
 cases r with
 | ok x w' =>
  cases x<;>simp only[Oper.upon,Oper.uponIn]at h ⊢
  all_goals first
   | exact h
   | exact⟨(fun e=>by cases e),CallsIn.inRound l (callsIn_wide.2 h)⟩
   | exact⟨(fun e=>by cases e),(fun c cs _=>(let ⟨v,w9,r9,s9⟩:=h c cs;⟨v,w9,r9,stepsIn_wide.2 s9⟩))⟩
 | halt x w'=>cases x<;>simp only[Oper.upon,Oper.uponIn]at h ⊢<;>exact h
theorem wpOpIn_step {P:Program} {ops:Array Oper} {Q:Exit→Act→World→Prop} {l n i:Nat} {o:Oper} {K:Act→World→Prop} {a:Act} {w:World} (ho:ops[i]?=some o) (hd:∀c,o.op≠.defer c)
  (h:∀K':Act→World→Prop,(∀a w,K a w→K' a w)→if Region.wanted o (yielded ops a.tmps)=true then Oper.wp P o a w K' Q else K' (a.put o.dst undef) w):wpOpIn (Fence.wide.inRound l) n P ops Q i K a w:=by
 have h:=h K (fun _ _ h=>h)
 unfold wpOpIn
 rw[ho]
 show if Region.wanted o (yielded ops a.tmps)=true then _ else _
 split
 ·rename_i hw;rw[if_pos hw]at h;exact oper_in l n hd h
 ·rename_i hw;rw[if_neg hw]at h;exact⟨fun _ _=>trivial,h⟩
theorem wpAnyIn_inv {G:Fence} {n:Nat} {P:Program} {ops:Array Oper} {Q:Exit→Act→World→Prop} {md:Region.Mode} (Inv:Array Bool→Act→World→Prop)
  (hstep:∀i listed a w,Inv listed a w→i∈Region.ready md ops listed→wpOpIn G n P ops Q i (Inv (listed.setIfInBounds i true)) a w)
  (hend:∀listed a w,Inv listed a w→Region.ready md ops listed=[]→Q .normal a w) :
  ∀(fuel:Nat) (listed:Array Bool) (a:Act) (w:World),listed.toList.count false≤fuel→Inv listed a w→wpAnyIn G n P md ops Q fuel listed a w:=by
 have hin:∀(listed:Array Bool) (i:Nat),i∈Region.ready md ops listed→listed.toList[i]?=some false:=by
  intro listed i hi
  have h:=(mem_ready.1 hi).1
  rw[Array.getElem?_toList]
  rcases Nat.lt_or_ge i listed.size with h' | h'
  ·simp[h']at h ⊢;exact h
  ·simp[Array.getElem?_eq_none h']at h
 intro fuel
 induction fuel with
 | zero =>
  intro listed a w hc hI
  have hr:Region.ready md ops listed=[]:=by
   cases hr:Region.ready md ops listed with
   | nil=>rfl
   | cons i r =>
    have h:=hin listed i (by rw[hr];simp)
    have:=count_set _ i h
    omega
  exact⟨hr,hend _ _ _ hI hr⟩
 | succ fuel ih =>
  intro listed a w hc hI
  refine⟨hend _ _ _ hI,fun i hi=>?_⟩
  refine wpOpIn_mono (fun a' w' h=>ih _ a' w' ?_ h) (hstep i listed a w hI hi)
  have:=count_set _ i (hin listed i hi)
  rw[Array.toList_setIfInBounds]
  omega
theorem wpIn_region_inv {P:Program} {id l n:Nat} {ops:Array Oper} {Q:Exit→Act→World→Prop} {a:Act} {w:World} (hm:P.follows .mixedOrders=true) (F:Act→Array Bool→Act→World→Prop)
  (h0:F a (Array.replicate ops.size false) a w.drew)
  (hstep:∀i listed a' w',F a listed a' w'→i∈Region.ready .any ops listed→wpOpIn (Fence.wide.inRound l) n P ops Q i (F a (listed.setIfInBounds i true)) a' w')
  (hend:∀listed a' w',F a listed a' w'→Region.ready .any ops listed=[]→Q .normal a' w'):(Code.region id ops true).wpIn (Fence.wide.inRound l) n P Q a w :=
 wpIn_region_any hm (wpAnyIn_inv (F a) hstep hend ops.size _ a w.drew (by simp) h0)
end Go.Proofs.YtkajknidfoelcaaGreatDoor
