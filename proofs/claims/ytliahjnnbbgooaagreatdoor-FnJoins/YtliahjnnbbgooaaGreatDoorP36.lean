import Derived.Test.YtliahjnnbbgooaaGreatDoorP35
import Derived.Test.YtliahjnnbbgooaaGreatDoorP29
import Derived.Test.YtliahjnnbbgooaaGreatDoorP33
set_option linter.unusedVariables false
set_option linter.unusedSimpArgs false
set_option maxRecDepth 20000
set_option maxHeartbeats 8000000
namespace Go.Proofs.YtliahjnnbbgooaaGreatDoor.J
open Go.RowKit M T U
attribute [local go_sem] run_store_float
def sC (s:ByteArray):List Value:=[.string s]
theorem sC_len (s:ByteArray):(sC s).length=1:=rfl
theorem str_row {w:World} {B:Nat} {sv:Value} {ss:List ByteArray} (s:ByteArray) (ho:ORow w B 9 1 sC sv ss) (hl:ss.length≤1000) (hB:B≤w.heap.size) :
  ∃g' cap' w2,(Builtin.append_ #[25,25] 25 #[sv,.slice (some ⟨w.heap.size,0,none⟩) 1 1]).run Tryz.prog (w.alloc (.cells #[.string s] 9))=.ok (.slice (some ⟨g',0,none⟩) (ss.length+1) cap') w2 ∧
   Hid (ORow w2 B 9 1 sC (.slice (some ⟨g',0,none⟩) (ss.length+1) cap') (ss++[s]))∧Hid ((w.alloc (.cells #[.string s] 9)).grownBy w2 sv.ownBlock):=by
 obtain⟨g',cap',w2,hr,ho2,hg⟩:=ORow.app 25 16 Tryz.underlying25 (by kernel_rfl) (by omega) (by omega) (ORow.later ho (bw1 w (.cells #[.string s] 9))) s w.heap.size 25 (blk_new _ _) (sC_len s) (by intro u hu;simp[sC]at hu;subst hu;rfl) (by omega) (by simp;omega)
 exact⟨g',cap',w2,hr,ho2,hg⟩
theorem print_any (gm gt gc gf n cap:Nat) (a:Option Addr) (xs:List VD) (tx:VD→ByteArray) (line:ByteArray) (m:MachD) (c:CallD) (R:Value) (Q:World→World→Prop) (w:World)
  (h:MachAt w gm m) (hr:m.running=.pointer (some ⟨gt,0,none⟩)) (ht:TkAt w gt gc gf) (hc:CallAt w gf c) (hp:c.proto=0) (hln:c.line=0)
  (hxs:SlA w 5 VD.cells a xs) (hn:xs.length=n) (hn1:n≤250)
  (HT:∀x∈xs,∀W,Calls Tryz.prog 34 #[.agg #[.int .i64 x.k,.int .i64 x.n,.float .f64 x.f,.string x.s,.int .i64 x.r]] W fun e w'=>e=.returned (.string (tx x))∧Below W.heap.size W w')
  (HJ:∀W a' cap',ORow W w.heap.size 9 1 sC (.slice a' n cap') (xs.map tx)→Calls Tryz.prog 168 #[.slice a' n cap',.string ⟨#[32]⟩] W fun e w'=>e=.returned (.string line)∧Below W.heap.size W w')
  (hL:line.size≤4000)
  (HQ:∀wk,Below w.heap.size w wk→Calls Tryz.prog 206 #[.pointer (some ⟨gm,0,none⟩),.agg #[.int .i64 6,.int .i64 0,.int .i64 0,.int .i64 0,.string line]] wk fun e w'=>e=.returned R∧Q wk w') :
  Calls Tryz.prog 84 #[.pointer (some ⟨gm,0,none⟩),.slice a n cap] w fun e w'=>e=.returned (.tuple #[.slice none 0 0,R])∧∃wk,Below w.heap.size w wk∧Q wk w':=by
 have HM:Hid (MachAt w gm m):=h
 have HR:Hid (m.running=.pointer (some ⟨gt,0,none⟩)):=hr
 have HK:Hid (TkAt w gt gc gf):=ht
 have HC:Hid (CallAt w gf c):=hc
 have HX:Hid (SlA w 5 VD.cells a xs):=hxs
 have HN:Hid (xs.length=n):=hn
 have HT':Hid _:=HT
 have HJ':Hid _:=HJ
 have HQ':Hid _:=HQ
 have hLd:decide ((4000:Int)<(line.size:Int))=false:=by simp;omega
 have HP:Hid (c.proto=0):=hp
 have HL:Hid (c.line=0):=hln
 clear h hr ht hc hxs hn HT HJ HQ hp hln
 go_enter Tryz.func84,Tryz.ntmps84
 go_wp2_with fail
 go_loopw [6,12] (fun tv i wr=>∃q:Nat,q≤n∧i=.int .i64 q∧Hid (ORow wr w.heap.size 9 1 sC tv ((xs.take q).map tx))∧Hid (Below w.heap.size w wr)) (fun _ i _=>n-(intOf i).toNat)
 case atStart=>exact⟨0,Nat.zero_le _,rfl,ORow.nil _ _ _ _ _,Below.refl _ _⟩
 case round =>
  obtain⟨q,hq,rfl,HO,HB⟩:=hrel
  obtain⟨av,cv,hv⟩:=ORow.val HO.out
  have hlen:((xs.take q).map tx).length=q:=by rw[List.length_map,List.length_take,HN.out];omega
  rw[hlen]at hv
  subst hv
  by_cases k1:q<n
  ·obtain⟨x,hx⟩:∃x,xs[q]?=some x:=⟨xs[q]'(by rw[HN.out];exact k1),by simp⟩
   obtain⟨b,off,rfl,hbl,hcl⟩:=HX.out q x hx
   have c0:wr.cell? ⟨b,off+q*5,none⟩=some (.int .i64 x.k):=cell_later HB.out (hcl 0 _ rfl)
   have c1:wr.cell? ⟨b,off+q*5+1,none⟩=some (.int .i64 x.n):=cell_later HB.out (hcl 1 _ rfl)
   have c2:wr.cell? ⟨b,off+q*5+2,none⟩=some (.float .f64 x.f):=cell_later HB.out (hcl 2 _ rfl)
   have c3:wr.cell? ⟨b,off+q*5+3,none⟩=some (.string x.s):=cell_later HB.out (hcl 3 _ rfl)
   have c4:wr.cell? ⟨b,off+q*5+4,none⟩=some (.int .i64 x.r):=cell_later HB.out (hcl 4 _ rfl)
   have HTx:=HT'.out x (List.mem_of_getElem? hx)
   have HE:Hid ((xs.take (q+1)).map tx=(xs.take q).map tx++[tx x]):=by show _=_;rw[List.take_add_one,hx];simp
   clear hx hcl
   go_wp2_with fail
   refine (HTx _).mono ?_
   rintro e w1 ⟨rfl,hx1⟩
   have HB1:Hid (Below w.heap.size w w1):=HB.out.trans (((bw1 _ _).trans (hx1.mono (by simp))).mono HB.out.size)
   have ho1:ORow w1 w.heap.size 9 1 sC (.slice av q cv) ((xs.take q).map tx):=ORow.later (ORow.later HO.out (bw1 _ _)) hx1
   obtain⟨g',cap',w2,hrun,HO2,HG2⟩:=str_row (tx x) ho1 (by omega) HB1.out.size
   rw[hlen]at hrun HO2
   have HR2:Hid _:=hrun
   have HB2:Hid (Below w.heap.size w w2):=below_grown (HB1.out.trans ((bw1 w1 (.cells #[.string (tx x)] 9)).mono HB1.out.size)) (by simp;have:=HB1.out.size;omega) (ORow.later ho1 (bw1 _ _)) (Nat.le_refl _) HG2.out
   clear hrun hx1 ho1 HG2 c0 c1 c2 c3 c4 HTx
   go_wp2_with (at_builtin;refine wpList_append_run rfl _ _ _ rfl _ _ _ _ rfl rfl HR2.out ?_)
   go_roundw
   case rel=>exact⟨q+1,by omega,by go_num,by rw[HE.out];exact HO2,HB2⟩
   case measure=>simp[intOf];omega
  ·have hqn:q=n:=by omega
   subst hqn
   have hfull:xs.take q=xs:=List.take_of_length_le (by rw[HN.out];omega)
   have ho1:=HO.out
   rw[hfull]at ho1
   have HJx:=HJ'.out wr av cv ho1
   clear HO ho1
   go_wp2_with fail
   refine HJx.mono ?_
   rintro e w1 ⟨rfl,hx1⟩
   have HB1:Hid (Below w.heap.size w w1):=HB.out.trans (hx1.mono HB.out.size)
   have c75:w1.cell? ⟨gm,75,none⟩=some (.pointer (some ⟨gt,0,none⟩)):=by rw[(HM.out.later HB1.out).cell,←HR.out];rfl
   clear hx1 HJx
   go_wp2_with fail
   refine (line_any gt gc gf c w1 (HK.out.later HB1.out) (HC.out.later HB1.out)).mono ?_
   rintro e w2 ⟨rfl,n2,rfl⟩
   rw[HL.out]
   have HB2:Hid (Below w.heap.size w (w1.drewN n2)):=bdN n2 HB1.out
   have HTe:=tell_g gm gt gc gf ⟨6,0,line⟩ m c R (fun w'=>∃wk,Below w.heap.size w wk∧Q wk w') (w1.drewN n2) (HM.out.later HB2.out) HR.out (HK.out.later HB2.out) (HC.out.later HB2.out) HP.out (fun k=>(HQ'.out _ (bdN k HB2.out)).mono (fun e w' hq=>⟨hq.1,_,bdN k HB2.out,hq.2⟩))
   clear c75
   go_wp2_with fail
   refine HTe.mono ?_
   rintro e w3 ⟨rfl,hq3⟩
   have HQ3:Hid _:=hq3
   clear hq3
   go_wp2_with fail
   exact bodyPost_ret (v:=.tuple #[.slice none 0 0,R]) (by simp[results,Tryz.results84,go_sem]) rfl ⟨rfl,HQ3.out⟩
end Go.Proofs.YtliahjnnbbgooaaGreatDoor.J
namespace Go.Proofs.YtliahjnnbbgooaaGreatDoor.U
open Go.RowKit M T
attribute [local go_sem] run_store_float
theorem elem_nil (w:World):Calls Tryz.prog 100 #[.slice none 0 0,.int .i64 0] w fun e w'=>e=.returned (.agg #[.int .i64 0,.int .i64 0,.float .f64 0,.string ⟨#[]⟩,.int .i64 0])∧Below w.heap.size w w':=by
 go_enter Tryz.func100,Tryz.ntmps100
 go_wp2_with fail
 exact bodyPost_ret (v:=.agg #[.int .i64 0,.int .i64 0,.float .f64 0,.string ⟨#[]⟩,.int .i64 0]) (by simp[results,Tryz.results100,go_sem]) rfl ⟨rfl,bw1 _ _⟩
theorem first_nil (w:World):Calls Tryz.prog 139 #[.slice none 0 0] w fun e w'=>e=.returned (.agg #[.int .i64 0,.int .i64 0,.float .f64 0,.string ⟨#[]⟩,.int .i64 0])∧Below w.heap.size w w':=by
 go_enter Tryz.func139,Tryz.ntmps139
 go_wp2_with fail
 refine (elem_nil _).mono ?_
 rintro e w1 ⟨rfl,hx⟩
 have hr3:=blk_later hx (blk_new w ZvO)
 have r0:w1.cell? ⟨w.heap.size,0,none⟩=some (.int .i64 0):=by rw[blk_cell hr3];rfl
 have r1:w1.cell? ⟨w.heap.size,1,none⟩=some (.int .i64 0):=by rw[blk_cell hr3];rfl
 have r2:w1.cell? ⟨w.heap.size,2,none⟩=some (.float .f64 0):=by rw[blk_cell hr3];rfl
 have r3:w1.cell? ⟨w.heap.size,3,none⟩=some (.string ⟨#[]⟩):=by rw[blk_cell hr3];rfl
 have r4:w1.cell? ⟨w.heap.size,4,none⟩=some (.int .i64 0):=by rw[blk_cell hr3];rfl
 have z3:=blk_frozen hr3
 have HX:Hid (Below w.heap.size w w1):=(bw1 _ _).trans (hx.mono (by simp))
 clear hx hr3
 go_wp2_with fail
 refine bodyPost_ret (v:=.agg #[.int .i64 0,.int .i64 0,.float .f64 0,.string ⟨#[]⟩,.int .i64 0]) (by simp[results,Tryz.results139,go_sem,r0,r1,r2,r3,r4]) rfl ⟨rfl,?_⟩
 exact ButL.nil (but5 (ButL.of_below HX.out) (Nat.le_refl _) _ _ _ _ _)
theorem textOf_nil (pm:Value) (w:World):Calls Tryz.prog 87 #[pm,.slice none 0 0] w fun e w'=>∃g,e=.returned (.tuple #[.slice (some ⟨g,0,none⟩) 1 1,.nilIface])∧w'.heap[g]?=some (vO (strD ⟨#[110,105,108]⟩))∧w.heap.size≤g∧Below w.heap.size w w':=by
 go_enter Tryz.func87,Tryz.ntmps87
 go_wp2_with fail
 refine (first_nil _).mono ?_
 rintro e w1 ⟨rfl,hx1⟩
 have HX1:Hid (Below w.heap.size w w1):=hx1
 clear hx1
 go_wp2_with fail
 refine (textN _).mono ?_
 rintro e w2 ⟨rfl,hx2⟩
 have HX2:Hid (Below w.heap.size w w2):=HX1.out.trans (hx2.mono HX1.out.size)
 clear hx2
 go_wp2_with fail
 refine (strValue_any _ _).mono ?_
 rintro e w3 ⟨rfl,hx3⟩
 have HX3:Hid (Below w.heap.size w w3):=HX2.out.trans (hx3.mono HX2.out.size)
 clear hx3
 go_wp2_with fail
 exact bodyPost_ret (v:=.tuple #[.slice (some ⟨w3.heap.size,0,none⟩) 1 1,.nilIface]) (by simp[results,Tryz.results87,go_sem]) rfl ⟨w3.heap.size,rfl,blk_new _ _,HX3.out.size,HX3.out.trans ((bw1 _ _).mono HX3.out.size)⟩
abbrev txA:Value:=.agg #[.int .i64 8,.int .i64 3,.float .f64 0,.string ⟨#[]⟩,.int .i64 0]
theorem MachD.bui (m:MachD) {q:Nat} (hq:q<15):m.arr[57+q]?=buiT[q]?:=by
 unfold MachD.arr
 rw[List.getElem?_toArray,List.getElem?_append_left (by show 57+q<72;omega),List.getElem?_append_right (by show 57≤57+q;omega)]
 congr 1
 show 57+q-57=q
 omega
theorem cfT (args:Array Value) (W:World):(callFunc 87 args).run Tryz.prog W=.ok (.enter 87 args) W:=by kernel_rfl
theorem callt_go (gm:Nat) (m:MachD) (w:World) (h:MachAt w gm m) (he:m.rticks<m.ticks) (h0:0≤m.rticks) (h1:m.ticks≤100000) :
  Calls Tryz.prog 153 #[.pointer (some ⟨gm,0,none⟩),txA,.slice none 0 0] w fun e w'=>∃g,e=.returned (.tuple #[.slice (some ⟨g,0,none⟩) 1 1,.nilIface])∧w'.heap[g]?=some (vO (strD ⟨#[110,105,108]⟩))∧w.heap.size≤g∧MachAt w' gm { m with rticks:=m.rticks+1 }∧ButL [gm] w w':=by
 obtain⟨W,hW⟩:∃W,w.alloc (vO ⟨8,3,0,⟨#[]⟩,0⟩)=W:=⟨_,rfl⟩
 have hb:Below w.heap.size w W:=by rw[←hW];exact bw1 _ _
 have bn:W.heap[w.heap.size]?=some (vO ⟨8,3,0,⟨#[]⟩,0⟩):=by rw[←hW];exact blk_new _ _
 have HM:Hid (MachAt W gm m):=h.later hb
 have HB:Hid (Below w.heap.size w W):=hb
 have HN:Hid (W.heap[w.heap.size]?=some (vO ⟨8,3,0,⟨#[]⟩,0⟩)):=bn
 have HNE:Hid (w.heap.size≠gm):=by have:=blk_lt h;show _≠_;omega
 clear h hb bn
 go_enter Tryz.func153,Tryz.ntmps153
 go_wp2_with fail
 go_loopw [2,8] (fun a i wr=>a=.slice none 0 0∧i=.int .i64 0∧wr=W) (fun _ _ _=>0)
 case atStart=>exact⟨rfl,rfl,rfl⟩
 case round =>
  obtain⟨rfl,rfl,rfl⟩:=hrel
  clear hW
  go_wp2_with fail
  refine (tick_go gm m _ HM.out he h0 h1).mono ?_
  rintro e w1 ⟨rfl,hm1,hb1⟩
  have bn1:=hb1.blk HN.out (by simp;exact HNE.out)
  obtain⟨d0,d1,d2,d3,d4⟩:=vO_cells bn1
  have q60:w1.cell? ⟨gm,60,none⟩=some (.func (.func 87) #[] #[]):=by rw[hm1.cell,show (60:Nat)=57+3 from rfl,MachD.bui _ (by omega)];rfl
  have HM1:Hid (MachAt w1 gm { m with rticks:=m.rticks+1 }):=hm1
  have HB1:Hid (ButL [gm] w w1):=(ButL.of_below HB.out).trans hb1
  have hcf:=cfT
  clear hm1 hb1 bn1
  go_wp2_with fail
  go_region_with (go_at_call 87;refine (textOf_nil _ _).mono ?_;rintro e w2 ⟨g,rfl,hg,hge,hx2⟩;have HG:Hid (w2.heap[g]?=some (vO (strD ⟨#[110,105,108]⟩))∧w1.heap.size≤g):=⟨hg,hge⟩;have HX2:Hid (Below w1.heap.size w1 w2):=und1' hx2;clear hg hge hx2)
  all_goals
   go_wp2_with fail
   refine bodyPost_ret (v:=.tuple #[.slice (some ⟨g,0,none⟩) 1 1,.nilIface]) (by simp[results,Tryz.results153,go_sem]) rfl ⟨g,rfl,HG.out.1,?_,HM1.out.later HX2.out,HB1.out.thenB HX2.out⟩
   have:=HG.out.2
   have:=HB1.out.size
   omega
end Go.Proofs.YtliahjnnbbgooaaGreatDoor.U
namespace Go.Proofs.YtliahjnnbbgooaaGreatDoor.J
open Go.RowKit M T U
attribute [local go_sem] run_store_float
abbrev prA:Value:=.agg #[.int .i64 8,.int .i64 0,.float .f64 0,.string ⟨#[]⟩,.int .i64 0]
theorem cfP (args:Array Value) (W:World):(callFunc 84 args).run Tryz.prog W=.ok (.enter 84 args) W:=by kernel_rfl
theorem callp_any (gm n cap:Nat) (a:Option Addr) (m:MachD) (R:Value) (P:World→Prop) (w:World) (h:MachAt w gm m) (he:m.rticks<m.ticks) (h0:0≤m.rticks) (h1:m.ticks≤100000)
  (HP:∀W,MachAt W gm { m with rticks:=m.rticks+1 }→ButL [gm] w W→Calls Tryz.prog 84 #[.pointer (some ⟨gm,0,none⟩),.slice a n cap] W fun e w'=>e=.returned (.tuple #[.slice none 0 0,R])∧P w') :
  Calls Tryz.prog 153 #[.pointer (some ⟨gm,0,none⟩),prA,.slice a n cap] w fun e w'=>e=.returned (.tuple #[.slice none 0 0,R])∧P w':=by
 obtain⟨W,hW⟩:∃W,w.alloc (vO ⟨8,0,0,⟨#[]⟩,0⟩)=W:=⟨_,rfl⟩
 have hb:Below w.heap.size w W:=by rw[←hW];exact bw1 _ _
 have bn:W.heap[w.heap.size]?=some (vO ⟨8,0,0,⟨#[]⟩,0⟩):=by rw[←hW];exact blk_new _ _
 have HM:Hid (MachAt W gm m):=h.later hb
 have HB:Hid (Below w.heap.size w W):=hb
 have HN:Hid (W.heap[w.heap.size]?=some (vO ⟨8,0,0,⟨#[]⟩,0⟩)):=bn
 have HNE:Hid (w.heap.size≠gm):=by have:=blk_lt h;show _≠_;omega
 have HP':Hid _:=HP
 clear h hb bn HP
 go_enter Tryz.func153,Tryz.ntmps153
 go_wp2_with fail
 go_loopw [2,8] (fun av i wr=>av=.slice a n cap∧i=.int .i64 0∧wr=W) (fun _ _ _=>0)
 case atStart=>exact⟨rfl,rfl,rfl⟩
 case round =>
  obtain⟨rfl,rfl,rfl⟩:=hrel
  clear hW
  go_wp2_with fail
  refine (tick_go gm m _ HM.out he h0 h1).mono ?_
  rintro e w1 ⟨rfl,hm1,hb1⟩
  have bn1:=hb1.blk HN.out (by simp;exact HNE.out)
  obtain⟨d0,d1,d2,d3,d4⟩:=vO_cells bn1
  have q57:w1.cell? ⟨gm,57,none⟩=some (.func (.func 84) #[] #[]):=by rw[hm1.cell,show (57:Nat)=57+0 from rfl,MachD.bui _ (by omega)];rfl
  have HM1:Hid (MachAt w1 gm { m with rticks:=m.rticks+1 }):=hm1
  have HB1:Hid (ButL [gm] w w1):=(ButL.of_below HB.out).trans hb1
  have hcf:=cfP
  clear hm1 hb1 bn1
  go_wp2_with fail
  go_region_with (go_at_call 84;refine (HP'.out w1.drew HM1.out HB1.out.drew).mono ?_;rintro e w2 ⟨rfl,hp2⟩;have HP2:Hid _:=hp2;clear hp2)
  all_goals
   go_wp2_with fail
   exact bodyPost_ret (v:=.tuple #[.slice none 0 0,R]) (by simp[results,Tryz.results153,go_sem]) rfl ⟨rfl,HP2.out⟩
end Go.Proofs.YtliahjnnbbgooaaGreatDoor.J
namespace Go.Proofs.YtliahjnnbbgooaaGreatDoor.J
open Go.RowKit M T U
attribute [local go_sem] run_store_float
theorem value_neg (g i:Nat) (x:Int) (h0:Int) (v:VD) (pb la:Option Addr) (ln lc:Nat) (c:CallD) (w:World) (h:CallAt w g c) (hr:c.regs.length=250) (hi:i<250) (hx:x<0) (hxi:-1-x=(i:Int)) (hs:c.regs[i]?=some ⟨h0,v,.pointer pb,.slice la ln lc⟩) :
  Calls Tryz.prog 138 #[.pointer (some ⟨g,0,none⟩),.int .i64 x] w fun e w'=>e=.returned (.agg #[.int .i64 v.k,.int .i64 v.n,.float .f64 v.f,.string v.s,.int .i64 v.r])∧CallAt w' g { c with regs:=c.regs.set i sd0 }∧ButL [g] w w':=by
 have hF:=run_fldS h0 v pb la ln lc
 have hgl:=blk_lt h
 have HC:Hid (CallAt (w.alloc ZvO) g c):=h.later (bw1 _ _)
 clear h
 go_enter Tryz.func138,Tryz.ntmps138
 go_wp2_with fail
 refine (operand_neg g i x h0 v pb la ln lc c _ HC.out hr hi hx hxi hs).mono ?_
 rintro e w1 ⟨rfl,hc1,hb1⟩
 have hr3:=hb1.blk (blk_new w ZvO) (by simp;omega)
 have r0:w1.cell? ⟨w.heap.size,0,none⟩=some (.int .i64 0):=by rw[blk_cell hr3];rfl
 have r1:w1.cell? ⟨w.heap.size,1,none⟩=some (.int .i64 0):=by rw[blk_cell hr3];rfl
 have r2:w1.cell? ⟨w.heap.size,2,none⟩=some (.float .f64 0):=by rw[blk_cell hr3];rfl
 have r3:w1.cell? ⟨w.heap.size,3,none⟩=some (.string ⟨#[]⟩):=by rw[blk_cell hr3];rfl
 have r4:w1.cell? ⟨w.heap.size,4,none⟩=some (.int .i64 0):=by rw[blk_cell hr3];rfl
 have z3:=blk_frozen hr3
 have HC1:Hid (CallAt w1 g { c with regs:=c.regs.set i sd0 }):=hc1
 have HB:Hid (ButL [g] w w1):=(ButL.of_below (bw1 _ _)).trans hb1
 clear hc1 hb1 hr3
 go_wp2_with fail
 refine bodyPost_ret (v:=.agg #[.int .i64 v.k,.int .i64 v.n,.float .f64 v.f,.string v.s,.int .i64 v.r]) (by simp[results,Tryz.results138,go_sem,r0,r1,r2,r3,r4]) rfl ⟨rfl,blk5 HC1.out (by omega) _ _ _ _ _,?_⟩
 exact but5 HB.out (Nat.le_refl _) _ _ _ _ _
end Go.Proofs.YtliahjnnbbgooaaGreatDoor.J
namespace Go.Proofs.YtliahjnnbbgooaaGreatDoor.U
open Go.RowKit M T
attribute [local go_sem] run_store_float
theorem OvV.but {S:List Nat} {w w':World} {p:Option Addr} (h:OvV w p) (hb:ButL S w w') (hn:1∉S):OvV w' p:=by
 have h0:w.cell? ⟨1,0,none⟩=some (ovI p):=h
 show w'.cell? ⟨1,0,none⟩=some (ovI p)
 have hl:=World.block_lt_of_cell? _ _ h0
 rw[←h0]
 simp only[World.cell?,hb.block 1 hl hn]
theorem callt_over (gm:Nat) (m:MachD) (p:Option Addr) (a:Value) (w:World) (h:MachAt w gm m) (ho:OvV w p) (he:m.rticks=m.ticks) :
  Calls Tryz.prog 153 #[.pointer (some ⟨gm,0,none⟩),txA,.slice none 0 0] w fun e w'=>e=.returned (.tuple #[.slice none 0 0,ovI p])∧Below w.heap.size w w':=by
 obtain⟨W,hW⟩:∃W,w.alloc (vO ⟨8,3,0,⟨#[]⟩,0⟩)=W:=⟨_,rfl⟩
 have hb:Below w.heap.size w W:=by rw[←hW];exact bw1 _ _
 have HM:Hid (MachAt W gm m):=h.later hb
 have HO:Hid (OvV W p):=ho.later hb
 have HB:Hid (Below w.heap.size w W):=hb
 clear h hb ho
 go_enter Tryz.func153,Tryz.ntmps153
 go_wp2_with fail
 go_loopw [2,8] (fun a i wr=>a=.slice none 0 0∧i=.int .i64 0∧wr=W) (fun _ _ _=>0)
 case atStart=>exact⟨rfl,rfl,rfl⟩
 case round =>
  obtain⟨rfl,rfl,rfl⟩:=hrel
  clear hW
  go_wp2_with fail
  refine (tick_over gm m p _ HM.out HO.out he).mono ?_
  rintro e w1 ⟨rfl,hx⟩
  have HX:Hid (Below w.heap.size w w1):=HB.out.trans (hx.mono HB.out.size)
  clear hx
  unfold ovI
  go_wp2_with fail
  exact bodyPost_ret (v:=.tuple #[.slice none 0 0,.iface 484 (.pointer p)]) (by simp[results,Tryz.results153,go_sem]) rfl ⟨rfl,HX.out⟩
theorem doCall_go (gm gf:Nat) (n:ID) (m:MachD) (c:CallD) (w:World) (hm:MachAt w gm m) (hc:CallAt w gf c) (hr:c.regs.length=250) (ha:n.a=4) (hb:n.b=1) (hcc:n.c=-5) (h1:c.regs[1]?=some (sdV ⟨8,3,0,⟨#[]⟩,0⟩)) (h4:c.regs[4]?=some (sdL (.slice none 0 0))) (he:m.rticks<m.ticks) (hz:0≤m.rticks) (ht:m.ticks≤100000) :
  Calls Tryz.prog 70 #[.pointer (some ⟨gm,0,none⟩),.pointer (some ⟨gf,0,none⟩),insV n] w fun e w'=>e=.returned .nilIface∧∃g,MachAt w' gm { m with rticks:=m.rticks+1 }∧CallAt w' gf { c with regs:=(c.regs.set 4 sd0).set 4 (sdL (.slice (some ⟨g,0,none⟩) 1 1)) }∧ButL [gm,gf] w w':=by
 obtain⟨op,a,b,cc,d⟩:=n
 dsimp only[insV]at ha hb hcc ⊢
 subst ha hb hcc
 obtain⟨W,hW⟩:∃W,w.alloc (InO ⟨op,4,1,-5,d⟩)=W:=⟨_,rfl⟩
 have hbw:Below w.heap.size w W:=by rw[←hW];exact bw1 _ _
 have bn:W.heap[w.heap.size]?=some (InO ⟨op,4,1,-5,d⟩):=by rw[←hW];exact blk_new _ _
 have hne:w.heap.size≠gf∧w.heap.size≠gm:=⟨by have:=blk_lt hc;omega,by have:=blk_lt hm;omega⟩
 have hmf:gm≠gf:=ne_ty hm hc (by decide)
 have HM:Hid (MachAt W gm m):=hm.later hbw
 have HC:Hid (CallAt W gf c):=hc.later hbw
 have HB:Hid (Below w.heap.size w W):=hbw
 have HI:Hid (W.heap[w.heap.size]?=some (InO ⟨op,4,1,-5,d⟩)):=bn
 have d1:W.cell? ⟨w.heap.size,1,none⟩=some (.int .i64 4):=by rw[blk_cell bn];rfl
 have d2:W.cell? ⟨w.heap.size,2,none⟩=some (.int .i64 1):=by rw[blk_cell bn];rfl
 have d3:W.cell? ⟨w.heap.size,3,none⟩=some (.int .i64 (-5)):=by rw[blk_cell bn];rfl
 clear hm hc hbw bn
 go_enter Tryz.func70,Tryz.ntmps70
 go_wp2_with fail
 clear hW
 go_region_with (first | (go_at_call 138;refine (value_pos gf 1 1 ⟨8,3,0,⟨#[]⟩,0⟩ none none 0 0 c _ (CallAt.drew HC.out) hr (by omega) h1).mono ?_;rintro e w1 ⟨rfl,hx⟩;replace hx:=und1' hx;have HX1:Hid (Below W.heap.size W w1):=hx;have HC1:Hid (CallAt w1 gf c):=HC.out.later hx;have f3:w1.cell? ⟨w.heap.size,3,none⟩=some (.int .i64 (-5)):=cell_later hx d3;clear hx) | (go_at_call 146;refine (list_neg gf 4 (-5) 3 vd0 none none 0 0 c _ HC1.out hr (by omega) (by omega) (by omega) h4).mono ?_;rintro e w2 ⟨rfl,hc2,hb2⟩;have HC2:Hid (CallAt w2 gf { c with regs:=c.regs.set 4 sd0 }):=hc2;have HB2:Hid (ButL [gf] W w2):=(ButL.of_below HX1.out).trans hb2;have HM2:Hid (MachAt w2 gm m):=HM.out.but HB2.out (by simp;exact hmf);clear hc2 hb2) | (go_at_call 153;refine (callt_go gm m _ HM2.out he hz ht).mono ?_;rintro e w3 ⟨g,rfl,hg,hge,hm3,hb3⟩;have HC3:Hid (CallAt w3 gf { c with regs:=c.regs.set 4 sd0 }):=CallAt.but HC2.out hb3 (by simp;exact fun e=>hmf e.symm);have HB3:Hid (ButL [gm,gf] w w3):=((ButL.of_below HB.out).trans (HB2.out.mono (fun q hq=>.inl (by simp at hq;subst hq;simp)))).trans (hb3.mono (fun q hq=>.inl (by simp at hq;subst hq;simp)));have HM3:Hid (MachAt w3 gm { m with rticks:=m.rticks+1 }):=hm3;have p1:w3.cell? ⟨w.heap.size,1,none⟩=some (.int .i64 4):=(by rw[blk_cell (hb3.blk (HB2.out.blk HI.out (by simp;exact hne.1)) (by simp;exact hne.2))];rfl);clear hg hge hm3 hb3))
 all_goals
  clear d1 d2 d3 f3
  go_wp2_with fail
  refine (putList_any gf 4 1 1 (some ⟨g,0,none⟩) { c with regs:=c.regs.set 4 sd0 } _ HC3.out (by show (c.regs.set 4 sd0).length=250;rw[List.length_set];exact hr) (by omega)).mono ?_
  rintro e w4 ⟨rfl,hc4,hb4⟩
  have HC4:Hid (CallAt w4 gf { c with regs:=(c.regs.set 4 sd0).set 4 (sdL (.slice (some ⟨g,0,none⟩) 1 1)) }):=hc4
  have HM4:Hid (MachAt w4 gm { m with rticks:=m.rticks+1 }):=MachAt.but HM3.out hb4 (by simp;exact hmf)
  have HB4:Hid (ButL [gm,gf] w w4):=HB3.out.trans (hb4.mono (fun q hq=>.inl (by simp at hq;subst hq;simp)))
  clear hc4 hb4
  go_wp2_with fail
  go_ret
  exact⟨rfl,g,HM4.out,HC4.out,HB4.out⟩
end Go.Proofs.YtliahjnnbbgooaaGreatDoor.U
namespace Go.Proofs.YtliahjnnbbgooaaGreatDoor.J
open Go.RowKit M T U
attribute [local go_sem] run_store_float
theorem doCallp_any (gm gf k cap:Nat) (av:Option Addr) (n:ID) (m:MachD) (c:CallD) (P:MachD→World→Prop) (w:World) (hm:MachAt w gm m) (hc:CallAt w gf c) (hr:c.regs.length=250) (ha:n.a=4) (hb:n.b=-4) (hcc:n.c=-5) (h3:c.regs[3]?=some (sdV ⟨8,0,0,⟨#[]⟩,0⟩)) (h4:c.regs[4]?=some (sdL (.slice av k cap)))
  (HP:∀W,MachAt W gm m→CallAt W gf { c with regs:=(c.regs.set 3 sd0).set 4 sd0 }→ButL [gf] w W→Calls Tryz.prog 153 #[.pointer (some ⟨gm,0,none⟩),prA,.slice av k cap] W fun e w'=>e=.returned (.tuple #[.slice none 0 0,.nilIface])∧∃m',MachAt w' gm m'∧CallAt w' gf { c with regs:=(c.regs.set 3 sd0).set 4 sd0 }∧P m' w'∧∀q o,w.heap.size≤q→W.heap[q]?=some o→w'.heap[q]?=some o) :
  Calls Tryz.prog 70 #[.pointer (some ⟨gm,0,none⟩),.pointer (some ⟨gf,0,none⟩),insV n] w fun e w'=>e=.returned .nilIface∧∃m' w3,MachAt w' gm m'∧CallAt w' gf { c with regs:=((c.regs.set 3 sd0).set 4 sd0).set 4 (sdL (.slice none 0 0)) }∧P m' w3∧ButL [gf] w3 w':=by
 obtain⟨op,a,b,cc,d⟩:=n
 dsimp only[insV]at ha hb hcc ⊢
 subst ha hb hcc
 obtain⟨W,hW⟩:∃W,w.alloc (InO ⟨op,4,-4,-5,d⟩)=W:=⟨_,rfl⟩
 have hbw:Below w.heap.size w W:=by rw[←hW];exact bw1 _ _
 have bn:W.heap[w.heap.size]?=some (InO ⟨op,4,-4,-5,d⟩):=by rw[←hW];exact blk_new _ _
 have hne:w.heap.size≠gf∧w.heap.size≠gm:=⟨by have:=blk_lt hc;omega,by have:=blk_lt hm;omega⟩
 have hmf:gm≠gf:=ne_ty hm hc (by decide)
 have HM:Hid (MachAt W gm m):=hm.later hbw
 have HC:Hid (CallAt W gf c):=hc.later hbw
 have HB:Hid (Below w.heap.size w W):=hbw
 have HI:Hid (W.heap[w.heap.size]?=some (InO ⟨op,4,-4,-5,d⟩)):=bn
 have d1:W.cell? ⟨w.heap.size,1,none⟩=some (.int .i64 4):=by rw[blk_cell bn];rfl
 have d2:W.cell? ⟨w.heap.size,2,none⟩=some (.int .i64 (-4)):=by rw[blk_cell bn];rfl
 have d3:W.cell? ⟨w.heap.size,3,none⟩=some (.int .i64 (-5)):=by rw[blk_cell bn];rfl
 have hr3:(c.regs.set 3 sd0).length=250:=by rw[List.length_set];exact hr
 have h43:(c.regs.set 3 sd0)[4]?=some (sdL (.slice av k cap)):=by rw[List.getElem?_set];simpa using h4
 have HP':Hid _:=HP
 clear hm hc hbw bn HP
 go_enter Tryz.func70,Tryz.ntmps70
 go_wp2_with fail
 clear hW
 go_region_with (first
  | (go_at_call 138;refine (value_neg gf 3 (-4) 1 ⟨8,0,0,⟨#[]⟩,0⟩ none none 0 0 c _ (CallAt.drew HC.out) hr (by omega) (by omega) (by omega) h3).mono ?_;rintro e w1 ⟨rfl,hc1,hb1⟩;have HX1:Hid (ButL [gf] W w1):=butl_drew hb1;have HC1:Hid (CallAt w1 gf { c with regs:=c.regs.set 3 sd0 }):=hc1;have f1:w1.cell? ⟨w.heap.size,1,none⟩=some (.int .i64 4):=HX1.out.cell (by simp;exact hne.1) d1;have f3:w1.cell? ⟨w.heap.size,3,none⟩=some (.int .i64 (-5)):=HX1.out.cell (by simp;exact hne.1) d3;clear hc1 hb1 d1 d3)
  | (go_at_call 146;refine (list_neg gf 4 (-5) 3 vd0 none av k cap { c with regs:=c.regs.set 3 sd0 } _ HC1.out hr3 (by omega) (by omega) (by omega) h43).mono ?_;rintro e w2 ⟨rfl,hc2,hb2⟩;have HC2:Hid (CallAt w2 gf { c with regs:=(c.regs.set 3 sd0).set 4 sd0 }):=hc2;have HB2:Hid (ButL [gf] W w2):=HX1.out.trans hb2;have g1:w2.cell? ⟨w.heap.size,1,none⟩=some (.int .i64 4):=hb2.cell (by simp;exact hne.1) f1;have HM2:Hid (MachAt w2 gm m):=HM.out.but HB2.out (by simp;exact hmf);clear hc2 hb2 f1)
  | (go_at_call 153;refine (HP'.out w2 HM2.out HC2.out ((ButL.of_below HB.out).trans HB2.out)).mono ?_;rintro e w3 ⟨rfl,m',hm3,hc3,hp3,hk3⟩;have p1:w3.cell? ⟨w.heap.size,1,none⟩=some (.int .i64 4):=(by rw[blk_cell (hk3 _ _ (Nat.le_refl _) (HB2.out.blk HI.out (by simp;exact hne.1)))];rfl);have HM3:Hid (MachAt w3 gm m'):=hm3;have HC3:Hid (CallAt w3 gf { c with regs:=(c.regs.set 3 sd0).set 4 sd0 }):=hc3;have HP3:Hid (P m' w3):=hp3;clear hm3 hc3 hp3 hk3 g1 f3))
 all_goals
  go_wp2_with fail
  refine (putList_any gf 4 0 0 none { c with regs:=(c.regs.set 3 sd0).set 4 sd0 } _ HC3.out (by show ((c.regs.set 3 sd0).set 4 sd0).length=250;rw[List.length_set];exact hr3) (by omega)).mono ?_
  rintro e w4 ⟨rfl,hc4,hb4⟩
  have HC4:Hid (CallAt w4 gf { c with regs:=((c.regs.set 3 sd0).set 4 sd0).set 4 (sdL (.slice none 0 0)) }):=hc4
  have HM4:Hid (MachAt w4 gm m'):=MachAt.but HM3.out hb4 (by simp;exact hmf)
  have HB4:Hid (ButL [gf] w3 w4):=hb4
  clear hc4 hb4
  go_wp2_with fail
  go_ret
  exact⟨rfl,m',w3,HM4.out,HC4.out,HP3.out,HB4.out⟩
end Go.Proofs.YtliahjnnbbgooaaGreatDoor.J
