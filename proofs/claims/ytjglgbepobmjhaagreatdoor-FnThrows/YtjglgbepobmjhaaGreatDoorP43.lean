import Derived.Test.YtjglgbepobmjhaaGreatDoorP41
import Derived.Test.YtjglgbepobmjhaaGreatDoorP42
import Derived.Laws.LoneSync
import Derived.Conc.EventLaws
import Derived.Test.YtjglgbepobmjhaaGreatDoorP33
set_option linter.unusedVariables false
set_option linter.unusedSimpArgs false
set_option maxRecDepth 20000
set_option maxHeartbeats 8000000
namespace Go.Proofs.YtjglgbepobmjhaaGreatDoor.T
open Go.RowKit M
attribute [local go_sem] run_store_float
theorem ta_oret (v:Value) (w:World):(Instr.typeAssert (.iface 484 v) 60 154 true).run Tryz.prog w=.ok (.tuple #[.pointer none,.bool false]) w:=by kernel_rfl
theorem ta_othr (v:Value) (w:World):(Instr.typeAssert (.iface 484 v) 60 142 true).run Tryz.prog w=.ok (.tuple #[.pointer none,.bool false]) w:=by kernel_rfl
def machU (pv:Value) (t:Int) (gk gt cap':Nat):MachD:={ mach0 pv t 1 0 with tasks:=.slice (some ⟨gk,0,none⟩) 1 cap',running:=.pointer (some ⟨gt,0,none⟩) }
structure RunE (w0 w':World) (k t gm gt gk gch cap':Nat) (ka:Array Value) (m:MachD) (tk nr:Nat):Prop where
 mac:MachAt w' gm m
 code:m.code=2
 tic:m.rticks=(tk:Int)
 fin:Fin' k t tk nr
 rc:ORow w' w0.heap.size 41 5 rcC m.recs (recL nr)
 vals:m.vals=.slice none 0 0
 tasks:m.tasks=.slice (some ⟨gk,0,none⟩) 1 cap'
 tsk:∃cv,w'.heap[gt]?=some (.cells (taskA cv gch 2) 145)
 cha:w'.heap[gch]?=some (.chan 0 #[] false 0 0 false)
 row:w'.heap[gk]?=some (.cells ka 97)
 bel:Below w0.heap.size w0 w'
theorem runText_t (w0 w:World) (gm gt gk gch cap' bp op capP b off cb co k t:Nat) (ka:Array Value) (f:FC) (ov:Addr) (hm:MachAt w gm (machU (.slice (some ⟨bp,op,none⟩) 1 capP) t gk gt cap')) (ht:w.heap[gt]?=some (.cells (taskA (.slice none 0 0) gch 2) 145)) (hc:w.heap[gch]?=some (.chan 0 #[] false 0 0 false)) (hk:w.heap[gk]?=some (.cells ka 97))
  (hbel:Below w0.heap.size w0 w) (g1:w0.heap.size≤gm) (g2:w0.heap.size≤gt) (hf:∀j v,f.cells[j]?=some v→w0.cell? ⟨bp,op+j,none⟩=some v) (hd:f.d=throwsD k) (hk1:1≤k) (hk2:k≤250) (ht5:t≤5000) (hai:f.ai=some ⟨b,off,none⟩) (hsl:SlA w0 5 ID.cells (some ⟨b,off,none⟩) (throwsI k))
  (hac:f.ac=some ⟨cb,co,none⟩) (hcb:cb<w0.heap.size) (hcc:∀j u,(intD 7).cells[j]?=some u→w0.cell? ⟨cb,co+j,none⟩=some u) (hov:OvV w0 (some ov)) :
  Calls Tryz.prog 25 #[.pointer (some ⟨gm,0,none⟩)] w fun e w'=>e=.returned (.tuple #[])∧∃(m:MachD) (tk nr:Nat),RunE w0 w' k t gm gt gk gch cap' ka m tk nr:=by
 obtain⟨W,hW⟩:∃W,w.alloc (.cells #[.int .i64 0,.int .i64 0,.slice none 0 0] 151)=W:=⟨_,rfl⟩
 have hb:Below w.heap.size w W:=by rw[←hW];exact bw1 _ _
 have hfn:W.heap[w.heap.size]?=some (.cells #[.int .i64 0,.int .i64 0,.slice none 0 0] 151):=by rw[←hW];exact blk_new _ _
 have c1:W.cell? ⟨gm,1,none⟩=some (.slice none 0 0):=by rw[(hm.later hb).cell];rfl
 have HB:Hid (Below w.heap.size w W):=hb
 have HFN:Hid (W.heap[w.heap.size]?=some (.cells #[.int .i64 0,.int .i64 0,.slice none 0 0] 151)):=hfn
 have HM:Hid (MachAt w gm (machU (.slice (some ⟨bp,op,none⟩) 1 capP) t gk gt cap')):=hm
 have HT:Hid (w.heap[gt]?=some (.cells (taskA (.slice none 0 0) gch 2) 145)):=ht
 have HC:Hid (w.heap[gch]?=some (.chan 0 #[] false 0 0 false)):=hc
 have HKk:Hid (w.heap[gk]?=some (.cells ka 97)):=hk
 have HW0:Hid (Below w0.heap.size w0 w):=hbel
 have HF:Hid (∀j v,f.cells[j]?=some v→w0.cell? ⟨bp,op+j,none⟩=some v):=hf
 have HD:Hid (f.d=throwsD k):=hd
 have HSL:Hid (SlA w0 5 ID.cells (some ⟨b,off,none⟩) (throwsI k)):=hsl
 have HCC:Hid (f.ac=some ⟨cb,co,none⟩∧cb<w0.heap.size∧∀j u,(intD 7).cells[j]?=some u→w0.cell? ⟨cb,co+j,none⟩=some u):=⟨hac,hcb,hcc⟩
 have HOV:Hid (OvV w0 (some ov)):=hov
 have HAI:Hid (f.ai=some ⟨b,off,none⟩):=hai
 clear hb hfn hm ht hc hk hbel hf hd hsl hac hcb hcc hov hai
 go_enter Tryz.func25,Tryz.ntmps25
 go_wp2_with fail
 refine (textValues_nil _).mono ?_
 rintro e w1 ⟨rfl,hx⟩
 have hb1:Below w.heap.size w w1:=HB.out.trans (hx.mono HB.out.size)
 have HB1:Hid (Below w.heap.size w w1):=hb1
 have HFN1:Hid _:=blk_later hx HFN.out
 clear hx c1
 go_wp2_with fail
 refine (topn_any gm gt w.heap.size bp op gch 0 capP _ f w1 (MachAt.later HM.out HB1.out) rfl rfl (blk_later HB1.out HT.out) HFN1.out (fun j v hv=>cell_later (HW0.out.trans (HB1.out.mono HW0.out.size)) (HF.out j v hv)) (by rw[HD.out];rfl) (by rw[HD.out];rfl)).mono ?_
 rintro e w2 ⟨gf,gc,capc,rfl,hgf,hcal,ht2,hro,hb2⟩
 have hmw1:MachAt w1 gm (machU (.slice (some ⟨bp,op,none⟩) 1 capP) t gk gt cap'):=MachAt.later HM.out HB1.out
 have htw1:=blk_later HB1.out HT.out
 have hcw1:=blk_later HB1.out HC.out
 have hkw1:=blk_later HB1.out HKk.out
 have hm2:MachAt w2 gm (machU (.slice (some ⟨bp,op,none⟩) 1 capP) t gk gt cap'):=hmw1.but hb2 (by simp;exact ne_ty hmw1 htw1 (by decide))
 have hc2:=hb2.blk hcw1 (by simp;exact ne_chan htw1 hcw1)
 have hk2':=hb2.blk hkw1 (by simp;exact fun e=>ne_ty htw1 hkw1 (by decide) e.symm)
 have hbel2:Below w0.heap.size w0 w2:=hb2.below (HW0.out.trans (HB1.out.mono HW0.out.size)) (fun g hg=>by simp at hg;subst hg;exact g2) (by have:=HW0.out.size;have:=HB1.out.size;omega)
 obtain⟨_,ca,hcab⟩:=own_blk hro (g:=gc) rfl
 have hca0:ca[0]?=some (.pointer (some ⟨gf,0,none⟩)):=by
  obtain⟨a0,c0,e0,hs9⟩:=hro.lies pC_len
  obtain⟨b9,o9,e9,_,hc9⟩:=hs9 0 _ rfl
  have e2:a0=some ⟨gc,0,none⟩:=by injection e0 with e0 _ _;exact e0.symm
  rw[e2]at e9
  have e3:gc=b9∧0=o9:=by injection e9 with e9;injection e9 with e9 e2;exact⟨e9,e2⟩
  obtain⟨rfl,rfl⟩:=e3
  have:=hc9 0 _ rfl
  rw[blk_cell hcab]at this
  simpa using this
 have hcc1:1≤capc:=by
  rcases hro.2 with ⟨e9,_⟩ | ⟨g9,c9,cur,e9,_,_,hl9,_⟩
  ·cases e9
  ·have e8:capc=c9:=by injection e9 with _ _ e9
   have h8:1≤c9:=by simpa using hl9
   omega
 obtain⟨K,hK⟩:∃K:TK,K=⟨gm,gf,gt,gc,gk,gch,capc,ca,ka,bp,op,capP,ov,machU (.slice (some ⟨bp,op,none⟩) 1 capP) t gk gt cap',call0 (.slice f.ai f.d.ins.length f.ci) (.slice f.ac f.d.consts.length f.cc)⟩:=⟨_,rfl⟩
 have ok:TKok w0 K:=by
  rw[hK]
  refine⟨g1,by show w0.heap.size≤gf;have:=HW0.out.size;have:=HB1.out.size;omega,rfl,rfl,rfl,?_,rfl,rfl,HOV.out,⟨by show (0:Int)≤(t:Int);omega,by show (t:Int)≤5000;omega⟩,hca0,hcc1⟩
  have h9:=HF.out 0 (.string f.d.name) rfl
  rw[HD.out]at h9
  exact h9
 have con:Con w0 K:=by
  rw[hK]
  refine⟨cb,co,f.cc,?_,HCC.out.2.1,HCC.out.2.2⟩
  show Value.slice f.ac f.d.consts.length f.cc=_
  rw[HCC.out.1,HD.out]
  rfl
 have hX:TX w0 K w2 0 0 0 0 R0 [] (.slice none 0 0) (.slice none 0 0):=by
  rw[hK]
  refine⟨hbel2,hm2,?_,ht2,hcab,hk2',hc2,ORow.nil _ _ _ _ _,(fun g hg=>by cases hg),ORow.nil _ _ _ _ _,R0_len⟩
  rw[show R0=List.replicate 250 sd0 by unfold R0;rfl]
  exact hcal
 have HR:Hid (Calls Tryz.prog 50 #[.pointer (some ⟨gm,0,none⟩),.pointer (some ⟨gf,0,none⟩)] w2 (OvP w0 K k t)):=by
  have e1:K.gm=gm:=by rw[hK]
  have e2:K.gf=gf:=by rw[hK]
  have h9:=run_t w0 K ok con k t hk1 hk2 (by rw[hK];rfl) b off f.ci w2 (by rw[hK];show Value.slice f.ai f.d.ins.length f.ci=_;rw[HAI.out,HD.out,show (throwsD k).ins.length=3+4*k from tabL_len _ _]) HSL.out 0 _ _ hX
  rw[e1,e2]at h9
  exact h9
 have HOKK:Hid (TKok w0 K):=ok
 have HK:Hid _:=hK
 clear hX hcal ht2 hb2 hmw1 htw1 hcw1 hkw1 hm2 hc2 hk2' hbel2 hro hcab hca0 ok con hK
 go_wp2_with fail
 refine HR.out.mono ?_
 rintro e w3 ⟨rfl,tk,nr,ax,nx,rs,gl,rv,gv,hX3,hfin⟩
 have e1:K.gm=gm:=by rw[HK.out]
 have e2:K.gt=gt:=by rw[HK.out]
 have e3:K.gch=gch:=by rw[HK.out]
 have e4:K.gk=gk:=by rw[HK.out]
 have e5:K.ka=ka:=by rw[HK.out]
 have hmac:=hX3.mac
 rw[e1]at hmac
 have htsk:=hX3.tsk
 rw[e2,e3]at htsk
 have hrow:=hX3.row
 rw[e4,e5]at hrow
 have hcha:=hX3.cha
 rw[e3]at hcha
 have c7:w3.cell? ⟨gm,7,none⟩=some (.int .i64 0):=by rw[hmac.cell,HK.out];rfl
 have z3:=blk_frozen hmac
 have HE:Hid (∃(m:MachD) (tk nr:Nat),RunE w0 (w3.setCell ⟨gm,7,none⟩ (.int .i64 2)) k t gm gt gk gch cap' ka m tk nr):=by
  refine⟨{ K.m tk rv with code:=2 },tk,nr,⟨?_,rfl,rfl,hfin,ORow.set_own hX3.rc (own_ne hX3.rc hmac (by decide)) _ _,by rw[HK.out];rfl,by rw[HK.out];rfl,⟨_,blk_other htsk (ne_ty hmac htsk (by decide)) _ _⟩,blk_other hcha (fun e=>ne_chan hmac hcha e.symm) _ _,blk_other hrow (ne_ty hmac hrow (by decide)) _ _,hX3.bel.setCell (p:=⟨gm,7,none⟩) g1 _⟩⟩
  have h9:=blk_set hmac 7 (.int .i64 2)
  rw[MachD.set_code]at h9
  exact h9
 have t1:=fun W=>ta_oret (.pointer (some K.ov)) W
 have t2:=fun W=>ta_othr (.pointer (some K.ov)) W
 unfold ovI
 clear hX3 hfin HR hmac htsk hrow hcha e1 e2 e3 e4 e5
 go_wp2_with fail
 exact bodyPost_end (v:=.tuple #[]) (by simp[results,Tryz.results25,go_sem]) rfl ⟨rfl,HE.out⟩
end Go.Proofs.YtjglgbepobmjhaaGreatDoor.T
namespace Go.Proofs.YtjglgbepobmjhaaGreatDoor.M
open Go.RowKit
attribute [local go_sem] run_store_float
theorem x_dis (W:World):(callFunc 133 #[]).run Tryz.prog W=.ok (.value (.tuple #[])) W:=by kernel_rfl
theorem x_ena (W:World):(callFunc 135 #[]).run Tryz.prog W=.ok (.value (.tuple #[])) W:=by kernel_rfl
theorem x_acq (g o:Nat) (W:World):(callFunc 136 #[.pointer (some ⟨g,o,none⟩)]).run Tryz.prog W=.ok (.value (.tuple #[])) W:=by kernel_rfl
theorem loadT_one (t:Extern.Atomic.T) (v:Value):Extern.Atomic.loadT t #[v]=(do Extern.Atomic.read t (←asAddr v)):=rfl
theorem x_ld (g o:Nat) (z:Int) (W:World) (h:W.cell? ⟨g,o,none⟩=some (.int .u64 z)):(callFunc 211 #[.pointer (some ⟨g,o,none⟩)]).run Tryz.prog W=.ok (.value (.int .u64 z)) W:=by
 have hf:=Tryz.func211
 have hn:(Tryz.f211.name == "runtime.NumGoroutine")=false:=by kernel_rfl
 have hb:Tryz.f211.body.isNone=true:=by kernel_rfl
 have h1:(Extern.findNext Tryz.f211).isNone=true:=by kernel_rfl
 have h1':Extern.findNext Tryz.f211=none:=Option.isNone_iff_eq_none.1 h1
 have h2:Extern.find Tryz.f211=some (Extern.Atomic.loadT (.int .u64)):=by kernel_rfl
 have hl:(Extern.Atomic.loadT (.int .u64) #[.pointer (some ⟨g,o,none⟩)]).run Tryz.prog W=.ok (.int .u64 z) W:=by
  rw[loadT_one]
  simp[Extern.Atomic.read,asAddr,go_sem,h]
 unfold callFunc
 have hmk:(Sem.mark (Mark.extern 211) (Sem.pure ())).run Tryz.prog W=.ok () W:=rfl
 simp[go_sem,hf,h1',h2,mark]
 rw[if_neg (by simpa using hn),if_pos (by simpa using hb),hmk]
 simp only[Result.andThen_ok]
 rw[hl]
 rfl
theorem uload_any (g o:Nat) (z:Int) (w:World) (h:w.cell? ⟨g,o,none⟩=some (.int .u64 z)) :
  Calls Tryz.prog 134 #[.pointer (some ⟨g,o,none⟩)] w fun e w'=>e=.returned (.int .u64 z)∧w'=w:=by
 have hx:=x_ld g o z w h
 go_enter Tryz.func134,Tryz.ntmps134
 go_wp2_with fail
 go_ret
 exact⟨rfl,rfl⟩
theorem wait_zero (g o:Nat) (w:World) (h:w.cell? ⟨g,o,none⟩=some (.int .u64 0)) :
  Calls Tryz.prog 53 #[.pointer (some ⟨g,o,none⟩)] w fun e w'=>e=.returned (.tuple #[])∧w'=w:=by
 have h1:=x_dis
 have h2:=x_ena
 have h3:=x_acq g o
 have h4:(convert 221 122 (.pointer (some ⟨g,o,none⟩))).run Tryz.prog w=.ok (.pointer (some ⟨g,o,none⟩)) w:=run_convert_to_unsafe (t:=107) Tryz.underlying221 Tryz.underlying122 (by kernel_rfl) h
 have h5:bits BinOp.and IntKind.u64 0 2147483647=0:=by kernel_rfl
 have h6:bits BinOp.and IntKind.u64 0 2147483648=0:=by kernel_rfl
 have HL:Hid (Calls Tryz.prog 134 #[.pointer (some ⟨g,o,none⟩)] w fun e w'=>e=.returned (.int .u64 0)∧w'=w):=uload_any g o 0 w h
 go_enter Tryz.func53,Tryz.ntmps53
 go_wp2_with fail
 go_loopw [] (fun wr=>wr=w) (fun _=>0)
 case atStart=>rfl
 case round =>
  obtain rfl:=hrel
  go_wp2_with fail
  refine HL.out.mono ?_
  rintro e w1 ⟨rfl,rfl⟩
  go_wp2_with fail
  exact bodyPost_ret (v:=.tuple #[]) (by simp[results,Tryz.results53,go_sem]) rfl ⟨rfl,rfl⟩
theorem stop_any (gm gt gk gch cap':Nat) (m:MachD) (cv:Value) (ka:Array Value) (w:World) (hm:MachAt w gm m) (hts:m.tasks=.slice (some ⟨gk,0,none⟩) 1 cap') (hk:w.heap[gk]?=some (.cells ka 97)) (hk0:ka[0]?=some (.pointer (some ⟨gt,0,none⟩))) (ht:w.heap[gt]?=some (.cells (taskA cv gch 2) 145)) (hc:w.heap[gch]?=some (.chan 0 #[] false 0 0 false)) :
  Calls Tryz.prog 26 #[.pointer (some ⟨gm,0,none⟩)] w fun e w'=>e=.returned (.tuple #[])∧MachAt w' gm m∧ButL [gch] w w':=by
 have c74:w.cell? ⟨gm,74,none⟩=some (.slice (some ⟨gk,0,none⟩) 1 cap'):=by rw[hm.cell,←hts];rfl
 have k0:w.cell? ⟨gk,0,none⟩=some (.pointer (some ⟨gt,0,none⟩)):=by rw[blk_cell hk];exact hk0
 have t9:w.cell? ⟨gt,9,none⟩=some (.chan (some gch)):=by rw[blk_cell ht];rfl
 have HM:Hid (MachAt w gm m):=hm
 have hcl:=blk_lt hc
 clear hm hk ht
 go_enter Tryz.func26,Tryz.ntmps26
 go_wp2_with fail
 go_loopw [9] (fun i wr=>(i=.int .i64 0∧wr=w)∨(i=.int .i64 1∧Hid (MachAt wr gm m)∧Hid (ButL [gch] w wr))) (fun i _=>1-(intOf i).toNat)
 case atStart=>exact .inl ⟨rfl,rfl⟩
 case round =>
  rcases hrel with ⟨rfl,rfl⟩ | ⟨rfl,HM2,HB2⟩
  ·have hcr:=run_close_open (P:=Tryz.prog) (w:=wr) #[141] 0 hc
   have HC:Hid (wr.heap[gch]?=some (.chan 0 #[] false 0 0 false)):=hc
   have HB2:Hid (ButL [gch] wr { wr with heap:=wr.heap.setIfInBounds gch (.chan 0 #[] true 0 0 false) }):=⟨rfl,rfl,rfl,by simp,fun k hk hn=>by
    show (wr.heap.setIfInBounds gch _)[k]?=_
    rw[Array.getElem?_setIfInBounds_ne (fun e=>hn (by simp[e]))]⟩
   have HM2:Hid (MachAt { wr with heap:=wr.heap.setIfInBounds gch (.chan 0 #[] true 0 0 false) } gm m):=MachAt.but HM.out HB2.out (by simp;exact fun e=>ne_chan HM.out HC.out e.symm)
   obtain⟨W2,hW2⟩:∃W2,({ wr with heap:=wr.heap.setIfInBounds gch (.chan 0 #[] true 0 0 false) }:World)=W2:=⟨_,rfl⟩
   rw[hW2]at HB2 HM2 hcr
   clear hW2 hc
   go_wp2_with fail
   go_roundw
   case rel=>exact .inr ⟨rfl,HM2,HB2⟩
   case measure=>simp[intOf]
  ·have c81:wr.cell? ⟨gm,81,none⟩=some (.int .u64 0):=by rw[MachAt.cell HM2.out];rfl
   have HWt:Hid (Calls Tryz.prog 53 #[.pointer (some ⟨gm,81,none⟩)] wr fun e w'=>e=.returned (.tuple #[])∧w'=wr):=wait_zero gm 81 wr c81
   clear c74 k0 t9 hc
   go_wp2_with fail
   refine HWt.out.mono ?_
   rintro e w1 ⟨rfl,rfl⟩
   go_wp2_with fail
   exact bodyPost_end (v:=.tuple #[]) (by simp[results,Tryz.results26,go_sem]) rfl ⟨rfl,HM2.out,HB2.out⟩
end Go.Proofs.YtjglgbepobmjhaaGreatDoor.M
namespace Go.Proofs.YtjglgbepobmjhaaGreatDoor.M
open Go.RowKit
attribute [local go_sem] run_store_float
theorem idx_nil (w:World):Calls Tryz.prog 157 #[.slice none 0 0,.func (Fn.func 77) #[] #[]] w fun e w'=>e=.returned (.int .i64 (-1))∧w'=w:=by
 go_enter Tryz.func157,Tryz.ntmps157
 go_wp2_with fail
 go_loopw [8] (fun i wr=>i=.int .i64 0∧wr=w) (fun _ _=>0)
 case atStart=>exact⟨rfl,rfl⟩
 case round =>
  obtain⟨rfl,rfl⟩:=hrel
  go_wp2_with fail
  go_ret
  exact⟨rfl,rfl⟩
theorem cont_nil (w:World):Calls Tryz.prog 76 #[.slice none 0 0,.func (Fn.func 77) #[] #[]] w fun e w'=>e=.returned (.bool false)∧w'=w:=by
 go_enter Tryz.func76,Tryz.ntmps76
 go_wp2_with fail
 refine (idx_nil w).mono ?_
 rintro e w1 ⟨rfl,rfl⟩
 go_wp2_with fail
 go_ret
 exact⟨rfl,rfl⟩
theorem texts_nil (w:World):Calls Tryz.prog 43 #[.slice none 0 0] w fun e w'=>e=.returned (.bool true)∧w'=w:=by
 go_enter Tryz.func43,Tryz.ntmps43
 go_wp2_with fail
 refine (cont_nil w).mono ?_
 rintro e w1 ⟨rfl,rfl⟩
 go_wp2_with fail
 go_ret
 exact⟨rfl,rfl⟩
abbrev RepZ:Obj:=.cells #[.int .i64 0,.slice none 0 0,.slice none 0 0,.string ⟨#[]⟩,.string ⟨#[]⟩,.int .i64 0,.int .i64 0] 34
end Go.Proofs.YtjglgbepobmjhaaGreatDoor.M
namespace Go.Proofs.YtjglgbepobmjhaaGreatDoor.T
open Go.RowKit M
attribute [local go_sem] run_store_float
theorem inokT (t:Nat) (ht:t≤5000) (w:World):Calls Tryz.prog 23 #[.agg #[.slice none 0 0,.slice none 0 0,.int .i64 (t:Int),.int .i64 1,.int .i64 0]] w fun e w'=>e=.returned (.bool true)∧Below w.heap.size w w':=by
 obtain⟨W,hW⟩:∃W,w.alloc (.cells #[.slice none 0 0,.slice none 0 0,.int .i64 (t:Int),.int .i64 1,.int .i64 0] 37)=W:=⟨_,rfl⟩
 have hb:Below w.heap.size w W:=by rw[←hW];exact bw1 _ _
 have bn:W.heap[w.heap.size]?=some (.cells #[.slice none 0 0,.slice none 0 0,.int .i64 (t:Int),.int .i64 1,.int .i64 0] 37):=by rw[←hW];exact blk_new _ _
 have c0:W.cell? ⟨w.heap.size,0,none⟩=some (.slice none 0 0):=by rw[blk_cell bn];rfl
 have c1:W.cell? ⟨w.heap.size,1,none⟩=some (.slice none 0 0):=by rw[blk_cell bn];rfl
 have c2:W.cell? ⟨w.heap.size,2,none⟩=some (.int .i64 (t:Int)):=by rw[blk_cell bn];rfl
 have c3:W.cell? ⟨w.heap.size,3,none⟩=some (.int .i64 1):=by rw[blk_cell bn];rfl
 have c4:W.cell? ⟨w.heap.size,4,none⟩=some (.int .i64 0):=by rw[blk_cell bn];rfl
 clear bn
 have k1:decide ((0:Int)≤(t:Int))=true:=by simp
 have k2:decide ((t:Int)≤5000)=true:=by simp;omega
 go_enter Tryz.func23,Tryz.ntmps23
 go_wp2_with (first | (go_at_call 43;refine (texts_nil _).mono ?_;rintro e w1 ⟨rfl,rfl⟩) | (go_at_call 44;refine (wi_any _ _ _ _).mono ?_;rintro e w1 ⟨rfl,rfl⟩;simp only[inR,k1,k2,show decide ((1:Int)≤1)=true by decide,show decide ((1:Int)≤60)=true by decide,show decide ((0:Int)≤0)=true by decide,show decide ((0:Int)≤20000)=true by decide,Bool.and_self]))
 go_ret
 exact⟨rfl,hb⟩
theorem row_ge {α:Type} {w:World} {B:Nat} {et:TypeId} {k:Nat} {cells:α→List Value} {ra:Option Addr} {n cap:Nat} {xs:List α} (ho:ORow w B et k cells (.slice ra n cap) xs) {b o:Nat} (h:ra=some ⟨b,o,none⟩):B≤b:=by
 subst h
 rcases ho.2 with ⟨e,_⟩ | ⟨g9,c9,cur,e,hb,_⟩
 ·injection e with e _ _;cases e
 ·injection e with e _ _;injection e with e;injection e with e _;subst e;exact hb
theorem row_sl {α:Type} {w:World} {B:Nat} {et:TypeId} {k:Nat} {cells:α→List Value} {ra:Option Addr} {n cap:Nat} {xs:List α} (hk:∀y,(cells y).length=k) (ho:ORow w B et k cells (.slice ra n cap) xs):SlA w k cells ra xs:=by
 obtain⟨a9,c9,e9,hs9⟩:=ho.lies hk
 have e8:ra=a9:=by injection e9
 rw[e8]
 exact hs9
theorem ver_t {f:FC} {k:Nat} (hd:f.d=throwsD k) (hk:k≤250) {len B:Nat} {e:Ending} {w':World} (hv:VeP [f] len B e w'):∃gA,e=.returned (.tuple #[.slice (some ⟨gA,0,none⟩) len len,.nilIface]):=by
 have hsh:(shapeV [f.d]).1=0:=by rw[hd,throws_shape hk]
 have hwk:WF [f.d] 0 f.d none:=by
  rw[hd]
  obtain⟨q,s,hq⟩:=throws_runs k
  exact⟨q,_,hq,.inr ⟨fun i _=>rank_cyc (throws_ee k) i,rfl⟩⟩
 rcases hv.split with ⟨r,_,hc,_⟩ | ⟨_,gA,he,_⟩
 ·exfalso
  rcases hc with ⟨hn,_⟩ | ⟨_,p,f',hp,hw⟩
  ·exact hn hsh
  ·have:p=0∧f=f':=by
    cases p with
    | zero=>exact⟨rfl,by simpa using hp⟩
    | succ p=>simp at hp
   obtain⟨rfl,rfl⟩:=this
   cases WF.uniq hw hwk
 ·exact⟨gA,he⟩
def repU (ra:Option Addr) (nr rcap:Nat) (s t:ByteArray) (tk:Nat) (mk:Int):Value:=.agg #[.int .i64 2,.slice ra nr rcap,.slice none 0 0,.string s,.string t,.int .i64 (tk:Int),.int .i64 mk]
def RepP (k t:Nat) (w:World) (e:Ending) (w':World):Prop:=∃(ra:Option Addr) (nr rcap:Nat) (s tr:ByteArray) (tk:Nat) (mk:Int),e=.returned (repU ra nr rcap s tr tk mk)∧Fin' k t tk nr∧SlA w' 5 rcC ra (recL nr)∧(∀b o,(ra=some ⟨b,o,none⟩)→w.heap.size≤b)∧Below w.heap.size w w'
end Go.Proofs.YtjglgbepobmjhaaGreatDoor.T
namespace Go.Proofs.YtjglgbepobmjhaaGreatDoor.T
open Go.RowKit M
attribute [local go_sem] run_store_float
theorem runWatched_t (bp k t:Nat) (f:FC) (ov:Addr) (hd:f.d=throwsD k) (hk1:1≤k) (hk2:k≤250) (ht5:t≤5000) (w:World) (H0:CodeAt w (some ⟨bp,0,none⟩) [f]) (hlay:LayAt w) (hov:OvV w (some ov)) :
  Calls Tryz.prog 16 #[.agg #[.slice (some ⟨bp,0,none⟩) 1 1],.agg #[.slice none 0 0,.slice none 0 0,.int .i64 (t:Int),.int .i64 1,.int .i64 0],.func (.func 17) #[] #[]] w fun e w'=>RepP k t w e w':=by
 obtain⟨W,hW⟩:∃W,((w.alloc (.cells #[.slice (some ⟨bp,0,none⟩) 1 1] 26)).alloc (.cells #[.slice none 0 0,.slice none 0 0,.int .i64 (t:Int),.int .i64 1,.int .i64 0] 37)).alloc RepZ=W:=⟨_,rfl⟩
 have hb:Below w.heap.size w W:=by rw[←hW];exact bw3 _ _ _ _
 have hsz:W.heap.size=w.heap.size+1+1+1:=by rw[←hW];simp
 have HK:Hid (∀wk,Below W.heap.size W wk→wk.cell? ⟨w.heap.size,0,none⟩=some (.slice (some ⟨bp,0,none⟩) 1 1)∧wk.cell? ⟨w.heap.size+1,0,none⟩=some (.slice none 0 0)∧wk.cell? ⟨w.heap.size+1,1,none⟩=some (.slice none 0 0)∧wk.cell? ⟨w.heap.size+1,2,none⟩=some (.int .i64 (t:Int))∧wk.cell? ⟨w.heap.size+1,3,none⟩=some (.int .i64 1)∧wk.cell? ⟨w.heap.size+1,4,none⟩=some (.int .i64 0)):=by
  intro wk hk
  have b0:wk.heap[w.heap.size]?=some (.cells #[.slice (some ⟨bp,0,none⟩) 1 1] 26):=blk_later hk (by rw[←hW];exact blk_old (blk_old (blk_new _ _) _) _)
  have b1:wk.heap[w.heap.size+1]?=some (.cells #[.slice none 0 0,.slice none 0 0,.int .i64 (t:Int),.int .i64 1,.int .i64 0] 37):=blk_later hk (by rw[←hW];exact blk_old (blk_newn (by simp) _) _)
  refine⟨?_,?_,?_,?_,?_,?_⟩
  ·rw[blk_cell b0];rfl
  all_goals (rw[blk_cell b1];rfl)
 have HZ:Hid (W.heap[w.heap.size+1+1]?=some RepZ):=by show _=_;rw[←hW];exact blk_newn (by simp) _
 have HB:Hid (Below w.heap.size w W):=hb
 have HCo:Hid (CodeAt W (some ⟨bp,0,none⟩) [f]):=H0.later hb
 have HLa:Hid (LayAt W):=hlay.later hb
 have HOv:Hid (OvV W (some ov)):=hov.later hb
 obtain⟨x0,x1,x2,x3,x4,x5⟩:=HK.out W (Below.refl _ _)
 clear H0 hlay hov hb
 go_enter Tryz.func16,Tryz.ntmps16
 go_wp2_with fail
 clear hW
 refine (verify_any (some ⟨bp,0,none⟩) 1 1 [f] _ HCo.out rfl HLa.out).mono ?_
 rintro e w1 ⟨hV,hx1⟩
 obtain⟨gA,rfl⟩:=ver_t hd hk2 hV
 have HX1:Hid (Below W.heap.size W w1):=hx1
 obtain⟨y0,y1,y2,y3,y4,y5⟩:=HK.out w1 hx1
 clear hV hx1 x0 x1 x2 x3 x4 x5
 go_wp2_with fail
 refine (inokT t ht5 _).mono ?_
 rintro e w2 ⟨rfl,hx2⟩
 have HX2:Hid (Below W.heap.size W w2):=HX1.out.trans (hx2.mono HX1.out.size)
 obtain⟨z0,z1,z2,z3,z4,z5⟩:=HK.out w2 HX2.out
 clear hx2 y0 y1 y2 y3 y4 y5
 go_wp2_with fail
 refine (newMachine_any (some ⟨bp,0,none⟩) 1 1 (t:Int) 1 0 w2).mono ?_
 rintro e w3 ⟨gm,gt,gk,gch,cap',rfl,hgm,hm,ht,hgt,hc,hgc,ho,hx3⟩
 have HX3:Hid (Below W.heap.size W w3):=HX2.out.trans (hx3.mono HX2.out.size)
 obtain⟨_,ka,hk⟩:=own_blk ho (g:=gk) rfl
 have hk0:ka[0]?=some (.pointer (some ⟨gt,0,none⟩)):=by
  obtain⟨a0,c0,e0,hs0⟩:=ho.lies pC_len
  obtain⟨b0,o0,e1,_,hc0⟩:=hs0 0 gt rfl
  have e2:a0=some ⟨gk,0,none⟩:=by injection e0 with e0 _ _;exact e0.symm
  rw[e2]at e1
  have e3:gk=b0∧0=o0:=by injection e1 with e1;injection e1 with e1 e2;exact⟨e1,e2⟩
  obtain⟨rfl,rfl⟩:=e3
  have:=hc0 0 _ rfl
  rw[blk_cell hk]at this
  simpa using this
 have hco2:CodeAt w2 (some ⟨bp,0,none⟩) [f]:=HCo.out.later HX2.out
 have hf2:∀j v,f.cells[j]?=some v→w2.cell? ⟨bp,0+j,none⟩=some v:=by
  obtain⟨b0,o0,e1,_,hc0⟩:=hco2.row 0 f rfl
  have e3:bp=b0∧0=o0:=by injection e1 with e1;injection e1 with e1 e2;exact⟨e1,e2⟩
  obtain⟨rfl,rfl⟩:=e3
  intro j v hv
  have:=hc0 j v hv
  simpa using this
 have hsl2:SlA w2 5 ID.cells f.ai f.d.ins:=(hco2.lie f (by simp)).i
 obtain⟨ib,io,hai⟩:∃ib io,f.ai=some ⟨ib,io,none⟩:=by
  obtain⟨x,hx⟩:∃x,f.d.ins[0]?=some x:=⟨f.d.ins[0]'(by rw[hd,show (throwsD k).ins.length=3+4*k from tabL_len _ _];omega),by simp⟩
  obtain⟨b0,o0,e1,_,_⟩:=hsl2 0 x hx
  exact⟨b0,o0,e1⟩
 have hov2:OvV w2 (some ov):=HOv.out.later HX2.out
 have hslc:SlA w2 5 VD.cells f.ac f.d.consts:=(hco2.lie f (by simp)).c
 obtain⟨cb,co,hac,hcb,hcc⟩:∃cb co,f.ac=some ⟨cb,co,none⟩∧cb<w2.heap.size∧∀j u,(intD 7).cells[j]?=some u→w2.cell? ⟨cb,co+j,none⟩=some u:=by
  obtain⟨b0,o0,e1,e2,e3⟩:=hslc 0 (intD 7) (by rw[hd];rfl)
  exact⟨b0,o0,e1,e2,fun j u hu=>by have:=e3 j u hu;simpa using this⟩
 have HRT:Hid (Calls Tryz.prog 25 #[.pointer (some ⟨gm,0,none⟩)] w3 fun e w'=>e=.returned (.tuple #[])∧∃(m:MachD) (tk nr:Nat),RunE w2 w' k t gm gt gk gch cap' ka m tk nr) :=
  runText_t w2 w3 gm gt gk gch cap' bp 0 1 ib io cb co k t ka f ov hm ht hc hk hx3 hgm hgt hf2 hd hk1 hk2 ht5 hai (by have h9:=hsl2;rw[hai,hd]at h9;exact h9) hac hcb hcc hov2
 have HK0:Hid _:=hk0
 have hgc2:w2.heap.size≤gch:=hgc
 have hgm2:w2.heap.size≤gm:=hgm
 clear z0 z1 z2 z3 z4 z5 hx3 hm ht hc ho hk hk0 hco2 hf2 hsl2 hov2 hgm hgt hgc hai hslc hac hcb hcc
 go_wp2_with fail
 refine HRT.out.mono ?_
 rintro e w4 ⟨rfl,m,tk,nr,hE⟩
 obtain⟨cv,ht4⟩:=hE.tsk
 have HST:Hid (Calls Tryz.prog 26 #[.pointer (some ⟨gm,0,none⟩)] w4 fun e w'=>e=.returned (.tuple #[])∧MachAt w' gm m∧ButL [gch] w4 w'):=stop_any gm gt gk gch cap' m cv ka w4 hE.mac hE.tasks hE.row HK0.out ht4 hE.cha
 have HX4:Hid (Below w2.heap.size w2 w4):=hE.bel
 have HE:Hid (RunE w2 w4 k t gm gt gk gch cap' ka m tk nr):=hE
 clear hE ht4 HRT HK0
 go_wp2_with fail
 refine HST.out.mono ?_
 rintro e w5 ⟨rfl,hm5,hb5⟩
 have hx5:Below w2.heap.size w2 w5:=hb5.below HX4.out (fun g hg=>by simp at hg;subst hg;exact hgc2) HX4.out.size
 have HX5:Hid (Below W.heap.size W w5):=HX2.out.trans (hx5.mono HX2.out.size)
 have hrc5:ORow w5 w2.heap.size 41 5 rcC m.recs (recL nr):=ORow.butn HE.out.rc hb5 (fun g e hg=>by
  simp at hg
  subst hg
  obtain⟨_,cur,h9⟩:=own_blk HE.out.rc e
  exact ne_chan h9 HE.out.cha rfl)
 obtain⟨ra,rcap,hrv⟩:=hrc5.val
 rw[recL_len]at hrv
 have HRC:Hid (ORow w5 w2.heap.size 41 5 rcC (.slice ra nr rcap) (recL nr)):=by have h9:=hrc5;rw[hrv]at h9;exact h9
 have e1:=HE.out.code
 have e3:=HE.out.vals
 have e6:=HE.out.tic
 have c7:w5.cell? ⟨gm,7,none⟩=some (.int .i64 2):=by rw[MachAt.cell hm5,←e1];rfl
 have c8:w5.cell? ⟨gm,8,none⟩=some (.slice ra nr rcap):=by rw[MachAt.cell hm5,←hrv];rfl
 have c9:w5.cell? ⟨gm,9,none⟩=some (.slice none 0 0):=by rw[MachAt.cell hm5,←e3];rfl
 have c10:w5.cell? ⟨gm,10,none⟩=some (.string m.err):=by rw[MachAt.cell hm5];rfl
 have c11:w5.cell? ⟨gm,11,none⟩=some (.string m.trace):=by rw[MachAt.cell hm5];rfl
 have c12:w5.cell? ⟨gm,12,none⟩=some (.int .i64 (tk:Int)):=by rw[MachAt.cell hm5,←e6];rfl
 have c13:w5.cell? ⟨gm,13,none⟩=some (.int .i64 m.made):=by rw[MachAt.cell hm5];rfl
 have hz5:=blk_later HX5.out HZ.out
 have d0:w5.cell? ⟨w.heap.size+1+1,0,none⟩=some (.int .i64 0):=by rw[blk_cell hz5];rfl
 have d1:w5.cell? ⟨w.heap.size+1+1,1,none⟩=some (.slice none 0 0):=by rw[blk_cell hz5];rfl
 have d2:w5.cell? ⟨w.heap.size+1+1,2,none⟩=some (.slice none 0 0):=by rw[blk_cell hz5];rfl
 have d3:w5.cell? ⟨w.heap.size+1+1,3,none⟩=some (.string ⟨#[]⟩):=by rw[blk_cell hz5];rfl
 have d4:w5.cell? ⟨w.heap.size+1+1,4,none⟩=some (.string ⟨#[]⟩):=by rw[blk_cell hz5];rfl
 have d5:w5.cell? ⟨w.heap.size+1+1,5,none⟩=some (.int .i64 0):=by rw[blk_cell hz5];rfl
 have d6:w5.cell? ⟨w.heap.size+1+1,6,none⟩=some (.int .i64 0):=by rw[blk_cell hz5];rfl
 have zz:=blk_frozen hz5
 have hs2:=hx5.size
 have hs3:=HX2.out.size
 have HQ:Hid (w.heap.size+1+1<w2.heap.size):=by show _<_;omega
 clear hm5 hb5 hx5 hz5 HST hrc5 hrv e1 e3 e6 hs2 hs3
 go_wp2_with fail
 have hq:w.heap.size≤w.heap.size+1+1:=by omega
 have hne:(Value.slice ra nr rcap).ownBlock≠some (w.heap.size+1+1):=fun e=>by
  have h9:=(own_blk HRC.out e).1
  have:=HQ.out
  omega
 refine bodyPost_ret (v:=repU ra nr rcap m.err m.trace tk m.made) (by simp[results,Tryz.results16,go_sem,repU,d0,d1,d2,d3,d4,d5,d6]) rfl ⟨ra,nr,rcap,m.err,m.trace,tk,m.made,rfl,HE.out.fin,?_,?_,?_⟩
 ·exact row_sl rcC_len (ORow.set_own (ORow.set_own (ORow.set_own (ORow.set_own (ORow.set_own (ORow.set_own (ORow.set_own HRC.out hne 0 (.int .i64 2)) hne 1 (.slice ra nr rcap)) hne 2 (.slice none 0 0)) hne 3 (.string m.err)) hne 4 (.string m.trace)) hne 5 (.int .i64 (tk:Int))) hne 6 (.int .i64 m.made))
 ·intro b9 o9 h9
  have h8:=row_ge HRC.out h9
  have:=HQ.out
  omega
 ·exact ButL.nil ((((((((ButL.of_below (HB.out.trans (HX5.out.mono HB.out.size))).setn hq _ _).setn hq _ _).setn hq _ _).setn hq _ _).setn hq _ _).setn hq _ _).setn hq _ _)
end Go.Proofs.YtjglgbepobmjhaaGreatDoor.T
