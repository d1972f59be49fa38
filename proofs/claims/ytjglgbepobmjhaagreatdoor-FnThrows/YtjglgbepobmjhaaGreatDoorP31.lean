import Derived.Test.YtjglgbepobmjhaaGreatDoorP28
import Derived.Test.YtjglgbepobmjhaaGreatDoorP30
import Derived.Laws.LoneSync
import Derived.Conc.EventLaws
import Derived.Test.YtjglgbepobmjhaaGreatDoorP18
import Derived.Test.YtjglgbepobmjhaaGreatDoorP14
import Derived.Test.YtjglgbepobmjhaaGreatDoorP08
import Derived.Test.YtjglgbepobmjhaaGreatDoorP06
import Derived.Lib.SliceRun
set_option linter.unusedVariables false
set_option linter.unusedSimpArgs false
set_option maxRecDepth 20000
set_option maxHeartbeats 8000000
namespace Go.Proofs.YtjglgbepobmjhaaGreatDoor.T
open Go.RowKit M
attribute [local go_sem] run_store_float
attribute [local irreducible] R0 R1
theorem ta_oret (v : Value) (w : World) : (Instr.typeAssert (.iface 484 v) 60 154 true).run Tryz.prog w = .ok (.tuple #[.pointer none,.bool false]) w:=by kernel_rfl
theorem ta_othr (v : Value) (w : World) : (Instr.typeAssert (.iface 484 v) 60 142 true).run Tryz.prog w = .ok (.tuple #[.pointer none,.bool false]) w:=by kernel_rfl
def machU (pv : Value) (t : Int) (gk gt cap' : Nat) : MachD:={ mach0 pv t 1 0 with tasks:=.slice (some ⟨gk,0,none⟩) 1 cap',running:=.pointer (some ⟨gt,0,none⟩) }
structure RunE (w0 w' : World) (k t gm gt gk gch cap' : Nat) (ka : Array Value) (m : MachD) (tk nr : Nat) : Prop where
 mac : MachAt w' gm m
 code : m.code = 2
 tic : m.rticks = (tk : Int)
 fin : Fin' k t tk nr
 rc : ORow w' w0.heap.size 41 5 rcC m.recs (recL nr)
 vals : m.vals = .slice none 0 0
 tasks : m.tasks = .slice (some ⟨gk,0,none⟩) 1 cap'
 tsk : ∃ cv,w'.heap[gt]? = some (.cells (taskA cv gch 2) 145)
 cha : w'.heap[gch]? = some (.chan 0 #[] false 0 0 false)
 row : w'.heap[gk]? = some (.cells ka 97)
 bel : Below w0.heap.size w0 w'
set_option maxHeartbeats 4000000 in
theorem runText_t (w0 w : World) (gm gt gk gch cap' bp op capP b off cb co k t : Nat) (ka : Array Value) (f : FC) (ov : Addr) (hm : MachAt w gm (machU (.slice (some ⟨bp,op,none⟩) 1 capP) t gk gt cap')) (ht : w.heap[gt]? = some (.cells (taskA (.slice none 0 0) gch 2) 145)) (hc : w.heap[gch]? = some (.chan 0 #[] false 0 0 false)) (hk : w.heap[gk]? = some (.cells ka 97))
  (hbel : Below w0.heap.size w0 w) (g1 : w0.heap.size ≤ gm) (g2 : w0.heap.size ≤ gt) (hf : ∀ j v,f.cells[j]? = some v→w0.cell? ⟨bp,op + j,none⟩ = some v) (hd : f.d = throwsD k) (hk1 : 1 ≤ k) (hk2 : k ≤ 250) (ht5 : t ≤ 5000) (hai : f.ai = some ⟨b,off,none⟩) (hsl : SlA w0 5 ID.cells (some ⟨b,off,none⟩) (throwsI k))
  (hac : f.ac = some ⟨cb,co,none⟩) (hcb : cb < w0.heap.size) (hcc : ∀ j u,(intD 7).cells[j]? = some u→w0.cell? ⟨cb,co + j,none⟩ = some u) (hov : OvV w0 (some ov)) :
  Calls Tryz.prog 25 #[.pointer (some ⟨gm,0,none⟩)] w fun e w'=>e = .returned (.tuple #[])∧∃ (m : MachD) (tk nr : Nat),RunE w0 w' k t gm gt gk gch cap' ka m tk nr:=by
 obtain ⟨W,hW⟩ : ∃ W,w.alloc (.cells #[.int .i64 0,.int .i64 0,.slice none 0 0] 151) = W:=⟨_,rfl⟩
 have hb : Below w.heap.size w W:=by rw [← hW]; exact bw1 _ _
 have hfn : W.heap[w.heap.size]? = some (.cells #[.int .i64 0,.int .i64 0,.slice none 0 0] 151):=by rw [← hW]; exact blk_new _ _
 have c1 : W.cell? ⟨gm,1,none⟩ = some (.slice none 0 0):=by rw [(hm.later hb).cell]; rfl
 have HB : Hid (Below w.heap.size w W):=hb
 have HFN : Hid (W.heap[w.heap.size]? = some (.cells #[.int .i64 0,.int .i64 0,.slice none 0 0] 151)):=hfn
 have HM : Hid (MachAt w gm (machU (.slice (some ⟨bp,op,none⟩) 1 capP) t gk gt cap')):=hm
 have HT : Hid (w.heap[gt]? = some (.cells (taskA (.slice none 0 0) gch 2) 145)):=ht
 have HC : Hid (w.heap[gch]? = some (.chan 0 #[] false 0 0 false)):=hc
 have HKk : Hid (w.heap[gk]? = some (.cells ka 97)):=hk
 have HW0 : Hid (Below w0.heap.size w0 w):=hbel
 have HF : Hid (∀ j v,f.cells[j]? = some v→w0.cell? ⟨bp,op + j,none⟩ = some v):=hf
 have HD : Hid (f.d = throwsD k):=hd
 have HSL : Hid (SlA w0 5 ID.cells (some ⟨b,off,none⟩) (throwsI k)):=hsl
 have HCC : Hid (f.ac = some ⟨cb,co,none⟩∧cb < w0.heap.size∧∀ j u,(intD 7).cells[j]? = some u→w0.cell? ⟨cb,co + j,none⟩ = some u):=⟨hac,hcb,hcc⟩
 have HOV : Hid (OvV w0 (some ov)):=hov
 have HAI : Hid (f.ai = some ⟨b,off,none⟩):=hai
 clear hb hfn hm ht hc hk hbel hf hd hsl hac hcb hcc hov hai
 go_enter Tryz.func25,Tryz.ntmps25
 go_wp2_with fail
 refine (textValues_nil _).mono ?_
 rintro e w1 ⟨rfl,hx⟩
 have hb1 : Below w.heap.size w w1:=HB.out.trans (hx.mono HB.out.size)
 have HB1 : Hid (Below w.heap.size w w1):=hb1
 have HFN1 : Hid _:=blk_later hx HFN.out
 clear hx c1
 go_wp2_with fail
 refine (topn_any gm gt w.heap.size bp op gch 0 capP _ f w1 (MachAt.later HM.out HB1.out) rfl rfl (blk_later HB1.out HT.out) HFN1.out (fun j v hv=>cell_later (HW0.out.trans (HB1.out.mono HW0.out.size)) (HF.out j v hv)) (by rw [HD.out]; rfl) (by rw [HD.out]; rfl)).mono ?_
 rintro e w2 ⟨gf,gc,capc,rfl,hgf,hcal,ht2,hro,hb2⟩
 have hmw1 : MachAt w1 gm (machU (.slice (some ⟨bp,op,none⟩) 1 capP) t gk gt cap'):=MachAt.later HM.out HB1.out
 have htw1:=blk_later HB1.out HT.out
 have hcw1:=blk_later HB1.out HC.out
 have hkw1:=blk_later HB1.out HKk.out
 have hm2 : MachAt w2 gm (machU (.slice (some ⟨bp,op,none⟩) 1 capP) t gk gt cap'):=hmw1.but hb2 (by simp; exact ne_ty hmw1 htw1 (by decide))
 have hc2:=hb2.blk hcw1 (by simp; exact ne_chan htw1 hcw1)
 have hk2':=hb2.blk hkw1 (by simp; exact fun e=>ne_ty htw1 hkw1 (by decide) e.symm)
 have hbel2 : Below w0.heap.size w0 w2:=hb2.below (HW0.out.trans (HB1.out.mono HW0.out.size)) (fun g hg=>by simp at hg; subst hg; exact g2) (by have:=HW0.out.size; have:=HB1.out.size; omega)
 obtain ⟨_,ca,hcab⟩:=own_blk hro (g:=gc) rfl
 have hca0 : ca[0]? = some (.pointer (some ⟨gf,0,none⟩)):=by
  obtain ⟨a0,c0,e0,hs9⟩:=hro.lies pC_len
  obtain ⟨b9,o9,e9,_,hc9⟩:=hs9 0 _ rfl
  have e2 : a0 = some ⟨gc,0,none⟩:=by injection e0 with e0 _ _; exact e0.symm
  rw [e2] at e9
  have e3 : gc = b9∧0 = o9:=by injection e9 with e9; injection e9 with e9 e2; exact ⟨e9,e2⟩
  obtain ⟨rfl,rfl⟩:=e3
  have:=hc9 0 _ rfl
  rw [blk_cell hcab] at this
  simpa using this
 have hcc1 : 1 ≤ capc:=by
  rcases hro.2 with ⟨e9,_⟩ | ⟨g9,c9,cur,e9,_,_,hl9,_⟩
  ·cases e9
  ·have e8 : capc = c9:=by injection e9 with _ _ e9
   have h8 : 1 ≤ c9:=by simpa using hl9
   omega
 obtain ⟨K,hK⟩ : ∃ K : TK,K = ⟨gm,gf,gt,gc,gk,gch,capc,ca,ka,bp,op,capP,ov,machU (.slice (some ⟨bp,op,none⟩) 1 capP) t gk gt cap',call0 (.slice f.ai f.d.ins.length f.ci) (.slice f.ac f.d.consts.length f.cc)⟩:=⟨_,rfl⟩
 have ok : TKok w0 K:=by
  rw [hK]
  refine ⟨g1,by show w0.heap.size ≤ gf; have:=HW0.out.size; have:=HB1.out.size; omega,rfl,rfl,rfl,?_,rfl,rfl,HOV.out,⟨by show (0 : Int) ≤ (t : Int); omega,by show (t : Int) ≤ 5000; omega⟩,hca0,hcc1⟩
  have h9:=HF.out 0 (.string f.d.name) rfl
  rw [HD.out] at h9
  exact h9
 have con : Con w0 K:=by
  rw [hK]
  refine ⟨cb,co,f.cc,?_,HCC.out.2.1,HCC.out.2.2⟩
  show Value.slice f.ac f.d.consts.length f.cc = _
  rw [HCC.out.1,HD.out]
  rfl
 have hX : TX w0 K w2 0 0 0 0 R0 [] (.slice none 0 0) (.slice none 0 0):=by
  rw [hK]
  refine ⟨hbel2,hm2,?_,ht2,hcab,hk2',hc2,ORow.nil _ _ _ _ _,(fun g hg=>by cases hg),ORow.nil _ _ _ _ _,R0_len⟩
  rw [show R0 = List.replicate 250 sd0 by unfold R0; rfl]
  exact hcal
 have HR : Hid (Calls Tryz.prog 50 #[.pointer (some ⟨gm,0,none⟩),.pointer (some ⟨gf,0,none⟩)] w2 (OvP w0 K k t)):=by
  have e1 : K.gm = gm:=by rw [hK]
  have e2 : K.gf = gf:=by rw [hK]
  have h9:=run_t w0 K ok con k t hk1 hk2 (by rw [hK]; rfl) b off f.ci w2 (by rw [hK]; show Value.slice f.ai f.d.ins.length f.ci = _; rw [HAI.out,HD.out,show (throwsD k).ins.length = 3 + 4 * k from tabL_len _ _]) HSL.out 0 _ _ hX
  rw [e1,e2] at h9
  exact h9
 have HOKK : Hid (TKok w0 K):=ok
 have HK : Hid _:=hK
 clear hX hcal ht2 hb2 hmw1 htw1 hcw1 hkw1 hm2 hc2 hk2' hbel2 hro hcab hca0 ok con hK
 go_wp2_with fail
 refine HR.out.mono ?_
 rintro e w3 ⟨rfl,tk,nr,ax,nx,rs,gl,rv,gv,hX3,hfin⟩
 have e1 : K.gm = gm:=by rw [HK.out]
 have e2 : K.gt = gt:=by rw [HK.out]
 have e3 : K.gch = gch:=by rw [HK.out]
 have e4 : K.gk = gk:=by rw [HK.out]
 have e5 : K.ka = ka:=by rw [HK.out]
 have hmac:=hX3.mac
 rw [e1] at hmac
 have htsk:=hX3.tsk
 rw [e2,e3] at htsk
 have hrow:=hX3.row
 rw [e4,e5] at hrow
 have hcha:=hX3.cha
 rw [e3] at hcha
 have c7 : w3.cell? ⟨gm,7,none⟩ = some (.int .i64 0):=by rw [hmac.cell,HK.out]; rfl
 have z3:=blk_frozen hmac
 have HE : Hid (∃ (m : MachD) (tk nr : Nat),RunE w0 (w3.setCell ⟨gm,7,none⟩ (.int .i64 2)) k t gm gt gk gch cap' ka m tk nr):=by
  refine ⟨{ K.m tk rv with code:=2 },tk,nr,⟨?_,rfl,rfl,hfin,ORow.set_own hX3.rc (own_ne hX3.rc hmac (by decide)) _ _,by rw [HK.out]; rfl,by rw [HK.out]; rfl,⟨_,blk_other htsk (ne_ty hmac htsk (by decide)) _ _⟩,blk_other hcha (fun e=>ne_chan hmac hcha e.symm) _ _,blk_other hrow (ne_ty hmac hrow (by decide)) _ _,hX3.bel.setCell (p:=⟨gm,7,none⟩) g1 _⟩⟩
  have h9:=blk_set hmac 7 (.int .i64 2)
  rw [MachD.set_code] at h9
  exact h9
 have t1:=fun W=>ta_oret (.pointer (some K.ov)) W
 have t2:=fun W=>ta_othr (.pointer (some K.ov)) W
 unfold ovI
 clear hX3 hfin HR hmac htsk hrow hcha e1 e2 e3 e4 e5
 go_wp2_with fail
 exact bodyPost_end (v:=.tuple #[]) (by simp [results,Tryz.results25,go_sem]) rfl ⟨rfl,HE.out⟩
end Go.Proofs.YtjglgbepobmjhaaGreatDoor.T
namespace Go.Proofs.YtjglgbepobmjhaaGreatDoor.M
open Go.RowKit
attribute [local go_sem] run_store_float
theorem x_dis (W : World) : (callFunc 133 #[]).run Tryz.prog W = .ok (.value (.tuple #[])) W:=by kernel_rfl
theorem x_ena (W : World) : (callFunc 135 #[]).run Tryz.prog W = .ok (.value (.tuple #[])) W:=by kernel_rfl
theorem x_acq (g o : Nat) (W : World) : (callFunc 136 #[.pointer (some ⟨g,o,none⟩)]).run Tryz.prog W = .ok (.value (.tuple #[])) W:=by kernel_rfl
theorem loadT_one (t : Extern.Atomic.T) (v : Value) : Extern.Atomic.loadT t #[v] = (do Extern.Atomic.read t (← asAddr v)):=rfl
theorem x_ld (g o : Nat) (z : Int) (W : World) (h : W.cell? ⟨g,o,none⟩ = some (.int .u64 z)) : (callFunc 211 #[.pointer (some ⟨g,o,none⟩)]).run Tryz.prog W = .ok (.value (.int .u64 z)) W:=by
 have hf:=Tryz.func211
 have hn : (Tryz.f211.name == "runtime.NumGoroutine") = false:=by kernel_rfl
 have hb : Tryz.f211.body.isNone = true:=by kernel_rfl
 have h1 : (Extern.findNext Tryz.f211).isNone = true:=by kernel_rfl
 have h1' : Extern.findNext Tryz.f211 = none:=Option.isNone_iff_eq_none.1 h1
 have h2 : Extern.find Tryz.f211 = some (Extern.Atomic.loadT (.int .u64)):=by kernel_rfl
 have hl : (Extern.Atomic.loadT (.int .u64) #[.pointer (some ⟨g,o,none⟩)]).run Tryz.prog W = .ok (.int .u64 z) W:=by
  rw [loadT_one]
  simp [Extern.Atomic.read,asAddr,go_sem,h]
 unfold callFunc
 have hmk : (Sem.mark (Mark.extern 211) (Sem.pure ())).run Tryz.prog W = .ok () W:=rfl
 simp [go_sem,hf,h1',h2,mark]
 rw [if_neg (by simpa using hn),if_pos (by simpa using hb),hmk]
 simp only [Result.andThen_ok]
 rw [hl]
 rfl
set_option maxHeartbeats 4000000 in
theorem uload_any (g o : Nat) (z : Int) (w : World) (h : w.cell? ⟨g,o,none⟩ = some (.int .u64 z)) :
  Calls Tryz.prog 134 #[.pointer (some ⟨g,o,none⟩)] w fun e w'=>e = .returned (.int .u64 z)∧w' = w:=by
 have hx:=x_ld g o z w h
 go_enter Tryz.func134,Tryz.ntmps134
 go_wp2_with fail
 go_ret
 exact ⟨rfl,rfl⟩
set_option maxHeartbeats 4000000 in
theorem wait_zero (g o : Nat) (w : World) (h : w.cell? ⟨g,o,none⟩ = some (.int .u64 0)) :
  Calls Tryz.prog 53 #[.pointer (some ⟨g,o,none⟩)] w fun e w'=>e = .returned (.tuple #[])∧w' = w:=by
 have h1:=x_dis
 have h2:=x_ena
 have h3:=x_acq g o
 have h4 : (convert 221 122 (.pointer (some ⟨g,o,none⟩))).run Tryz.prog w = .ok (.pointer (some ⟨g,o,none⟩)) w:=run_convert_to_unsafe (t:=107) Tryz.underlying221 Tryz.underlying122 (by kernel_rfl) h
 have h5 : bits BinOp.and IntKind.u64 0 2147483647 = 0:=by kernel_rfl
 have h6 : bits BinOp.and IntKind.u64 0 2147483648 = 0:=by kernel_rfl
 have HL : Hid (Calls Tryz.prog 134 #[.pointer (some ⟨g,o,none⟩)] w fun e w'=>e = .returned (.int .u64 0)∧w' = w):=uload_any g o 0 w h
 go_enter Tryz.func53,Tryz.ntmps53
 go_wp2_with fail
 go_loopw [] (fun wr=>wr = w) (fun _=>0)
 case atStart=>rfl
 case round =>
  obtain rfl:=hrel
  go_wp2_with fail
  refine HL.out.mono ?_
  rintro e w1 ⟨rfl,rfl⟩
  go_wp2_with fail
  exact bodyPost_ret (v:=.tuple #[]) (by simp [results,Tryz.results53,go_sem]) rfl ⟨rfl,rfl⟩
set_option maxHeartbeats 4000000 in
theorem stop_any (gm gt gk gch cap' : Nat) (m : MachD) (cv : Value) (ka : Array Value) (w : World) (hm : MachAt w gm m) (hts : m.tasks = .slice (some ⟨gk,0,none⟩) 1 cap') (hk : w.heap[gk]? = some (.cells ka 97)) (hk0 : ka[0]? = some (.pointer (some ⟨gt,0,none⟩))) (ht : w.heap[gt]? = some (.cells (taskA cv gch 2) 145)) (hc : w.heap[gch]? = some (.chan 0 #[] false 0 0 false)) :
  Calls Tryz.prog 26 #[.pointer (some ⟨gm,0,none⟩)] w fun e w'=>e = .returned (.tuple #[])∧MachAt w' gm m∧ButL [gch] w w':=by
 have c74 : w.cell? ⟨gm,74,none⟩ = some (.slice (some ⟨gk,0,none⟩) 1 cap'):=by rw [hm.cell,← hts]; rfl
 have k0 : w.cell? ⟨gk,0,none⟩ = some (.pointer (some ⟨gt,0,none⟩)):=by rw [blk_cell hk]; exact hk0
 have t9 : w.cell? ⟨gt,9,none⟩ = some (.chan (some gch)):=by rw [blk_cell ht]; rfl
 have HM : Hid (MachAt w gm m):=hm
 have hcl:=blk_lt hc
 clear hm hk ht
 go_enter Tryz.func26,Tryz.ntmps26
 go_wp2_with fail
 go_loopw [9] (fun i wr=>(i = .int .i64 0∧wr = w) ∨ (i = .int .i64 1∧Hid (MachAt wr gm m)∧Hid (ButL [gch] w wr))) (fun i _=>1 - (intOf i).toNat)
 case atStart=>exact .inl ⟨rfl,rfl⟩
 case round =>
  rcases hrel with ⟨rfl,rfl⟩ | ⟨rfl,HM2,HB2⟩
  ·have hcr:=run_close_open (P:=Tryz.prog) (w:=wr) #[141] 0 hc
   have HC : Hid (wr.heap[gch]? = some (.chan 0 #[] false 0 0 false)):=hc
   have HB2 : Hid (ButL [gch] wr { wr with heap:=wr.heap.setIfInBounds gch (.chan 0 #[] true 0 0 false) }):=⟨rfl,rfl,rfl,by simp,fun k hk hn=>by
    show (wr.heap.setIfInBounds gch _)[k]? = _
    rw [Array.getElem?_setIfInBounds_ne (fun e=>hn (by simp [e]))]⟩
   have HM2 : Hid (MachAt { wr with heap:=wr.heap.setIfInBounds gch (.chan 0 #[] true 0 0 false) } gm m):=MachAt.but HM.out HB2.out (by simp; exact fun e=>ne_chan HM.out HC.out e.symm)
   obtain ⟨W2,hW2⟩ : ∃ W2,({ wr with heap:=wr.heap.setIfInBounds gch (.chan 0 #[] true 0 0 false) } : World) = W2:=⟨_,rfl⟩
   rw [hW2] at HB2 HM2 hcr
   clear hW2 hc
   go_wp2_with fail
   go_roundw
   case rel=>exact .inr ⟨rfl,HM2,HB2⟩
   case measure=>simp [intOf]
  ·have c81 : wr.cell? ⟨gm,81,none⟩ = some (.int .u64 0):=by rw [MachAt.cell HM2.out]; rfl
   have HWt : Hid (Calls Tryz.prog 53 #[.pointer (some ⟨gm,81,none⟩)] wr fun e w'=>e = .returned (.tuple #[])∧w' = wr):=wait_zero gm 81 wr c81
   clear c74 k0 t9 hc
   go_wp2_with fail
   refine HWt.out.mono ?_
   rintro e w1 ⟨rfl,rfl⟩
   go_wp2_with fail
   exact bodyPost_end (v:=.tuple #[]) (by simp [results,Tryz.results26,go_sem]) rfl ⟨rfl,HM2.out,HB2.out⟩
end Go.Proofs.YtjglgbepobmjhaaGreatDoor.M
namespace Go.Proofs.YtjglgbepobmjhaaGreatDoor
open Go.RowKit
def Rch (s : WkS) (a : Nat) : Prop:=∃ x,s.st[a]? = some (some x)
def Clo (ins : List ID) (s : WkS) : Prop:=∀ (a : Nat) n,ins[a]? = some n→Rch s a→s.due[a]? ≠ some true→∀ t ∈ silentV n a,Rch s t
theorem reachW_hit {s s' : WkS} {t : Nat} {x : SD} (h : reachW s t x = some s') (ht : t < s.st.length) : Rch s' t:=by
 unfold reachW at h
 split at h
 ·cases h
  exact ⟨x,by dsimp only; rw [List.getElem?_set,if_pos rfl,if_pos ht]⟩
 ·rename_i y hy
  split at h
  ·cases h
   refine ⟨y,?_⟩
   rw [List.getD_eq_getElem?_getD,List.getElem?_eq_getElem ht] at hy
   rw [List.getElem?_eq_getElem ht]
   simpa using hy
  ·cases h
theorem reachW_due {s s' : WkS} {t : Nat} {x : SD} (h : reachW s t x = some s') {b : Nat} (hb : s.due[b]? = some true) : s'.due[b]? = some true:=by
 unfold reachW at h
 split at h
 ·cases h
  dsimp only
  rw [List.getElem?_set]
  split
  ·rename_i e
   subst e
   rw [if_pos (List.getElem?_eq_some_iff.1 hb).1]
  ·exact hb
 ·split at h
  ·cases h; exact hb
  ·cases h
theorem reachW_new {s s' : WkS} {t : Nat} {x : SD} (h : reachW s t x = some s') (hl : s.st.length = s.due.length) {b : Nat} (hb : Rch s' b) : Rch s b ∨ s'.due[b]? = some true:=by
 unfold reachW at h
 split at h
 ·cases h
  obtain ⟨y,hy⟩:=hb
  dsimp only at hy ⊢
  rw [List.getElem?_set] at hy ⊢
  split at hy
  ·rename_i e
   subst e
   split at hy
   ·rename_i hlt
    right
    rw [if_pos rfl,if_pos (by omega)]
   ·cases hy
  ·exact .inl ⟨y,hy⟩
 ·split at h
  ·cases h; exact .inl hb
  ·cases h
theorem leadW_all {l : List (Nat × SD)} {s s' : WkS} (hl : s.st.length = s.due.length) (h : leadW l s = .ok s') : (∀ b,Rch s b→Rch s' b)∧(∀ b : Nat,s.due[b]? = some true→s'.due[b]? = some true)∧(∀ b,Rch s' b→Rch s b ∨ s'.due[b]? = some true)∧(∀ z ∈ l,z.1 < s.st.length→Rch s' z.1):=by
 induction l generalizing s with
 | nil=>cases h; exact ⟨fun _ h=>h,fun _ h=>h,fun _ h=>.inl h,fun z hz=>by cases hz⟩
 | cons x l ih =>
  unfold leadW at h
  split at h
  ·rename_i s1 h1
   obtain ⟨e1,e2⟩:=reachW_len h1
   obtain ⟨i1,i2,i3,i4⟩:=ih (by omega) h
   refine ⟨fun b hb=>?_,fun b hb=>i2 b (reachW_due h1 hb),fun b hb=>?_,fun z hz hlt=>?_⟩
   ·obtain ⟨y,hy⟩:=hb
    exact i1 b ⟨y,reachW_keep h1 hy⟩
   ·rcases i3 b hb with q | q
    ·rcases reachW_new h1 hl q with r | r
     ·exact .inl r
     ·exact .inr (i2 b r)
    ·exact .inr q
   ·rcases List.mem_cons.1 hz with rfl | hz
    ·exact i1 _ (reachW_hit h1 hlt)
    ·exact i4 z hz (by omega)
  ·cases h
theorem silent_follow {n : ID} {a t : Nat} {x y : SD} (h : t ∈ silentV n a) : ∃ z,(t,z) ∈ followV n a x y:=by
 unfold silentV at h
 unfold followV
 rcases List.mem_append.1 h with h | h
 ·split at h
  ·rename_i hg
   simp only [Bool.and_eq_true] at hg
   simp at h
   subst h
   exact ⟨y,List.mem_append_left _ (by rw [if_pos hg.1]; simp)⟩
  ·cases h
 ·cases ht : targetV n with
  | none=>rw [ht] at h; cases h
  | some t' =>
   rw [ht] at h
   simp at h
   subst h
   exact ⟨_,List.mem_append_right _ (List.mem_singleton.2 rfl)⟩
theorem Clo.pass {regs nI : Nat} {c : List FD} {ins : List ID} {a : Nat} {s s' : WkS} (h : Clo ins s) (hi : ∀ n ∈ ins,InsOk regs nI n) (hg : ∀ (a : Nat) n,ins[a]? = some n→goesV n.op = true→a + 1 < nI) (ha : a < ins.length) (hok : WOk regs nI s) (hp : passW c ins a s = .ok s') : Clo ins s':=by
 have hna : ins[a]? = some ins[a]:=List.getElem?_eq_getElem ha
 have hgd : ins.getD a id0 = ins[a]:=by rw [List.getD_eq_getElem?_getD,hna]; rfl
 unfold passW at hp
 split at hp
 ·cases hp
 ·rename_i x hx
  split at hp
  ·cases hp
  ·rename_i y hy
   split at hp
   ·cases hp
   ·rename_i s1 h1
    cases hp
    obtain ⟨i1,i2,i3,i4⟩:=leadW_all (s:=⟨s.st,s.due.set a false⟩) (by simp [hok.l1,hok.l2]) h1
    rw [hgd] at i4
    intro b n hn hb hd t ht
    by_cases e : b = a
    ·subst e
     rw [hna] at hn
     cases hn
     obtain ⟨z,hz⟩:=silent_follow (x:=x) (y:=y) ht
     have hlt:=followV_lt (hi _ (List.getElem_mem ha)) (hg b _ hna) _ hz
     exact i4 _ hz (by rw [hok.l1]; exact hlt)
    ·rcases i3 b hb with q | q
     ·have hd' : s.due[b]? ≠ some true:=fun e'=>hd (i2 b (by dsimp only; rw [List.getElem?_set,if_neg (fun q=>e q.symm)]; exact e'))
      exact i1 t (h b n hn q hd' t ht)
     ·exact absurd q hd
theorem Clo.start (d : FD) : Clo d.ins (startS d):=by
 intro a n hn hb hd t ht
 obtain ⟨x,hx⟩:=hb
 cases a with
 | zero=>exact absurd rfl hd
 | succ a =>
  simp only [startS,List.getElem?_cons_succ,List.getElem?_replicate] at hx
  split at hx <;> cases hx
def slLen : Option Value→Nat
 | some (.slice _ n _)=>n
 | _=>0
structure RuI (c : List FD) (ins : List ID) (R : Except (Nat × Nat) WkS) (nR : Nat) (W0 : World) (gW gS nI p : Nat) (cv iv : Value) (w wr : World) (zs : List SR) (hv : Value) (due : List Bool) : Prop where
 wl : WlV W0.heap.size gW gS nI p cv iv wr zs hv due
 run : ∃ k,Runs c ins k ⟨zs.map SR.o,due⟩ R
 ok : WOk nR nI ⟨zs.map SR.o,due⟩
 gz : WZg ⟨zs.map SR.o,due⟩
 but : ButL [gW,gS] w wr
 own : ∀ g,hv.ownBlock = some g→w.heap.size ≤ g
 low : Below W0.heap.size W0 wr
 clo : Clo ins ⟨zs.map SR.o,due⟩
theorem RuI.muv {c : List FD} {ins : List ID} {R : Except (Nat × Nat) WkS} {nR : Nat} {W0 : World} {gW gS nI p : Nat} {cv iv : Value} {w wr : World} {zs : List SR} {hv : Value} {due : List Bool} (h : RuI c ins R nR W0 gW gS nI p cv iv w wr zs hv due) : 2 * cntB false wr gS + slLen (wr.cell? ⟨gW,4,none⟩) = mu ⟨zs.map SR.o,due⟩:=by
 obtain ⟨l,h1,_,h3⟩:=h.wl.hp
 obtain ⟨a,cap,e⟩:=h1.row.val
 rw [h.wl.cells.2.2.2.2,h.wl.st.cnt,e,nz_len]
 unfold mu
 simp only [slLen]
 omega
theorem runs_step {c : List FD} {ins : List ID} {k a : Nat} {s : WkS} {R : Except (Nat × Nat) WkS} (h : Runs c ins k s R) (ha : IsLeast s.due a) : (∀ e,passW c ins a s = .error e→R = .error e)∧(∀ s',passW c ins a s = .ok s'→∃ k',Runs c ins k' s' R):=by
 cases k with
 | zero =>
  rcases h with ⟨h1,rfl⟩ | ⟨b,e,h1,h2,rfl⟩
  ·exact absurd ha.1 (h1 a)
  ·cases h1.uniq ha
   rw [h2]
   exact ⟨(fun e' he=>by cases he; rfl),(fun s' hs=>by cases hs)⟩
 | succ k =>
  obtain ⟨b,s1,h1,h2,h3⟩:=h
  cases h1.uniq ha
  rw [h2]
  exact ⟨(fun e' he=>by cases he),fun s' hs=>by cases hs; exact ⟨k,h3⟩⟩
theorem runs_end {c : List FD} {ins : List ID} {k : Nat} {s : WkS} {R : Except (Nat × Nat) WkS} (h : Runs c ins k s R) (ha : AllOff s.due) : R = .ok s:=by
 cases k with
 | zero =>
  rcases h with ⟨_,rfl⟩ | ⟨b,e,h1,_⟩
  ·rfl
  ·exact absurd h1.1 (ha b)
 | succ k =>
  obtain ⟨b,s1,h1,_⟩:=h
  exact absurd h1.1 (ha b)
theorem heap_least {w : World} {B : Nat} {hv : Value} {due : List Bool} {l : List Nat} {x : Nat} (h1 : HpV w B hv l) (h2 : ∀ z,z ∈ l ↔ due[z]? = some true) (hx : l[0]? = some x) : IsLeast due x:=by
 refine ⟨(h2 x).1 (List.mem_of_getElem? hx),fun b hb e=>?_⟩
 have hm:=(h2 b).2 e
 obtain ⟨i,hi⟩:=List.mem_iff_getElem?.1 hm
 have:=h1.hp.least hx i b hi
 omega
theorem WlV.popped {B gW gS nI p x : Nat} {cv iv : Value} {w w' : World} {zs : List SR} {hv hv' : Value} {due : List Bool} {l l' : List Nat} (h : WlV B gW gS nI p cv iv w zs hv due) (h2 : ∀ z,z ∈ l ↔ due[z]? = some true) (h3 : l.length = due.countP (· == true)) (hx : due[x]? = some true) (q1 : w'.heap[gW]? = some (.cells ((#[cv,.int .i64 p,iv,.slice (some ⟨gS,0,none⟩) nI nI,hv] : Array Value).setIfInBounds 4 hv') 77)) (q2 : HpV w' B hv' l') (q3 : ∀ z,z ∈ l' ↔ z ≠ x∧z ∈ l) (q4 : l'.length + 1 = l.length) (q5 : ButL (gW :: hv.ownBlock.toList) w w') (q6 : hv'.ownBlock = hv.ownBlock) : WlV B gW gS nI p cv iv w' zs hv' (due.set x false):=by
 obtain ⟨k1,k2⟩:=due_pop hx h2 h3 q3 q4
 exact h.heaped q5 (by simpa using q1) ⟨l',q2,k1,k2⟩ (by simpa using h.dul) (fun g e=>.inl (by rw [← q6]; exact e))
theorem start_states (d : FD) (nI : Nat) (h : d.ins.length = nI) (h0 : 0 < nI) : reachW ⟨(List.replicate nI sr0).map SR.o,List.replicate nI false⟩ 0 ⟨startT d.params.toNat d.regs.toNat d.rest,[]⟩ = some (startS d):=by
 obtain ⟨m,rfl⟩ : ∃ m,nI = m + 1:=⟨nI - 1,by omega⟩
 unfold reachW startS
 rw [h]
 simp [sr0,List.replicate_succ]
def RnA (B gW gS nI p : Nat) (cv iv : Value) (R : Except (Nat × Nat) WkS) (d : FD) (e : Ending) (w' : World) : Prop:=match R with
 | .error x=>e = .returned (EV (some ((x.1 : Int),(p : Int),(x.2 : Int))))
 | .ok s=>(∃ i : Nat,LeastRd s (EE d) i∧e = .returned (EV (some (14,(p : Int),(i : Int))))) ∨ ((∀ i : Nat,(∃ x,s.st[i]? = some (some x))→¬ TJ.Cyc (EE d) i)∧e = .returned (EV none)∧∃ zs hv,WlV B gW gS nI p cv iv w' zs hv s.due∧zs.map SR.o = s.st)
def LrP (st : List (Option SD)) (d : FD) (o : Option Nat) : Prop:=match o with
 | none=>∀ i : Nat,(∃ x,st[i]? = some (some x))→¬ TJ.Cyc (EE d) i
 | some i=>∀ due,LeastRd ⟨st,due⟩ (EE d) i
def zer (o : Nat) : Nat→List Int→List Int
 | 0,ts=>ts
 | m + 1,ts=>zer (o + 1) m (ts.set o 0)
theorem zer_len (m : Nat) : ∀ (o : Nat) (ts : List Int),(zer o m ts).length = ts.length:=by
 induction m with
 | zero=>intro o ts; rfl
 | succ m ih=>intro o ts; unfold zer; rw [ih]; simp
theorem zer_get (m : Nat) : ∀ (o : Nat) (ts : List Int) (i : Nat),(zer o m ts)[i]? = if o ≤ i∧i < o + m∧i < ts.length then some 0 else ts[i]?:=by
 induction m with
 | zero=>intro o ts i; unfold zer; rw [if_neg (by omega)]
 | succ m ih =>
  intro o ts i
  unfold zer
  rw [ih,List.getElem?_set,List.length_set]
  by_cases h : o = i
  ·subst h
   rw [if_neg (by omega),if_pos rfl]
   by_cases h2 : o < ts.length
   ·rw [if_pos h2,if_pos (by omega)]
   ·rw [if_neg h2,if_neg (by omega),List.getElem?_eq_none (by omega)]
  ·rw [if_neg h]
   by_cases h2 : o + 1 ≤ i∧i < o + 1 + m∧i < ts.length
   ·rw [if_pos h2,if_pos (by omega)]
   ·rw [if_neg h2,if_neg (by omega)]
theorem caught_eq (ts : List Int) (k : Nat) (h : k + 2 ≤ ts.length) : ((zer k (ts.length - k) ts).set k 1).set (k + 1) 1 = (ts.take k ++ [1,1]) ++ List.replicate (ts.length - k - 2) 0:=by
 apply List.ext_getElem?
 intro i
 rw [List.getElem?_set,List.getElem?_set,List.length_set,zer_len,zer_get]
 by_cases h1 : i < k
 ·rw [if_neg (by omega),if_neg (by omega),if_neg (by omega),List.getElem?_append_left (by simp; omega),List.getElem?_append_left (by simp; omega),List.getElem?_take_of_lt h1]
 ·by_cases h2 : i = k
  ·subst h2
   rw [if_neg (by omega),if_pos rfl,if_pos (by omega),List.getElem?_append_left (by simp; omega),List.getElem?_append_right (by simp; omega)]
   simp [Nat.min_eq_left (show i ≤ ts.length by omega)]
  ·by_cases h3 : i = k + 1
   ·subst h3
    rw [if_pos rfl,if_pos (by omega),List.getElem?_append_left (by simp; omega),List.getElem?_append_right (by simp; omega)]
    simp [Nat.min_eq_left (show k ≤ ts.length by omega)]
   ·rw [if_neg (by omega),if_neg (by omega),List.getElem?_append_right (by simp; omega),List.getElem?_replicate]
    simp only [List.length_append,List.length_take,List.length_cons,List.length_nil]
    rw [Nat.min_eq_left (show k ≤ ts.length by omega)]
    by_cases h4 : i < ts.length
    ·rw [if_pos (by omega),if_pos (by omega)]
    ·rw [if_neg (by omega),if_neg (by omega),List.getElem?_eq_none (by omega)]
theorem OI.zero (m : Nat) : ∀ (o : Nat) {w : World} {B g n cap : Nat} {ts : List Int},OI w B (.slice (some ⟨g,0,none⟩) n cap) ts→o + m ≤ ts.length→OI (w.setCells g o (List.replicate m (.int .i64 0))) B (.slice (some ⟨g,0,none⟩) n cap) (zer o m ts):=by
 induction m with
 | zero=>intro o w B g n cap ts h hm; exact h
 | succ m ih =>
  intro o w B g n cap ts h hm
  rw [List.replicate_succ]
  unfold World.setCells zer
  exact ih (o + 1) (h.set o 0 (by omega)) (by simp; omega)
theorem ButL.zero {S : List Nat} {w0 : World} {g : Nat} (hg : g ∈ S ∨ w0.heap.size ≤ g) (m : Nat) : ∀ (o : Nat) {w : World},ButL S w0 w→ButL S w0 (w.setCells g o (List.replicate m (.int .i64 0))):=by
 induction m with
 | zero=>intro o w h; exact h
 | succ m ih =>
  intro o w h
  rw [List.replicate_succ]
  unfold World.setCells
  exact ih (o + 1) (h.seto hg o _)
theorem blk_many {g i : Nat} {o : Obj} (hne : g ≠ i) : ∀ (vs : List Value) (k : Nat) {w : World},w.heap[i]? = some o→(w.setCells g k vs).heap[i]? = some o
 | [],_,_,h=>h
 | v :: r,k,_,h=>blk_many hne r (k + 1) (blk_other h hne k v)
theorem zeroInt (w : World) : (zeroValue 3).run Tryz.prog w = .ok (.int .i64 0) w:=by kernel_rfl
theorem run_clr (w : World) (ty : TypeId) (g k n cap : Nat) {B N C : Nat} {ts : List Int} (h : OI w B (.slice (some ⟨g,0,none⟩) N C) ts) (hn : 0 < n) (hk : k + n ≤ ts.length) : (Builtin.clear_ #[54] ty #[.slice (some ⟨g,k,none⟩) n cap]).run Tryz.prog w = .ok (.tuple #[]) (w.setCells g k (List.replicate n (.int .i64 0))) :=
 Lib.run_clear_slice w 54 3 ty (.int .i64 0) Tryz.underlying54 zeroInt rfl rfl g k n cap hn (fun j hj=>by
  obtain ⟨z,hz⟩ : ∃ z,ts[k + j]? = some z:=⟨ts[k + j]'(by omega),by simp⟩
  rw [h.cell hz]; rfl) (fun j hj=>h.froz (k + j))
end Go.Proofs.YtjglgbepobmjhaaGreatDoor
