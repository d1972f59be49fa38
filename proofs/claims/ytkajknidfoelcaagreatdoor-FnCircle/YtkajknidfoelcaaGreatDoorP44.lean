import Derived.Test.YtkajknidfoelcaaGreatDoorP43
import Derived.Laws.LoneSync
import Derived.Conc.EventLaws
import Derived.Test.YtkajknidfoelcaaGreatDoorP27
import Derived.Test.YtkajknidfoelcaaGreatDoorP34
set_option linter.unusedVariables false
set_option linter.unusedSimpArgs false
set_option maxRecDepth 20000
set_option maxHeartbeats 8000000
namespace Go.Proofs.YtkajknidfoelcaaGreatDoor.M
open Go.RowKit
attribute [local go_sem] run_store_float
theorem x_dis (W:World):(callFunc 135 #[]).run Tryz.prog W=.ok (.value (.tuple #[])) W:=by kernel_rfl
theorem x_ena (W:World):(callFunc 137 #[]).run Tryz.prog W=.ok (.value (.tuple #[])) W:=by kernel_rfl
theorem x_acq (g o:Nat) (W:World):(callFunc 138 #[.pointer (some ⟨g,o,none⟩)]).run Tryz.prog W=.ok (.value (.tuple #[])) W:=by kernel_rfl
theorem loadT_one (t:Extern.Atomic.T) (v:Value):Extern.Atomic.loadT t #[v]=(do Extern.Atomic.read t (←asAddr v)):=rfl
theorem x_ld (g o:Nat) (z:Int) (W:World) (h:W.cell? ⟨g,o,none⟩=some (.int .u64 z)):(callFunc 213 #[.pointer (some ⟨g,o,none⟩)]).run Tryz.prog W=.ok (.value (.int .u64 z)) W:=by
 have hf:=Tryz.func213
 have hn:(Tryz.f213.name == "runtime.NumGoroutine")=false:=by kernel_rfl
 have hb:Tryz.f213.body.isNone=true:=by kernel_rfl
 have h1:(Extern.findNext Tryz.f213).isNone=true:=by kernel_rfl
 have h1':Extern.findNext Tryz.f213=none:=Option.isNone_iff_eq_none.1 h1
 have h2:Extern.find Tryz.f213=some (Extern.Atomic.loadT (.int .u64)):=by kernel_rfl
 have hl:(Extern.Atomic.loadT (.int .u64) #[.pointer (some ⟨g,o,none⟩)]).run Tryz.prog W=.ok (.int .u64 z) W:=by
  rw[loadT_one]
  simp[Extern.Atomic.read,asAddr,go_sem,h]
 unfold callFunc
 have hmk:(Sem.mark (Mark.extern 213) (Sem.pure ())).run Tryz.prog W=.ok () W:=rfl
 simp[go_sem,hf,h1',h2,mark]
 rw[if_neg (by simpa using hn),if_pos (by simpa using hb),hmk]
 simp only[Result.andThen_ok]
 rw[hl]
 rfl
theorem uload_any (g o:Nat) (z:Int) (w:World) (h:w.cell? ⟨g,o,none⟩=some (.int .u64 z)) :
  Calls Tryz.prog 136 #[.pointer (some ⟨g,o,none⟩)] w fun e w'=>e=.returned (.int .u64 z)∧w'=w:=by
 have hx:=x_ld g o z w h
 go_enter Tryz.func136,Tryz.ntmps136
 go_wp2_with fail
 go_ret
 exact⟨rfl,rfl⟩
theorem wait_zero (g o:Nat) (w:World) (h:w.cell? ⟨g,o,none⟩=some (.int .u64 0)) :
  Calls Tryz.prog 55 #[.pointer (some ⟨g,o,none⟩)] w fun e w'=>e=.returned (.tuple #[])∧w'=w:=by
 have h1:=x_dis
 have h2:=x_ena
 have h3:=x_acq g o
 have h4:(convert 224 126 (.pointer (some ⟨g,o,none⟩))).run Tryz.prog w=.ok (.pointer (some ⟨g,o,none⟩)) w:=run_convert_to_unsafe (t:=109) Tryz.underlying224 Tryz.underlying126 (by kernel_rfl) h
 have h5:bits BinOp.and IntKind.u64 0 2147483647=0:=by kernel_rfl
 have h6:bits BinOp.and IntKind.u64 0 2147483648=0:=by kernel_rfl
 have HL:Hid (Calls Tryz.prog 136 #[.pointer (some ⟨g,o,none⟩)] w fun e w'=>e=.returned (.int .u64 0)∧w'=w):=uload_any g o 0 w h
 go_enter Tryz.func55,Tryz.ntmps55
 go_wp2_with fail
 go_loopw [] (fun wr=>wr=w) (fun _=>0)
 case atStart=>rfl
 case round =>
  obtain rfl:=hrel
  go_wp2_with fail
  refine HL.out.mono ?_
  rintro e w1 ⟨rfl,rfl⟩
  go_wp2_with fail
  exact bodyPost_ret (v:=.tuple #[]) (by simp[results,Tryz.results55,go_sem]) rfl ⟨rfl,rfl⟩
theorem stop_any (gm gt gk gch cap':Nat) (m:MachD) (cv:Value) (ka:Array Value) (w:World) (hm:MachAt w gm m) (hts:m.tasks=.slice (some ⟨gk,0,none⟩) 1 cap') (hk:w.heap[gk]?=some (.cells ka 99)) (hk0:ka[0]?=some (.pointer (some ⟨gt,0,none⟩))) (ht:w.heap[gt]?=some (.cells (taskA cv gch 2) 149)) (hc:w.heap[gch]?=some (.chan 0 #[] false 0 0 false)) :
  Calls Tryz.prog 28 #[.pointer (some ⟨gm,0,none⟩)] w fun e w'=>e=.returned (.tuple #[])∧MachAt w' gm m∧ButL [gch] w w':=by
 have c74:w.cell? ⟨gm,74,none⟩=some (.slice (some ⟨gk,0,none⟩) 1 cap'):=by rw[hm.cell,←hts];rfl
 have k0:w.cell? ⟨gk,0,none⟩=some (.pointer (some ⟨gt,0,none⟩)):=by rw[blk_cell hk];exact hk0
 have t9:w.cell? ⟨gt,9,none⟩=some (.chan (some gch)):=by rw[blk_cell ht];rfl
 have HM:Hid (MachAt w gm m):=hm
 have hcl:=blk_lt hc
 clear hm hk ht
 go_enter Tryz.func28,Tryz.ntmps28
 go_wp2_with fail
 go_loopw [9] (fun i wr=>(i=.int .i64 0∧wr=w)∨(i=.int .i64 1∧Hid (MachAt wr gm m)∧Hid (ButL [gch] w wr))) (fun i _=>1-(intOf i).toNat)
 case atStart=>exact .inl ⟨rfl,rfl⟩
 case round =>
  rcases hrel with ⟨rfl,rfl⟩ | ⟨rfl,HM2,HB2⟩
  ·have hcr:=run_close_open (P:=Tryz.prog) (w:=wr) #[145] 0 hc
   have HC:Hid (wr.heap[gch]?=some (.chan 0 #[] false 0 0 false)):=hc
   have HB2:Hid (ButL [gch] wr { wr with heap:=wr.heap.setIfInBounds gch (.chan 0 #[] true 0 0 false) }):=⟨rfl,rfl,rfl,by simp,fun k hk hn=>by
    show (wr.heap.setIfInBounds gch _)[k]?=_
    rw[Array.getElem?_setIfInBounds_ne (fun e=>hn (by simp[e]))]⟩
   have HM2:Hid (MachAt { wr with heap:=wr.heap.setIfInBounds gch (.chan 0 #[] true 0 0 false) } gm m):=MachAt.but HM.out HB2.out (by simp;exact fun e=>ne_chan HM.out HC.out e.symm)
   obtain⟨W2,hW2⟩:∃W2,({ wr with heap:=wr.heap.setIfInBounds gch (.chan 0 #[] true 0 0 false) }:World)=W2:=⟨_,rfl⟩
   rw[hW2]at HB2 HM2 hcr
   clear hW2 hc
   go_wp2_with fail
   go_roundw
   case rel=>exact .inr ⟨rfl,HM2,HB2⟩
   case measure=>simp[intOf]
  ·have c81:wr.cell? ⟨gm,81,none⟩=some (.int .u64 0):=by rw[MachAt.cell HM2.out];rfl
   have HWt:Hid (Calls Tryz.prog 55 #[.pointer (some ⟨gm,81,none⟩)] wr fun e w'=>e=.returned (.tuple #[])∧w'=wr):=wait_zero gm 81 wr c81
   clear c74 k0 t9 hc
   go_wp2_with fail
   refine HWt.out.mono ?_
   rintro e w1 ⟨rfl,rfl⟩
   go_wp2_with fail
   exact bodyPost_end (v:=.tuple #[]) (by simp[results,Tryz.results28,go_sem]) rfl ⟨rfl,HM2.out,HB2.out⟩
end Go.Proofs.YtkajknidfoelcaaGreatDoor.M
namespace Go.Proofs.YtkajknidfoelcaaGreatDoor.M
open Go.RowKit
attribute [local go_sem] run_store_float
theorem idx_nil (w:World):Calls Tryz.prog 159 #[.slice none 0 0,.func (Fn.func 79) #[] #[]] w fun e w'=>e=.returned (.int .i64 (-1))∧w'=w:=by
 go_enter Tryz.func159,Tryz.ntmps159
 go_wp2_with fail
 go_loopw [8] (fun i wr=>i=.int .i64 0∧wr=w) (fun _ _=>0)
 case atStart=>exact⟨rfl,rfl⟩
 case round =>
  obtain⟨rfl,rfl⟩:=hrel
  go_wp2_with fail
  go_ret
  exact⟨rfl,rfl⟩
theorem cont_nil (w:World):Calls Tryz.prog 78 #[.slice none 0 0,.func (Fn.func 79) #[] #[]] w fun e w'=>e=.returned (.bool false)∧w'=w:=by
 go_enter Tryz.func78,Tryz.ntmps78
 go_wp2_with fail
 refine (idx_nil w).mono ?_
 rintro e w1 ⟨rfl,rfl⟩
 go_wp2_with fail
 go_ret
 exact⟨rfl,rfl⟩
theorem texts_nil (w:World):Calls Tryz.prog 45 #[.slice none 0 0] w fun e w'=>e=.returned (.bool true)∧w'=w:=by
 go_enter Tryz.func45,Tryz.ntmps45
 go_wp2_with fail
 refine (cont_nil w).mono ?_
 rintro e w1 ⟨rfl,rfl⟩
 go_wp2_with fail
 go_ret
 exact⟨rfl,rfl⟩
abbrev RepZ:Obj:=.cells #[.int .i64 0,.slice none 0 0,.slice none 0 0,.string ⟨#[]⟩,.string ⟨#[]⟩,.int .i64 0,.int .i64 0] 35
end Go.Proofs.YtkajknidfoelcaaGreatDoor.M
namespace Go.Proofs.YtkajknidfoelcaaGreatDoor.U
open Go.RowKit M T
attribute [local go_sem] run_store_float
theorem inokU (t:Nat) (ht:t≤200) (w:World):Calls Tryz.prog 25 #[.agg #[.slice none 0 0,.slice none 0 0,.int .i64 (t:Int),.int .i64 2,.int .i64 1000]] w fun e w'=>e=.returned (.bool true)∧Below w.heap.size w w':=by
 obtain⟨W,hW⟩:∃W,w.alloc (.cells #[.slice none 0 0,.slice none 0 0,.int .i64 (t:Int),.int .i64 2,.int .i64 1000] 38)=W:=⟨_,rfl⟩
 have hb:Below w.heap.size w W:=by rw[←hW];exact bw1 _ _
 have bn:W.heap[w.heap.size]?=some (.cells #[.slice none 0 0,.slice none 0 0,.int .i64 (t:Int),.int .i64 2,.int .i64 1000] 38):=by rw[←hW];exact blk_new _ _
 have c0:W.cell? ⟨w.heap.size,0,none⟩=some (.slice none 0 0):=by rw[blk_cell bn];rfl
 have c1:W.cell? ⟨w.heap.size,1,none⟩=some (.slice none 0 0):=by rw[blk_cell bn];rfl
 have c2:W.cell? ⟨w.heap.size,2,none⟩=some (.int .i64 (t:Int)):=by rw[blk_cell bn];rfl
 have c3:W.cell? ⟨w.heap.size,3,none⟩=some (.int .i64 2):=by rw[blk_cell bn];rfl
 have c4:W.cell? ⟨w.heap.size,4,none⟩=some (.int .i64 1000):=by rw[blk_cell bn];rfl
 clear bn
 have k1:decide ((0:Int)≤(t:Int))=true:=by simp
 have k2:decide ((t:Int)≤5000)=true:=by simp;omega
 go_enter Tryz.func25,Tryz.ntmps25
 go_wp2_with (first | (go_at_call 45;refine (texts_nil _).mono ?_;rintro e w1 ⟨rfl,rfl⟩) | (go_at_call 46;refine (wi_any _ _ _ _).mono ?_;rintro e w1 ⟨rfl,rfl⟩;simp only[inR,k1,k2,show decide ((1:Int)≤2)=true by decide,show decide ((2:Int)≤60)=true by decide,show decide ((0:Int)≤1000)=true by decide,show decide ((1000:Int)≤20000)=true by decide,Bool.and_self]))
 go_ret
 exact⟨rfl,hb⟩
theorem ver_u {f:FC} {kind n:Nat} (hd:f.d=cirD kind n) (hok:cirOk kind n=true) (hct:cirT kind=true) {len B:Nat} {e:Ending} {w':World} (hv:VeP [f] len B e w'):∃gA,e=.returned (.tuple #[.slice (some ⟨gA,0,none⟩) len len,.nilIface]):=by
 obtain⟨h1,h2,_⟩:=cir_wf hok
 rcases hv.split with ⟨r,_,hc,_⟩ | ⟨_,gA,he,_⟩
 ·exfalso
  rcases hc with ⟨hn,_⟩ | ⟨_,p,f',hp,hw⟩
  ·exact hn (by show (shapeV [f.d]).1=0;rw[hd];exact h1)
  ·have:p=0∧f=f':=by
    cases p with
    | zero=>exact⟨rfl,by simpa using hp⟩
    | succ p=>simp at hp
   obtain⟨rfl,rfl⟩:=this
   have hw':WF [f.d] 0 f.d (some r):=hw
   rw[hd]at hw'
   cases WF.uniq hw' (h2 hct)
 ·exact⟨gA,he⟩
theorem ver_no {f:FC} {kind n:Nat} (hd:f.d=cirD kind n) (hok:cirOk kind n=true) (hct:cirT kind=false) {len B:Nat} {e:Ending} {w':World} (hv:VeP [f] len B e w'):∃c p i,e=.returned (.tuple #[.slice none 0 0,.iface 82 (FV c p i)]):=by
 rcases hv.split with ⟨r,_,_,he⟩ | ⟨hc,_⟩
 ·exact⟨_,_,_,he⟩
 ·exfalso
  have h1:CkR [f.d] (0,0,0):=hc
  rw[hd]at h1
  have h2:=CkR.uniq h1 (cir_ck0 hok)
  unfold cirF at h2
  rw[hct]at h2
  cases h2
def repO (ra:Option Addr) (nr rcap:Nat) (s t:ByteArray) (tk:Nat) (mk:Int):Value:=.agg #[.int .i64 2,.slice ra nr rcap,.slice none 0 0,.string s,.string t,.int .i64 (tk:Int),.int .i64 mk]
def RepU (t:Nat) (w:World) (e:Ending) (w':World):Prop:=∃(ra:Option Addr) (nr rcap:Nat) (s tr:ByteArray) (mk:Int),e=.returned (repO ra nr rcap s tr t mk)∧Below w.heap.size w w'
abbrev rep3:Value:=.agg #[.int .i64 3,.slice none 0 0,.slice none 0 0,.string ⟨#[]⟩,.string ⟨#[]⟩,.int .i64 0,.int .i64 0]
theorem runWatched_no (bp kind n t:Nat) (f:FC) (hd:f.d=cirD kind n) (hok:cirOk kind n=true) (hct:cirT kind=false) (w:World) (H0:CodeAt w (some ⟨bp,0,none⟩) [f]) (hlay:LayAt w) :
  Calls Tryz.prog 18 #[.agg #[.slice (some ⟨bp,0,none⟩) 1 1],.agg #[.slice none 0 0,.slice none 0 0,.int .i64 (t:Int),.int .i64 2,.int .i64 1000],.func (.func 19) #[] #[]] w fun e w'=>e=.returned rep3∧Below w.heap.size w w':=by
 obtain⟨W,hW⟩:∃W,((w.alloc (.cells #[.slice (some ⟨bp,0,none⟩) 1 1] 26)).alloc (.cells #[.slice none 0 0,.slice none 0 0,.int .i64 (t:Int),.int .i64 2,.int .i64 1000] 38)).alloc RepZ=W:=⟨_,rfl⟩
 have hb:Below w.heap.size w W:=by rw[←hW];exact bw3 _ _ _ _
 have b0:W.heap[w.heap.size]?=some (.cells #[.slice (some ⟨bp,0,none⟩) 1 1] 26):=by rw[←hW];exact blk_old (blk_old (blk_new _ _) _) _
 have x0:W.cell? ⟨w.heap.size,0,none⟩=some (.slice (some ⟨bp,0,none⟩) 1 1):=by rw[blk_cell b0];rfl
 have HZ:Hid (W.heap[w.heap.size+1+1]?=some RepZ):=by show _=_;rw[←hW];exact blk_newn (by simp) _
 have HB:Hid (Below w.heap.size w W):=hb
 have HCo:Hid (CodeAt W (some ⟨bp,0,none⟩) [f]):=H0.later hb
 have HLa:Hid (LayAt W):=hlay.later hb
 clear H0 hlay hb b0
 go_enter Tryz.func18,Tryz.ntmps18
 go_wp2_with fail
 clear hW
 refine (verify_any (some ⟨bp,0,none⟩) 1 1 [f] _ HCo.out rfl HLa.out).mono ?_
 rintro e w1 ⟨hV,hx1⟩
 obtain⟨c,p,i,rfl⟩:=ver_no hd hok hct hV
 have HX1:Hid (Below w.heap.size w w1):=HB.out.trans (hx1.mono HB.out.size)
 have hz5:=blk_later hx1 HZ.out
 have d0:w1.cell? ⟨w.heap.size+1+1,0,none⟩=some (.int .i64 0):=by rw[blk_cell hz5];rfl
 have d1:w1.cell? ⟨w.heap.size+1+1,1,none⟩=some (.slice none 0 0):=by rw[blk_cell hz5];rfl
 have d2:w1.cell? ⟨w.heap.size+1+1,2,none⟩=some (.slice none 0 0):=by rw[blk_cell hz5];rfl
 have d3:w1.cell? ⟨w.heap.size+1+1,3,none⟩=some (.string ⟨#[]⟩):=by rw[blk_cell hz5];rfl
 have d4:w1.cell? ⟨w.heap.size+1+1,4,none⟩=some (.string ⟨#[]⟩):=by rw[blk_cell hz5];rfl
 have d5:w1.cell? ⟨w.heap.size+1+1,5,none⟩=some (.int .i64 0):=by rw[blk_cell hz5];rfl
 have d6:w1.cell? ⟨w.heap.size+1+1,6,none⟩=some (.int .i64 0):=by rw[blk_cell hz5];rfl
 have zz:=blk_frozen hz5
 clear hV hx1 x0 hz5
 go_wp2_with fail
 have hq:w.heap.size≤w.heap.size+1+1:=by omega
 refine bodyPost_ret (v:=rep3) (by simp[results,Tryz.results18,go_sem,d0,d1,d2,d3,d4,d5,d6]) rfl ⟨rfl,?_⟩
 exact ButL.nil ((((((((ButL.of_below HX1.out).setn hq _ _).setn hq _ _).setn hq _ _).setn hq _ _).setn hq _ _).setn hq _ _).setn hq _ _)
theorem runWatched_u (bp kind n t:Nat) (f:FC) (ov:Addr) (hd:f.d=cirD kind n) (hok:cirOk kind n=true) (tab:Tab kind n) (hct:cirT kind=true) (ht5:t≤200) (w:World) (H0:CodeAt w (some ⟨bp,0,none⟩) [f]) (hlay:LayAt w) (hov:OvV w (some ov)) :
  Calls Tryz.prog 18 #[.agg #[.slice (some ⟨bp,0,none⟩) 1 1],.agg #[.slice none 0 0,.slice none 0 0,.int .i64 (t:Int),.int .i64 2,.int .i64 1000],.func (.func 19) #[] #[]] w fun e w'=>RepU t w e w':=by
 obtain⟨W,hW⟩:∃W,((w.alloc (.cells #[.slice (some ⟨bp,0,none⟩) 1 1] 26)).alloc (.cells #[.slice none 0 0,.slice none 0 0,.int .i64 (t:Int),.int .i64 2,.int .i64 1000] 38)).alloc RepZ=W:=⟨_,rfl⟩
 have hb:Below w.heap.size w W:=by rw[←hW];exact bw3 _ _ _ _
 have hsz:W.heap.size=w.heap.size+1+1+1:=by rw[←hW];simp
 have HK:Hid (∀wk,Below W.heap.size W wk→wk.cell? ⟨w.heap.size,0,none⟩=some (.slice (some ⟨bp,0,none⟩) 1 1)∧wk.cell? ⟨w.heap.size+1,0,none⟩=some (.slice none 0 0)∧wk.cell? ⟨w.heap.size+1,1,none⟩=some (.slice none 0 0)∧wk.cell? ⟨w.heap.size+1,2,none⟩=some (.int .i64 (t:Int))∧wk.cell? ⟨w.heap.size+1,3,none⟩=some (.int .i64 2)∧wk.cell? ⟨w.heap.size+1,4,none⟩=some (.int .i64 1000)):=by
  intro wk hk
  have b0:wk.heap[w.heap.size]?=some (.cells #[.slice (some ⟨bp,0,none⟩) 1 1] 26):=blk_later hk (by rw[←hW];exact blk_old (blk_old (blk_new _ _) _) _)
  have b1:wk.heap[w.heap.size+1]?=some (.cells #[.slice none 0 0,.slice none 0 0,.int .i64 (t:Int),.int .i64 2,.int .i64 1000] 38):=blk_later hk (by rw[←hW];exact blk_old (blk_newn (by simp) _) _)
  refine⟨?_,?_,?_,?_,?_,?_⟩
  ·rw[blk_cell b0];rfl
  all_goals (rw[blk_cell b1];rfl)
 have HZ:Hid (W.heap[w.heap.size+1+1]?=some RepZ):=by show _=_;rw[←hW];exact blk_newn (by simp) _
 have HB:Hid (Below w.heap.size w W):=hb
 have HCo:Hid (CodeAt W (some ⟨bp,0,none⟩) [f]):=H0.later hb
 have HLa:Hid (LayAt W):=hlay.later hb
 have HOv:Hid (OvV W (some ov)):=hov.later hb
 obtain⟨x0,x1,x2,x3,x4,x5⟩:=HK.out W (Below.refl _ _)
 clear H0 hlay hov hb
 go_enter Tryz.func18,Tryz.ntmps18
 go_wp2_with fail
 clear hW
 refine (verify_any (some ⟨bp,0,none⟩) 1 1 [f] _ HCo.out rfl HLa.out).mono ?_
 rintro e w1 ⟨hV,hx1⟩
 obtain⟨gA,rfl⟩:=ver_u hd hok hct hV
 have HX1:Hid (Below W.heap.size W w1):=hx1
 obtain⟨y0,y1,y2,y3,y4,y5⟩:=HK.out w1 hx1
 clear hV hx1 x0 x1 x2 x3 x4 x5
 go_wp2_with fail
 refine (inokU t ht5 _).mono ?_
 rintro e w2 ⟨rfl,hx2⟩
 have HX2:Hid (Below W.heap.size W w2):=HX1.out.trans (hx2.mono HX1.out.size)
 obtain⟨z0,z1,z2,z3,z4,z5⟩:=HK.out w2 HX2.out
 clear hx2 y0 y1 y2 y3 y4 y5
 go_wp2_with fail
 refine (newMachine_any (some ⟨bp,0,none⟩) 1 1 (t:Int) 2 1000 w2).mono ?_
 rintro e w3 ⟨gm,gt,gk,gch,cap',rfl,hgm,hm,ht,hgt,hc,hgc,ho,hx3⟩
 have HX3:Hid (Below W.heap.size W w3):=HX2.out.trans (hx3.mono HX2.out.size)
 obtain⟨_,ka,hk⟩:=M.own_blk ho (g:=gk) rfl
 have hk0:ka[0]?=some (.pointer (some ⟨gt,0,none⟩)):=by
  obtain⟨a0,c0,e0,hs0⟩:=ho.lies pC_len
  obtain⟨b0,o0,e1,_,hc0⟩:=hs0 0 gt rfl
  have e2:a0=some ⟨gk,0,none⟩:=by injection e0 with e0 _ _;exact e0.symm
  rw[e2]at e1
  have e3:gk=b0∧0=o0:=by injection e1 with e1;injection e1 with e1 e2;exact⟨e1,e2⟩
  obtain⟨rfl,rfl⟩:=e3
  have:=hc0 0 _ rfl
  rw[blk_cell hk]at this
  simpa using this
 have hco2:CodeAt w2 (some ⟨bp,0,none⟩) [f]:=HCo.out.later HX2.out
 have hf2:∀j v,f.cells[j]?=some v→w2.cell? ⟨bp,0+j,none⟩=some v:=by
  obtain⟨b0,o0,e1,_,hc0⟩:=hco2.row 0 f rfl
  have e3:bp=b0∧0=o0:=by injection e1 with e1;injection e1 with e1 e2;exact⟨e1,e2⟩
  obtain⟨rfl,rfl⟩:=e3
  intro j v hv
  have:=hc0 j v hv
  simpa using this
 have hsl2:SlA w2 5 ID.cells f.ai f.d.ins:=(hco2.lie f (by simp)).i
 obtain⟨ib,io,hai⟩:∃ib io,f.ai=some ⟨ib,io,none⟩:=by
  obtain⟨x,hx⟩:∃x,f.d.ins[0]?=some x:=⟨f.d.ins[0]'(by rw[hd];have:=(cir_len kind n).1;show 0<(cirI kind n).length;omega),by simp⟩
  obtain⟨b0,o0,e1,_,_⟩:=hsl2 0 x hx
  exact⟨b0,o0,e1⟩
 have hov2:OvV w2 (some ov):=HOv.out.later HX2.out
 have hslc:SlA w2 5 VD.cells f.ac f.d.consts:=(hco2.lie f (by simp)).c
 obtain⟨cb,co,hac,hcb,hcc⟩:∃cb co,f.ac=some ⟨cb,co,none⟩∧cb<w2.heap.size∧∀(j:Nat) v,[nothing,texter][j]?=some v→∀q u,v.cells[q]?=some u→w2.cell? ⟨cb,co+j*5+q,none⟩=some u:=by
  obtain⟨b0,o0,e1,e2,e3⟩:=hslc 0 nothing (by rw[hd];rfl)
  refine⟨b0,o0,e1,e2,fun j v hv q u hu=>?_⟩
  obtain⟨b1,o1,e4,_,e5⟩:=hslc j v (by rw[hd];exact hv)
  have e6:b0=b1∧o0=o1:=by rw[e1]at e4;injection e4 with e4;injection e4 with e4 e7;exact⟨e4,e7⟩
  obtain⟨rfl,rfl⟩:=e6
  exact e5 q u hu
 have HRT:Hid (Calls Tryz.prog 27 #[.pointer (some ⟨gm,0,none⟩)] w3 fun e w'=>e=.returned (.tuple #[])∧∃(m:MachD) (xs:List RcD),RunE w2 w' t gm gt gk gch cap' ka m xs) :=
  runText_u w2 w3 gm gt gk gch cap' bp 0 1 ib io cb co kind n t ka f ov hm ht hc hk hx3 hgm hgt hf2 hd tab hct ht5 hai (by have h9:=hsl2;rw[hai,hd]at h9;exact h9) hac hcb hcc hov2
 have HK0:Hid _:=hk0
 have hgc2:w2.heap.size≤gch:=hgc
 have hgm2:w2.heap.size≤gm:=hgm
 clear z0 z1 z2 z3 z4 z5 hx3 hm ht hc ho hk hk0 hco2 hf2 hsl2 hov2 hgm hgt hgc hai hslc hac hcb hcc
 go_wp2_with fail
 refine HRT.out.mono ?_
 rintro e w4 ⟨rfl,m,xs,hE⟩
 obtain⟨cv,ht4⟩:=hE.tsk
 have HST:Hid (Calls Tryz.prog 28 #[.pointer (some ⟨gm,0,none⟩)] w4 fun e w'=>e=.returned (.tuple #[])∧MachAt w' gm m∧ButL [gch] w4 w'):=stop_any gm gt gk gch cap' m cv ka w4 hE.mac hE.tasks hE.row HK0.out ht4 hE.cha
 have HX4:Hid (Below w2.heap.size w2 w4):=hE.bel
 have HE:Hid (RunE w2 w4 t gm gt gk gch cap' ka m xs):=hE
 clear hE ht4 HRT HK0
 go_wp2_with fail
 refine HST.out.mono ?_
 rintro e w5 ⟨rfl,hm5,hb5⟩
 have hx5:Below w2.heap.size w2 w5:=hb5.below HX4.out (fun g hg=>by simp at hg;subst hg;exact hgc2) HX4.out.size
 have HX5:Hid (Below W.heap.size W w5):=HX2.out.trans (hx5.mono HX2.out.size)
 have hrc5:ORow w5 w2.heap.size 113 5 rgC m.recs xs:=ORow.butn HE.out.rc hb5 (fun g e hg=>by
  simp at hg
  subst hg
  obtain⟨_,cur,h9⟩:=M.own_blk HE.out.rc e
  exact ne_chan h9 HE.out.cha rfl)
 obtain⟨ra,rcap,hrv⟩:=hrc5.val
 obtain⟨nr,hnr⟩:∃nr,xs.length=nr:=⟨_,rfl⟩
 rw[hnr]at hrv
 have e1:=HE.out.code
 have e3:=HE.out.vals
 have e6:=HE.out.tic
 have c7:w5.cell? ⟨gm,7,none⟩=some (.int .i64 2):=by rw[MachAt.cell hm5,←e1];rfl
 have c8:w5.cell? ⟨gm,8,none⟩=some (.slice ra nr rcap):=by rw[MachAt.cell hm5,←hrv];rfl
 have c9:w5.cell? ⟨gm,9,none⟩=some (.slice none 0 0):=by rw[MachAt.cell hm5,←e3];rfl
 have c10:w5.cell? ⟨gm,10,none⟩=some (.string m.err):=by rw[MachAt.cell hm5];rfl
 have c11:w5.cell? ⟨gm,11,none⟩=some (.string m.trace):=by rw[MachAt.cell hm5];rfl
 have c12:w5.cell? ⟨gm,12,none⟩=some (.int .i64 (t:Int)):=by rw[MachAt.cell hm5,←e6];rfl
 have c13:w5.cell? ⟨gm,13,none⟩=some (.int .i64 m.made):=by rw[MachAt.cell hm5];rfl
 have hz5:=blk_later HX5.out HZ.out
 have d0:w5.cell? ⟨w.heap.size+1+1,0,none⟩=some (.int .i64 0):=by rw[blk_cell hz5];rfl
 have d1:w5.cell? ⟨w.heap.size+1+1,1,none⟩=some (.slice none 0 0):=by rw[blk_cell hz5];rfl
 have d2:w5.cell? ⟨w.heap.size+1+1,2,none⟩=some (.slice none 0 0):=by rw[blk_cell hz5];rfl
 have d3:w5.cell? ⟨w.heap.size+1+1,3,none⟩=some (.string ⟨#[]⟩):=by rw[blk_cell hz5];rfl
 have d4:w5.cell? ⟨w.heap.size+1+1,4,none⟩=some (.string ⟨#[]⟩):=by rw[blk_cell hz5];rfl
 have d5:w5.cell? ⟨w.heap.size+1+1,5,none⟩=some (.int .i64 0):=by rw[blk_cell hz5];rfl
 have d6:w5.cell? ⟨w.heap.size+1+1,6,none⟩=some (.int .i64 0):=by rw[blk_cell hz5];rfl
 have zz:=blk_frozen hz5
 clear hm5 hb5 hx5 hz5 HST hrc5 hrv hnr e1 e3 e6
 go_wp2_with fail
 have hq:w.heap.size≤w.heap.size+1+1:=by omega
 refine bodyPost_ret (v:=repO ra nr rcap m.err m.trace t m.made) (by simp[results,Tryz.results18,go_sem,repO,d0,d1,d2,d3,d4,d5,d6]) rfl ⟨ra,nr,rcap,m.err,m.trace,m.made,rfl,?_⟩
 exact ButL.nil ((((((((ButL.of_below (HB.out.trans (HX5.out.mono HB.out.size))).setn hq _ _).setn hq _ _).setn hq _ _).setn hq _ _).setn hq _ _).setn hq _ _).setn hq _ _)
end Go.Proofs.YtkajknidfoelcaaGreatDoor.U
namespace Go.Proofs.YtkajknidfoelcaaGreatDoor.U
open Go.RowKit M T
attribute [local go_sem] run_store_float
theorem runCode_u (bp kind n t:Nat) (f:FC) (ov:Addr) (hd:f.d=cirD kind n) (hok:cirOk kind n=true) (tab:Tab kind n) (hct:cirT kind=true) (ht5:t≤200) (w:World) (H0:CodeAt w (some ⟨bp,0,none⟩) [f]) (hlay:LayAt w) (hov:OvV w (some ov)) :
  Calls Tryz.prog 7 #[.agg #[.slice (some ⟨bp,0,none⟩) 1 1],.agg #[.slice none 0 0,.slice none 0 0,.int .i64 (t:Int),.int .i64 2,.int .i64 1000]] w fun e w'=>RepU t w e w':=by
 obtain⟨W,hW⟩:∃W,((w.alloc (.cells #[.slice (some ⟨bp,0,none⟩) 1 1] 26)).alloc (.cells #[.slice none 0 0,.slice none 0 0,.int .i64 (t:Int),.int .i64 2,.int .i64 1000] 38)).alloc RepZ=W:=⟨_,rfl⟩
 have hb:Below w.heap.size w W:=by rw[←hW];exact bw3 _ _ _ _
 have b0:W.heap[w.heap.size]?=some (.cells #[.slice (some ⟨bp,0,none⟩) 1 1] 26):=by rw[←hW];exact blk_old (blk_old (blk_new _ _) _) _
 have b1:W.heap[w.heap.size+1]?=some (.cells #[.slice none 0 0,.slice none 0 0,.int .i64 (t:Int),.int .i64 2,.int .i64 1000] 38):=by rw[←hW];exact blk_old (blk_newn (by simp) _) _
 have x0:W.cell? ⟨w.heap.size,0,none⟩=some (.slice (some ⟨bp,0,none⟩) 1 1):=by rw[blk_cell b0];rfl
 have x1:W.cell? ⟨w.heap.size+1,0,none⟩=some (.slice none 0 0):=by rw[blk_cell b1];rfl
 have x2:W.cell? ⟨w.heap.size+1,1,none⟩=some (.slice none 0 0):=by rw[blk_cell b1];rfl
 have x3:W.cell? ⟨w.heap.size+1,2,none⟩=some (.int .i64 (t:Int)):=by rw[blk_cell b1];rfl
 have x4:W.cell? ⟨w.heap.size+1,3,none⟩=some (.int .i64 2):=by rw[blk_cell b1];rfl
 have x5:W.cell? ⟨w.heap.size+1,4,none⟩=some (.int .i64 1000):=by rw[blk_cell b1];rfl
 have HZ:Hid (W.heap[w.heap.size+1+1]?=some RepZ):=by show _=_;rw[←hW];exact blk_newn (by simp) _
 have HB:Hid (Below w.heap.size w W):=hb
 have HR:Hid (Calls Tryz.prog 18 #[.agg #[.slice (some ⟨bp,0,none⟩) 1 1],.agg #[.slice none 0 0,.slice none 0 0,.int .i64 (t:Int),.int .i64 2,.int .i64 1000],.func (.func 19) #[] #[]] W fun e w'=>RepU t W e w'):=runWatched_u bp kind n t f ov hd hok tab hct ht5 W (H0.later hb) (hlay.later hb) (hov.later hb)
 clear H0 hlay hov hb b0 b1
 go_enter Tryz.func7,Tryz.ntmps7
 go_wp2_with fail
 clear hW
 refine HR.out.mono ?_
 rintro e w5 ⟨ra,nr,rcap,s,tr,mk,rfl,hx⟩
 have HX5:Hid (Below W.heap.size W w5):=hx
 have hz5:=blk_later hx HZ.out
 have d0:w5.cell? ⟨w.heap.size+1+1,0,none⟩=some (.int .i64 0):=by rw[blk_cell hz5];rfl
 have d1:w5.cell? ⟨w.heap.size+1+1,1,none⟩=some (.slice none 0 0):=by rw[blk_cell hz5];rfl
 have d2:w5.cell? ⟨w.heap.size+1+1,2,none⟩=some (.slice none 0 0):=by rw[blk_cell hz5];rfl
 have d3:w5.cell? ⟨w.heap.size+1+1,3,none⟩=some (.string ⟨#[]⟩):=by rw[blk_cell hz5];rfl
 have d4:w5.cell? ⟨w.heap.size+1+1,4,none⟩=some (.string ⟨#[]⟩):=by rw[blk_cell hz5];rfl
 have d5:w5.cell? ⟨w.heap.size+1+1,5,none⟩=some (.int .i64 0):=by rw[blk_cell hz5];rfl
 have d6:w5.cell? ⟨w.heap.size+1+1,6,none⟩=some (.int .i64 0):=by rw[blk_cell hz5];rfl
 have zz:=blk_frozen hz5
 unfold repO
 clear hx hz5 HR x0 x1 x2 x3 x4 x5
 go_wp2_with fail
 have hq:w.heap.size≤w.heap.size+1+1:=by omega
 refine bodyPost_ret (v:=repO ra nr rcap s tr t mk) (by simp[results,Tryz.results7,go_sem,repO,d0,d1,d2,d3,d4,d5,d6]) rfl ⟨ra,nr,rcap,s,tr,mk,rfl,?_⟩
 exact ButL.nil ((((((((ButL.of_below (HB.out.trans (HX5.out.mono HB.out.size))).setn hq _ _).setn hq _ _).setn hq _ _).setn hq _ _).setn hq _ _).setn hq _ _).setn hq _ _)
theorem runCode_no (bp kind n t:Nat) (f:FC) (hd:f.d=cirD kind n) (hok:cirOk kind n=true) (hct:cirT kind=false) (w:World) (H0:CodeAt w (some ⟨bp,0,none⟩) [f]) (hlay:LayAt w) :
  Calls Tryz.prog 7 #[.agg #[.slice (some ⟨bp,0,none⟩) 1 1],.agg #[.slice none 0 0,.slice none 0 0,.int .i64 (t:Int),.int .i64 2,.int .i64 1000]] w fun e w'=>e=.returned rep3∧Below w.heap.size w w':=by
 obtain⟨W,hW⟩:∃W,((w.alloc (.cells #[.slice (some ⟨bp,0,none⟩) 1 1] 26)).alloc (.cells #[.slice none 0 0,.slice none 0 0,.int .i64 (t:Int),.int .i64 2,.int .i64 1000] 38)).alloc RepZ=W:=⟨_,rfl⟩
 have hb:Below w.heap.size w W:=by rw[←hW];exact bw3 _ _ _ _
 have b0:W.heap[w.heap.size]?=some (.cells #[.slice (some ⟨bp,0,none⟩) 1 1] 26):=by rw[←hW];exact blk_old (blk_old (blk_new _ _) _) _
 have b1:W.heap[w.heap.size+1]?=some (.cells #[.slice none 0 0,.slice none 0 0,.int .i64 (t:Int),.int .i64 2,.int .i64 1000] 38):=by rw[←hW];exact blk_old (blk_newn (by simp) _) _
 have x0:W.cell? ⟨w.heap.size,0,none⟩=some (.slice (some ⟨bp,0,none⟩) 1 1):=by rw[blk_cell b0];rfl
 have x1:W.cell? ⟨w.heap.size+1,0,none⟩=some (.slice none 0 0):=by rw[blk_cell b1];rfl
 have x2:W.cell? ⟨w.heap.size+1,1,none⟩=some (.slice none 0 0):=by rw[blk_cell b1];rfl
 have x3:W.cell? ⟨w.heap.size+1,2,none⟩=some (.int .i64 (t:Int)):=by rw[blk_cell b1];rfl
 have x4:W.cell? ⟨w.heap.size+1,3,none⟩=some (.int .i64 2):=by rw[blk_cell b1];rfl
 have x5:W.cell? ⟨w.heap.size+1,4,none⟩=some (.int .i64 1000):=by rw[blk_cell b1];rfl
 have HZ:Hid (W.heap[w.heap.size+1+1]?=some RepZ):=by show _=_;rw[←hW];exact blk_newn (by simp) _
 have HB:Hid (Below w.heap.size w W):=hb
 have HR:Hid (Calls Tryz.prog 18 #[.agg #[.slice (some ⟨bp,0,none⟩) 1 1],.agg #[.slice none 0 0,.slice none 0 0,.int .i64 (t:Int),.int .i64 2,.int .i64 1000],.func (.func 19) #[] #[]] W fun e w'=>e=.returned rep3∧Below W.heap.size W w'):=runWatched_no bp kind n t f hd hok hct W (H0.later hb) (hlay.later hb)
 clear H0 hlay hb b0 b1
 go_enter Tryz.func7,Tryz.ntmps7
 go_wp2_with fail
 clear hW
 refine HR.out.mono ?_
 rintro e w5 ⟨rfl,hx⟩
 have HX5:Hid (Below W.heap.size W w5):=hx
 have hz5:=blk_later hx HZ.out
 have d0:w5.cell? ⟨w.heap.size+1+1,0,none⟩=some (.int .i64 0):=by rw[blk_cell hz5];rfl
 have d1:w5.cell? ⟨w.heap.size+1+1,1,none⟩=some (.slice none 0 0):=by rw[blk_cell hz5];rfl
 have d2:w5.cell? ⟨w.heap.size+1+1,2,none⟩=some (.slice none 0 0):=by rw[blk_cell hz5];rfl
 have d3:w5.cell? ⟨w.heap.size+1+1,3,none⟩=some (.string ⟨#[]⟩):=by rw[blk_cell hz5];rfl
 have d4:w5.cell? ⟨w.heap.size+1+1,4,none⟩=some (.string ⟨#[]⟩):=by rw[blk_cell hz5];rfl
 have d5:w5.cell? ⟨w.heap.size+1+1,5,none⟩=some (.int .i64 0):=by rw[blk_cell hz5];rfl
 have d6:w5.cell? ⟨w.heap.size+1+1,6,none⟩=some (.int .i64 0):=by rw[blk_cell hz5];rfl
 have zz:=blk_frozen hz5
 clear hx hz5 HR x0 x1 x2 x3 x4 x5
 go_wp2_with fail
 have hq:w.heap.size≤w.heap.size+1+1:=by omega
 refine bodyPost_ret (v:=rep3) (by simp[results,Tryz.results7,go_sem,d0,d1,d2,d3,d4,d5,d6]) rfl ⟨rfl,?_⟩
 exact ButL.nil ((((((((ButL.of_below (HB.out.trans (HX5.out.mono HB.out.size))).setn hq _ _).setn hq _ _).setn hq _ _).setn hq _ _).setn hq _ _).setn hq _ _).setn hq _ _)
end Go.Proofs.YtkajknidfoelcaaGreatDoor.U
namespace Go.Proofs.YtkajknidfoelcaaGreatDoor.U
open Go.RowKit
set_option maxRecDepth 100000 in
theorem cir_all0:((List.range 21).all fun n=>cirOk 0 n)=true:=by kernel_rfl
set_option maxRecDepth 100000 in
theorem cir_all1:((List.range 21).all fun n=>cirOk 1 n)=true:=by kernel_rfl
set_option maxRecDepth 100000 in
theorem cir_all2:((List.range 21).all fun n=>cirOk 2 n)=true:=by kernel_rfl
set_option maxRecDepth 100000 in
theorem cir_all3:((List.range 21).all fun n=>cirOk 3 n)=true:=by kernel_rfl
set_option maxRecDepth 100000 in
theorem cir_all4:((List.range 21).all fun n=>cirOk 4 n)=true:=by kernel_rfl
set_option maxRecDepth 100000 in
theorem cir_all5:((List.range 21).all fun n=>cirOk 5 n)=true:=by kernel_rfl
set_option maxRecDepth 100000 in
theorem cir_all6:((List.range 21).all fun n=>cirOk 6 n)=true:=by kernel_rfl
set_option maxRecDepth 100000 in
theorem cir_all7:((List.range 21).all fun n=>cirOk 7 n)=true:=by kernel_rfl
set_option maxRecDepth 100000 in
theorem cir_all8:((List.range 21).all fun n=>cirOk 8 n)=true:=by kernel_rfl
set_option maxRecDepth 100000 in
theorem cir_all9:((List.range 21).all fun n=>cirOk 9 n)=true:=by kernel_rfl
set_option maxRecDepth 100000 in
theorem cir_all10:((List.range 21).all fun n=>cirOk 10 n)=true:=by kernel_rfl
set_option maxRecDepth 100000 in
theorem cir_all11:((List.range 21).all fun n=>cirOk 11 n)=true:=by kernel_rfl
set_option maxRecDepth 100000 in
theorem cir_all12:((List.range 21).all fun n=>cirOk 12 n)=true:=by kernel_rfl
theorem cir_ok {kind n:Nat} (hk:kind<13) (hn:n<21):cirOk kind n=true:=by
 have get:∀ {k:Nat},((List.range 21).all fun n=>cirOk k n)=true→cirOk k n=true:=fun h=>by
  simp only[List.all_eq_true,List.mem_range]at h
  exact h n hn
 match kind,hk with
 | 0,_=>exact get cir_all0
 | 1,_=>exact get cir_all1
 | 2,_=>exact get cir_all2
 | 3,_=>exact get cir_all3
 | 4,_=>exact get cir_all4
 | 5,_=>exact get cir_all5
 | 6,_=>exact get cir_all6
 | 7,_=>exact get cir_all7
 | 8,_=>exact get cir_all8
 | 9,_=>exact get cir_all9
 | 10,_=>exact get cir_all10
 | 11,_=>exact get cir_all11
 | 12,_=>exact get cir_all12
end Go.Proofs.YtkajknidfoelcaaGreatDoor.U
