import Derived.Test.YtjglgbepobmjhaaGreatDoorP26
import Derived.Test.YtjglgbepobmjhaaGreatDoorP31
import Derived.Test.YtjglgbepobmjhaaGreatDoorP35
import Derived.Deep.CutRange
set_option linter.unusedVariables false
set_option linter.unusedSimpArgs false
set_option maxRecDepth 20000
set_option maxHeartbeats 8000000
namespace Go.Proofs.YtjglgbepobmjhaaGreatDoor
open Go.RowKit
theorem make_sts (len:Nat) (hlen:len≤1048576) (w:World):(Instr.makeSlice 58 (.int .i64 (len:Int)) (.int .i64 (len:Int))).run Tryz.prog w=.ok (.slice (some ⟨w.heap.size,0,none⟩) len len) (w.alloc (.cells (List.replicate len (Value.slice none 0 0)).toArray 73)):=by
 have hc:(Tryz.prog.info? 73).map (fun i=>(i.zero,i.size,i.bytes))=some (some (.slice none 0 0),1,24):=by kernel_rfl
 cases hi:Tryz.prog.info? 73 with
 | none=>rw[hi]at hc;cases hc
 | some i =>
  rw[hi]at hc
  simp only[Option.map_some,Option.some.injEq,Prod.mk.injEq]at hc
  obtain⟨h1,h2,h3⟩:=hc
  have hr:=run_make (P:=Tryz.prog) w 58 73 i (.slice none 0 0) Tryz.underlying58 hi h1 .i64 .i64 (len:Int) (len:Int) (by omega) (by omega) (by rw[h3];omega) (by omega)
  have he:madeCells #[.slice none 0 0] len=(List.replicate len (Value.slice none 0 0)).toArray:=by
   apply Array.toList_inj.1
   rw[toList_madeCells_one]
  simp only[Int.toNat_natCast,h2,Nat.mul_one]at hr
  rw[←he]
  exact hr
theorem wk_st {w:World} {p:Nat} {x y:Array Value} (h:w.heap[p]?=some (.cells x 77)) (h':w.heap[p]?=some (.cells y 118)):False:=by
 rw[h]at h'
 injection h' with e
 injection e with _ e2
 exact absurd e2 (by decide)
theorem wk_store {w w':World} {g g7:Nat} {x7:Obj} (hb:Below w.heap.size w w') (hg:w.heap.size≤g) (h:w'.heap[g]?=some (.cells #[.slice none 0 0,.int .i64 0,.slice none 0 0,.slice none 0 0,.slice none 0 0] 77)) (h7:w'.heap[g7]?=some x7) (n7:g≠g7) (v0 v1 v2 v3:Value) :
  let W:=((((w'.setCell ⟨g,0,none⟩ v0).setCell ⟨g,1,none⟩ v1).setCell ⟨g,2,none⟩ v2).setCell ⟨g,3,none⟩ v3).setCell ⟨g,4,none⟩ (.slice none 0 0)
  Below w.heap.size w W∧W.heap[g]?=some (.cells #[v0,v1,v2,v3,.slice none 0 0] 77)∧W.heap[g7]?=some x7:=by
 intro W
 refine⟨ButL.nil ((((((ButL.of_below hb).setn hg _ _).setn hg _ _).setn hg _ _).setn hg _ _).setn hg _ _),?_,?_⟩
 ·have h9:=blk_set (blk_set (blk_set (blk_set (blk_set h 0 v0) 1 v1) 2 v2) 3 v3) 4 (.slice none 0 0)
  simpa using h9
 ·exact blk_other (blk_other (blk_other (blk_other (blk_other h7 n7 _ _) n7 _ _) n7 _ _) n7 _ _) n7 _ _
theorem run_all (W0:World) (aC:Option Addr) (cap:Nat) (xs:List FC) (p nR nI nP gW gS k0:Nat) (f:FC) (E:Nat→List Nat) (cv iv:Value) (w:World) (R:Except (Nat × Nat) WkS) (C:WCx W0 aC cap xs p nR nI nP f E cv iv) (h:WlV W0.heap.size gW gS nI p cv iv w (List.replicate nI sr0) (.slice none 0 0) (List.replicate nI false)) (hB:Below W0.heap.size W0 w) (hR:Runs (xs.map FC.d) f.d.ins k0 (startS f.d) R) :
  Calls Tryz.prog 21 #[.pointer (some ⟨gW,0,none⟩)] w fun e w'=>RnA W0.heap.size gW gS nI p cv iv R f.d e w'∧ButL [gW,gS] w w' :=
 run_any W0 aC cap xs p nR nI nP gW gS k0 f E cv iv w R C h hB hR fun wr zs hv due h1 h2 h3=>lr_any W0 aC cap xs p nR nI nP gW gS f E cv iv hv zs due wr C h1 h2 h3
def VeR (xs:List FC) (B gA m:Nat) (w':World):Prop:=∀(q:Nat) (f:FC),q<m→xs[q]?=some f→∃k s gS zs,Runs (xs.map FC.d) f.d.ins k (startS f.d) (.ok s)∧w'.cell? ⟨gA,q,none⟩=some (.slice (some ⟨gS,0,none⟩) f.d.ins.length f.d.ins.length)∧StA w' B gS zs∧B≤gS∧zs.map SR.o=s.st
theorem VeR.later {xs:List FC} {B gA m:Nat} {w w':World} (h:VeR xs B gA m w) (hb:Below w.heap.size w w'):VeR xs B gA m w':=fun q f hq hf=>by
 obtain⟨k,s,gS,zs,h1,h2,h3,h4,h5⟩:=h q f hq hf
 exact⟨k,s,gS,zs,h1,cell_later hb h2,h3.later hb,h4,h5⟩
theorem StA.other {w:World} {B gS gA:Nat} {zs:List SR} {arr:Array Value} (h:StA w B gS zs) (hA:w.heap[gA]?=some (.cells arr 73)) (j:Nat) (v:Value):StA (w.setCell ⟨gA,j,none⟩ v) B gS zs:=by
 have hne:∀(k:Nat) (ar:Array Value) (t:TypeId),t≠73→w.heap[k]?=some (.cells ar t)→(w.setCell ⟨gA,j,none⟩ v).heap[k]?=w.heap[k]?:=fun k ar t ht hk=>Below.heap_setCell _ _ _ _ fun e=>by
  rw[show k=gA from e,hA]at hk
  cases hk
  exact ht rfl
 exact h.keep (hne gS _ _ (by decide) h.blk) (fun k ar _ hk=>hne k ar _ (by decide) hk) (fun k ar _ hk=>hne k ar _ (by decide) hk)
theorem VeR.put {xs:List FC} {B gA m gS:Nat} {w:World} {f:FC} {arr:Array Value} {k:Nat} {s:WkS} {zs:List SR} (h:VeR xs B gA m w) (hA:w.heap[gA]?=some (.cells arr 73)) (hm:m<arr.size) (hf:xs[m]?=some f) (h1:Runs (xs.map FC.d) f.d.ins k (startS f.d) (.ok s)) (h2:StA w B gS zs) (h3:B≤gS) (h4:zs.map SR.o=s.st):VeR xs B gA (m+1) (w.setCell ⟨gA,m,none⟩ (.slice (some ⟨gS,0,none⟩) f.d.ins.length f.d.ins.length)):=fun q f' hq hf'=>by
 have hA2:=blk_set hA m (.slice (some ⟨gS,0,none⟩) f.d.ins.length f.d.ins.length)
 by_cases e:q=m
 ·subst e
  rw[hf]at hf'
  cases hf'
  exact⟨k,s,gS,zs,h1,by rw[blk_cell hA2,Array.getElem?_setIfInBounds,if_pos rfl,if_pos hm],h2.other hA _ _,h3,h4⟩
 ·obtain⟨k',s',gS',zs',g1,g2,g3,g4,g5⟩:=h q f' (by omega) hf'
  refine⟨k',s',gS',zs',g1,?_,g3.other hA _ _,g4,g5⟩
  rw[blk_cell hA]at g2
  rw[blk_cell hA2,Array.getElem?_setIfInBounds,if_neg (fun q=>e q.symm)]
  exact g2
structure VeI (xs:List FC) (a:Option Addr) (len cap gA:Nat) (w wr:World) (m:Nat):Prop where
 low:Below w.heap.size w wr
 ge:w.heap.size≤gA
 blk:∃arr,wr.heap[gA]?=some (.cells arr 73)∧arr.size=len
 rows:VeR xs w.heap.size gA m wr
 ck:∀r,CkF (xs.map FC.d) m ((xs.drop m).map FC.d) r→CkF (xs.map FC.d) 0 (xs.map FC.d) r
 co:wr.heap[w.heap.size]?=some (CO (.slice a len cap))
def VeP (xs:List FC) (len B:Nat) (e:Ending) (w':World):Prop :=
 (∃r:F3,CkR (xs.map FC.d) r∧((shapeV (xs.map FC.d)).1≠0∧r=shapeV (xs.map FC.d)∨(shapeV (xs.map FC.d)).1=0∧∃p f,xs[p]?=some f∧WF (xs.map FC.d) p f.d (some r))∧e=.returned (.tuple #[.slice none 0 0,EV (some r)])) ∨
 (CkR (xs.map FC.d) (0,0,0)∧∃gA,e=.returned (.tuple #[.slice (some ⟨gA,0,none⟩) len len,EV none])∧VeR xs B gA xs.length w')
structure R30 (w:World) (gC gP:Nat) (a ai:Option Addr) (len cap nI ci m:Nat) (w':World) (b0 b1 b2 b3 b4 b5 b6 b7 b8 b9 b10:Bool) (x0 x1 x2 x3 x4 x5 x6 x7 x8 x9:Value):Prop where
 P:b10=false→Below w.heap.size w w'∧(b7=true→∃g,x7=.slice (some ⟨g,0,none⟩) nI nI∧w.heap.size≤g∧w'.heap[g]?=some (.cells ((List.replicate nI sr0).flatMap SR.cells).toArray 118))∧(b9=true→∃g,x9=.pointer (some ⟨g,0,none⟩)∧w.heap.size≤g∧w'.heap[g]?=some (.cells #[.slice none 0 0,.int .i64 0,.slice none 0 0,.slice none 0 0,.slice none 0 0] 77))
 m8:b8=true→b7=true∧x8=.agg #[.slice a len cap,.int .i64 (m:Int),.slice ai nI ci,x7,.slice none 0 0]
 r:b10=true→∃gW gS,x9=.pointer (some ⟨gW,0,none⟩)∧Hid (Below w.heap.size w w')∧Hid (w'.heap[gW]?=some (.cells #[.slice a len cap,.int .i64 (m:Int),.slice ai nI ci,.slice (some ⟨gS,0,none⟩) nI nI,.slice none 0 0] 77))∧Hid (w'.heap[gS]?=some (.cells ((List.replicate nI sr0).flatMap SR.cells).toArray 118))∧Hid (w.heap.size≤gW∧w.heap.size≤gS)
 c0:b10=true→b0=true
 c3:b10=true→b3=true
 c5:b10=true→b5=true
 c7:b10=true→b7=true
 c8:b10=true→b8=true
 c9:b10=true→b9=true
 f0:b0=true→x0=.agg #[.slice a len cap]
 f1:b1=true→x1=.int .i64 (m:Int)
 f2:b2=true→x2=.pointer (some ⟨gP,7,none⟩)
 f3:b3=true→x3=.slice ai nI ci
 f4:b4=true→x4=.pointer (some ⟨gP,7,none⟩)
 f5:b5=true→x5=.slice ai nI ci
 f6:b6=true→x6=.int .i64 (nI:Int)
theorem verify_any (a:Option Addr) (len cap:Nat) (xs:List FC) (w:World) (H0:CodeAt w a xs) (hl:xs.length=len) (hlay:LayAt w) :
  Calls Tryz.prog 14 #[.agg #[.slice a len cap]] w fun e w'=>VeP xs len w.heap.size e w'∧Below w.heap.size w w':=by
 have hlen:len≤1048576:=by rw[←hl];exact H0.len
 have hmT:=fun W=>make_sts len hlen W
 by_cases hs:(shapeV (xs.map FC.d)).1=0
 ·have ho:optF (shapeV (xs.map FC.d))=none:=by unfold optF;rw[if_pos hs]
  have HS:Hid ((shapeV (xs.map FC.d)).1=0):=hs
  have HC:Hid (CodeAt w a xs):=H0
  have HL:Hid (xs.length=len):=hl
  have HLY:Hid (LayAt w):=hlay
  go_enter Tryz.func14,Tryz.ntmps14
  go_wp2_with fail
  refine (ishape_any a len cap xs _ (H0.later (bw1 _ _)) hl (hlay.later (bw1 _ _))).mono ?_
  rw[ho,show EV none=.nilIface from rfl]
  rintro e w1 ⟨rfl,hx⟩
  have B1:=blk_later hx (blk_new w (CO (.slice a len cap)))
  have b0:w1.cell? ⟨w.heap.size,0,none⟩=some (.slice a len cap):=by rw[blk_cell B1];rfl
  obtain⟨W2,hW2⟩:∃W2,w1.alloc (.cells (Array.replicate len (Value.slice none 0 0)) 73)=W2:=⟨_,rfl⟩
  have b1:W2.cell? ⟨w.heap.size,0,none⟩=some (.slice a len cap):=by rw[←hW2];exact cell_later (bw1 _ _) b0
  have hB1:Below w.heap.size w w1:=(bw1 w _).trans (hx.mono (by simp))
  have HI0:Hid (VeI xs a len cap w1.heap.size w W2 0):=by
   rw[←hW2]
   exact⟨below_alloc hB1 _,hB1.size,⟨_,blk_new _ _,by simp⟩,(fun q f hq=>absurd hq (by omega)),(fun r hr=>by simpa using hr),blk_old B1 _⟩
  obtain⟨gA,hgA⟩:∃gA,w1.heap.size=gA:=⟨_,rfl⟩
  rw[hgA]at HI0
  clear hs ho H0 hlay hl
  go_wp2_with fail
  clear hgA hW2 b0 b1 B1 hx hB1 hmT
  go_loopw [22] (fun i wr=>∃m:Nat,m≤len∧i=.int .i64 m∧Hid (VeI xs a len cap gA w wr m)) (fun i _=>len-(intOf i).toNat)
  case atStart=>exact⟨0,Nat.zero_le _,rfl,HI0⟩
  case round =>
   clear HI0
   obtain⟨m,hm,rfl,HI⟩:=hrel
   by_cases k1:m<len
   ·obtain⟨f,hf⟩:∃f,xs[m]?=some f:=⟨xs[m]'(by rw[HL.out];exact k1),by simp⟩
    have HF:Hid (xs[m]?=some f):=hf
    have HPR:Hid (PrOk xs f.d f.d.regs.toNat f.d.ins.length f.d.params.toNat (EE f.d)):=prok_of HS.out hf
    obtain⟨bP,oP,rfl,hPl,hPc⟩:=HC.out.row m f hf
    have hq:∀j v,f.cells[j]?=some v→wr.cell? ⟨bP,oP+m*9+j,none⟩=some v:=fun j v hv=>cell_later HI.out.low (hPc j v hv)
    have p0:wr.cell? ⟨bP,oP+m*9,none⟩=some (.string f.d.name):=hq 0 _ rfl
    have p1:=hq 1 _ rfl
    have p2:=hq 2 _ rfl
    have p3:=hq 3 _ rfl
    have p4:=hq 4 _ rfl
    have p5:=hq 5 _ rfl
    have p6:=hq 6 _ rfl
    have p7:=hq 7 _ rfl
    have p8:=hq 8 _ rfl
    obtain⟨wP,hwP⟩:∃wP,wr.alloc (.cells #[.string f.d.name,.int .i64 f.d.line,.int .i64 f.d.params,.bool f.d.rest,.int .i64 f.d.regs,.slice f.au f.d.ups.length f.cu,.slice f.ac f.d.consts.length f.cc,.slice f.ai f.d.ins.length f.ci,.slice f.an f.d.named.length f.cn] 53)=wP:=⟨_,rfl⟩
    have hBP:Below wr.heap.size wr wP:=by rw[←hwP];exact bw1 _ _
    have kP:wP.heap[wr.heap.size]?=some (.cells #[.string f.d.name,.int .i64 f.d.line,.int .i64 f.d.params,.bool f.d.rest,.int .i64 f.d.regs,.slice f.au f.d.ups.length f.cu,.slice f.ac f.d.consts.length f.cc,.slice f.ai f.d.ins.length f.ci,.slice f.an f.d.named.length f.cn] 53):=by rw[←hwP];exact blk_new _ _
    have k7:wP.cell? ⟨wr.heap.size,7,none⟩=some (.slice f.ai f.d.ins.length f.ci):=by rw[blk_cell kP];rfl
    have k0:wP.cell? ⟨w.heap.size,0,none⟩=some (.slice (some ⟨bP,oP,none⟩) len cap):=by rw[blk_cell (blk_later hBP HI.out.co)];rfl
    have HBP:Hid (Below w.heap.size w wP):=HI.out.low.trans (hBP.mono HI.out.low.size)
    have HBQ:Hid (Below wr.heap.size wr wP):=hBP
    have hmS:=fun W=>make_state f.d.ins.length (by have:=HPR.out.ins1;omega) W
    clear hPc hPl hq kP hBP hf
    go_upto_region 8 with (fail)
    clear hwP p0 p1 p2 p3 p4 p5 p6 p7 p8
    go_cut [8] from 23 to 45 (fun s8 wx=>∃gW gS,s8=.pointer (some ⟨gW,0,none⟩)∧Hid (Below wP.heap.size wP wx)∧Hid (wx.heap[gW]?=some (.cells #[.slice (some ⟨bP,oP,none⟩) len cap,.int .i64 (m:Int),.slice f.ai f.d.ins.length f.ci,.slice (some ⟨gS,0,none⟩) f.d.ins.length f.d.ins.length,.slice none 0 0] 77))∧Hid (wx.heap[gS]?=some (.cells ((List.replicate f.d.ins.length sr0).flatMap SR.cells).toArray 118))∧Hid (wP.heap.size≤gW∧wP.heap.size≤gS))
    case first =>
     refine wp_region_inv (by kernel_rfl) (fun base listed a' w'=>∃b0 b1 b2 b3 b4 b5 b6 b7 b8 b9 b10 x0 x1 x2 x3 x4 x5 x6 x7 x8 x9,listed=#[b0,b1,b2,b3,b4,b5,b6,b7,b8,b9,b10]∧a'=((((((((((base.put (some 27) x0).put (some 28) x1).put (some 29) x2).put (some 30) x3).put (some 31) x4).put (some 32) x5).put (some 33) x6).put (some 34) x7).put (some 35) x8).put (some 8) x9)∧R30 wP w.heap.size wr.heap.size (some ⟨bP,oP,none⟩) f.ai len cap f.d.ins.length f.ci m w' b0 b1 b2 b3 b4 b5 b6 b7 b8 b9 b10 x0 x1 x2 x3 x4 x5 x6 x7 x8 x9) ?_ ?_ ?_
     ·exact⟨false,false,false,false,false,false,false,false,false,false,false,u27,u28,u29,u30,u31,u32,u33,u34,u35,u8,rfl,by kernel_rfl,⟨fun _=>⟨(Below.refl _ _).drew,nofun,nofun⟩,nofun,nofun,nofun,nofun,nofun,nofun,nofun,nofun,nofun,nofun,nofun,nofun,nofun,nofun,nofun⟩⟩
     ·rintro i listed a' w' ⟨b0,b1,b2,b3,b4,b5,b6,b7,b8,b9,b10,x0,x1,x2,x3,x4,x5,x6,x7,x8,x9,rfl,rfl,hI⟩ hr
      have hi:=ready_lt hr
      have hun:=(mem_ready.1 hr).1
      simp only[List.size_toArray,List.length_cons,List.length_nil,Nat.zero_add,Nat.reduceAdd]at hi
      have hi':i=0∨i=1∨i=2∨i=3∨i=4∨i=5∨i=6∨i=7∨i=8∨i=9∨i=10:=by omega
      clear hi
      rcases hi' with rfl | rfl | rfl | rfl | rfl | rfl | rfl | rfl | rfl | rfl | rfl
      ·have hbi:b0=false:=by simpa using hun
       have n10:b10=false:=by
        cases hg:b10 with
        | false=>rfl
        | true=>have h9:=hI.c0 hg;rw[hbi]at h9;cases h9
       subst hbi n10
       clear hr hun
       have hP:=hI.P rfl
       have cx:=cell_later hP.1 k0
       refine wpOp_step rfl (fun K hK=>?_)
       go_simp
       exact hK _ _ ⟨true,b1,b2,b3,b4,b5,b6,b7,b8,b9,false,(.agg #[.slice (some ⟨bP,oP,none⟩) len cap]),x1,x2,x3,x4,x5,x6,x7,x8,x9,rfl,by kernel_rfl,{ hI with c0:=fun _=>rfl,r:=nofun,f0:=fun _=>rfl }⟩
      ·have hbi:b1=false:=by simpa using hun
       subst hbi 
       clear hr hun
       refine wpOp_step rfl (fun K hK=>?_)
       go_simp
       exact hK _ _ ⟨b0,true,b2,b3,b4,b5,b6,b7,b8,b9,b10,x0,(.int .i64 (m:Int)),x2,x3,x4,x5,x6,x7,x8,x9,rfl,by kernel_rfl,{ hI with f1:=fun _=>rfl }⟩
      ·have hbi:b2=false:=by simpa using hun
       subst hbi 
       clear hr hun
       refine wpOp_step rfl (fun K hK=>?_)
       go_simp
       exact hK _ _ ⟨b0,b1,true,b3,b4,b5,b6,b7,b8,b9,b10,x0,x1,(.pointer (some ⟨wr.heap.size,7,none⟩)),x3,x4,x5,x6,x7,x8,x9,rfl,by kernel_rfl,{ hI with f2:=fun _=>rfl }⟩
      ·have hbi:b3=false:=by simpa using hun
       have e2:b2=true:=by simpa using ready_dep hr rfl ⟨2,.data⟩ (by simp) rfl
       have n10:b10=false:=by
        cases hg:b10 with
        | false=>rfl
        | true=>have h9:=hI.c3 hg;rw[hbi]at h9;cases h9
       subst hbi e2 n10
       clear hr hun
       obtain rfl:=hI.f2 rfl
       have hP:=hI.P rfl
       have cx:=cell_later hP.1 k7
       refine wpOp_step rfl (fun K hK=>?_)
       go_simp
       exact hK _ _ ⟨b0,b1,true,true,b4,b5,b6,b7,b8,b9,false,x0,x1,(.pointer (some ⟨wr.heap.size,7,none⟩)),(.slice f.ai f.d.ins.length f.ci),x4,x5,x6,x7,x8,x9,rfl,by kernel_rfl,{ hI with c3:=fun _=>rfl,r:=nofun,f3:=fun _=>rfl }⟩
      ·have hbi:b4=false:=by simpa using hun
       subst hbi 
       clear hr hun
       refine wpOp_step rfl (fun K hK=>?_)
       go_simp
       exact hK _ _ ⟨b0,b1,b2,b3,true,b5,b6,b7,b8,b9,b10,x0,x1,x2,x3,(.pointer (some ⟨wr.heap.size,7,none⟩)),x5,x6,x7,x8,x9,rfl,by kernel_rfl,{ hI with f4:=fun _=>rfl }⟩
      ·have hbi:b5=false:=by simpa using hun
       have e4:b4=true:=by simpa using ready_dep hr rfl ⟨4,.data⟩ (by simp) rfl
       have n10:b10=false:=by
        cases hg:b10 with
        | false=>rfl
        | true=>have h9:=hI.c5 hg;rw[hbi]at h9;cases h9
       subst hbi e4 n10
       clear hr hun
       obtain rfl:=hI.f4 rfl
       have hP:=hI.P rfl
       have cx:=cell_later hP.1 k7
       refine wpOp_step rfl (fun K hK=>?_)
       go_simp
       exact hK _ _ ⟨b0,b1,b2,b3,true,true,b6,b7,b8,b9,false,x0,x1,x2,x3,(.pointer (some ⟨wr.heap.size,7,none⟩)),(.slice f.ai f.d.ins.length f.ci),x6,x7,x8,x9,rfl,by kernel_rfl,{ hI with c5:=fun _=>rfl,r:=nofun,f5:=fun _=>rfl }⟩
      ·have hbi:b6=false:=by simpa using hun
       have e5:b5=true:=by simpa using ready_dep hr rfl ⟨5,.data⟩ (by simp) rfl
       subst hbi e5
       clear hr hun
       obtain rfl:=hI.f5 rfl
       refine wpOp_step rfl (fun K hK=>?_)
       go_simp
       exact hK _ _ ⟨b0,b1,b2,b3,b4,true,true,b7,b8,b9,b10,x0,x1,x2,x3,x4,(.slice f.ai f.d.ins.length f.ci),(.int .i64 (f.d.ins.length:Int)),x7,x8,x9,rfl,by kernel_rfl,{ hI with f6:=fun _=>rfl }⟩
      ·have hbi:b7=false:=by simpa using hun
       have e6:b6=true:=by simpa using ready_dep hr rfl ⟨6,.data⟩ (by simp) rfl
       have n10:b10=false:=by
        cases hg:b10 with
        | false=>rfl
        | true=>have h9:=hI.c7 hg;rw[hbi]at h9;cases h9
       have n8:b8=false:=by
        cases hg:b8 with
        | false=>rfl
        | true=>have h9:=(hI.m8 hg).1;rw[hbi]at h9;cases h9
       subst hbi e6 n10 n8
       clear hr hun
       obtain rfl:=hI.f6 rfl
       have hP:=hI.P rfl
       refine wpOp_step rfl (fun K hK=>?_)
       go_simp
       exact hK _ _ ⟨b0,b1,b2,b3,b4,b5,true,true,false,b9,false,x0,x1,x2,x3,x4,x5,(.int .i64 (f.d.ins.length:Int)),(.slice (some ⟨w'.heap.size,0,none⟩) f.d.ins.length f.d.ins.length),x8,x9,rfl,by kernel_rfl,{ hI with P:=fun _=>⟨below_alloc hP.1 _,fun _=>⟨_,rfl,hP.1.size,blk_new _ _⟩,fun e=>(by obtain⟨g,e1,e2,e3⟩:=hP.2.2 e;exact⟨g,e1,e2,blk_old e3 _⟩)⟩,c7:=fun _=>rfl,m8:=nofun,r:=nofun }⟩
      ·have hbi:b8=false:=by simpa using hun
       have e0:b0=true:=by simpa using ready_dep hr rfl ⟨0,.data⟩ (by simp) rfl
       have e1:b1=true:=by simpa using ready_dep hr rfl ⟨1,.data⟩ (by simp) rfl
       have e3:b3=true:=by simpa using ready_dep hr rfl ⟨3,.data⟩ (by simp) rfl
       have e7:b7=true:=by simpa using ready_dep hr rfl ⟨7,.data⟩ (by simp) rfl
       have n10:b10=false:=by
        cases hg:b10 with
        | false=>rfl
        | true=>have h9:=hI.c8 hg;rw[hbi]at h9;cases h9
       subst hbi e0 e1 e3 e7 n10
       clear hr hun
       obtain rfl:=hI.f0 rfl
       obtain rfl:=hI.f1 rfl
       obtain rfl:=hI.f3 rfl
       obtain⟨g7,rfl,h7a,h7b⟩:=(hI.P rfl).2.1 rfl
       refine wpOp_step rfl (fun K hK=>?_)
       go_simp
       exact hK _ _ ⟨true,true,b2,true,b4,b5,b6,true,true,b9,false,(.agg #[.slice (some ⟨bP,oP,none⟩) len cap]),(.int .i64 (m:Int)),x2,(.slice f.ai f.d.ins.length f.ci),x4,x5,x6,(.slice (some ⟨g7,0,none⟩) f.d.ins.length f.d.ins.length),(.agg #[.slice (some ⟨bP,oP,none⟩) len cap,.int .i64 (m:Int),.slice f.ai f.d.ins.length f.ci,.slice (some ⟨g7,0,none⟩) f.d.ins.length f.d.ins.length,.slice none 0 0]),x9,rfl,by kernel_rfl,{ hI with m8:=fun _=>⟨rfl,rfl⟩,c8:=fun _=>rfl,r:=nofun }⟩
      ·have hbi:b9=false:=by simpa using hun
       have n10:b10=false:=by
        cases hg:b10 with
        | false=>rfl
        | true=>have h9:=hI.c9 hg;rw[hbi]at h9;cases h9
       subst hbi n10
       clear hr hun
       have hP:=hI.P rfl
       refine wpOp_step rfl (fun K hK=>?_)
       go_simp
       exact hK _ _ ⟨b0,b1,b2,b3,b4,b5,b6,b7,b8,true,false,x0,x1,x2,x3,x4,x5,x6,x7,x8,(.pointer (some ⟨w'.heap.size,0,none⟩)),rfl,by kernel_rfl,{ hI with P:=fun _=>⟨below_alloc hP.1 _,fun e=>(by obtain⟨g,e1,e2,e3⟩:=hP.2.1 e;exact⟨g,e1,e2,blk_old e3 _⟩),fun _=>⟨_,rfl,hP.1.size,blk_new _ _⟩⟩,c9:=fun _=>rfl,r:=nofun }⟩
      ·have hbi:b10=false:=by simpa using hun
       have e7:b7=true:=by simpa using ready_dep hr rfl ⟨7,.phase⟩ (by simp) rfl
       have e0:b0=true:=by simpa using ready_dep hr rfl ⟨0,.phase⟩ (by simp) rfl
       have e3:b3=true:=by simpa using ready_dep hr rfl ⟨3,.phase⟩ (by simp) rfl
       have e5:b5=true:=by simpa using ready_dep hr rfl ⟨5,.phase⟩ (by simp) rfl
       have e9:b9=true:=by simpa using ready_dep hr rfl ⟨9,.data⟩ (by simp) rfl
       have e8:b8=true:=by simpa using ready_dep hr rfl ⟨8,.data⟩ (by simp) rfl
       subst hbi e7 e0 e3 e5 e9 e8
       clear hr hun
       obtain⟨g7,rfl,h7a,h7b⟩:=(hI.P rfl).2.1 rfl
       obtain rfl:=hI.f0 rfl
       obtain rfl:=hI.f3 rfl
       obtain rfl:=hI.f5 rfl
       obtain⟨g9,rfl,h9a,h9b⟩:=(hI.P rfl).2.2 rfl
       obtain rfl:=(hI.m8 rfl).2
       have hP:=hI.P rfl
       have d0:w'.cell? ⟨g9,0,none⟩=some (.slice none 0 0):=by rw[blk_cell h9b];rfl
       have d1:w'.cell? ⟨g9,1,none⟩=some (.int .i64 0):=by rw[blk_cell h9b];rfl
       have d2:w'.cell? ⟨g9,2,none⟩=some (.slice none 0 0):=by rw[blk_cell h9b];rfl
       have d3:w'.cell? ⟨g9,3,none⟩=some (.slice none 0 0):=by rw[blk_cell h9b];rfl
       have d4:w'.cell? ⟨g9,4,none⟩=some (.slice none 0 0):=by rw[blk_cell h9b];rfl
       have fz:=blk_frozen h9b
       have hn7:g9≠g7:=fun q=>wk_st h9b (by rw[q];exact h7b)
       have hfin:=wk_store hP.1 h9a h9b h7b hn7 (.slice (some ⟨bP,oP,none⟩) len cap) (.int .i64 (m:Int)) (.slice f.ai f.d.ins.length f.ci) (.slice (some ⟨g7,0,none⟩) f.d.ins.length f.d.ins.length)
       refine wpOp_step rfl (fun K hK=>?_)
       go_simp
       exact hK _ _ ⟨true,b1,b2,true,b4,true,b6,true,true,true,true,(.agg #[.slice (some ⟨bP,oP,none⟩) len cap]),x1,x2,(.slice f.ai f.d.ins.length f.ci),x4,(.slice f.ai f.d.ins.length f.ci),x6,(.slice (some ⟨g7,0,none⟩) f.d.ins.length f.d.ins.length),(.agg #[.slice (some ⟨bP,oP,none⟩) len cap,.int .i64 (m:Int),.slice f.ai f.d.ins.length f.ci,.slice (some ⟨g7,0,none⟩) f.d.ins.length f.d.ins.length,.slice none 0 0]),(.pointer (some ⟨g9,0,none⟩)),rfl,by kernel_rfl,{ hI with P:=nofun,r:=fun _=>⟨g9,g7,rfl,hfin.1,hfin.2.1,hfin.2.2,h9a,h7a⟩,c0:=fun _=>rfl,c3:=fun _=>rfl,c5:=fun _=>rfl,c7:=fun _=>rfl,c8:=fun _=>rfl,c9:=fun _=>rfl }⟩
     ·rintro listed a' w' ⟨b0,b1,b2,b3,b4,b5,b6,b7,b8,b9,b10,x0,x1,x2,x3,x4,x5,x6,x7,x8,x9,rfl,rfl,hI⟩ hrd
      have e0:b0=true:=by simpa using ready_nextb hrd 0 rfl (by simp[Region.binds])
      have e1:b1=true:=by simpa using ready_nextb hrd 1 rfl (by simp[Region.binds,e0])
      have e2:b2=true:=by simpa using ready_nextb hrd 2 rfl (by simp[Region.binds,e0,e1])
      have e3:b3=true:=by simpa using ready_nextb hrd 3 rfl (by simp[Region.binds,e0,e1,e2])
      have e4:b4=true:=by simpa using ready_nextb hrd 4 rfl (by simp[Region.binds,e0,e1,e2,e3])
      have e5:b5=true:=by simpa using ready_nextb hrd 5 rfl (by simp[Region.binds,e0,e1,e2,e3,e4])
      have e6:b6=true:=by simpa using ready_nextb hrd 6 rfl (by simp[Region.binds,e0,e1,e2,e3,e4,e5])
      have e7:b7=true:=by simpa using ready_nextb hrd 7 rfl (by simp[Region.binds,e0,e1,e2,e3,e4,e5,e6])
      have e8:b8=true:=by simpa using ready_nextb hrd 8 rfl (by simp[Region.binds,e0,e1,e2,e3,e4,e5,e6,e7])
      have e9:b9=true:=by simpa using ready_nextb hrd 9 rfl (by simp[Region.binds,e0,e1,e2,e3,e4,e5,e6,e7,e8])
      have e10:b10=true:=by simpa using ready_nextb hrd 10 rfl (by simp[Region.binds,e0,e1,e2,e3,e4,e5,e6,e7,e8,e9])
      subst e0 e1 e2 e3 e4 e5 e6 e7 e8 e9 e10
      clear hrd
      have hd:=hI.r rfl
      clear hI
      go_wp2_with fail
      go_simp
      go_meet
      exact hd
    case rest =>
     obtain⟨gW,gS,rfl,HBx,hkW,hkS,hge⟩:=hcut
     have HWl:Hid (WlV w.heap.size gW gS f.d.ins.length m (.slice (some ⟨bP,oP,none⟩) len cap) (.slice f.ai f.d.ins.length f.ci) wc (List.replicate f.d.ins.length sr0) (.slice none 0 0) (List.replicate f.d.ins.length false)):=by
      refine⟨hkW.out,⟨hkS.out,fun z hz=>?_,fun i j y z _ h1 h2=>?_⟩,⟨[],⟨ORow.nil _ _ _ _ _,(fun i x y _ h1=>by simp at h1),(fun i j x h1=>by simp at h1)⟩,fun z=>?_,?_⟩,fun z hz=>?_,by simp,by simp,Nat.le_trans HBP.out.size hge.out.1,Nat.le_trans HBP.out.size hge.out.2,Nat.le_trans HBP.out.size HBx.out.size⟩
      ·rw[List.eq_of_mem_replicate hz];exact⟨rfl,rfl⟩
      ·rw[List.getElem?_replicate]at h1
       split at h1
       ·cases h1;exact⟨Apart.nil _,Apart.nil _⟩
       ·cases h1
      ·rw[List.getElem?_replicate]
       constructor
       ·intro q;cases q
       ·intro q;split at q<;>cases q
      ·symm
       apply List.countP_eq_zero.2
       intro b hb
       rw[List.eq_of_mem_replicate hb]
       simp
      ·rw[List.eq_of_mem_replicate hz];exact Apart.nil _
     obtain⟨k,R,hR⟩:=runs_ex (xs.map FC.d) f.d.ins (mu (startS f.d)) (startS f.d) (by simp[startS]) (Nat.le_refl _)
     have HRn:Hid (Runs (xs.map FC.d) f.d.ins k (startS f.d) R):=hR
     have HBw:Hid (Below w.heap.size w wc):=HBP.out.trans (HBx.out.mono HBP.out.size)
     have HCX:Hid (WCx w (some ⟨bP,oP,none⟩) cap xs m f.d.regs.toNat f.d.ins.length f.d.params.toNat f (EE f.d) (.slice (some ⟨bP,oP,none⟩) len cap) (.slice f.ai f.d.ins.length f.ci)):=⟨HC.out,HLY.out,HF.out,HPR.out,by rw[HL.out],rfl⟩
     have HDR:Hid ((xs.drop m).map FC.d=f.d :: (xs.drop (m+1)).map FC.d):=by
      obtain⟨hlt,he⟩:=List.getElem?_eq_some_iff.1 HF.out
      show _=_
      rw[List.drop_eq_getElem_cons hlt,he]
      rfl
     clear hkW hkS k0 k7 hR hmS
     go_wp2_with fail
     refine (run_all w (some ⟨bP,oP,none⟩) cap xs m f.d.regs.toNat f.d.ins.length f.d.params.toNat gW gS k f (EE f.d) (.slice (some ⟨bP,oP,none⟩) len cap) (.slice f.ai f.d.ins.length f.ci) wc R HCX.out HWl.out HBw.out HRn.out).mono ?_
     rintro e w9 ⟨hA,hb9⟩
     have HBz:Hid (Below wr.heap.size wr w9):=hb9.below (HBQ.out.trans (HBx.out.mono HBQ.out.size)) (fun g hg=>by
      simp only[List.mem_cons,List.not_mem_nil,or_false]at hg
      have h1:=HBQ.out.size
      have h2:=hge.out
      rcases hg with e | e<;>omega) (Nat.le_trans HBQ.out.size HBx.out.size)
     have HBy:Hid (Below w.heap.size w w9):=HI.out.low.trans (HBz.out.mono HI.out.low.size)
     clear hb9
     have fault:∀r:F3,WF (xs.map FC.d) m f.d (some r)→VeP xs len w.heap.size (.returned (.tuple #[.slice none 0 0,EV (some r)])) w9:=fun r hW=>by
      refine .inl ⟨r,?_,.inr ⟨HS.out,m,f,HF.out,hW⟩,rfl⟩
      unfold CkR
      rw[if_pos HS.out]
      refine HI.out.ck r ?_
      rw[HDR.out]
      exact .inl hW
     have HFA:Hid (∀r:F3,WF (xs.map FC.d) m f.d (some r)→VeP xs len w.heap.size (.returned (.tuple #[.slice none 0 0,EV (some r)])) w9):=fault
     clear fault
     cases R with
     | error x9 =>
      obtain rfl:=hA
      have HV:Hid (VeP xs len w.heap.size (.returned (.tuple #[.slice none 0 0,EV (some ((x9.1:Int),(m:Int),(x9.2:Int)))])) w9):=HFA.out _ ⟨k,_,HRn.out,rfl⟩
      have e9:EV (some ((x9.1:Int),(m:Int),(x9.2:Int)))=.iface 80 (FV (x9.1:Int) (m:Int) (x9.2:Int)):=rfl
      rw[e9]
      go_wp2_with fail
      exact bodyPost_ret (v:=.tuple #[.slice none 0 0,.iface 80 (FV (x9.1:Int) (m:Int) (x9.2:Int))]) (by simp[results,Tryz.results14,go_sem]) rfl ⟨HV.out,HBy.out⟩
     | ok s =>
      rcases hA with ⟨i,hlr,rfl⟩ | ⟨hno,rfl,zs,hv,hw,hmm⟩
      ·have HV:Hid (VeP xs len w.heap.size (.returned (.tuple #[.slice none 0 0,EV (some (14,(m:Int),(i:Int)))])) w9):=HFA.out _ ⟨k,_,HRn.out,.inl ⟨i,hlr,rfl⟩⟩
       have e9:EV (some (14,(m:Int),(i:Int)))=.iface 80 (FV 14 (m:Int) (i:Int)):=rfl
       rw[e9]
       clear hlr
       go_wp2_with fail
       exact bodyPost_ret (v:=.tuple #[.slice none 0 0,.iface 80 (FV 14 (m:Int) (i:Int))]) (by simp[results,Tryz.results14,go_sem]) rfl ⟨HV.out,HBy.out⟩
      ·have e9:EV none=.nilIface:=rfl
       rw[e9]
       obtain⟨arr,hA0,hAs⟩:=HI.out.blk
       have hA9:=blk_later HBz.out hA0
       obtain⟨v9,hv9⟩:∃v,arr[m]?=some v:=⟨arr[m]'(by omega),by simp⟩
       have ca:w9.cell? ⟨gA,m,none⟩=some v9:=by rw[blk_cell hA9];exact hv9
       have za:=blk_frozen hA9
       have cw:w9.cell? ⟨gW,3,none⟩=some (.slice (some ⟨gS,0,none⟩) f.d.ins.length f.d.ins.length):=hw.cells.2.2.2.1
       have HI2:Hid (VeI xs (some ⟨bP,oP,none⟩) len cap gA w (w9.setCell ⟨gA,m,none⟩ (.slice (some ⟨gS,0,none⟩) f.d.ins.length f.d.ins.length)) (m+1)):=by
        refine⟨ButL.nil ((ButL.of_below HBy.out).setn HI.out.ge _ _),HI.out.ge,⟨_,blk_set hA9 _ _,by simpa using hAs⟩,(HI.out.rows.later HBz.out).put hA9 (by omega) HF.out HRn.out hw.st hw.g2 hmm,fun r hr=>HI.out.ck r ?_,?_⟩
        ·rw[HDR.out]
         exact .inr ⟨⟨k,_,HRn.out,.inr ⟨hno,rfl⟩⟩,hr⟩
        ·refine blk_other (blk_later HBz.out HI.out.co) (fun q=>?_) _ _
         have h1:=blk_later HBz.out HI.out.co
         rw[←q,hA9]at h1
         injection h1 with h1
         injection h1 with _ h2
         exact absurd h2 (by decide)
       clear hA0 hA9 hv9 hw hmm hno hAs
       go_wp2_with fail
       go_roundw
       case rel=>exact⟨m+1,by omega,by go_num,HI2⟩
       case measure=>simp[intOf];omega
   ·have em:m=len:=by omega
    subst em
    have HV:Hid (VeP xs m w.heap.size (.returned (.tuple #[.slice (some ⟨gA,0,none⟩) m m,EV none])) wr):=by
     refine .inr ⟨?_,gA,rfl,by rw[HL.out];exact HI.out.rows⟩
     unfold CkR
     rw[if_pos HS.out]
     refine HI.out.ck _ ?_
     rw[List.drop_of_length_le (by rw[HL.out];exact Nat.le_refl _)]
     rfl
    go_wp2_with fail
    exact bodyPost_ret (v:=.tuple #[.slice (some ⟨gA,0,none⟩) m m,.nilIface]) (by simp[results,Tryz.results14,go_sem]) rfl ⟨HV.out,HI.out.low⟩
 ·have ho:optF (shapeV (xs.map FC.d))=some (shapeV (xs.map FC.d)):=by unfold optF;rw[if_neg hs]
  obtain⟨⟨c,p,i⟩,ht⟩:∃t,shapeV (xs.map FC.d)=t:=⟨_,rfl⟩
  have HR:Hid (shapeV (xs.map FC.d)=(c,p,i)):=ht
  have HS:Hid ((shapeV (xs.map FC.d)).1≠0):=hs
  go_enter Tryz.func14,Tryz.ntmps14
  go_wp2_with fail
  refine (ishape_any a len cap xs _ (H0.later (bw1 _ _)) hl (hlay.later (bw1 _ _))).mono ?_
  rw[ho,ht,show EV (some (c,p,i))=.iface 80 (FV c p i) from rfl]
  rintro e w1 ⟨rfl,hx⟩
  have hB1:Below w.heap.size w w1:=(bw1 w _).trans (hx.mono (by simp))
  clear hx hmT
  go_wp2_with fail
  refine bodyPost_ret (v:=.tuple #[.slice none 0 0,.iface 80 (FV c p i)]) (by simp[results,Tryz.results14,go_sem]) rfl ⟨.inl ⟨(c,p,i),?_,.inl ⟨HS.out,HR.out.symm⟩,rfl⟩,hB1⟩
  unfold CkR
  rw[if_neg HS.out]
  exact HR.out.symm
end Go.Proofs.YtjglgbepobmjhaaGreatDoor
