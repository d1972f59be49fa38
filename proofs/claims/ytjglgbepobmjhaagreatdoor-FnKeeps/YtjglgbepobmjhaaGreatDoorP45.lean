import Derived.Test.YtjglgbepobmjhaaGreatDoorP44
import Derived.Test.YtjglgbepobmjhaaGreatDoorP37
import Derived.Test.YtjglgbepobmjhaaGreatDoorP07
import Derived.Test.YtjglgbepobmjhaaGreatDoorP12
import Derived.BigRegion
import Derived.BigQuiet
import Derived.Deep.QuietTactic
set_option linter.unusedVariables false
set_option linter.unusedSimpArgs false
set_option maxRecDepth 20000
set_option maxHeartbeats 8000000
namespace Go.Proofs.YtjglgbepobmjhaaGreatDoor.M
open Go.RowKit
attribute [local go_sem] run_store_float
theorem idx_nil (w:World):Calls Tryz.prog 157 #[.slice none 0 0,.func (Fn.func 77) #[] #[]] w fun e w'=>e=.returned (.int .i64 (-1))∧w'=w:=by
 go_enter Tryz.func157,Tryz.ntmps157
 go_wp2_with fail
 go_loopw [8] (fun i wr=>i=.int .i64 0∧wr=w) (fun _ _=>0)
 case atStart=>exact⟨rfl,rfl⟩
 case round =>
  obtain⟨rfl,rfl⟩:=hrel
  go_wp2_with fail
  go_ret
  exact⟨rfl,rfl⟩
theorem cont_nil (w:World):Calls Tryz.prog 76 #[.slice none 0 0,.func (Fn.func 77) #[] #[]] w fun e w'=>e=.returned (.bool false)∧w'=w:=by
 go_enter Tryz.func76,Tryz.ntmps76
 go_wp2_with fail
 refine (idx_nil w).mono ?_
 rintro e w1 ⟨rfl,rfl⟩
 go_wp2_with fail
 go_ret
 exact⟨rfl,rfl⟩
theorem texts_nil (w:World):Calls Tryz.prog 43 #[.slice none 0 0] w fun e w'=>e=.returned (.bool true)∧w'=w:=by
 go_enter Tryz.func43,Tryz.ntmps43
 go_wp2_with fail
 refine (cont_nil w).mono ?_
 rintro e w1 ⟨rfl,rfl⟩
 go_wp2_with fail
 go_ret
 exact⟨rfl,rfl⟩
theorem inok9 (w:World):Calls Tryz.prog 23 #[.agg #[.slice none 0 0,.slice none 0 0,.int .i64 9,.int .i64 1,.int .i64 9]] w fun e w'=>e=.returned (.bool true)∧Below w.heap.size w w':=by
 obtain⟨W,hW⟩:∃W,w.alloc (.cells #[.slice none 0 0,.slice none 0 0,.int .i64 9,.int .i64 1,.int .i64 9] 37)=W:=⟨_,rfl⟩
 have hb:Below w.heap.size w W:=by rw[←hW];exact bw1 _ _
 have bn:W.heap[w.heap.size]?=some (.cells #[.slice none 0 0,.slice none 0 0,.int .i64 9,.int .i64 1,.int .i64 9] 37):=by rw[←hW];exact blk_new _ _
 have c0:W.cell? ⟨w.heap.size,0,none⟩=some (.slice none 0 0):=by rw[blk_cell bn];rfl
 have c1:W.cell? ⟨w.heap.size,1,none⟩=some (.slice none 0 0):=by rw[blk_cell bn];rfl
 have c2:W.cell? ⟨w.heap.size,2,none⟩=some (.int .i64 9):=by rw[blk_cell bn];rfl
 have c3:W.cell? ⟨w.heap.size,3,none⟩=some (.int .i64 1):=by rw[blk_cell bn];rfl
 have c4:W.cell? ⟨w.heap.size,4,none⟩=some (.int .i64 9):=by rw[blk_cell bn];rfl
 clear bn
 go_enter Tryz.func23,Tryz.ntmps23
 go_wp2_with (first | (go_at_call 43;refine (texts_nil _).mono ?_;rintro e w1 ⟨rfl,rfl⟩) | (go_at_call 44;refine (wi_any _ _ _ _).mono ?_;rintro e w1 ⟨rfl,rfl⟩;simp only[inR,show decide ((0:Int)≤9)=true by decide,show decide ((9:Int)≤5000)=true by decide,show decide ((1:Int)≤1)=true by decide,show decide ((1:Int)≤60)=true by decide,show decide ((9:Int)≤20000)=true by decide,Bool.and_self]))
 go_ret
 exact⟨rfl,hb⟩
structure GoodF (f:FC):Prop where
 shape:(shapeV [f.d]).1=0
 walk:WF [f.d] 0 f.d none
 params:f.d.params=0
 rest:f.d.rest=false
 len:f.d.ins.length≤100
 pos:0<f.d.ins.length
 run:runP f.d.ins 12 ps0=true
theorem GoodF.ver {f:FC} (h:GoodF f) {len B:Nat} {e:Ending} {w':World} (hv:VeP [f] len B e w'):∃gA,e=.returned (.tuple #[.slice (some ⟨gA,0,none⟩) len len,.nilIface]):=by
 rcases hv.split with ⟨r,_,hc,_⟩ | ⟨_,gA,he,_⟩
 ·exfalso
  rcases hc with ⟨hn,_⟩ | ⟨_,p,f',hp,hw⟩
  ·exact hn h.shape
  ·have:p=0∧f=f':=by
    cases p with
    | zero=>exact⟨rfl,by simpa using hp⟩
    | succ p=>simp at hp
   obtain⟨rfl,rfl⟩:=this
   cases WF.uniq hw h.walk
 ·exact⟨gA,he⟩
abbrev RepZ:Obj:=.cells #[.int .i64 0,.slice none 0 0,.slice none 0 0,.string ⟨#[]⟩,.string ⟨#[]⟩,.int .i64 0,.int .i64 0] 34
def repV (s t:ByteArray) (a b:Int):Value:=.agg #[.int .i64 0,.slice none 0 0,.slice none 0 0,.string s,.string t,.int .i64 a,.int .i64 b]
theorem runWatched_ok (bp:Nat) (f:FC) (G:GoodF f) (w:World) (H0:CodeAt w (some ⟨bp,0,none⟩) [f]) (hlay:LayAt w) (hov:OvAt w) :
  Calls Tryz.prog 16 #[.agg #[.slice (some ⟨bp,0,none⟩) 1 1],.agg #[.slice none 0 0,.slice none 0 0,.int .i64 9,.int .i64 1,.int .i64 9],.func (.func 17) #[] #[]] w fun e w'=>(∃s t a b,e=.returned (repV s t a b))∧Below w.heap.size w w':=by
 obtain⟨W,hW⟩:∃W,((w.alloc (.cells #[.slice (some ⟨bp,0,none⟩) 1 1] 26)).alloc (.cells #[.slice none 0 0,.slice none 0 0,.int .i64 9,.int .i64 1,.int .i64 9] 37)).alloc RepZ=W:=⟨_,rfl⟩
 have hb:Below w.heap.size w W:=by rw[←hW];exact bw3 _ _ _ _
 have hsz:W.heap.size=w.heap.size+1+1+1:=by rw[←hW];simp
 have HK:Hid (∀wk,Below W.heap.size W wk→wk.cell? ⟨w.heap.size,0,none⟩=some (.slice (some ⟨bp,0,none⟩) 1 1)∧wk.cell? ⟨w.heap.size+1,0,none⟩=some (.slice none 0 0)∧wk.cell? ⟨w.heap.size+1,1,none⟩=some (.slice none 0 0)∧wk.cell? ⟨w.heap.size+1,2,none⟩=some (.int .i64 9)∧wk.cell? ⟨w.heap.size+1,3,none⟩=some (.int .i64 1)∧wk.cell? ⟨w.heap.size+1,4,none⟩=some (.int .i64 9)):=by
  intro wk hk
  have b0:wk.heap[w.heap.size]?=some (.cells #[.slice (some ⟨bp,0,none⟩) 1 1] 26):=blk_later hk (by rw[←hW];exact blk_old (blk_old (blk_new _ _) _) _)
  have b1:wk.heap[w.heap.size+1]?=some (.cells #[.slice none 0 0,.slice none 0 0,.int .i64 9,.int .i64 1,.int .i64 9] 37):=blk_later hk (by rw[←hW];exact blk_old (blk_newn (by simp) _) _)
  refine⟨?_,?_,?_,?_,?_,?_⟩
  ·rw[blk_cell b0];rfl
  all_goals (rw[blk_cell b1];rfl)
 have HZ:Hid (W.heap[w.heap.size+1+1]?=some RepZ):=by show _=_;rw[←hW];exact blk_newn (by simp) _
 have HB:Hid (Below w.heap.size w W):=hb
 have HCo:Hid (CodeAt W (some ⟨bp,0,none⟩) [f]):=H0.later hb
 have HLa:Hid (LayAt W):=hlay.later hb
 have HOv:Hid (OvAt W):=by obtain⟨v,hv⟩:=hov;exact⟨v,cell_later hb hv⟩
 obtain⟨x0,x1,x2,x3,x4,x5⟩:=HK.out W (Below.refl _ _)
 clear H0 hlay hov hb
 go_enter Tryz.func16,Tryz.ntmps16
 go_wp2_with fail
 clear hW
 refine (verify_any (some ⟨bp,0,none⟩) 1 1 [f] _ HCo.out rfl HLa.out).mono ?_
 rintro e w1 ⟨hV,hx1⟩
 obtain⟨gA,rfl⟩:=G.ver hV
 have HX1:Hid (Below W.heap.size W w1):=hx1
 obtain⟨y0,y1,y2,y3,y4,y5⟩:=HK.out w1 hx1
 clear hV hx1 x0 x1 x2 x3 x4 x5
 go_wp2_with fail
 refine (inok9 _).mono ?_
 rintro e w2 ⟨rfl,hx2⟩
 have HX2:Hid (Below W.heap.size W w2):=HX1.out.trans (hx2.mono HX1.out.size)
 obtain⟨z0,z1,z2,z3,z4,z5⟩:=HK.out w2 HX2.out
 clear hx2 y0 y1 y2 y3 y4 y5
 go_wp2_with fail
 refine (newMachine_any (some ⟨bp,0,none⟩) 1 1 9 1 9 w2).mono ?_
 rintro e w3 ⟨gm,gt,gk,gch,cap',rfl,hgm,hm,ht,hgt,hc,hgc,ho,hx3⟩
 have HX3:Hid (Below W.heap.size W w3):=HX2.out.trans (hx3.mono HX2.out.size)
 obtain⟨_,ka,hk⟩:=own_blk ho (g:=gk) rfl
 have hk0:ka[0]?=some (.pointer (some ⟨gt,0,none⟩)):=by
  obtain⟨a0,c0,e0,hs0⟩:=ho.lies pC_len
  obtain⟨b0,o0,e1,_,hc0⟩:=hs0 0 gt rfl
  have e2:a0=some ⟨gk,0,none⟩:=by injection e0 with e0 _ _;exact e0.symm
  rw[e2]at e1
  have e3:gk=b0∧0=o0:=by injection e1 with e1;injection e1 with e1 e2;exact⟨e1,e2⟩
  obtain⟨rfl,rfl⟩:=e3
  have:=hc0 0 _ rfl
  rw[blk_cell hk]at this
  simpa using this
 have hco2:CodeAt w2 (some ⟨bp,0,none⟩) [f]:=HCo.out.later HX2.out
 have hf2:∀j v,f.cells[j]?=some v→w2.cell? ⟨bp,0+j,none⟩=some v:=by
  obtain⟨b0,o0,e1,_,hc0⟩:=hco2.row 0 f rfl
  have e3:bp=b0∧0=o0:=by injection e1 with e1;injection e1 with e1 e2;exact⟨e1,e2⟩
  obtain⟨rfl,rfl⟩:=e3
  intro j v hv
  have:=hc0 j v hv
  simpa using this
 have hsl2:SlA w2 5 ID.cells f.ai f.d.ins:=(hco2.lie f (by simp)).i
 obtain⟨ib,io,hai⟩:∃ib io,f.ai=some ⟨ib,io,none⟩:=by
  obtain⟨x,hx⟩:∃x,f.d.ins[0]?=some x:=⟨f.d.ins[0]'G.pos,by simp⟩
  obtain⟨b0,o0,e1,_,_⟩:=hsl2 0 x hx
  exact⟨b0,o0,e1⟩
 have hov2:OvAt w2:=by obtain⟨v,hv⟩:=HOv.out;exact⟨v,cell_later HX2.out hv⟩
 have HRT:Hid (Calls Tryz.prog 25 #[.pointer (some ⟨gm,0,none⟩)] w3 fun e w'=>e=.returned (.tuple #[])∧∃(m:MachD) (cv:Value),MachAt w' gm m∧m.code=0∧m.recs=.slice none 0 0∧m.vals=.slice none 0 0∧m.tasks=.slice (some ⟨gk,0,none⟩) 1 cap'∧w'.heap[gt]?=some (.cells (taskA cv gch 2) 145)∧w'.heap[gch]?=some (.chan 0 #[] false 0 0 false)∧w'.heap[gk]?=some (.cells ka 97)∧Below w2.heap.size w2 w') :=
  runText_ok w2 w3 gm gt gk gch cap' bp 0 1 ib io ka f f.d.ins hm ht hc hk hx3 hgm hgt hf2 G.params G.rest rfl hai (by rw[←hai];exact hsl2) hov2 G.len G.run
 have HK0:Hid _:=hk0
 have hgc2:w2.heap.size≤gch:=hgc
 have hgm2:w2.heap.size≤gm:=hgm
 clear z0 z1 z2 z3 z4 z5 hx3 hm ht hc ho hk hk0 hco2 hf2 hsl2 hov2 hgm hgt hgc hai
 go_wp2_with fail
 refine HRT.out.mono ?_
 rintro e w4 ⟨rfl,m,cv,hm4,e1,e2,e3,e4,ht4,hc4,hk4,hx4⟩
 have HST:Hid (Calls Tryz.prog 26 #[.pointer (some ⟨gm,0,none⟩)] w4 fun e w'=>e=.returned (.tuple #[])∧MachAt w' gm m∧ButL [gch] w4 w'):=stop_any gm gt gk gch cap' m cv ka w4 hm4 e4 hk4 HK0.out ht4 hc4
 have HX4:Hid (Below w2.heap.size w2 w4):=hx4
 clear hm4 ht4 hc4 hk4 hx4 HRT HK0 e4
 go_wp2_with fail
 refine HST.out.mono ?_
 rintro e w5 ⟨rfl,hm5,hb5⟩
 have hx5:Below w2.heap.size w2 w5:=hb5.below HX4.out (fun g hg=>by simp at hg;subst hg;exact hgc2) HX4.out.size
 have HX5:Hid (Below W.heap.size W w5):=HX2.out.trans (hx5.mono HX2.out.size)
 have c7:w5.cell? ⟨gm,7,none⟩=some (.int .i64 0):=by rw[MachAt.cell hm5,←e1];rfl
 have c8:w5.cell? ⟨gm,8,none⟩=some (.slice none 0 0):=by rw[MachAt.cell hm5,←e2];rfl
 have c9:w5.cell? ⟨gm,9,none⟩=some (.slice none 0 0):=by rw[MachAt.cell hm5,←e3];rfl
 have c10:w5.cell? ⟨gm,10,none⟩=some (.string m.err):=by rw[MachAt.cell hm5];rfl
 have c11:w5.cell? ⟨gm,11,none⟩=some (.string m.trace):=by rw[MachAt.cell hm5];rfl
 have c12:w5.cell? ⟨gm,12,none⟩=some (.int .i64 m.rticks):=by rw[MachAt.cell hm5];rfl
 have c13:w5.cell? ⟨gm,13,none⟩=some (.int .i64 m.made):=by rw[MachAt.cell hm5];rfl
 have hz5:=blk_later HX5.out HZ.out
 have d0:w5.cell? ⟨w.heap.size+1+1,0,none⟩=some (.int .i64 0):=by rw[blk_cell hz5];rfl
 have d1:w5.cell? ⟨w.heap.size+1+1,1,none⟩=some (.slice none 0 0):=by rw[blk_cell hz5];rfl
 have d2:w5.cell? ⟨w.heap.size+1+1,2,none⟩=some (.slice none 0 0):=by rw[blk_cell hz5];rfl
 have d3:w5.cell? ⟨w.heap.size+1+1,3,none⟩=some (.string ⟨#[]⟩):=by rw[blk_cell hz5];rfl
 have d4:w5.cell? ⟨w.heap.size+1+1,4,none⟩=some (.string ⟨#[]⟩):=by rw[blk_cell hz5];rfl
 have d5:w5.cell? ⟨w.heap.size+1+1,5,none⟩=some (.int .i64 0):=by rw[blk_cell hz5];rfl
 have d6:w5.cell? ⟨w.heap.size+1+1,6,none⟩=some (.int .i64 0):=by rw[blk_cell hz5];rfl
 have zz:=blk_frozen hz5
 clear hm5 hb5 hx5 hz5 HST
 go_wp2_with fail
 refine bodyPost_ret (v:=repV m.err m.trace m.rticks m.made) (by simp[results,Tryz.results16,go_sem,repV,d0,d1,d2,d3,d4,d5,d6]) rfl ⟨⟨_,_,_,_,rfl⟩,?_⟩
 have hq:w.heap.size≤w.heap.size+1+1:=by omega
 exact ButL.nil ((((((((ButL.of_below (HB.out.trans (HX5.out.mono HB.out.size))).setn hq _ _).setn hq _ _).setn hq _ _).setn hq _ _).setn hq _ _).setn hq _ _).setn hq _ _)
theorem runCode_ok (bp:Nat) (f:FC) (G:GoodF f) (w:World) (H0:CodeAt w (some ⟨bp,0,none⟩) [f]) (hlay:LayAt w) (hov:OvAt w) :
  Calls Tryz.prog 8 #[.agg #[.slice (some ⟨bp,0,none⟩) 1 1],.agg #[.slice none 0 0,.slice none 0 0,.int .i64 9,.int .i64 1,.int .i64 9]] w fun e w'=>(∃s t a b,e=.returned (repV s t a b))∧Below w.heap.size w w':=by
 obtain⟨W,hW⟩:∃W,((w.alloc (.cells #[.slice (some ⟨bp,0,none⟩) 1 1] 26)).alloc (.cells #[.slice none 0 0,.slice none 0 0,.int .i64 9,.int .i64 1,.int .i64 9] 37)).alloc RepZ=W:=⟨_,rfl⟩
 have hb:Below w.heap.size w W:=by rw[←hW];exact bw3 _ _ _ _
 have b0:W.heap[w.heap.size]?=some (.cells #[.slice (some ⟨bp,0,none⟩) 1 1] 26):=by rw[←hW];exact blk_old (blk_old (blk_new _ _) _) _
 have b1:W.heap[w.heap.size+1]?=some (.cells #[.slice none 0 0,.slice none 0 0,.int .i64 9,.int .i64 1,.int .i64 9] 37):=by rw[←hW];exact blk_old (blk_newn (by simp) _) _
 have x0:W.cell? ⟨w.heap.size,0,none⟩=some (.slice (some ⟨bp,0,none⟩) 1 1):=by rw[blk_cell b0];rfl
 have x1:W.cell? ⟨w.heap.size+1,0,none⟩=some (.slice none 0 0):=by rw[blk_cell b1];rfl
 have x2:W.cell? ⟨w.heap.size+1,1,none⟩=some (.slice none 0 0):=by rw[blk_cell b1];rfl
 have x3:W.cell? ⟨w.heap.size+1,2,none⟩=some (.int .i64 9):=by rw[blk_cell b1];rfl
 have x4:W.cell? ⟨w.heap.size+1,3,none⟩=some (.int .i64 1):=by rw[blk_cell b1];rfl
 have x5:W.cell? ⟨w.heap.size+1,4,none⟩=some (.int .i64 9):=by rw[blk_cell b1];rfl
 have HZ:Hid (W.heap[w.heap.size+1+1]?=some RepZ):=by show _=_;rw[←hW];exact blk_newn (by simp) _
 have HB:Hid (Below w.heap.size w W):=hb
 have HR:Hid (Calls Tryz.prog 16 #[.agg #[.slice (some ⟨bp,0,none⟩) 1 1],.agg #[.slice none 0 0,.slice none 0 0,.int .i64 9,.int .i64 1,.int .i64 9],.func (.func 17) #[] #[]] W fun e w'=>(∃s t a b,e=.returned (repV s t a b))∧Below W.heap.size W w'):=runWatched_ok bp f G W (H0.later hb) (hlay.later hb) (by obtain⟨v,hv⟩:=hov;exact⟨v,cell_later hb hv⟩)
 clear H0 hlay hov hb b0 b1
 go_enter Tryz.func8,Tryz.ntmps8
 go_wp2_with fail
 clear hW
 refine HR.out.mono ?_
 rintro e w5 ⟨⟨s,t,a,b,rfl⟩,hx⟩
 have HX5:Hid (Below W.heap.size W w5):=hx
 have hz5:=blk_later hx HZ.out
 have d0:w5.cell? ⟨w.heap.size+1+1,0,none⟩=some (.int .i64 0):=by rw[blk_cell hz5];rfl
 have d1:w5.cell? ⟨w.heap.size+1+1,1,none⟩=some (.slice none 0 0):=by rw[blk_cell hz5];rfl
 have d2:w5.cell? ⟨w.heap.size+1+1,2,none⟩=some (.slice none 0 0):=by rw[blk_cell hz5];rfl
 have d3:w5.cell? ⟨w.heap.size+1+1,3,none⟩=some (.string ⟨#[]⟩):=by rw[blk_cell hz5];rfl
 have d4:w5.cell? ⟨w.heap.size+1+1,4,none⟩=some (.string ⟨#[]⟩):=by rw[blk_cell hz5];rfl
 have d5:w5.cell? ⟨w.heap.size+1+1,5,none⟩=some (.int .i64 0):=by rw[blk_cell hz5];rfl
 have d6:w5.cell? ⟨w.heap.size+1+1,6,none⟩=some (.int .i64 0):=by rw[blk_cell hz5];rfl
 have zz:=blk_frozen hz5
 unfold repV
 clear hx hz5 HR x0 x1 x2 x3 x4 x5
 go_wp2_with fail
 refine bodyPost_ret (v:=repV s t a b) (by simp[results,Tryz.results8,go_sem,repV,d0,d1,d2,d3,d4,d5,d6]) rfl ⟨⟨_,_,_,_,rfl⟩,?_⟩
 have hq:w.heap.size≤w.heap.size+1+1:=by omega
 exact ButL.nil ((((((((ButL.of_below (HB.out.trans (HX5.out.mono HB.out.size))).setn hq _ _).setn hq _ _).setn hq _ _).setn hq _ _).setn hq _ _).setn hq _ _).setn hq _ _)
end Go.Proofs.YtjglgbepobmjhaaGreatDoor.M
namespace Go.Proofs.YtjglgbepobmjhaaGreatDoor
open Go.RowKit
def penC (r:Nat) (iv tv:Value):Array Value:=#[.string ⟨#[109,97,105,110]⟩,.int .i64 0,.int .i64 0,.bool false,.int .i64 r,.slice none 0 0,.slice none 0 0,iv,.slice none 0 0,tv,.int .i64 0,.int .i64 0]
structure Pen (w0 w:World) (g r:Nat) (l:List ID):Prop where
 bel:Below w0.heap.size w0 w
 ge:w0.heap.size≤g
 row:∃iv tv,w.heap[g]?=some (.cells (penC r iv tv) 56)∧ORow w w0.heap.size 47 5 ID.cells iv l
theorem idC_len (n:ID):n.cells.length=5:=rfl
theorem Pen.drewN {w0 w:World} {g r:Nat} {l:List ID} (h:Pen w0 w g r l) (n:Nat):Pen w0 (w.drewN n) g r l:=by
 obtain⟨h1,h2,iv,tv,h3,h4⟩:=h
 exact⟨⟨h1.os,h1.tape,h1.output,h1.size,h1.block⟩,h2,iv,tv,h3,h4⟩
theorem Pen.drew {w0 w:World} {g r:Nat} {l:List ID} (h:Pen w0 w g r l):Pen w0 w.drew g r l:=by
 obtain⟨h1,h2,iv,tv,h3,h4⟩:=h
 exact⟨⟨h1.os,h1.tape,h1.output,h1.size,h1.block⟩,h2,iv,tv,h3,h4⟩
theorem Pen.at {w0 w:World} {g r:Nat} {l:List ID} (h:Pen w0 w g r l):∃a cap,w.cell? ⟨g,7,none⟩=some (.slice a l.length cap):=by
 obtain⟨h1,h2,iv,tv,h3,h4⟩:=h
 obtain⟨a,c,rfl⟩:=h4.val
 exact⟨a,c,by rw[blk_cell h3];rfl⟩
theorem pen_any (r:Nat) (hr:r≤250) (w:World):Calls Tryz.prog 10 #[.int .i64 (r:Int)] w fun e w'=>∃g,e=.returned (.pointer (some ⟨g,0,none⟩))∧Pen w w' g r []:=by
 have hmI:=fun W=>make_int r (by omega) W
 go_enter Tryz.func10,Tryz.ntmps10
 go_wp2_with fail
 go_ret
 refine⟨w.heap.size+1,rfl,bw2 _ _ _,by omega,_,_,blk_newn (by simp) _,ORow.nil _ _ _ _ _⟩
theorem flat_setc {α:Type} (cells:α→List Value) (k:Nat):∀(xs:List α) (i j:Nat) (x x':α) (v:Value),(∀y∈xs,(cells y).length=k)→xs[i]?=some x→j<k→cells x'=(cells x).set j v→(xs.flatMap cells).set (i*k+j) v=(xs.set i x').flatMap cells
 | [],i,j,x,x',v,_,hx,_,_=>by simp at hx
 | y :: ys,0,j,x,x',v,hk,hx,hj,hc=>by
  obtain rfl:y=x:=by simpa using hx
  have hy:=hk y (by simp)
  rw[Nat.zero_mul,Nat.zero_add,List.flatMap_cons,List.set_append_left _ _ (by omega),List.set_cons_zero,List.flatMap_cons,hc]
 | y :: ys,i+1,j,x,x',v,hk,hx,hj,hc=>by
  have hy:=hk y (by simp)
  rw[List.flatMap_cons,List.set_append_right _ _ (by rw[hy,Nat.add_mul,Nat.one_mul];omega),hy,show (i+1)*k+j-k=i*k+j by rw[Nat.add_mul,Nat.one_mul];omega,List.set_cons_succ,List.flatMap_cons]
  rw[flat_setc cells k ys i j x x' v (fun z hz=>hk z (by simp[hz])) (by simpa using hx) hj hc]
theorem ORow.setc {α:Type} {w:World} {B:Nat} {et:TypeId} {k:Nat} {cells:α→List Value} {g n cap:Nat} {xs:List α} (h:ORow w B et k cells (.slice (some ⟨g,0,none⟩) n cap) xs) (hk:∀y,(cells y).length=k) {i j:Nat} {x x':α} {v:Value} (hx:xs[i]?=some x) (hj:j<k) (hc:cells x'=(cells x).set j v):ORow (w.setCell ⟨g,i*k+j,none⟩ v) B et k cells (.slice (some ⟨g,0,none⟩) n cap) (xs.set i x'):=by
 obtain⟨h1,h2⟩:=h
 have hf:=flat_setc cells k xs i j x x' v (fun y _=>hk y) hx hj hc
 refine⟨by rw[←hf,List.length_set,List.length_set];exact h1,?_⟩
 rcases h2 with ⟨e,_⟩ | ⟨g',c',cur,e,hb,hg,hl,hm,hs,ht⟩
 ·cases e
 ·injection e with e1 e2 e3
  injection e1 with e1
  injection e1 with e1
  subst e1 e2 e3
  rw[List.length_set]
  refine .inr ⟨g,_,cur.setIfInBounds (i*k+j) v,rfl,hb,blk_set hg _ _,hl,hm,by simpa using hs,?_⟩
  rw[Array.toList_setIfInBounds,List.take_set,ht,hf]
def setA (l:List ID) (i:Nat) (z:Int):List ID:=match l[i]? with | some n=>l.set i ⟨n.op,z,n.b,n.c,n.d⟩ | none=>l
theorem Pen.open {w0 w:World} {g r:Nat} {l:List ID} (h:Pen w0 w g r l) {i:Nat} {n:ID} (hi:l[i]?=some n):∃gi cap,w.cell? ⟨g,7,none⟩=some (.slice (some ⟨gi,0,none⟩) l.length cap)∧w.cell? ⟨gi,i*5+1,none⟩=some (.int .i64 n.a)∧(∀q,w.frozen? ⟨gi,q,none⟩=false)∧∀z:Int,Pen w0 (w.setCell ⟨gi,i*5+1,none⟩ (.int .i64 z)) g r (setA l i z):=by
 obtain⟨h1,h2,iv,tv,h3,h4⟩:=h
 have hlt:=(List.getElem?_eq_some_iff.1 hi).1
 obtain⟨gi,cap,rfl,hge,_,hs,hfz,_⟩:=h4.open idC_len (by omega)
 obtain⟨b,off,e,_,hc⟩:=hs i n hi
 have e':gi=b∧0=off:=by injection e with e;injection e with e1 e2;exact⟨e1,e2⟩
 obtain⟨rfl,rfl⟩:=e'
 have hne:gi≠g:=by
  rintro rfl
  rcases h4.2 with ⟨e1,_⟩ | ⟨g0,c0,cur,e1,_,e3,_⟩
  ·cases e1
  ·injection e1 with e1 _ _;injection e1 with e1;injection e1 with e1;subst e1;rw[h3]at e3;cases e3
 refine⟨gi,cap,by rw[blk_cell h3];rfl,by have:=hc 1 _ rfl;simpa using this,hfz,fun z=>⟨h1.setCell (p:=⟨gi,i*5+1,none⟩) hge _,h2,_,tv,blk_other h3 hne _ _,?_⟩⟩
 unfold setA
 rw[hi]
 exact ORow.setc h4 idC_len hi (by omega) rfl
theorem pput_any {w0 w:World} {g r:Nat} {l:List ID} (op a b c d:Int) (H:Pen w0 w g r l) (hl:l.length≤100000) :
  Calls Tryz.prog 11 #[.pointer (some ⟨g,0,none⟩),.int .i64 op,.int .i64 a,.int .i64 b,.int .i64 c,.int .i64 d] w fun e w'=>e=.returned (.int .i64 (l.length:Int))∧Pen w0 w' g r (l++[⟨op,a,b,c,d⟩]):=by
 obtain⟨hB,hge,iv,tv,hb,ho⟩:=H
 obtain⟨aa,cc,rfl⟩:=ho.val
 have hy:=bw1 w (.cells #[.int .i64 op,.int .i64 a,.int .i64 b,.int .i64 c,.int .i64 d] 47)
 have ho1:=ORow.later ho hy
 have hsz:w0.heap.size≤w.heap.size:=hB.size
 obtain⟨g',cap',w2,hr,ho2,hgr⟩:=ho1.app 50 40 Tryz.underlying50 (by kernel_rfl) (by omega) (by omega) (⟨op,a,b,c,d⟩:ID) w.heap.size 50 (blk_new _ _) rfl (by intro u hu;simp[ID.cells]at hu;rcases hu with rfl | rfl | rfl | rfl | rfl<;>rfl) (by omega) (by simp;omega)
 have hgne:(Value.slice aa l.length cc).ownBlock≠some g:=by
  intro e
  rcases ho.2 with ⟨e1,_⟩ | ⟨g0,c0,cur,e1,_,e3,_⟩
  ·rw[e1]at e;cases e
  ·rw[e1]at e;cases e;rw[hb]at e3;cases e3
 have hgl:=blk_lt hb
 have hb2:w2.heap[g]?=some (.cells (penC r (.slice aa l.length cc) tv) 56):=(hgr.block g (by simp;omega) (fun e=>hgne e.symm)).trans (blk_old hb _)
 have p1:w.cell? ⟨g,7,none⟩=some (.slice aa l.length cc):=by rw[blk_cell hb];rfl
 have p0:(w.alloc (.cells #[.int .i64 op,.int .i64 a,.int .i64 b,.int .i64 c,.int .i64 d] 47)).cell? ⟨g,7,none⟩=some (.slice aa l.length cc):=by rw[blk_cell (blk_old hb _)];rfl
 have p2:w2.cell? ⟨g,7,none⟩=some (.slice aa l.length cc):=by rw[blk_cell hb2];rfl
 have z2:=blk_frozen hb2
 have HE:Hid (Pen w0 (w2.setCell ⟨g,7,none⟩ (.slice (some ⟨g',0,none⟩) (l.length+1) cap')) g r (l++[⟨op,a,b,c,d⟩])):=by
  refine⟨?_,hge,_,tv,blk_set hb2 7 _,?_⟩
  ·have:=below_grown (hB.trans (hy.mono hB.size)) (by simp;omega) ho1 (Nat.le_refl _) hgr
   exact this.setCell (p:=⟨g,7,none⟩) hge _
  ·refine ORow.set_own ho2 (fun e=>?_) 7 _
   have e':g'=g:=Option.some.inj e
   subst e'
   rcases ho2.2 with ⟨e1,_⟩ | ⟨g0,c0,cur,e1,_,e3,_⟩
   ·cases e1
   ·injection e1 with e1 _ _;injection e1 with e1;injection e1 with e1;subst e1;rw[hb2]at e3;cases e3
 obtain⟨W3,hW3⟩:∃W,w2.setCell ⟨g,7,none⟩ (.slice (some ⟨g',0,none⟩) (l.length+1) cap')=W:=⟨_,rfl⟩
 rw[hW3]at HE
 have p3:W3.cell? ⟨g,7,none⟩=some (.slice (some ⟨g',0,none⟩) (l.length+1) cap'):=by rw[←hW3,blk_cell (blk_set hb2 7 _)];rfl
 clear ho ho1 ho2 hgr hb2 hb hB hy
 go_enter Tryz.func11,Tryz.ntmps11
 go_wp2_with (at_builtin;refine wpList_append_run rfl _ _ _ rfl _ _ _ _ rfl rfl hr ?_;clear hr)
 go_ret
 exact⟨rfl,HE.out⟩
theorem pat_any {w0 w:World} {g r:Nat} {l:List ID} (H:Pen w0 w g r l) :
  Calls Tryz.prog 12 #[.pointer (some ⟨g,0,none⟩)] w fun e w'=>e=.returned (.int .i64 (l.length:Int))∧w'=w:=by
 obtain⟨a,cap,hc⟩:=H.at
 go_enter Tryz.func12,Tryz.ntmps12
 go_wp2_with fail
 go_ret
 exact⟨rfl,rfl⟩
theorem pback_any {w0 w:World} {g r:Nat} {l:List ID} (x:Int) (H:Pen w0 w g r l) (hl:l.length≤1000) (hx:0≤x∧x≤1000) :
  Calls Tryz.prog 13 #[.pointer (some ⟨g,0,none⟩),.int .i64 x] w fun e w'=>e=.returned (.tuple #[])∧Pen w0 w' g r (l++[⟨22,x,0,0,0⟩,⟨29,-1-x,0,0,0⟩]):=by
 have HP:Hid (Pen w0 w g r l):=H
 clear H
 go_enter Tryz.func13,Tryz.ntmps13
 go_wp2_with fail
 refine (pput_any _ _ _ _ _ HP.out (by omega)).mono ?_
 rintro e w1 ⟨rfl,H1⟩
 have HP1:Hid _:=H1
 clear H1 HP
 go_wp2_with fail
 refine (pput_any _ _ _ _ _ HP1.out (by simp;omega)).mono ?_
 rintro e w2 ⟨rfl,H2⟩
 have HP2:Hid _:=H2
 clear H2 HP1
 go_wp2_with fail
 refine bodyPost_end (v:=.tuple #[]) (by simp[results,Tryz.results13,go_sem]) rfl ⟨rfl,?_⟩
 have:=HP2.out
 rwa [List.append_assoc]at this
theorem Pen.code {w0 w:World} {g r:Nat} {l:List ID} (h:Pen w0 w g r l):∃(f:FC),f.d=⟨⟨#[109,97,105,110]⟩,0,0,false,r,[],[],l,[]⟩∧(∃tv,w.heap[g]?=some (.cells (f.cells++[tv,Value.int .i64 0,Value.int .i64 0]).toArray 56))∧∀q j v,q<w0.heap.size→f.lie (w.setCell ⟨q,j,none⟩ v):=by
 obtain⟨h1,h2,iv,tv,h3,h4⟩:=h
 obtain⟨a,cap,rfl,hs⟩:=h4.lies idC_len
 refine⟨⟨⟨⟨#[109,97,105,110]⟩,0,0,false,r,[],[],l,[]⟩,none,0,none,0,a,cap,none,0⟩,rfl,⟨tv,h3⟩,fun q j v hq=>⟨SlA.nil _ _ _ _,SlA.nil _ _ _ _,?_,SlA.nil _ _ _ _⟩⟩
 have h5:=ORow.set_own h4 (g:=q) (fun e=>by have:=owns_ge h4 e;omega) j v
 obtain⟨a',cap',e,hs'⟩:=h5.lies idC_len
 injection e with e1 e2 e3
 subst e1
 exact hs'
theorem code_one {w:World} {g:Nat} {f:FC} (hb:w.heap[g]?=some (.cells f.cells.toArray 53)) (hl:f.lie w) (hok:f.d.ok):CodeAt w (some ⟨g,0,none⟩) [f]:=by
 refine⟨fun i x hx=>?_,fun x hx=>by rw[List.mem_singleton.1 hx];exact hl,fun x hx=>by rw[List.mem_singleton.1 hx];exact hok,by simp,by simpa using hok.li⟩
 have hi:i=0∧f=x:=by
  cases i with
  | zero=>exact⟨rfl,by simpa using hx⟩
  | succ i=>simp at hx
 obtain⟨rfl,rfl⟩:=hi
 refine⟨g,0,rfl,blk_lt hb,fun j v hv=>?_⟩
 rw[blk_cell hb]
 simpa using hv
end Go.Proofs.YtjglgbepobmjhaaGreatDoor
