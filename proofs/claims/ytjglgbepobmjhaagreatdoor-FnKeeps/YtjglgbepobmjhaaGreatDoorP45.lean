import Derived.Test.YtjglgbepobmjhaaGreatDoorP44
import Derived.Test.YtjglgbepobmjhaaGreatDoorP25
set_option linter.unusedVariables false
set_option linter.unusedSimpArgs false
set_option maxRecDepth 20000
set_option maxHeartbeats 8000000
namespace Go.Proofs.YtjglgbepobmjhaaGreatDoor
open Go.RowKit
theorem VeP.split {xs : List FC} {len B : Nat} {e : Ending} {w' : World} (h : VeP xs len B e w') : (∃ r : F3,CkR (xs.map FC.d) r∧((shapeV (xs.map FC.d)).1 ≠ 0∧r = shapeV (xs.map FC.d) ∨ (shapeV (xs.map FC.d)).1 = 0∧∃ p f,xs[p]? = some f∧WF (xs.map FC.d) p f.d (some r))∧e = .returned (.tuple #[.slice none 0 0,.iface 80 (FV r.1 r.2.1 r.2.2)])) ∨
 (CkR (xs.map FC.d) (0,0,0)∧∃ gA,e = .returned (.tuple #[.slice (some ⟨gA,0,none⟩) len len,.nilIface])∧VeR xs B gA xs.length w'):=h
theorem icheckcode_any (a : Option Addr) (len cap : Nat) (xs : List FC) (w : World) (H0 : CodeAt w a xs) (hl : xs.length = len) (hlay : LayAt w) (he : ErrAt w) :
  Calls Tryz.prog 7 #[.agg #[.slice a len cap]] w fun e w'=>(∃ r : F3,CkR (xs.map FC.d) r∧e = .returned (FV r.1 r.2.1 r.2.2))∧Below w.heap.size w w':=by
 have hy:=bw2 w (CO (.slice a len cap)) (FO 0 0 0)
 go_enter Tryz.func7,Tryz.ntmps7
 go_wp2_with fail
 refine (verify_any a len cap xs _ (H0.later hy) hl (hlay.later hy)).mono ?_
 rintro e w1 ⟨hV,hx⟩
 have B1:=blk_later hx (blk_newn (k:=w.heap.size + 1) (by simp) (FO 0 0 0))
 have hB:=hy.trans (hx.mono hy.size)
 clear hx
 rcases hV.split with ⟨⟨rc,rp,ri⟩,hck,_,rfl⟩ | ⟨hck,gA,rfl,_⟩
 ·have HCK : Hid (CkR (xs.map FC.d) (rc,rp,ri)):=hck
  clear hV hck
  go_wp2_with fail
  refine (faultof_some rc rp ri _ (he.later hB)).mono ?_
  rintro e w2 ⟨rfl,hx⟩
  have B2:=blk_later hx B1
  have r0 : w2.cell? ⟨w.heap.size + 1,0,none⟩ = some (.int .i64 0):=by rw [blk_cell B2]; rfl
  have r1 : w2.cell? ⟨w.heap.size + 1,1,none⟩ = some (.int .i64 0):=by rw [blk_cell B2]; rfl
  have r2 : w2.cell? ⟨w.heap.size + 1,2,none⟩ = some (.int .i64 0):=by rw [blk_cell B2]; rfl
  have z:=blk_frozen B2
  have hz:=hB.trans (hx.mono hB.size)
  clear hx B1 B2 hB H0 hlay he hy
  go_wp2_with fail
  refine bodyPost_ret (v:=FV rc rp ri) (by simp [results,Tryz.results7,go_sem,r0,r1,r2]) rfl ⟨⟨(rc,rp,ri),HCK.out,rfl⟩,?_⟩
  exact ((hz.setCell (p:=⟨w.heap.size + 1,0,none⟩) (by simp) _).setCell (p:=⟨w.heap.size + 1,1,none⟩) (by simp) _).setCell (p:=⟨w.heap.size + 1,2,none⟩) (by simp) _
 ·have HCK : Hid (CkR (xs.map FC.d) (0,0,0)):=hck
  clear hV hck
  go_wp2_with fail
  refine (faultof_none _).mono ?_
  rintro e w2 ⟨rfl,hx⟩
  have B2:=blk_later hx B1
  have r0 : w2.cell? ⟨w.heap.size + 1,0,none⟩ = some (.int .i64 0):=by rw [blk_cell B2]; rfl
  have r1 : w2.cell? ⟨w.heap.size + 1,1,none⟩ = some (.int .i64 0):=by rw [blk_cell B2]; rfl
  have r2 : w2.cell? ⟨w.heap.size + 1,2,none⟩ = some (.int .i64 0):=by rw [blk_cell B2]; rfl
  have z:=blk_frozen B2
  have hz:=hB.trans (hx.mono hB.size)
  clear hx B1 B2 hB H0 hlay he hy
  go_wp2_with fail
  refine bodyPost_ret (v:=FV 0 0 0) (by simp [results,Tryz.results7,go_sem,r0,r1,r2]) rfl ⟨⟨(0,0,0),HCK.out,rfl⟩,?_⟩
  exact ((hz.setCell (p:=⟨w.heap.size + 1,0,none⟩) (by simp) _).setCell (p:=⟨w.heap.size + 1,1,none⟩) (by simp) _).setCell (p:=⟨w.heap.size + 1,2,none⟩) (by simp) _
end Go.Proofs.YtjglgbepobmjhaaGreatDoor
namespace Go.Proofs.YtjglgbepobmjhaaGreatDoor.M
open Go.RowKit
attribute [local go_sem] run_store_float
set_option maxHeartbeats 1000000 in
theorem idx_nil (w : World) : Calls Tryz.prog 157 #[.slice none 0 0,.func (Fn.func 77) #[] #[]] w fun e w'=>e = .returned (.int .i64 (-1))∧w' = w:=by
 go_enter Tryz.func157,Tryz.ntmps157
 go_wp2_with fail
 go_loopw [8] (fun i wr=>i = .int .i64 0∧wr = w) (fun _ _=>0)
 case atStart=>exact ⟨rfl,rfl⟩
 case round =>
  obtain ⟨rfl,rfl⟩:=hrel
  go_wp2_with fail
  go_ret
  exact ⟨rfl,rfl⟩
set_option maxHeartbeats 1000000 in
theorem cont_nil (w : World) : Calls Tryz.prog 76 #[.slice none 0 0,.func (Fn.func 77) #[] #[]] w fun e w'=>e = .returned (.bool false)∧w' = w:=by
 go_enter Tryz.func76,Tryz.ntmps76
 go_wp2_with fail
 refine (idx_nil w).mono ?_
 rintro e w1 ⟨rfl,rfl⟩
 go_wp2_with fail
 go_ret
 exact ⟨rfl,rfl⟩
set_option maxHeartbeats 1000000 in
theorem texts_nil (w : World) : Calls Tryz.prog 43 #[.slice none 0 0] w fun e w'=>e = .returned (.bool true)∧w' = w:=by
 go_enter Tryz.func43,Tryz.ntmps43
 go_wp2_with fail
 refine (cont_nil w).mono ?_
 rintro e w1 ⟨rfl,rfl⟩
 go_wp2_with fail
 go_ret
 exact ⟨rfl,rfl⟩
set_option maxHeartbeats 4000000 in
theorem inok9 (w : World) : Calls Tryz.prog 23 #[.agg #[.slice none 0 0,.slice none 0 0,.int .i64 9,.int .i64 1,.int .i64 9]] w fun e w'=>e = .returned (.bool true)∧Below w.heap.size w w':=by
 obtain ⟨W,hW⟩ : ∃ W,w.alloc (.cells #[.slice none 0 0,.slice none 0 0,.int .i64 9,.int .i64 1,.int .i64 9] 37) = W:=⟨_,rfl⟩
 have hb : Below w.heap.size w W:=by rw [← hW]; exact bw1 _ _
 have bn : W.heap[w.heap.size]? = some (.cells #[.slice none 0 0,.slice none 0 0,.int .i64 9,.int .i64 1,.int .i64 9] 37):=by rw [← hW]; exact blk_new _ _
 have c0 : W.cell? ⟨w.heap.size,0,none⟩ = some (.slice none 0 0):=by rw [blk_cell bn]; rfl
 have c1 : W.cell? ⟨w.heap.size,1,none⟩ = some (.slice none 0 0):=by rw [blk_cell bn]; rfl
 have c2 : W.cell? ⟨w.heap.size,2,none⟩ = some (.int .i64 9):=by rw [blk_cell bn]; rfl
 have c3 : W.cell? ⟨w.heap.size,3,none⟩ = some (.int .i64 1):=by rw [blk_cell bn]; rfl
 have c4 : W.cell? ⟨w.heap.size,4,none⟩ = some (.int .i64 9):=by rw [blk_cell bn]; rfl
 clear bn
 go_enter Tryz.func23,Tryz.ntmps23
 go_wp2_with (first | (go_at_call 43; refine (texts_nil _).mono ?_; rintro e w1 ⟨rfl,rfl⟩) | (go_at_call 44; refine (wi_any _ _ _ _).mono ?_; rintro e w1 ⟨rfl,rfl⟩; simp only [inR,show decide ((0 : Int) ≤ 9) = true by decide,show decide ((9 : Int) ≤ 5000) = true by decide,show decide ((1 : Int) ≤ 1) = true by decide,show decide ((1 : Int) ≤ 60) = true by decide,show decide ((9 : Int) ≤ 20000) = true by decide,Bool.and_self]))
 go_ret
 exact ⟨rfl,hb⟩
structure GoodF (f : FC) : Prop where
 shape : (shapeV [f.d]).1 = 0
 walk : WF [f.d] 0 f.d none
 params : f.d.params = 0
 rest : f.d.rest = false
 len : f.d.ins.length ≤ 100
 pos : 0 < f.d.ins.length
 run : runP f.d.ins 12 ps0 = true
theorem GoodF.ver {f : FC} (h : GoodF f) {len B : Nat} {e : Ending} {w' : World} (hv : VeP [f] len B e w') : ∃ gA,e = .returned (.tuple #[.slice (some ⟨gA,0,none⟩) len len,.nilIface]):=by
 rcases hv.split with ⟨r,_,hc,_⟩ | ⟨_,gA,he,_⟩
 ·exfalso
  rcases hc with ⟨hn,_⟩ | ⟨_,p,f',hp,hw⟩
  ·exact hn h.shape
  ·have : p = 0∧f = f':=by
    cases p with
    | zero=>exact ⟨rfl,by simpa using hp⟩
    | succ p=>simp at hp
   obtain ⟨rfl,rfl⟩:=this
   cases WF.uniq hw h.walk
 ·exact ⟨gA,he⟩
abbrev RepZ : Obj:=.cells #[.int .i64 0,.slice none 0 0,.slice none 0 0,.string ⟨#[]⟩,.string ⟨#[]⟩,.int .i64 0,.int .i64 0] 34
def repV (s t : ByteArray) (a b : Int) : Value:=.agg #[.int .i64 0,.slice none 0 0,.slice none 0 0,.string s,.string t,.int .i64 a,.int .i64 b]
theorem runWatched_ok (bp : Nat) (f : FC) (G : GoodF f) (w : World) (H0 : CodeAt w (some ⟨bp,0,none⟩) [f]) (hlay : LayAt w) (hov : OvAt w) :
  Calls Tryz.prog 16 #[.agg #[.slice (some ⟨bp,0,none⟩) 1 1],.agg #[.slice none 0 0,.slice none 0 0,.int .i64 9,.int .i64 1,.int .i64 9],.func (.func 17) #[] #[]] w fun e w'=>(∃ s t a b,e = .returned (repV s t a b))∧Below w.heap.size w w':=by
 obtain ⟨W,hW⟩ : ∃ W,((w.alloc (.cells #[.slice (some ⟨bp,0,none⟩) 1 1] 26)).alloc (.cells #[.slice none 0 0,.slice none 0 0,.int .i64 9,.int .i64 1,.int .i64 9] 37)).alloc RepZ = W:=⟨_,rfl⟩
 have hb : Below w.heap.size w W:=by rw [← hW]; exact bw3 _ _ _ _
 have hsz : W.heap.size = w.heap.size + 1 + 1 + 1:=by rw [← hW]; simp
 have HK : Hid (∀ wk,Below W.heap.size W wk→wk.cell? ⟨w.heap.size,0,none⟩ = some (.slice (some ⟨bp,0,none⟩) 1 1)∧wk.cell? ⟨w.heap.size + 1,0,none⟩ = some (.slice none 0 0)∧wk.cell? ⟨w.heap.size + 1,1,none⟩ = some (.slice none 0 0)∧wk.cell? ⟨w.heap.size + 1,2,none⟩ = some (.int .i64 9)∧wk.cell? ⟨w.heap.size + 1,3,none⟩ = some (.int .i64 1)∧wk.cell? ⟨w.heap.size + 1,4,none⟩ = some (.int .i64 9)):=by
  intro wk hk
  have b0 : wk.heap[w.heap.size]? = some (.cells #[.slice (some ⟨bp,0,none⟩) 1 1] 26):=blk_later hk (by rw [← hW]; exact blk_old (blk_old (blk_new _ _) _) _)
  have b1 : wk.heap[w.heap.size + 1]? = some (.cells #[.slice none 0 0,.slice none 0 0,.int .i64 9,.int .i64 1,.int .i64 9] 37):=blk_later hk (by rw [← hW]; exact blk_old (blk_newn (by simp) _) _)
  refine ⟨?_,?_,?_,?_,?_,?_⟩
  ·rw [blk_cell b0]; rfl
  all_goals (rw [blk_cell b1]; rfl)
 have HZ : Hid (W.heap[w.heap.size + 1 + 1]? = some RepZ):=by show _ = _; rw [← hW]; exact blk_newn (by simp) _
 have HB : Hid (Below w.heap.size w W):=hb
 have HCo : Hid (CodeAt W (some ⟨bp,0,none⟩) [f]):=H0.later hb
 have HLa : Hid (LayAt W):=hlay.later hb
 have HOv : Hid (OvAt W):=by obtain ⟨v,hv⟩:=hov; exact ⟨v,cell_later hb hv⟩
 obtain ⟨x0,x1,x2,x3,x4,x5⟩:=HK.out W (Below.refl _ _)
 clear H0 hlay hov hb
 go_enter Tryz.func16,Tryz.ntmps16
 go_wp2_with fail
 clear hW
 refine (verify_any (some ⟨bp,0,none⟩) 1 1 [f] _ HCo.out rfl HLa.out).mono ?_
 rintro e w1 ⟨hV,hx1⟩
 obtain ⟨gA,rfl⟩:=G.ver hV
 have HX1 : Hid (Below W.heap.size W w1):=hx1
 obtain ⟨y0,y1,y2,y3,y4,y5⟩:=HK.out w1 hx1
 clear hV hx1 x0 x1 x2 x3 x4 x5
 go_wp2_with fail
 refine (inok9 _).mono ?_
 rintro e w2 ⟨rfl,hx2⟩
 have HX2 : Hid (Below W.heap.size W w2):=HX1.out.trans (hx2.mono HX1.out.size)
 obtain ⟨z0,z1,z2,z3,z4,z5⟩:=HK.out w2 HX2.out
 clear hx2 y0 y1 y2 y3 y4 y5
 go_wp2_with fail
 refine (newMachine_any (some ⟨bp,0,none⟩) 1 1 9 1 9 w2).mono ?_
 rintro e w3 ⟨gm,gt,gk,gch,cap',rfl,hgm,hm,ht,hgt,hc,hgc,ho,hx3⟩
 have HX3 : Hid (Below W.heap.size W w3):=HX2.out.trans (hx3.mono HX2.out.size)
 obtain ⟨_,ka,hk⟩:=own_blk ho (g:=gk) rfl
 have hk0 : ka[0]? = some (.pointer (some ⟨gt,0,none⟩)):=by
  obtain ⟨a0,c0,e0,hs0⟩:=ho.lies pC_len
  obtain ⟨b0,o0,e1,_,hc0⟩:=hs0 0 gt rfl
  have e2 : a0 = some ⟨gk,0,none⟩:=by injection e0 with e0 _ _; exact e0.symm
  rw [e2] at e1
  have e3 : gk = b0∧0 = o0:=by injection e1 with e1; injection e1 with e1 e2; exact ⟨e1,e2⟩
  obtain ⟨rfl,rfl⟩:=e3
  have:=hc0 0 _ rfl
  rw [blk_cell hk] at this
  simpa using this
 have hco2 : CodeAt w2 (some ⟨bp,0,none⟩) [f]:=HCo.out.later HX2.out
 have hf2 : ∀ j v,f.cells[j]? = some v→w2.cell? ⟨bp,0 + j,none⟩ = some v:=by
  obtain ⟨b0,o0,e1,_,hc0⟩:=hco2.row 0 f rfl
  have e3 : bp = b0∧0 = o0:=by injection e1 with e1; injection e1 with e1 e2; exact ⟨e1,e2⟩
  obtain ⟨rfl,rfl⟩:=e3
  intro j v hv
  have:=hc0 j v hv
  simpa using this
 have hsl2 : SlA w2 5 ID.cells f.ai f.d.ins:=(hco2.lie f (by simp)).i
 obtain ⟨ib,io,hai⟩ : ∃ ib io,f.ai = some ⟨ib,io,none⟩:=by
  obtain ⟨x,hx⟩ : ∃ x,f.d.ins[0]? = some x:=⟨f.d.ins[0]'G.pos,by simp⟩
  obtain ⟨b0,o0,e1,_,_⟩:=hsl2 0 x hx
  exact ⟨b0,o0,e1⟩
 have hov2 : OvAt w2:=by obtain ⟨v,hv⟩:=HOv.out; exact ⟨v,cell_later HX2.out hv⟩
 have HRT : Hid (Calls Tryz.prog 25 #[.pointer (some ⟨gm,0,none⟩)] w3 fun e w'=>e = .returned (.tuple #[])∧∃ (m : MachD) (cv : Value),MachAt w' gm m∧m.code = 0∧m.recs = .slice none 0 0∧m.vals = .slice none 0 0∧m.tasks = .slice (some ⟨gk,0,none⟩) 1 cap'∧w'.heap[gt]? = some (.cells (taskA cv gch 2) 145)∧w'.heap[gch]? = some (.chan 0 #[] false 0 0 false)∧w'.heap[gk]? = some (.cells ka 97)∧Below w2.heap.size w2 w') :=
  runText_ok w2 w3 gm gt gk gch cap' bp 0 1 ib io ka f f.d.ins hm ht hc hk hx3 hgm hgt hf2 G.params G.rest rfl hai (by rw [← hai]; exact hsl2) hov2 G.len G.run
 have HK0 : Hid _:=hk0
 have hgc2 : w2.heap.size ≤ gch:=hgc
 have hgm2 : w2.heap.size ≤ gm:=hgm
 clear z0 z1 z2 z3 z4 z5 hx3 hm ht hc ho hk hk0 hco2 hf2 hsl2 hov2 hgm hgt hgc hai
 go_wp2_with fail
 refine HRT.out.mono ?_
 rintro e w4 ⟨rfl,m,cv,hm4,e1,e2,e3,e4,ht4,hc4,hk4,hx4⟩
 have HST : Hid (Calls Tryz.prog 26 #[.pointer (some ⟨gm,0,none⟩)] w4 fun e w'=>e = .returned (.tuple #[])∧MachAt w' gm m∧ButL [gch] w4 w'):=stop_any gm gt gk gch cap' m cv ka w4 hm4 e4 hk4 HK0.out ht4 hc4
 have HX4 : Hid (Below w2.heap.size w2 w4):=hx4
 clear hm4 ht4 hc4 hk4 hx4 HRT HK0 e4
 go_wp2_with fail
 refine HST.out.mono ?_
 rintro e w5 ⟨rfl,hm5,hb5⟩
 have hx5 : Below w2.heap.size w2 w5:=hb5.below HX4.out (fun g hg=>by simp at hg; subst hg; exact hgc2) HX4.out.size
 have HX5 : Hid (Below W.heap.size W w5):=HX2.out.trans (hx5.mono HX2.out.size)
 have c7 : w5.cell? ⟨gm,7,none⟩ = some (.int .i64 0):=by rw [MachAt.cell hm5,← e1]; rfl
 have c8 : w5.cell? ⟨gm,8,none⟩ = some (.slice none 0 0):=by rw [MachAt.cell hm5,← e2]; rfl
 have c9 : w5.cell? ⟨gm,9,none⟩ = some (.slice none 0 0):=by rw [MachAt.cell hm5,← e3]; rfl
 have c10 : w5.cell? ⟨gm,10,none⟩ = some (.string m.err):=by rw [MachAt.cell hm5]; rfl
 have c11 : w5.cell? ⟨gm,11,none⟩ = some (.string m.trace):=by rw [MachAt.cell hm5]; rfl
 have c12 : w5.cell? ⟨gm,12,none⟩ = some (.int .i64 m.rticks):=by rw [MachAt.cell hm5]; rfl
 have c13 : w5.cell? ⟨gm,13,none⟩ = some (.int .i64 m.made):=by rw [MachAt.cell hm5]; rfl
 have hz5:=blk_later HX5.out HZ.out
 have d0 : w5.cell? ⟨w.heap.size + 1 + 1,0,none⟩ = some (.int .i64 0):=by rw [blk_cell hz5]; rfl
 have d1 : w5.cell? ⟨w.heap.size + 1 + 1,1,none⟩ = some (.slice none 0 0):=by rw [blk_cell hz5]; rfl
 have d2 : w5.cell? ⟨w.heap.size + 1 + 1,2,none⟩ = some (.slice none 0 0):=by rw [blk_cell hz5]; rfl
 have d3 : w5.cell? ⟨w.heap.size + 1 + 1,3,none⟩ = some (.string ⟨#[]⟩):=by rw [blk_cell hz5]; rfl
 have d4 : w5.cell? ⟨w.heap.size + 1 + 1,4,none⟩ = some (.string ⟨#[]⟩):=by rw [blk_cell hz5]; rfl
 have d5 : w5.cell? ⟨w.heap.size + 1 + 1,5,none⟩ = some (.int .i64 0):=by rw [blk_cell hz5]; rfl
 have d6 : w5.cell? ⟨w.heap.size + 1 + 1,6,none⟩ = some (.int .i64 0):=by rw [blk_cell hz5]; rfl
 have zz:=blk_frozen hz5
 clear hm5 hb5 hx5 hz5 HST
 go_wp2_with fail
 refine bodyPost_ret (v:=repV m.err m.trace m.rticks m.made) (by simp [results,Tryz.results16,go_sem,repV,d0,d1,d2,d3,d4,d5,d6]) rfl ⟨⟨_,_,_,_,rfl⟩,?_⟩
 have hq : w.heap.size ≤ w.heap.size + 1 + 1:=by omega
 exact ButL.nil ((((((((ButL.of_below (HB.out.trans (HX5.out.mono HB.out.size))).setn hq _ _).setn hq _ _).setn hq _ _).setn hq _ _).setn hq _ _).setn hq _ _).setn hq _ _)
theorem runCode_ok (bp : Nat) (f : FC) (G : GoodF f) (w : World) (H0 : CodeAt w (some ⟨bp,0,none⟩) [f]) (hlay : LayAt w) (hov : OvAt w) :
  Calls Tryz.prog 8 #[.agg #[.slice (some ⟨bp,0,none⟩) 1 1],.agg #[.slice none 0 0,.slice none 0 0,.int .i64 9,.int .i64 1,.int .i64 9]] w fun e w'=>(∃ s t a b,e = .returned (repV s t a b))∧Below w.heap.size w w':=by
 obtain ⟨W,hW⟩ : ∃ W,((w.alloc (.cells #[.slice (some ⟨bp,0,none⟩) 1 1] 26)).alloc (.cells #[.slice none 0 0,.slice none 0 0,.int .i64 9,.int .i64 1,.int .i64 9] 37)).alloc RepZ = W:=⟨_,rfl⟩
 have hb : Below w.heap.size w W:=by rw [← hW]; exact bw3 _ _ _ _
 have b0 : W.heap[w.heap.size]? = some (.cells #[.slice (some ⟨bp,0,none⟩) 1 1] 26):=by rw [← hW]; exact blk_old (blk_old (blk_new _ _) _) _
 have b1 : W.heap[w.heap.size + 1]? = some (.cells #[.slice none 0 0,.slice none 0 0,.int .i64 9,.int .i64 1,.int .i64 9] 37):=by rw [← hW]; exact blk_old (blk_newn (by simp) _) _
 have x0 : W.cell? ⟨w.heap.size,0,none⟩ = some (.slice (some ⟨bp,0,none⟩) 1 1):=by rw [blk_cell b0]; rfl
 have x1 : W.cell? ⟨w.heap.size + 1,0,none⟩ = some (.slice none 0 0):=by rw [blk_cell b1]; rfl
 have x2 : W.cell? ⟨w.heap.size + 1,1,none⟩ = some (.slice none 0 0):=by rw [blk_cell b1]; rfl
 have x3 : W.cell? ⟨w.heap.size + 1,2,none⟩ = some (.int .i64 9):=by rw [blk_cell b1]; rfl
 have x4 : W.cell? ⟨w.heap.size + 1,3,none⟩ = some (.int .i64 1):=by rw [blk_cell b1]; rfl
 have x5 : W.cell? ⟨w.heap.size + 1,4,none⟩ = some (.int .i64 9):=by rw [blk_cell b1]; rfl
 have HZ : Hid (W.heap[w.heap.size + 1 + 1]? = some RepZ):=by show _ = _; rw [← hW]; exact blk_newn (by simp) _
 have HB : Hid (Below w.heap.size w W):=hb
 have HR : Hid (Calls Tryz.prog 16 #[.agg #[.slice (some ⟨bp,0,none⟩) 1 1],.agg #[.slice none 0 0,.slice none 0 0,.int .i64 9,.int .i64 1,.int .i64 9],.func (.func 17) #[] #[]] W fun e w'=>(∃ s t a b,e = .returned (repV s t a b))∧Below W.heap.size W w'):=runWatched_ok bp f G W (H0.later hb) (hlay.later hb) (by obtain ⟨v,hv⟩:=hov; exact ⟨v,cell_later hb hv⟩)
 clear H0 hlay hov hb b0 b1
 go_enter Tryz.func8,Tryz.ntmps8
 go_wp2_with fail
 clear hW
 refine HR.out.mono ?_
 rintro e w5 ⟨⟨s,t,a,b,rfl⟩,hx⟩
 have HX5 : Hid (Below W.heap.size W w5):=hx
 have hz5:=blk_later hx HZ.out
 have d0 : w5.cell? ⟨w.heap.size + 1 + 1,0,none⟩ = some (.int .i64 0):=by rw [blk_cell hz5]; rfl
 have d1 : w5.cell? ⟨w.heap.size + 1 + 1,1,none⟩ = some (.slice none 0 0):=by rw [blk_cell hz5]; rfl
 have d2 : w5.cell? ⟨w.heap.size + 1 + 1,2,none⟩ = some (.slice none 0 0):=by rw [blk_cell hz5]; rfl
 have d3 : w5.cell? ⟨w.heap.size + 1 + 1,3,none⟩ = some (.string ⟨#[]⟩):=by rw [blk_cell hz5]; rfl
 have d4 : w5.cell? ⟨w.heap.size + 1 + 1,4,none⟩ = some (.string ⟨#[]⟩):=by rw [blk_cell hz5]; rfl
 have d5 : w5.cell? ⟨w.heap.size + 1 + 1,5,none⟩ = some (.int .i64 0):=by rw [blk_cell hz5]; rfl
 have d6 : w5.cell? ⟨w.heap.size + 1 + 1,6,none⟩ = some (.int .i64 0):=by rw [blk_cell hz5]; rfl
 have zz:=blk_frozen hz5
 unfold repV
 clear hx hz5 HR x0 x1 x2 x3 x4 x5
 go_wp2_with fail
 refine bodyPost_ret (v:=repV s t a b) (by simp [results,Tryz.results8,go_sem,repV,d0,d1,d2,d3,d4,d5,d6]) rfl ⟨⟨_,_,_,_,rfl⟩,?_⟩
 have hq : w.heap.size ≤ w.heap.size + 1 + 1:=by omega
 exact ButL.nil ((((((((ButL.of_below (HB.out.trans (HX5.out.mono HB.out.size))).setn hq _ _).setn hq _ _).setn hq _ _).setn hq _ _).setn hq _ _).setn hq _ _).setn hq _ _)
end Go.Proofs.YtjglgbepobmjhaaGreatDoor.M
