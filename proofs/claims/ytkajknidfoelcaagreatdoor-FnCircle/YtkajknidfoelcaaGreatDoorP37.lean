import Derived.Test.YtkajknidfoelcaaGreatDoorP35
set_option linter.unusedVariables false
set_option linter.unusedSimpArgs false
set_option maxRecDepth 20000
set_option maxHeartbeats 8000000
namespace Go.Proofs.YtkajknidfoelcaaGreatDoor.U
open Go.RowKit M T
attribute [local go_sem] run_store_float
abbrev noT:Value:=.iface 331 (.string ⟨#[]⟩)
abbrev noA:Value:=.agg #[.int .i64 4,.int .i64 0,.float .f64 0,.string ⟨#[]⟩,.int .i64 0]
abbrev noO:Obj:=.cells #[.int .i64 4,.int .i64 0,.float .f64 0,.string ⟨#[]⟩,.int .i64 0] 47
abbrev GsO:Obj:=.cells #[.int .i64 0,.int .i64 4,.int .i64 0,.float .f64 0,.string ⟨#[]⟩,.int .i64 0] 263
abbrev GvO:Obj:=.cells #[.int .i64 0,.int .i64 0,.int .i64 0,.float .f64 0,.string ⟨#[]⟩,.int .i64 0] 263
theorem tas_s (v:Value) (w:World):(Instr.typeAssert (.iface 331 v) 220 331 true).run Tryz.prog w=.ok (.tuple #[v,.bool true]) w:=by kernel_rfl
theorem tas_i (v:Value) (w:World):(Instr.typeAssert (.iface 331 v) 220 329 true).run Tryz.prog w=.ok (.tuple #[.int .i64 0,.bool false]) w:=by kernel_rfl
theorem tas_f (v:Value) (w:World):(Instr.typeAssert (.iface 331 v) 220 330 true).run Tryz.prog w=.ok (.tuple #[.float .f64 0,.bool false]) w:=by kernel_rfl
theorem joins_s (w:World):Calls Tryz.prog 288 #[.iface 331 (.string ⟨#[]⟩)] w fun e w'=>e=.returned (.bool true)∧w'=w:=by
 have h1:=fun W=>tas_s (.string ⟨#[]⟩) W
 have h2:=fun W=>tas_i (.string ⟨#[]⟩) W
 have h3:=fun W=>tas_f (.string ⟨#[]⟩) W
 go_enter Tryz.func288,Tryz.ntmps288
 go_wp2_with fail
 go_ret
 exact⟨rfl,rfl⟩
theorem gaveStr_any (s:ByteArray) (w:World):Calls Tryz.prog 207 #[.string s] w fun e w'=>e=.returned (.agg #[.int .i64 0,.int .i64 4,.int .i64 0,.float .f64 0,.string s,.int .i64 0])∧Below w.heap.size w w':=by
 go_enter Tryz.func207,Tryz.ntmps207
 go_wp2_with fail
 exact bodyPost_ret (v:=.agg #[.int .i64 0,.int .i64 4,.int .i64 0,.float .f64 0,.string s,.int .i64 0]) (by simp[results,Tryz.results207,go_sem]) rfl ⟨rfl,bw1 _ _⟩
attribute [local go_sem] m_str_text
theorem but6 {S:List Nat} {w0 W:World} {q:Nat} (h:ButL S w0 W) (hq:w0.heap.size≤q) (v0 v1 v2 v3 v4 v5:Value):ButL S w0 ((((((W.setCell ⟨q,0,none⟩ v0).setCell ⟨q,1,none⟩ v1).setCell ⟨q,2,none⟩ v2).setCell ⟨q,3,none⟩ v3).setCell ⟨q,4,none⟩ v4).setCell ⟨q,5,none⟩ v5):=(but5 h hq _ _ _ _ _).setn hq _ _
theorem joined_s (w:World):Calls Tryz.prog 242 #[noT,noT] w fun e w'=>e=.returned (.agg #[.int .i64 0,.int .i64 4,.int .i64 0,.float .f64 0,.string ⟨#[]⟩,.int .i64 0])∧Below w.heap.size w w':=by
 go_enter Tryz.func242,Tryz.ntmps242
 go_wp2_with (first | (go_at_call 288;refine (joins_s _).mono ?_;rintro e w1 ⟨rfl,rfl⟩) | (go_at_call 415;refine (stext_any _ _).mono ?_;rintro e w1 ⟨rfl,rfl⟩))
 rw[show (⟨#[]⟩++⟨#[]⟩:ByteArray)=⟨#[]⟩ by rfl]
 refine (gaveStr_any _ _).mono ?_
 rintro e w1 ⟨rfl,hx⟩
 have hr3:=blk_later hx (blk_new w GvO)
 have r0:w1.cell? ⟨w.heap.size,0,none⟩=some (.int .i64 0):=by rw[blk_cell hr3];rfl
 have r1:w1.cell? ⟨w.heap.size,1,none⟩=some (.int .i64 0):=by rw[blk_cell hr3];rfl
 have r2:w1.cell? ⟨w.heap.size,2,none⟩=some (.int .i64 0):=by rw[blk_cell hr3];rfl
 have r3:w1.cell? ⟨w.heap.size,3,none⟩=some (.float .f64 0):=by rw[blk_cell hr3];rfl
 have r4:w1.cell? ⟨w.heap.size,4,none⟩=some (.string ⟨#[]⟩):=by rw[blk_cell hr3];rfl
 have r5:w1.cell? ⟨w.heap.size,5,none⟩=some (.int .i64 0):=by rw[blk_cell hr3];rfl
 have z3:=blk_frozen hr3
 have HX:Hid (Below w.heap.size w w1):=(bw1 _ _).trans (hx.mono (by simp))
 clear hx hr3
 go_wp2_with fail
 refine bodyPost_ret (v:=.agg #[.int .i64 0,.int .i64 4,.int .i64 0,.float .f64 0,.string ⟨#[]⟩,.int .i64 0]) (by simp[results,Tryz.results242,go_sem,r0,r1,r2,r3,r4,r5]) rfl ⟨rfl,?_⟩
 exact ButL.nil (but6 (ButL.of_below HX.out) (Nat.le_refl _) _ _ _ _ _ _)
theorem neq_tn (w:World):(binOp BinOp.eql 220 noT .nilIface).run Tryz.prog w=.ok (.bool false) w:=by kernel_rfl
theorem binary_s (w:World):Calls Tryz.prog 186 #[.int .i64 12,noA,noA] w fun e w'=>e=.returned (.agg #[.int .i64 0,.int .i64 4,.int .i64 0,.float .f64 0,.string ⟨#[]⟩,.int .i64 0])∧Below w.heap.size w w':=by
 obtain⟨W,hW⟩:∃W,((w.alloc noO).alloc noO).alloc GvO=W:=⟨_,rfl⟩
 have hb:Below w.heap.size w W:=by rw[←hW];exact bw3 _ _ _ _
 have HK:Hid (∀wk,Below W.heap.size W wk→wk.heap[w.heap.size]?=some noO∧wk.heap[w.heap.size+1]?=some noO∧wk.heap[w.heap.size+1+1]?=some GvO):=fun wk hk=>⟨blk_later hk (by rw[←hW];exact blk_old (blk_old (blk_new _ _) _) _),blk_later hk (by rw[←hW];exact blk_old (blk_newn (by simp) _) _),blk_later hk (by rw[←hW];exact blk_newn (by simp) _)⟩
 have HB:Hid (Below w.heap.size w W):=hb
 clear hb
 obtain⟨n1,n2,n3⟩:=HK.out W (Below.refl _ _)
 obtain⟨a0,a1,a2,a3,a4⟩:=vO_cells (v:=⟨4,0,0,⟨#[]⟩,0⟩) n1
 obtain⟨b0,b1,b2,b3,b4⟩:=vO_cells (v:=⟨4,0,0,⟨#[]⟩,0⟩) n2
 clear n1 n2 n3
 have hnn:=neq_tn
 go_enter Tryz.func186,Tryz.ntmps186
 go_wp2_with fail
 clear hW
 go_cut [7,8] from 9 to 13 (fun x y wx=>x=noT∧y=noT∧Hid (Below W.heap.size W wx))
 case first =>
  go_region_with (go_at_call 133;refine (term_any 4 0 0 ⟨#[]⟩ 0 _).mono ?_;rintro e w1 ⟨rfl,hx⟩;rw[tmS _ (by decide)];first | (have hx1:Below W.heap.size W w1:=und1' hx;obtain⟨_,n2,_⟩:=HK.out w1 hx1;obtain⟨c0,c1,c2,c3,c4⟩:=vO_cells (v:=⟨4,0,0,⟨#[]⟩,0⟩) n2;have HX1:Hid (Below W.heap.size W w1):=hx1;clear hx n2 hx1) | (have HX2:Hid (Below W.heap.size W w1):=HX1.out.trans (hx.mono HX1.out.size);clear hx))
  all_goals
   go_wp2_with fail
   go_meet
   exact⟨rfl,rfl,HX2⟩
 case rest =>
  obtain⟨rfl,rfl,HX⟩:=hcut
  clear a0 a1 a2 a3 a4 b0 b1 b2 b3 b4
  go_wp2_with fail
  refine (joined_s _).mono ?_
  rintro e w2 ⟨rfl,hx2⟩
  have hx3:Below W.heap.size W w2:=HX.out.trans (hx2.mono HX.out.size)
  obtain⟨_,_,n3⟩:=HK.out w2 hx3
  have r0:w2.cell? ⟨w.heap.size+1+1,0,none⟩=some (.int .i64 0):=by rw[blk_cell n3];rfl
  have r1:w2.cell? ⟨w.heap.size+1+1,1,none⟩=some (.int .i64 0):=by rw[blk_cell n3];rfl
  have r2:w2.cell? ⟨w.heap.size+1+1,2,none⟩=some (.int .i64 0):=by rw[blk_cell n3];rfl
  have r3:w2.cell? ⟨w.heap.size+1+1,3,none⟩=some (.float .f64 0):=by rw[blk_cell n3];rfl
  have r4:w2.cell? ⟨w.heap.size+1+1,4,none⟩=some (.string ⟨#[]⟩):=by rw[blk_cell n3];rfl
  have r5:w2.cell? ⟨w.heap.size+1+1,5,none⟩=some (.int .i64 0):=by rw[blk_cell n3];rfl
  have z3:=blk_frozen n3
  have HX3:Hid (Below w.heap.size w w2):=HB.out.trans (hx3.mono HB.out.size)
  clear hx2 hx3 n3
  go_wp2_with fail
  refine bodyPost_ret (v:=.agg #[.int .i64 0,.int .i64 4,.int .i64 0,.float .f64 0,.string ⟨#[]⟩,.int .i64 0]) (by simp[results,Tryz.results186,go_sem,r0,r1,r2,r3,r4,r5]) rfl ⟨rfl,?_⟩
  exact ButL.nil (but6 (ButL.of_below HX3.out) (by omega) _ _ _ _ _ _)
theorem asks_s (w:World):Calls Tryz.prog 228 #[.int .i64 12,noA,noA] w fun e w'=>e=.returned (.bool false)∧Below w.heap.size w w':=by
 go_enter Tryz.func228,Tryz.ntmps228
 go_wp2_with fail
 go_ret
 exact⟨rfl,bw2 _ _ _⟩
theorem mbinary_over (p:Option Addr) (gm:Nat) (m:MachD) (w:World) (h:MachAt w gm m) (ho:OvV w p) (he:m.rticks=m.ticks) :
  Calls Tryz.prog 175 #[.pointer (some ⟨gm,0,none⟩),.int .i64 12,noA,noA] w fun e w'=>e=.returned (.tuple #[.agg #[.int .i64 0,.int .i64 0,.float .f64 0,.string ⟨#[]⟩,.int .i64 0],ovI p])∧Below w.heap.size w w':=by
 obtain⟨W,hW⟩:∃W,((w.alloc noO).alloc noO).alloc ZvO=W:=⟨_,rfl⟩
 have hb:Below w.heap.size w W:=by rw[←hW];exact bw3 _ _ _ _
 have bz:W.heap[w.heap.size+1+1]?=some ZvO:=by rw[←hW];exact blk_newn (by simp) _
 have HM:Hid (MachAt W gm m):=h.later hb
 have HO:Hid (OvV W p):=ho.later hb
 have HB:Hid (Below w.heap.size w W):=hb
 have HZ:Hid (W.heap[w.heap.size+1+1]?=some ZvO):=bz
 clear h ho hb bz
 go_enter Tryz.func175,Tryz.ntmps175
 go_wp2_with fail
 clear hW
 refine (tick_over gm m p _ HM.out HO.out he).mono ?_
 rintro e w1 ⟨rfl,hx⟩
 have n3:=blk_later hx HZ.out
 have r0:w1.cell? ⟨w.heap.size+1+1,0,none⟩=some (.int .i64 0):=by rw[blk_cell n3];rfl
 have r1:w1.cell? ⟨w.heap.size+1+1,1,none⟩=some (.int .i64 0):=by rw[blk_cell n3];rfl
 have r2:w1.cell? ⟨w.heap.size+1+1,2,none⟩=some (.float .f64 0):=by rw[blk_cell n3];rfl
 have r3:w1.cell? ⟨w.heap.size+1+1,3,none⟩=some (.string ⟨#[]⟩):=by rw[blk_cell n3];rfl
 have r4:w1.cell? ⟨w.heap.size+1+1,4,none⟩=some (.int .i64 0):=by rw[blk_cell n3];rfl
 have z3:=blk_frozen n3
 have HX:Hid (Below w.heap.size w w1):=HB.out.trans (hx.mono HB.out.size)
 clear hx n3
 unfold ovI
 go_wp2_with fail
 refine bodyPost_ret (v:=.tuple #[.agg #[.int .i64 0,.int .i64 0,.float .f64 0,.string ⟨#[]⟩,.int .i64 0],.iface 487 (.pointer p)]) (by simp[results,Tryz.results175,go_sem,r0,r1,r2,r3,r4]) rfl ⟨rfl,?_⟩
 exact ButL.nil (but5 (ButL.of_below HX.out) (by omega) _ _ _ _ _)
theorem mbinary_go (gm:Nat) (m:MachD) (w:World) (h:MachAt w gm m) (he:m.rticks<m.ticks) (h0:0≤m.rticks) (h1:m.ticks≤100000) :
  Calls Tryz.prog 175 #[.pointer (some ⟨gm,0,none⟩),.int .i64 12,noA,noA] w fun e w'=>e=.returned (.tuple #[noA,.nilIface])∧MachAt w' gm { m with rticks:=m.rticks+1 }∧ButL [gm] w w':=by
 obtain⟨W,hW⟩:∃W,((w.alloc noO).alloc noO).alloc ZvO=W:=⟨_,rfl⟩
 have hb:Below w.heap.size w W:=by rw[←hW];exact bw3 _ _ _ _
 have ba:W.heap[w.heap.size]?=some noO:=by rw[←hW];exact blk_old (blk_old (blk_new _ _) _) _
 have bb:W.heap[w.heap.size+1]?=some noO:=by rw[←hW];exact blk_old (blk_newn (by simp) _) _
 have bz:W.heap[w.heap.size+1+1]?=some ZvO:=by rw[←hW];exact blk_newn (by simp) _
 have hgl:=blk_lt h
 have HM:Hid (MachAt W gm m):=h.later hb
 have HB:Hid (Below w.heap.size w W):=hb
 have HK:Hid (∀wk,ButL [gm] W wk→wk.heap[w.heap.size]?=some noO∧wk.heap[w.heap.size+1]?=some noO∧wk.heap[w.heap.size+1+1]?=some ZvO):=fun wk hk=>⟨hk.blk ba (by simp;omega),hk.blk bb (by simp;omega),hk.blk bz (by simp;omega)⟩
 clear h hb bz ba bb
 go_enter Tryz.func175,Tryz.ntmps175
 go_wp2_with fail
 clear hW
 refine (tick_go gm m _ HM.out he h0 h1).mono ?_
 rintro e w1 ⟨rfl,hm1,hb1⟩
 obtain⟨n1,n2,n3⟩:=HK.out w1 hb1
 obtain⟨a0,a1,a2,a3,a4⟩:=vO_cells (v:=⟨4,0,0,⟨#[]⟩,0⟩) n1
 obtain⟨b0,b1,b2,b3,b4⟩:=vO_cells (v:=⟨4,0,0,⟨#[]⟩,0⟩) n2
 have HM1:Hid (MachAt w1 gm { m with rticks:=m.rticks+1 }):=hm1
 have HB1:Hid (ButL [gm] W w1):=hb1
 clear hm1 hb1 n1 n2 n3
 go_wp2_with fail
 refine (binary_s _).mono ?_
 rintro e w2 ⟨rfl,hx2⟩
 have HB2:Hid (ButL [gm] W w2):=HB1.out.thenB hx2
 have HM2:Hid (MachAt w2 gm { m with rticks:=m.rticks+1 }):=HM1.out.later hx2
 have hb4:Below w2.heap.size w2 ((w2.alloc GsO).alloc ZvO):=bw2 _ _ _
 have HB4:Hid (ButL [gm] W ((w2.alloc GsO).alloc ZvO)):=HB2.out.thenB hb4
 have HM4:Hid (MachAt ((w2.alloc GsO).alloc ZvO) gm { m with rticks:=m.rticks+1 }):=HM2.out.later hb4
 obtain⟨n1,n2,n3⟩:=HK.out ((w2.alloc GsO).alloc ZvO) HB4.out
 obtain⟨c0,c1,c2,c3,c4⟩:=vO_cells (v:=⟨4,0,0,⟨#[]⟩,0⟩) n1
 obtain⟨d0,d1,d2,d3,d4⟩:=vO_cells (v:=⟨4,0,0,⟨#[]⟩,0⟩) n2
 have HG:Hid (((w2.alloc GsO).alloc ZvO).heap[w2.heap.size]?=some GsO∧((w2.alloc GsO).alloc ZvO).heap[w2.heap.size+1]?=some ZvO):=⟨blk_old (blk_new _ _) _,blk_newn (by simp) _⟩
 have g0:((w2.alloc GsO).alloc ZvO).cell? ⟨w2.heap.size,0,none⟩=some (.int .i64 0):=by rw[blk_cell HG.out.1];rfl
 clear a0 a1 a2 a3 a4 b0 b1 b2 b3 b4 hx2 n1 n2 n3 hb4
 go_wp2_with fail
 refine (asks_s _).mono ?_
 rintro e w5 ⟨rfl,hx5⟩
 have HB5:Hid (ButL [gm] w w5):=(ButL.of_below HB.out).trans (HB4.out.thenB hx5)
 have HM5:Hid (MachAt w5 gm { m with rticks:=m.rticks+1 }):=HM4.out.later hx5
 obtain⟨n1,n2,n3⟩:=HK.out w5 (HB4.out.thenB hx5)
 have q1:=blk_later hx5 HG.out.1
 have q2:=blk_later hx5 HG.out.2
 have g0:w5.cell? ⟨w2.heap.size,0,none⟩=some (.int .i64 0):=by rw[blk_cell q1];rfl
 have g1:w5.cell? ⟨w2.heap.size,1,none⟩=some (.int .i64 4):=by rw[blk_cell q1];rfl
 have g2:w5.cell? ⟨w2.heap.size,2,none⟩=some (.int .i64 0):=by rw[blk_cell q1];rfl
 have g3:w5.cell? ⟨w2.heap.size,3,none⟩=some (.float .f64 0):=by rw[blk_cell q1];rfl
 have g4:w5.cell? ⟨w2.heap.size,4,none⟩=some (.string ⟨#[]⟩):=by rw[blk_cell q1];rfl
 have g5:w5.cell? ⟨w2.heap.size,5,none⟩=some (.int .i64 0):=by rw[blk_cell q1];rfl
 have k0:w5.cell? ⟨w2.heap.size+1,0,none⟩=some (.int .i64 0):=by rw[blk_cell q2];rfl
 have r0:w5.cell? ⟨w.heap.size+1+1,0,none⟩=some (.int .i64 0):=by rw[blk_cell n3];rfl
 have r1:w5.cell? ⟨w.heap.size+1+1,1,none⟩=some (.int .i64 0):=by rw[blk_cell n3];rfl
 have r2:w5.cell? ⟨w.heap.size+1+1,2,none⟩=some (.float .f64 0):=by rw[blk_cell n3];rfl
 have r3:w5.cell? ⟨w.heap.size+1+1,3,none⟩=some (.string ⟨#[]⟩):=by rw[blk_cell n3];rfl
 have r4:w5.cell? ⟨w.heap.size+1+1,4,none⟩=some (.int .i64 0):=by rw[blk_cell n3];rfl
 have z3:=blk_frozen n3
 clear hx5 n1 n2 n3 q1 q2 c0 c1 c2 c3 c4 d0 d1 d2 d3 d4
 go_wp2_with fail
 refine bodyPost_ret (v:=.tuple #[noA,.nilIface]) (by simp[results,Tryz.results175,go_sem,r0,r1,r2,r3,r4]) rfl ⟨rfl,?_,?_⟩
 ·exact blk5 HM5.out (by omega) _ _ _ _ _
 ·exact but5 HB5.out (by omega) _ _ _ _ _
end Go.Proofs.YtkajknidfoelcaaGreatDoor.U
