import Derived.Test.YtliahjnnbbgooaaGreatDoorP34
import Derived.Test.YtliahjnnbbgooaaGreatDoorP31
import Derived.Test.YtliahjnnbbgooaaGreatDoorP29
import Derived.Test.YtliahjnnbbgooaaGreatDoorP32
set_option linter.unusedVariables false
set_option linter.unusedSimpArgs false
set_option maxRecDepth 20000
set_option maxHeartbeats 8000000
namespace Go.Proofs.YtliahjnnbbgooaaGreatDoor.J
open Go.RowKit M T U
attribute [local go_sem] run_store_float
theorem own_empty {α:Type} {w:World} {B lb:Nat} {et:TypeId} {k:Nat} {cells:α→List Value} {arr:Array Value} (h:w.heap[lb]?=some (.cells arr et)) (hB:B≤lb) (ha:arr.size=0):ORow w B et k cells (.slice (some ⟨lb,0,none⟩) 0 0) ([]:List α) :=
 ⟨by simp,.inr ⟨lb,0,arr,rfl,hB,h,by simp,by unfold maxLen;omega,by simpa using ha,by simp⟩⟩
abbrev ShB (bk:Nat):Obj:=.cells #[.int .i64 0,.pointer (some ⟨bk,0,none⟩),.int .i64 0,.int .i64 0,.float .f64 0,.string ⟨#[]⟩,.int .i64 0] 257
theorem shbook_new (B gn:Nat) (w:World) (hB:B≤w.heap.size) (hn:w.heap[gn]?=some ShO) :
  Calls Tryz.prog 166 #[.pointer (some ⟨gn,0,none⟩)] w fun e w'=>∃bk mb sv,e=.returned (.pointer (some ⟨bk,0,none⟩))∧Bk w' B bk mb sv [] 0∧w'.heap[gn]?=some (ShB bk)∧ButL [gn] w w'∧w.heap.size≤bk∧w.heap.size≤mb∧(∀g,sv.ownBlock=some g→w.heap.size≤g):=by
 have c1:w.cell? ⟨gn,1,none⟩=some (.pointer none):=by rw[blk_cell hn];rfl
 have hlt:=blk_lt hn
 have HN:Hid (w.heap[gn]?=some ShO):=hn
 clear hn
 go_enter Tryz.func166,Tryz.ntmps166
 go_wp2_with fail
 refine (newbook_any 0 (by omega) 0 _).mono ?_
 rintro e w1 ⟨bk,lb,mb,arr,rfl,h1,h2,h3,h4,h5,h6,h7,h8,h9,h10,hx⟩
 have hn1:=blk_later hx HN.out
 have z1:=blk_frozen hn1
 have d1:w1.cell? ⟨gn,1,none⟩=some (.pointer none):=cell_later hx c1
 have f1:(w1.setCell ⟨gn,1,none⟩ (.pointer (some ⟨bk,0,none⟩))).cell? ⟨gn,1,none⟩=some (.pointer (some ⟨bk,0,none⟩)):=by rw[blk_cell (blk_set hn1 1 _)];rfl
 have HE:Hid (Bk (w1.setCell ⟨gn,1,none⟩ (.pointer (some ⟨bk,0,none⟩))) B bk mb (.slice (some ⟨lb,0,none⟩) 0 0) [] 0) :=
  ⟨blk_other h7 (by omega) _ _,ORow.set_own (own_empty h8 (by omega) (by omega)) (fun e=>by have:lb=gn:=Option.some.inj e;omega) _ _,⟨#[],0,blk_other h10 (by omega) _ _,rfl,fun j p e hp=>by simp at hp⟩,by omega,by omega⟩
 have HG:Hid ((w1.setCell ⟨gn,1,none⟩ (.pointer (some ⟨bk,0,none⟩))).heap[gn]?=some (ShB bk)):=by
  have:=blk_set hn1 1 (.pointer (some ⟨bk,0,none⟩))
  exact this
 have HX:Hid (ButL [gn] w (w1.setCell ⟨gn,1,none⟩ (.pointer (some ⟨bk,0,none⟩)))):=(ButL.of_below hx).set (by simp) _ _
 clear h7 h8 h10 hn1 hx
 go_wp2_with fail
 go_ret
 exact⟨bk,mb,_,rfl,HE.out,HG.out,HX.out,h1,h3,fun g e=>by have:lb=g:=Option.some.inj e;omega⟩
theorem shbook_old (gn bk:Nat) (w:World) (hn:w.heap[gn]?=some (ShB bk)) :
  Calls Tryz.prog 166 #[.pointer (some ⟨gn,0,none⟩)] w fun e w'=>e=.returned (.pointer (some ⟨bk,0,none⟩))∧w'=w:=by
 have c1:w.cell? ⟨gn,1,none⟩=some (.pointer (some ⟨bk,0,none⟩)):=by rw[blk_cell hn];rfl
 clear hn
 go_enter Tryz.func166,Tryz.ntmps166
 go_wp2_with fail
 go_ret
 exact⟨rfl,rfl⟩
theorem get_old (q:VD) (B bk mb m:Nat) (sv:Value) (ds:List PD) (turns:Int) (p:PD) (w:World) (hB:Bk w B bk mb sv ds turns) (h0:eidx q ds 0=(m:Int)) (hpm:ds[m]?=some p) (hl:ds.length≤100) :
  Calls Tryz.prog 188 #[.pointer (some ⟨bk,0,none⟩),q.v] w fun e w'=>e=.returned p.val.v∧Below w.heap.size w w':=by
 have hm:=(List.getElem?_eq_some_iff.1 hpm).1
 obtain⟨lb,cap,hsv,hBl,hcap,hat,_,hlt⟩:=ORow.open hB.row pd_len (by omega)
 subst hsv
 have hat':∀(j:Nat) u,p.cells[j]?=some u→w.cell? ⟨lb,m*11+j,none⟩=some u:=by
  intro j u hu
  obtain⟨b,off,e,_,hc⟩:=hat m p hpm
  injection e with e;injection e with e1 e2
  subst e1 e2
  have:=hc j u hu
  rw[Nat.zero_add]at this
  exact this
 have HB:Hid (Bk w B bk mb (.slice (some ⟨lb,0,none⟩) ds.length cap) ds turns):=hB
 have c5:=hat' 5 _ rfl;have c6:=hat' 6 _ rfl;have c7:=hat' 7 _ rfl;have c8:=hat' 8 _ rfl;have c9:=hat' 9 _ rfl
 clear hB hat hat' hpm
 go_enter Tryz.func188,Tryz.ntmps188
 go_wp2_with fail
 obtain⟨b0,b1⟩:=heap2 w (VO q.k q.n q.f q.s q.r) (VO 0 0 0 ⟨#[]⟩ 0)
 obtain⟨w1,hw⟩:∃w1,w1=(w.alloc (VO q.k q.n q.f q.s q.r)).alloc (VO 0 0 0 ⟨#[]⟩ 0):=⟨_,rfl⟩
 rw[←hw]at b0 b1
 have hb:Below w.heap.size w w1:=by rw[hw];exact bw2 _ _ _
 rw[←hw];clear hw
 have d0:w1.cell? ⟨w.heap.size,0,none⟩=some (.int .i64 q.k):=by rw[blk_cell b0];rfl
 have d1:w1.cell? ⟨w.heap.size,1,none⟩=some (.int .i64 q.n):=by rw[blk_cell b0];rfl
 have d2:w1.cell? ⟨w.heap.size,2,none⟩=some (.float .f64 q.f):=by rw[blk_cell b0];rfl
 have d3:w1.cell? ⟨w.heap.size,3,none⟩=some (.string q.s):=by rw[blk_cell b0];rfl
 have d4:w1.cell? ⟨w.heap.size,4,none⟩=some (.int .i64 q.r):=by rw[blk_cell b0];rfl
 have e0:=lat_cell d0;have e1:=lat_cell d1;have e2:=lat_cell d2;have e3:=lat_cell d3;have e4:=lat_cell d4
 have HL:∀x:Lat w1,Hid (MapAt x.wd mb ds):=fun x=>HB.out.map.later (hb.trans (x.below.mono hb.size))
 have HC1:∀x:Lat w1,Hid (x.wd.cell? ⟨bk,1,none⟩=some (.map (some mb))):=fun x=>lat_cell (cell_later hb (by rw[blk_cell HB.out.head];rfl)) x
 clear b0
 haveI:=lat_some w1
 refine wp_region_lat (by kernel_rfl) (by kernel_rfl) ?_
 repeat (go_big_quiet_step ((go_at_call 209;refine lat_calls (find_any q bk mb ds _ (HL _).out (HC1 _).out))))
 refine wpQuiet_nil ?_
 rintro _ ⟨nq,rfl⟩
 have b2:=blk_later nq.below b1
 replace hb:=hb.trans (nq.below.mono hb.size)
 clear e0 e1 e2 e3 e4 d0 d1 d2 d3 d4 HL HC1 b1
 obtain⟨w2,hw⟩:∃w2,w2=nq.wd:=⟨_,rfl⟩
 rw[←hw]at b2 hb ⊢;clear hw
 have d0:=blk_cell b2 0;have d1:=blk_cell b2 1;have d2:=blk_cell b2 2;have d3:=blk_cell b2 3;have d4:=blk_cell b2 4
 simp only[List.getElem?_toArray,List.getElem?_cons_zero,List.getElem?_cons_succ]at d0 d1 d2 d3 d4
 have z:=blk_frozen b2
 have c0:w2.cell? ⟨bk,0,none⟩=some (.slice (some ⟨lb,0,none⟩) ds.length cap):=cell_later hb (by rw[blk_cell HB.out.head];rfl)
 replace c5:=cell_later hb c5;replace c6:=cell_later hb c6;replace c7:=cell_later hb c7;replace c8:=cell_later hb c8;replace c9:=cell_later hb c9
 have HX:Hid (Below w.heap.size w w2):=hb
 clear hb b2
 go_wp2_with fail
 refine bodyPost_ret (v:=p.val.v) (by simp[results,Tryz.results188,go_sem,d0,d1,d2,d3,d4]) rfl ⟨rfl,?_⟩
 exact ButL.nil (but5 (ButL.of_below HX.out) (by omega) _ _ _ _ _)
end Go.Proofs.YtliahjnnbbgooaaGreatDoor.J
namespace Go.Proofs.YtliahjnnbbgooaaGreatDoor.J
open Go.RowKit M T U
attribute [local go_sem] run_store_float
theorem small1 (w:World):Calls Tryz.prog 339 #[.int .i64 1] w fun e w'=>e=.returned (.string ⟨#[49]⟩)∧w'=w:=by
 go_enter Tryz.func339,Tryz.ntmps339
 go_wp2_with fail
 go_ret
 exact⟨rfl,rfl⟩
theorem format1 (w:World):Calls Tryz.prog 328 #[.int .i64 1,.int .i64 10] w fun e w'=>e=.returned (.string ⟨#[49]⟩)∧w'=w:=by
 go_enter Tryz.func328,Tryz.ntmps328
 go_wp2_with fail
 refine (small1 _).mono ?_
 rintro e w1 ⟨rfl,rfl⟩
 go_wp2_with fail
 go_ret
 exact⟨rfl,rfl⟩
theorem sformat1 (w:World):Calls Tryz.prog 391 #[.int .i64 1,.int .i64 10] w fun e w'=>e=.returned (.string ⟨#[49]⟩)∧w'=w:=by
 go_enter Tryz.func391,Tryz.ntmps391
 go_wp2_with fail
 refine (format1 _).mono ?_
 rintro e w1 ⟨rfl,rfl⟩
 go_wp2_with fail
 go_ret
 exact⟨rfl,rfl⟩
theorem text1 (w:World):Calls Tryz.prog 389 #[.int .i64 1] w fun e w'=>e=.returned (.string ⟨#[49]⟩)∧w'=w:=by
 go_enter Tryz.func389,Tryz.ntmps389
 go_wp2_with fail
 refine (sformat1 _).mono ?_
 rintro e w1 ⟨rfl,rfl⟩
 go_wp2_with fail
 go_ret
 exact⟨rfl,rfl⟩
theorem tm1:tmV 2 1 0 ⟨#[]⟩ 0=.iface 284 (.int .i64 1):=by
 have h:vok 2 1 0 ⟨#[]⟩ 0=true:=by simp[vok,zr,fz];first | done | rfl | decide
 unfold tmV
 rw[if_neg (by simp[h])]
 simp
theorem small4 (w:World):Calls Tryz.prog 339 #[.int .i64 4] w fun e w'=>e=.returned (.string ⟨#[52]⟩)∧w'=w:=by
 go_enter Tryz.func339,Tryz.ntmps339
 go_wp2_with fail
 go_ret
 exact⟨rfl,rfl⟩
theorem format4 (w:World):Calls Tryz.prog 328 #[.int .i64 4,.int .i64 10] w fun e w'=>e=.returned (.string ⟨#[52]⟩)∧w'=w:=by
 go_enter Tryz.func328,Tryz.ntmps328
 go_wp2_with fail
 refine (small4 _).mono ?_
 rintro e w1 ⟨rfl,rfl⟩
 go_wp2_with fail
 go_ret
 exact⟨rfl,rfl⟩
theorem sformat4 (w:World):Calls Tryz.prog 391 #[.int .i64 4,.int .i64 10] w fun e w'=>e=.returned (.string ⟨#[52]⟩)∧w'=w:=by
 go_enter Tryz.func391,Tryz.ntmps391
 go_wp2_with fail
 refine (format4 _).mono ?_
 rintro e w1 ⟨rfl,rfl⟩
 go_wp2_with fail
 go_ret
 exact⟨rfl,rfl⟩
theorem text4 (w:World):Calls Tryz.prog 389 #[.int .i64 4] w fun e w'=>e=.returned (.string ⟨#[52]⟩)∧w'=w:=by
 go_enter Tryz.func389,Tryz.ntmps389
 go_wp2_with fail
 refine (sformat4 _).mono ?_
 rintro e w1 ⟨rfl,rfl⟩
 go_wp2_with fail
 go_ret
 exact⟨rfl,rfl⟩
theorem tm4:tmV 2 4 0 ⟨#[]⟩ 0=.iface 284 (.int .i64 4):=by
 have h:vok 2 4 0 ⟨#[]⟩ 0=true:=by simp[vok,zr,fz];first | done | rfl | decide
 unfold tmV
 rw[if_neg (by simp[h])]
 simp
attribute [local go_sem] m_int_text
theorem Text1 (w:World):Calls Tryz.prog 34 #[.agg #[.int .i64 2,.int .i64 1,.float .f64 0,.string ⟨#[]⟩,.int .i64 0]] w fun e w'=>e=.returned (.string ⟨#[49]⟩)∧Below w.heap.size w w':=by
 go_enter Tryz.func34,Tryz.ntmps34
 go_wp2_with fail
 refine (term_any 2 1 0 ⟨#[]⟩ 0 _).mono ?_
 rintro e w1 ⟨rfl,hx⟩
 rw[tm1]
 go_wp2_with (go_at_call 389;refine (text1 _).mono ?_;rintro e w2 ⟨rfl,rfl⟩)
 go_ret
 exact⟨rfl,(bw1 _ _).trans (hx.mono (by simp))⟩
theorem Text4 (w:World):Calls Tryz.prog 34 #[.agg #[.int .i64 2,.int .i64 4,.float .f64 0,.string ⟨#[]⟩,.int .i64 0]] w fun e w'=>e=.returned (.string ⟨#[52]⟩)∧Below w.heap.size w w':=by
 go_enter Tryz.func34,Tryz.ntmps34
 go_wp2_with fail
 refine (term_any 2 4 0 ⟨#[]⟩ 0 _).mono ?_
 rintro e w1 ⟨rfl,hx⟩
 rw[tm4]
 go_wp2_with (go_at_call 389;refine (text4 _).mono ?_;rintro e w2 ⟨rfl,rfl⟩)
 go_ret
 exact⟨rfl,(bw1 _ _).trans (hx.mono (by simp))⟩
theorem m_ref_text (d:Nat) (v:Value) (w:World):(method (d+1) 288 v "loop.example/punch/impl.text").run Tryz.prog w=.ok (401,v) w:=by kernel_rfl
theorem tmT (r:Nat):tmV 5 0 0 ⟨#[]⟩ r=.iface 288 (.agg #[.int .i64 5,.int .i64 r]):=by
 have h:vok 5 0 0 ⟨#[]⟩ r=true:=by simp[vok,zr,fz];first | done | rfl | decide
 unfold tmV
 rw[if_neg (by simp[h])]
 simp
theorem rtext_any (r:Nat) (w:World):Calls Tryz.prog 401 #[.agg #[.int .i64 5,.int .i64 r]] w fun e w'=>e=.returned (.string ⟨#[116,97,98,108,101]⟩)∧Below w.heap.size w w':=by
 go_enter Tryz.func401,Tryz.ntmps401
 go_wp2_with fail
 go_ret
 exact⟨rfl,bw1 _ _⟩
attribute [local go_sem] m_ref_text
theorem TextT (r:Nat) (w:World):Calls Tryz.prog 34 #[.agg #[.int .i64 5,.int .i64 0,.float .f64 0,.string ⟨#[]⟩,.int .i64 r]] w fun e w'=>e=.returned (.string ⟨#[116,97,98,108,101]⟩)∧Below w.heap.size w w':=by
 go_enter Tryz.func34,Tryz.ntmps34
 go_wp2_with fail
 refine (term_any 5 0 0 ⟨#[]⟩ r _).mono ?_
 rintro e w1 ⟨rfl,hx⟩
 rw[tmT]
 have h1:Below w.heap.size w w1:=(bw1 _ _).trans (hx.mono (by simp))
 clear hx
 go_wp2_with (go_at_call 401;refine (rtext_any _ _).mono ?_;rintro e w2 ⟨rfl,hx2⟩)
 go_ret
 exact⟨rfl,h1.trans (hx2.mono h1.size)⟩
end Go.Proofs.YtliahjnnbbgooaaGreatDoor.J
namespace Go.Proofs.YtliahjnnbbgooaaGreatDoor.J
open Go.RowKit M T U
attribute [local go_sem] run_store_float
abbrev codeS:ByteArray:=⟨#[99,111,100,101]⟩
abbrev lineS:ByteArray:=⟨#[108,105,110,101]⟩
def strD (s:ByteArray):VD:=⟨4,0,0,s,0⟩
def intD (n:Int):VD:=⟨2,n,0,⟨#[]⟩,0⟩
theorem entry_tab (B g r gn bk Bb mb m0:Nat) (sv:Value) (ds:List PD) (turns:Int) (p:PD) (m:MachD) (gs:List Nat) (name:ByteArray) (w:World) (h:MachAt w g m) (ho:ORow w B 249 1 pC m.tables gs) (hr:gs[r]?=some gn) (hn:w.heap[gn]?=some (ShB bk)) (hl:gs.length≤100000)
  (hB:Bk w Bb bk mb sv ds turns) (h0:eidx (strD name) ds 0=(m0:Int)) (hpm:ds[m0]?=some p) (hdl:ds.length≤100) :
  Calls Tryz.prog 105 #[.pointer (some ⟨g,0,none⟩),.agg #[.int .i64 5,.int .i64 0,.float .f64 0,.string ⟨#[]⟩,.int .i64 (r:Int)],.string name] w fun e w'=>e=.returned p.val.v∧Below w.heap.size w w':=by
 have hrl:r<gs.length:=(List.getElem?_eq_some_iff.1 hr).1
 obtain⟨gt,cap,htv,_,_,hat,_,_⟩:=ORow.open ho pC_len (by omega)
 have ct:w.cell? ⟨gt,r,none⟩=some (.pointer (some ⟨gn,0,none⟩)):=by
  obtain⟨b,off,e,_,hc⟩:=hat r gn hr
  injection e with e;injection e with e1 e2
  subst e1 e2
  have:=hc 0 _ rfl
  simpa using this
 have c72:w.cell? ⟨g,72,none⟩=some (.slice (some ⟨gt,0,none⟩) gs.length cap):=by rw[h.cell,←htv];rfl
 obtain⟨W,hW⟩:∃W,W=(w.alloc (VO 5 0 0 ⟨#[]⟩ r)).alloc (VO 0 0 0 ⟨#[]⟩ 0):=⟨_,rfl⟩
 have hb:Below w.heap.size w W:=by rw[hW];exact bw2 _ _ _
 obtain⟨b0,b1⟩:=heap2 w (VO 5 0 0 ⟨#[]⟩ r) (VO 0 0 0 ⟨#[]⟩ 0)
 rw[←hW]at b0 b1
 have HN:Hid (W.heap[gn]?=some (ShB bk)):=blk_later hb hn
 have HB:Hid (Bk W Bb bk mb sv ds turns):=hB.later hb
 have HX:Hid (Below w.heap.size w W):=hb
 have H1:Hid (W.heap[w.heap.size+1]?=some (VO 0 0 0 ⟨#[]⟩ 0)):=b1
 replace ct:=cell_later hb ct
 replace c72:=cell_later hb c72
 have d0:=blk_cell b0 0;have d4:=blk_cell b0 4
 simp only[List.getElem?_toArray,List.getElem?_cons_zero,List.getElem?_cons_succ]at d0 d4
 have HP:Hid (ds[m0]?=some p):=hpm
 have H0:Hid (eidx (strD name) ds 0=(m0:Int)):=h0
 clear h ho hn hB hat hb b0 b1 hpm h0
 go_enter Tryz.func105,Tryz.ntmps105
 go_wp2_with fail
 rw[←hW];clear hW
 have HL:∀W2,Below W.heap.size W W2→Hid (Calls Tryz.prog 166 #[.pointer (some ⟨gn,0,none⟩)] W2 fun e w'=>e=.returned (.pointer (some ⟨bk,0,none⟩))∧w'=W2):=fun W2 hx=>shbook_old gn bk W2 (blk_later hx HN.out)
 have HG:∀W2,Below W.heap.size W W2→Hid (Calls Tryz.prog 188 #[.pointer (some ⟨bk,0,none⟩),.agg #[.int .i64 4,.int .i64 0,.float .f64 0,.string name,.int .i64 0]] W2 fun e w'=>e=.returned p.val.v∧Below W2.heap.size W2 w'):=fun W2 hx=>get_old (strD name) Bb bk mb m0 sv ds turns p W2 (HB.out.later hx) H0.out HP.out hdl
 clear HN HB HP H0
 go_region_with (first
  | (go_at_call 166;refine (HL _ (Below.refl _ _).drew).out.mono ?_;rintro e w2 ⟨rfl,rfl⟩;clear HL)
  | (go_at_call 102;refine (strValue_any name _).mono ?_;rintro e w3 ⟨rfl,hx⟩;replace hx:=und1 hx;have HX3:Hid (Below W.heap.size W w3):=hx;clear hx)
  | (go_at_call 188;refine (HG _ HX3.out).out.mono ?_;rintro e w4 ⟨rfl,hx⟩;have HX4:Hid (Below W.heap.size W w4):=HX3.out.trans (hx.mono HX3.out.size);have hb4:=blk_later HX4.out H1.out;have r0:=blk_cell hb4 0;have r1:=blk_cell hb4 1;have r2:=blk_cell hb4 2;have r3:=blk_cell hb4 3;have r4:=blk_cell hb4 4;simp only[List.getElem?_toArray,List.getElem?_cons_zero,List.getElem?_cons_succ]at r0 r1 r2 r3 r4;have z4:=blk_frozen hb4;clear hx hb4 HG HX3))
 all_goals
  go_wp2_with fail
  refine bodyPost_ret (v:=p.val.v) (by simp[results,Tryz.results105,go_sem,r0,r1,r2,r3,r4]) rfl ⟨rfl,?_⟩
  exact ButL.nil (but5 (ButL.of_below (HX.out.trans (HX4.out.mono HX.out.size))) (by omega) _ _ _ _ _)
theorem told_tab (pm:Value) (r:Nat) (w:World)
  (HE:∀W,Below w.heap.size w W→Calls Tryz.prog 105 #[pm,.agg #[.int .i64 5,.int .i64 0,.float .f64 0,.string ⟨#[]⟩,.int .i64 (r:Int)],.string codeS] W fun e w'=>e=.returned (intD 4).v∧Below W.heap.size W w') :
  Calls Tryz.prog 35 #[pm,.agg #[.int .i64 5,.int .i64 0,.float .f64 0,.string ⟨#[]⟩,.int .i64 (r:Int)]] w fun e w'=>e=.returned (.string ⟨#[101,114,114,111,114,32,52]⟩)∧Below w.heap.size w w':=by
 obtain⟨W,hW⟩:∃W,w.alloc (vO ⟨5,0,0,⟨#[]⟩,r⟩)=W:=⟨_,rfl⟩
 have hb:Below w.heap.size w W:=by rw[←hW];exact bw1 _ _
 have bn:W.heap[w.heap.size]?=some (vO ⟨5,0,0,⟨#[]⟩,r⟩):=by rw[←hW];exact blk_new _ _
 obtain⟨d0,d1,d2,d3,d4⟩:=vO_cells bn
 have HB:Hid (Below w.heap.size w W):=hb
 have HE':=HE W hb
 clear hb bn HE
 go_enter Tryz.func35,Tryz.ntmps35
 go_wp2_with fail
 refine HE'.mono ?_
 rintro e w1 ⟨rfl,hx⟩
 have hb2:=hx.trans ((bw1 w1 (vO (intD 4))).mono hx.size)
 have HX:Hid (Below w.heap.size w (w1.alloc (vO (intD 4)))):=HB.out.trans (hb2.mono HB.out.size)
 clear hx hb2 d0 d1 d2 d3 d4 hW
 go_wp2_with fail
 refine (Text4 _).mono ?_
 rintro e w2 ⟨rfl,hx2⟩
 have HX2:Hid (Below w.heap.size w w2):=HX.out.trans (hx2.mono HX.out.size)
 clear hx2
 go_wp2_with fail
 go_ret
 exact⟨rfl,HX2.out⟩
end Go.Proofs.YtliahjnnbbgooaaGreatDoor.J
namespace Go.Proofs.YtliahjnnbbgooaaGreatDoor.J
open Go.RowKit M T U
attribute [local go_sem] run_store_float
def errDs:List PD:=[⟨strD codeS,intD 4,1⟩,⟨strD lineS,intD 0,2⟩]
theorem butl_drew {S:List Nat} {w w':World} (h:ButL S w.drew w'):ButL S w w':=⟨h.os,h.tape,h.output,h.size,h.block⟩
structure ErT (w:World) (gn:Nat):Prop where
 ex:∃bk B mb sv,w.heap[gn]?=some (ShB bk)∧Bk w B bk mb sv errDs 2
theorem ErT.later {w w':World} {gn:Nat} (h:ErT w gn) (hb:Below w.heap.size w w'):ErT w' gn:=by
 obtain⟨bk,B,mb,sv,h1,h2⟩:=h.ex
 exact⟨bk,B,mb,sv,blk_later hb h1,h2.later hb⟩
theorem blk_low {B:Nat} {w w':World} (hb:Below B w w') {g:Nat} {o:Obj} (h:w.heap[g]?=some o) (hg:g<B):w'.heap[g]?=some o:=(hb.block g hg).trans h
theorem belN {n:Nat} {w w':World} (h:Below (w.drewN n).heap.size (w.drewN n) w'):Below w.heap.size w w':=⟨h.os,h.tape,h.output,h.size,h.block⟩
theorem eidx_line:eidx (strD lineS) [⟨strD codeS,intD 4,1⟩] 0<0:=by
 have h:eidx (strD lineS) [⟨strD codeS,intD 4,1⟩] 0=-1:=by kernel_rfl
 rw[h];decide
theorem eidx_code:eidx (strD codeS) errDs 0=((0:Nat):Int):=by kernel_rfl
theorem blk_ne {w:World} {g g':Nat} {a b:Array Value} {t u:TypeId} (h:w.heap[g]?=some (.cells a t)) (h':w.heap[g']?=some (.cells b u)) (hne:t≠u):g≠g':=by
 rintro rfl
 rw[h]at h'
 injection h' with e
 injection e with _ e
 exact hne e
theorem fail_any (gm gt gc gf bp op capP B0:Nat) (m:MachD) (c:CallD) (gs:List Nat) (Q:World→World→Prop) (w:World) (h:MachAt w gm m) (ho:ORow w B0 249 1 pC m.tables gs) (hl:gs.length≤1000) (hB:B0≤w.heap.size)
  (HT:∀tv W,MachAt W gm { m with tables:=tv }→ButL (gm :: m.tables.ownBlock.toList) w W→ThR W gm gt gc gf bp op capP { m with tables:=tv } c)
  (HQ:∀tv gn wk,MachAt wk gm { m with tables:=tv }→ORow wk B0 249 1 pC tv (gs++[gn])→ErT wk gn→ButL (gm :: m.tables.ownBlock.toList) w wk→Calls Tryz.prog 206 #[.pointer (some ⟨gm,0,none⟩),.agg #[.int .i64 4,.int .i64 0,.int .i64 0,.int .i64 0,.string ⟨#[101,114,114,111,114,32,52]⟩]] wk fun e w'=>e=.returned .nilIface∧Q wk w') :
  Calls Tryz.prog 144 #[.pointer (some ⟨gm,0,none⟩),.int .i64 4] w fun e w'=>∃gr s wk tv gn,e=.returned (.iface 112 (.pointer (some ⟨gr,0,none⟩)))∧w.heap.size≤gr∧wk.heap[gr]?=some (ThG ⟨5,0,0,⟨#[]⟩,gs.length⟩ s)∧MachAt wk gm { m with tables:=tv }∧ORow wk B0 249 1 pC tv (gs++[gn])∧ErT wk gn∧ButL (gm :: m.tables.ownBlock.toList) w wk∧Q wk w':=by
 have hN:=newTable_any B0 gm m gs w h ho (by omega) hB
 go_enter Tryz.func144,Tryz.ntmps144
 go_wp2_with fail
 refine hN.mono ?_
 rintro e w1 ⟨rfl,tv,gn,hm1,ho1,hgn,hs1,hb1⟩
 have hgl:=blk_lt hs1
 have hv1:Below w1.heap.size w1 (w1.alloc (vO ⟨5,0,0,⟨#[]⟩,gs.length⟩)):=bw1 _ _
 obtain⟨d0,d1,d2,d3,d4⟩:=vO_cells (blk_new w1 (vO ⟨5,0,0,⟨#[]⟩,gs.length⟩))
 obtain⟨W,hW⟩:∃W,w1.alloc (vO ⟨5,0,0,⟨#[]⟩,gs.length⟩)=W:=⟨_,rfl⟩
 have hvb:W.heap[w1.heap.size]?=some (vO ⟨5,0,0,⟨#[]⟩,gs.length⟩):=by rw[←hW];exact blk_new _ _
 have hWs:W.heap.size=w1.heap.size+1:=by rw[←hW];simp
 rw[hW]at hv1 d0 d1 d2 d3 d4
 have hm2:MachAt W gm { m with tables:=tv }:=hm1.later hv1
 have ho2:=ORow.later ho1 hv1
 have hs2:=blk_later hv1 hs1
 have hb2:ButL (gm :: m.tables.ownBlock.toList) w W:=hb1.thenB hv1
 have hgx:gn≠gm:=blk_ne hs1 hm1 (by decide)
 obtain⟨gtv,cap,htv,_,_,hat,_,_⟩:=ORow.open ho2 pC_len (by simp)
 have hgtv:gn≠gtv:=by
  obtain⟨cur,hc⟩:=ORow.ty ho2 (g:=gtv) (by rw[htv];rfl)
  exact blk_ne hs2 hc (by decide)
 have ct:W.cell? ⟨gtv,gs.length,none⟩=some (.pointer (some ⟨gn,0,none⟩)):=by
  obtain⟨b,off,e,_,hc⟩:=hat gs.length gn (by simp)
  injection e with e;injection e with e1 e2
  subst e1 e2
  have:=hc 0 _ rfl
  simpa using this
 have c72:W.cell? ⟨gm,72,none⟩=some (.slice (some ⟨gtv,0,none⟩) (gs.length+1) cap):=by rw[hm2.cell];show some tv=_;rw[htv];simp
 have HS:Hid (W.heap[gn]?=some ShO):=hs2
 have HM:Hid (MachAt W gm { m with tables:=tv }):=hm2
 have HO:Hid (ORow W B0 249 1 pC tv (gs++[gn])):=ho2
 have HV:Hid (W.heap[w1.heap.size]?=some (vO ⟨5,0,0,⟨#[]⟩,gs.length⟩)):=hvb
 have HB:Hid (ButL (gm :: m.tables.ownBlock.toList) w W):=hb2
 have HT':Hid (∀tv W,MachAt W gm { m with tables:=tv }→ButL (gm :: m.tables.ownBlock.toList) w W→ThR W gm gt gc gf bp op capP { m with tables:=tv } c):=HT
 have HQ':Hid (∀tv gn wk,MachAt wk gm { m with tables:=tv }→ORow wk B0 249 1 pC tv (gs++[gn])→ErT wk gn→ButL (gm :: m.tables.ownBlock.toList) w wk→Calls Tryz.prog 206 #[.pointer (some ⟨gm,0,none⟩),.agg #[.int .i64 4,.int .i64 0,.int .i64 0,.int .i64 0,.string ⟨#[101,114,114,111,114,32,52]⟩]] wk fun e w'=>e=.returned .nilIface∧Q wk w'):=HQ
 clear hs1 hs2 hm1 hm2 ho1 ho2 hvb hb1 hb2 HT HQ h ho hat hv1
 go_wp2_with fail
 clear hW
 go_cut [6] from 9 to 17 (fun s6 wx=>∃bk mb sv,s6=.pointer (some ⟨bk,0,none⟩)∧Hid (Bk wx W.heap.size bk mb sv [] 0)∧Hid (wx.heap[gn]?=some (ShB bk))∧Hid (ButL [gn] W wx))
 case first =>
  go_region_with (go_at_call 166;refine (shbook_new W.heap.size gn W.drew (Nat.le_refl _) HS.out).mono ?_;rintro e w2 ⟨bk,mb,sv,rfl,h1,h2,h3,_⟩;have H1:Hid (Bk w2 W.heap.size bk mb sv [] 0):=h1;have H2:Hid (w2.heap[gn]?=some (ShB bk)):=h2;have H3:Hid (ButL [gn] W w2):=butl_drew h3;clear h1 h2 h3)
  all_goals (go_wp2_with fail;go_meet;exact⟨bk,mb,sv,rfl,H1,H2,H3⟩)
 case rest =>
  obtain⟨bk,mb,sv,rfl,H1,H2,H3⟩:=hcut
  obtain⟨wq,hwq⟩:∃wq,wq=wc:=⟨_,rfl⟩
  subst hwq
  clear d0 d1 d2 d3 d4 ct c72
  have HVc:Hid (wq.heap[w1.heap.size]?=some (vO ⟨5,0,0,⟨#[]⟩,gs.length⟩)):=H3.out.blk HV.out (by simp;omega)
  have HMc:Hid (MachAt wq gm { m with tables:=tv }):=H3.out.blk HM.out (by simpa using hgx.symm)
  have HOc:Hid (ORow wq B0 249 1 pC tv (gs++[gn])):=ORow.butn HO.out H3.out (fun g e=>by rw[htv]at e;have:gtv=g:=Option.some.inj e;simp;omega)
  have HBc:Hid (ButL (gm :: m.tables.ownBlock.toList) w wq):=HB.out.then H3.out (fun g hg=>.inr (by simp at hg;omega))
  have hsc:=H3.out.size
  have hgmW:gm<W.heap.size:=blk_lt HM.out
  clear HV HM HO HB HS H3 hN
  have HBw:W.heap.size≤wq.heap.size:=hsc
  go_wp2_with fail
  refine (strValue_any _ _).mono ?_
  rintro e w3 ⟨rfl,hx3⟩
  have hk3:=H1.out.later hx3
  go_wp2_with fail
  refine (intValue_any _ _).mono ?_
  rintro e w4 ⟨rfl,hx4⟩
  have hk4:=hk3.later hx4
  have HX4:Hid (Below wq.heap.size wq w4):=hx3.trans (hx4.mono hx3.size)
  go_wp2_with fail
  refine (put_new (strD codeS) (intD 4) W.heap.size bk mb sv [] 0 w4 hk4 (by decide) (by simp) (Nat.le_trans hsc HX4.out.size) (by decide) (by decide) (by decide)).mono ?_
  rintro e w5 ⟨rfl,sv5,hk5,hx5⟩
  have HX5:Hid (Below W.heap.size wq w5):=(HX4.out.mono hsc).trans hx5
  have hm5:MachAt w5 gm { m with tables:=tv }:=blk_low HX5.out HMc.out hgmW
  have hb5:ButL (gm :: m.tables.ownBlock.toList) w w5:=⟨HX5.out.os.trans HBc.out.os,HX5.out.tape.trans HBc.out.tape,HX5.out.output.trans HBc.out.output,Nat.le_trans HBc.out.size HX5.out.size,fun k hk hn=>(HX5.out.block k (by omega)).trans (HBc.out.block k hk hn)⟩
  have hT5:=HT'.out tv w5 hm5 hb5
  have c75:w5.cell? ⟨gm,75,none⟩=some (.pointer (some ⟨gt,0,none⟩)):=by rw[hm5.cell,←hT5.run];rfl
  have HK5:Hid (Bk w5 W.heap.size bk mb sv5 [⟨strD codeS,intD 4,1⟩] 1):=hk5
  have HT5:Hid (ThR w5 gm gt gc gf bp op capP { m with tables:=tv } c):=hT5
  have hs5:W.heap.size≤w5.heap.size:=Nat.le_trans hsc HX5.out.size
  clear hk3 hk4 hx3 hx4 hx5 hk5 hm5 hT5 hb5
  go_wp2_with fail
  go_cut [] from 23 to 31 (fun wx=>∃sv',Hid (Bk wx W.heap.size bk mb sv' errDs 2)∧Hid (Below W.heap.size w5 wx))
  case first =>
   have hln:c.line=0:=HT5.out.lin
   go_region_with (first
    | (go_at_call 102;refine (strValue_any lineS _).mono ?_;rintro e w6 ⟨rfl,hx6⟩;replace hx6:=und1 hx6;replace c75:=cell_later hx6 c75;have HX6:Hid (Below w5.heap.size w5 w6):=hx6;clear hx6)
    | (go_at_call 169;refine (line_any gt gc gf c w6 (HT5.out.later HX6.out).tk (HT5.out.later HX6.out).cal).mono ?_;rintro e w7 ⟨rfl,n7,rfl⟩;rw[hln])
    | (go_at_call 160;refine (intValue_any 0 _).mono ?_;rintro e w8 ⟨rfl,hx8⟩;have HX8:Hid (Below w5.heap.size w5 w8):=HX6.out.trans ((belN hx8).mono HX6.out.size);clear hx8)
    | (go_at_call 207;refine (put_new (strD lineS) (intD 0) W.heap.size bk mb sv5 [⟨strD codeS,intD 4,1⟩] 1 w8 (HK5.out.later HX8.out) eidx_line (by simp) (Nat.le_trans hs5 HX8.out.size) (by decide) (by decide) (by decide)).mono ?_;rintro e w9 ⟨rfl,sv9,hk9,hx9⟩;have HK9:Hid (Bk w9 W.heap.size bk mb sv9 errDs 2):=hk9;have HX9:Hid (Below W.heap.size w5 w9):=(HX8.out.mono hs5).trans hx9;clear hk9 hx9))
   all_goals (go_wp2_with fail;go_meet;exact⟨sv9,HK9,HX9⟩)
  case rest =>
   obtain⟨sv7,HK7,HX7⟩:=hcut
   have HXc:Hid (Below W.heap.size wq wc):=HX5.out.trans HX7.out
   have hsw:W.heap.size≤wc.heap.size:=Nat.le_trans hsc HXc.out.size
   have hv:=blk_low HXc.out HVc.out (by omega)
   obtain⟨d0,d1,d2,d3,d4⟩:=vO_cells hv
   have HM:Hid (MachAt wc gm { m with tables:=tv }):=blk_low HXc.out HMc.out hgmW
   have HO:Hid (ORow wc B0 249 1 pC tv (gs++[gn])):=by
    obtain⟨o1,o2⟩:=HOc.out
    refine⟨o1,?_⟩
    rcases o2 with o2 | ⟨g',cap',cur,e1,e2,e3,e4⟩
    ·exact .inl o2
    ·have e5:=e1
     rw[htv]at e5
     injection e5 with e5 _ _;injection e5 with e5;injection e5 with e5
     exact .inr ⟨g',cap',cur,e1,e2,blk_low HXc.out e3 (by omega),e4⟩
   have HE:Hid (ErT wc gn):=⟨bk,W.heap.size,mb,sv7,blk_low HXc.out H2.out (by omega),HK7.out⟩
   have HBt:Hid (ButL (gm :: m.tables.ownBlock.toList) w wc):=⟨HXc.out.os.trans HBc.out.os,HXc.out.tape.trans HBc.out.tape,HXc.out.output.trans HBc.out.output,Nat.le_trans HBc.out.size HXc.out.size,fun k hk hn=>(HXc.out.block k (by omega)).trans (HBc.out.block k hk hn)⟩
   have HTc:Hid (ThR wc gm gt gc gf bp op capP { m with tables:=tv } c):=HT'.out tv wc HM.out HBt.out
   have HW:=throwg_any gm gt gc gf bp op capP { m with tables:=tv } c ⟨5,0,0,⟨#[]⟩,gs.length⟩ ⟨#[101,114,114,111,114,32,52]⟩ Q wc HTc.out
    (fun W' hW'=>told_tab _ gs.length W' (fun W2 hW2=>by
     obtain⟨bk',B',mb',sv',e1,e2⟩:=((HE.out.later hW').later hW2).ex
     exact entry_tab B0 gm gs.length gn bk' B' mb' 0 sv' errDs 2 ⟨strD codeS,intD 4,1⟩ { m with tables:=tv } (gs++[gn]) codeS W2 (MachAt.later (MachAt.later HM.out hW') hW2) (ORow.later (ORow.later HO.out hW') hW2) (by simp) e1 (by simp;omega) e2 eidx_code rfl (by decide)))
    (fun wk hk=>HQ'.out tv gn wk (MachAt.later HM.out hk) (ORow.later HO.out hk) (HE.out.later hk) (HBt.out.thenB hk))
   clear HQ' HT' hv HK7 HX7 HX5 HT5 HK5 H1 H2
   go_wp2_with fail
   refine HW.mono ?_
   rintro e w9 ⟨gr,st,wk,rfl,h1,h2,h3,h4⟩
   have HF:Hid (w.heap.size≤gr∧wk.heap[gr]?=some (ThG ⟨5,0,0,⟨#[]⟩,gs.length⟩ st)∧MachAt wk gm { m with tables:=tv }∧ORow wk B0 249 1 pC tv (gs++[gn])∧ErT wk gn∧ButL (gm :: m.tables.ownBlock.toList) w wk∧Q wk w9):=⟨Nat.le_trans HBt.out.size h1,h2,MachAt.later HM.out h3,ORow.later HO.out h3,HE.out.later h3,HBt.out.thenB h3,h4⟩
   clear h1 h2 h3 h4 HW
   go_wp2_with fail
   go_ret
   exact⟨gr,st,wk,tv,gn,rfl,HF.out⟩
end Go.Proofs.YtliahjnnbbgooaaGreatDoor.J
