import Derived.Test.YtkajknidfoelcaaGreatDoorP40
import Derived.Test.YtkajknidfoelcaaGreatDoorP31
import Derived.Test.YtkajknidfoelcaaGreatDoorP33
import Derived.Test.YtkajknidfoelcaaGreatDoorP39
set_option linter.unusedVariables false
set_option linter.unusedSimpArgs false
set_option maxRecDepth 20000
set_option maxHeartbeats 8000000
namespace Go.Proofs.YtkajknidfoelcaaGreatDoor.U
open Go.RowKit M T
attribute [local go_sem] run_store_float
theorem handleg_go (gm gt gc gf gn gr:Nat) (hd:Int) (v:VD) (tx s:ByteArray) (m:MachD) (c:CallD) (ta ca:Array Value) (S:List Nat) (Q:World→World→Prop) (w:World) (hm:MachAt w gm m) (hrn:m.running=.pointer (some ⟨gt,0,none⟩)) (htk:TkAt w gt gc gf) (ht:w.heap[gt]?=some (.cells ta 149)) (hcr:w.heap[gc]?=some (.cells ca 150))
  (hc:CallAt w gf c) (hlow:Low c) (hp:c.proto=0) (hn:w.heap[gn]?=some (CtO hd 0)) (hr:w.heap[gr]?=some (ThG v s)) (s1:gf∉S) (s2:gn∉S) (s3:gr∉S)
  (HTo:∀W,ButL [gf] w W→Calls Tryz.prog 54 #[.pointer (some ⟨gm,0,none⟩),.agg #[.int .i64 v.k,.int .i64 v.n,.float .f64 v.f,.string v.s,.int .i64 v.r]] W fun e w'=>e=.returned (.string tx)∧Below W.heap.size W w')
  (HQ:∀wk,ButL [gf] w wk→CallAt wk gf (hcD c hd)→Calls Tryz.prog 221 #[.pointer (some ⟨gm,0,none⟩),.agg #[.int .i64 5,.int .i64 0,.int .i64 0,.int .i64 0,.string tx]] wk fun e w'=>e=.returned .nilIface∧ButL S wk w'∧Q wk w') :
  Calls Tryz.prog 210 #[.pointer (some ⟨gm,0,none⟩),.pointer (some ⟨gf,0,none⟩),.pointer (some ⟨gn,0,none⟩),.pointer (some ⟨gr,0,none⟩)] w fun e w'=>e=.returned .nilIface∧∃wk w5,ButL [gf] w wk∧CallAt wk gf (hcD c hd)∧ButL S wk w5∧Q wk w5∧CallAt w' gf { hcD c hd with regs:=(c.regs.set 4 (sdV v)).set 5 (sdV (strD s)) }∧ButL [gf] w5 w':=by
 have k0:w.cell? ⟨gn,0,none⟩=some (.int .i64 4):=by rw[blk_cell hn];rfl
 have HC:Hid (CallAt w gf c):=hc
 have HM:Hid (MachAt w gm m):=hm
 have HT:Hid (TkAt w gt gc gf):=htk
 have HN:Hid (w.heap[gn]?=some (CtO hd 0)):=hn
 have HR:Hid (w.heap[gr]?=some (ThG v s)):=hr
 have HTa:Hid (w.heap[gt]?=some (.cells ta 149)):=ht
 have HCa:Hid (w.heap[gc]?=some (.cells ca 150)):=hcr
 have HQ':Hid (∀wk,ButL [gf] w wk→CallAt wk gf (hcD c hd)→Calls Tryz.prog 221 #[.pointer (some ⟨gm,0,none⟩),.agg #[.int .i64 5,.int .i64 0,.int .i64 0,.int .i64 0,.string tx]] wk fun e w'=>e=.returned .nilIface∧ButL S wk w'∧Q wk w'):=HQ
 have HTo':Hid (∀W,ButL [gf] w W→Calls Tryz.prog 54 #[.pointer (some ⟨gm,0,none⟩),.agg #[.int .i64 v.k,.int .i64 v.n,.float .f64 v.f,.string v.s,.int .i64 v.r]] W fun e w'=>e=.returned (.string tx)∧Below W.heap.size W w'):=HTo
 clear hc hn hr hm htk ht hcr HQ HTo
 go_enter Tryz.func210,Tryz.ntmps210
 go_wp2_with fail
 refine (T.empty_any gn gf c _ k0 HC.out hlow).mono ?_
 rintro e w1 ⟨rfl,hc1,hb1⟩
 have hn1:w1.heap[gn]?=some (CtO hd 0):=hb1.blk HN.out (by simp;exact ne_ty HN.out HC.out (by decide))
 have n0:w1.cell? ⟨gn,0,none⟩=some (.int .i64 4):=by rw[blk_cell hn1];rfl
 have n1:w1.cell? ⟨gn,1,none⟩=some (.int .i64 hd):=by rw[blk_cell hn1];rfl
 have n2:w1.cell? ⟨gn,2,none⟩=some (.int .i64 0):=by rw[blk_cell hn1];rfl
 have c9:w1.cell? ⟨gf,9,none⟩=some (.int .i64 c.at'):=by rw[hc1.cell 9 (by omega)];rfl
 have c10:w1.cell? ⟨gf,10,none⟩=some (.int .i64 c.next):=by rw[hc1.cell 10 (by omega)];rfl
 have c11:w1.cell? ⟨gf,11,none⟩=some (.int .i64 c.line):=by rw[hc1.cell 11 (by omega)];rfl
 have z:=blk_frozen hc1
 obtain⟨W3,hW3⟩:∃W3,((w1.setCell ⟨gf,11,none⟩ (.int .i64 0)).setCell ⟨gf,9,none⟩ (.int .i64 hd)).setCell ⟨gf,10,none⟩ (.int .i64 hd)=W3:=⟨_,rfl⟩
 have hc3:CallAt W3 gf (hcD c hd):=by
  rw[←hW3]
  have h9:=blk_set (blk_set (blk_set hc1 11 (.int .i64 0)) 9 (.int .i64 hd)) 10 (.int .i64 hd)
  rw[CallD.set_line,CallD.set_at,CallD.set_next]at h9
  exact h9
 have hb3:ButL [gf] w W3:=by rw[←hW3];exact ((hb1.set (by simp) _ _).set (by simp) _ _).set (by simp) _ _
 have HC3:Hid (CallAt W3 gf (hcD c hd)):=hc3
 have HB3:Hid (ButL [gf] w W3):=hb3
 have HR3:Hid (W3.heap[gr]?=some (ThG v s)):=hb3.blk HR.out (by simp;exact ne_ty HR.out HC.out (by decide))
 have HM3:Hid (MachAt W3 gm m):=HM.out.but hb3 (by simp;exact ne_ty HM.out HC.out (by decide))
 have HT3:Hid (TkAt W3 gt gc gf):=tk_but HT.out HTa.out HCa.out hb3 (by simp;exact ne_ty HTa.out HC.out (by decide)) (by simp;exact ne_ty HCa.out HC.out (by decide))
 clear hc1 hb1 k0 hn1 hc3 hb3
 go_wp2_with fail
 go_region
 clear hW3 n0 n1 n2 c9 c10 c11 z
 have r0:W3.cell? ⟨gr,0,none⟩=some (.int .i64 v.k):=by rw[blk_cell HR3.out];rfl
 have r1:W3.cell? ⟨gr,1,none⟩=some (.int .i64 v.n):=by rw[blk_cell HR3.out];rfl
 have r2:W3.cell? ⟨gr,2,none⟩=some (.float .f64 v.f):=by rw[blk_cell HR3.out];rfl
 have r3:W3.cell? ⟨gr,3,none⟩=some (.string v.s):=by rw[blk_cell HR3.out];rfl
 have r4:W3.cell? ⟨gr,4,none⟩=some (.int .i64 v.r):=by rw[blk_cell HR3.out];rfl
 have c11:W3.cell? ⟨gf,11,none⟩=some (.int .i64 0):=by rw[HC3.out.cell 11 (by omega)];rfl
 go_wp2_with fail
 go_cut [9] from 36 to 47 (fun s9 wx=>∃wk,s9=.nilIface∧Hid (ButL [gf] w wk∧CallAt wk gf (hcD c hd)∧ButL S wk wx∧Q wk wx))
 case first =>
  go_region_with (first | (go_at_call 54;refine (HTo'.out _ (by exact HB3.out.drew.drew)).mono ?_;rintro e w4 ⟨rfl,hx4⟩;have HX4:Hid (Below W3.heap.size W3 w4):=⟨hx4.os,hx4.tape,hx4.output,hx4.size,hx4.block⟩;have d11:w4.cell? ⟨gf,11,none⟩=some (.int .i64 0):=cell_later HX4.out c11;clear hx4) | (go_at_call 161;refine (tell_g gm gt gc gf ⟨5,0,tx⟩ m (hcD c hd) .nilIface (fun w'=>∃n,ButL S (w4.drewN n) w'∧Q (w4.drewN n) w') w4 (HM3.out.later HX4.out) hrn (HT3.out.later HX4.out) (HC3.out.later HX4.out) hp (fun n=>(HQ'.out (w4.drewN n) ((HB3.out.thenB HX4.out).drewN n) ((HC3.out.later HX4.out).drewN n)).mono (fun e w' h=>⟨h.1,n,h.2⟩))).mono ?_;rintro e w5 ⟨rfl,n5,hq⟩;have HQ5:Hid (ButL S (w4.drewN n5) w5∧Q (w4.drewN n5) w5):=hq;clear hq))
  all_goals
   skip
   go_wp2_with fail
   go_meet
   exact⟨w4.drewN n5,rfl,(HB3.out.thenB HX4.out).drewN n5,(HC3.out.later HX4.out).drewN n5,HQ5.out⟩
 case rest =>
  obtain⟨wk,rfl,HK⟩:=hcut
  clear r0 r1 r2 r3 r4 c11
  obtain⟨w5v,rfl⟩:∃w5v,w5v=wc:=⟨_,rfl⟩
  have hb5:=HK.out.2.2.1
  have hr5:w5v.heap[gr]?=some (ThG v s):=hb5.blk (HK.out.1.blk HR.out (by simp;exact ne_ty HR.out HC.out (by decide))) s3
  have hn5:w5v.heap[gn]?=some (CtO hd 0):=hb5.blk (HK.out.1.blk HN.out (by simp;exact ne_ty HN.out HC.out (by decide))) s2
  have hc5:CallAt w5v gf (hcD c hd):=HK.out.2.1.but hb5 s1
  have HR5:Hid (w5v.heap[gr]?=some (ThG v s)):=hr5
  have HN5:Hid (w5v.heap[gn]?=some (CtO hd 0)):=hn5
  have HC5:Hid (CallAt w5v gf (hcD c hd)):=hc5
  have r0:w5v.cell? ⟨gr,0,none⟩=some (.int .i64 v.k):=by rw[blk_cell hr5];rfl
  have r1:w5v.cell? ⟨gr,1,none⟩=some (.int .i64 v.n):=by rw[blk_cell hr5];rfl
  have r2:w5v.cell? ⟨gr,2,none⟩=some (.float .f64 v.f):=by rw[blk_cell hr5];rfl
  have r3:w5v.cell? ⟨gr,3,none⟩=some (.string v.s):=by rw[blk_cell hr5];rfl
  have r4:w5v.cell? ⟨gr,4,none⟩=some (.int .i64 v.r):=by rw[blk_cell hr5];rfl
  have n0:w5v.cell? ⟨gn,0,none⟩=some (.int .i64 4):=by rw[blk_cell hn5];rfl
  clear hb5 hr5 hn5 hc5
  go_wp2_with fail
  go_cut [] from 51 to 61 (fun wx=>Hid (CallAt wx gf { hcD c hd with regs:=c.regs.set 4 (sdV v) }∧ButL [gf] w5v wx))
  case first =>
   go_region_with (go_at_call 128;refine (put_any gf 4 v (hcD c hd) w5v.drew HC5.out hlow.1 (by omega)).mono ?_;rintro e w6 ⟨rfl,hc6,hb6⟩;have HC6:Hid (CallAt w6 gf { hcD c hd with regs:=c.regs.set 4 (sdV v) }):=hc6;have HB6:Hid (ButL [gf] w5v w6):=hb6.undrew;clear hc6 hb6)
   all_goals
    go_wp2_with fail
    go_meet
    exact⟨HC6.out,HB6.out⟩
  case rest =>
   have HC6:Hid (CallAt wc gf { hcD c hd with regs:=c.regs.set 4 (sdV v) }):=hcut.out.1
   have HB6:Hid (ButL [gf] w5v wc):=hcut.out.2
   have hr6:wc.heap[gr]?=some (ThG v s):=HB6.out.blk HR5.out (by simp;exact ne_ty HR.out HC.out (by decide))
   have hn6:wc.heap[gn]?=some (CtO hd 0):=HB6.out.blk HN5.out (by simp;exact ne_ty HN.out HC.out (by decide))
   have q5:wc.cell? ⟨gr,5,none⟩=some (.string s):=by rw[blk_cell hr6];rfl
   have q0:wc.cell? ⟨gn,0,none⟩=some (.int .i64 4):=by rw[blk_cell hn6];rfl
   clear hr6 hn6 hcut r0 r1 r2 r3 r4 n0
   go_wp2_with fail
   go_region_with (first | (go_at_call 131;refine (strValue_any s _).mono ?_;rintro e w7 ⟨rfl,hx7⟩;have HX7:Hid (Below wc.heap.size wc w7):=und1' hx7;have t0:w7.cell? ⟨gn,0,none⟩=some (.int .i64 4):=cell_later HX7.out q0;clear hx7) | (go_at_call 128;refine (put_any gf 5 (strD s) { hcD c hd with regs:=c.regs.set 4 (sdV v) } w7 (HC6.out.later HX7.out) (by show (c.regs.set 4 _).length=250;rw[List.length_set];exact hlow.1) (by omega)).mono ?_;rintro e w8 ⟨rfl,hc8,hb8⟩;have HC8:Hid (CallAt w8 gf { hcD c hd with regs:=(c.regs.set 4 (sdV v)).set 5 (sdV (strD s)) }):=hc8;have HB8:Hid (ButL [gf] w7 w8):=hb8;clear hc8 hb8))
   all_goals
    go_wp2_with fail
    go_ret
    exact⟨rfl,wk,w5v,HK.out.1,HK.out.2.1,HK.out.2.2.1,HK.out.2.2.2,HC8.out,(HB6.out.thenB HX7.out).trans HB8.out⟩
end Go.Proofs.YtkajknidfoelcaaGreatDoor.U
namespace Go.Proofs.YtkajknidfoelcaaGreatDoor.U
open Go.RowKit M T
section
variable {w0:World} {K:UK} {kind n t a tk nr:Nat} {ln:Int} {rs:List M.SD} {gl:List (Nat × Int)} {i:ID} {s s':AS} {k:Nat} {w:World} {xs:List RcD} {rv gv:Value}
theorem told0 (pm:Value) (W:World):Calls Tryz.prog 54 #[pm,.agg #[.int .i64 nothing.k,.int .i64 nothing.n,.float .f64 nothing.f,.string nothing.s,.int .i64 nothing.r]] W fun e w'=>e=.returned (.string ⟨#[]⟩)∧Below W.heap.size W w':=toldS pm ⟨#[]⟩ (by decide) W
theorem hcD_eq (K:UK) (l a n hd:Int) (g:Value) (r:List M.SD):hcD (K.c l a n g r) hd=K.c 0 hd hd g r:=rfl
theorem u30 (ok:UKok w0 K) (H:Here kind n t a tk xs.length ln rs gl i s s' k) (hop:i.op=30) (h:UX w0 K w tk xs ln (a:Int) ((a:Int)+1) rs gl rv gv) :
  Calls Tryz.prog 101 (args K i) w (ThP w0 K kind n t (mu kind n t tk a)):=by
 have hd:=H.hd
 have hlen:=H.hb
 unfold absD at hd
 rw[if_neg (by omega),if_neg (by omega),if_neg (by omega),if_neg (by omega),if_neg (by omega),if_neg (by omega),if_neg (by omega),if_neg (by omega),if_neg (by omega),if_neg (by omega),if_pos hop]at hd
 split at hd
 case isFalse=>cases hd
 rename_i hc
 obtain⟨ha0,hr0,hr4,hr5,hl0⟩:=hc
 split at hd
 case h_2=>cases hd
 rename_i hdl hgd
 cases hd
 have hln:ln=0:=H.hl hl0
 subst hln
 obtain⟨gn,rfl⟩:∃gn:Nat,gl=[(gn,(hdl:Int))]:=by have:=H.hg;rw[hgd]at this;exact this
 have hR:((rs.set 4 (sdV nothing)).set 5 sd0).length=250:=by rw[List.length_set,List.length_set];exact h.lr
 refine (dothrowg_any K.gm K.gt K.gc K.gf K.bp K.op K.capP (K.m tk rv) (K.c 0 a ((a:Int)+1) gv rs) i nothing ⟨#[]⟩ (fun wk w'=>∃rv',MachAt w' K.gm (K.m tk rv')∧ORow w' w0.heap.size 113 5 rgC rv' (xs++[⟨4,0,⟨#[]⟩⟩])∧ButL (K.gm :: rv.ownBlock.toList) wk w') w (h.thr ok rfl) h.lr ha0 (reg_emp H hr0) (fun W _=>told0 _ W) (fun wk hwk=>?_)).mono ?_
 ·have hx:=h.later ok hwk
  refine (recg_go w0.heap.size K.gm ⟨4,0,⟨#[]⟩⟩ (K.m tk rv) xs wk hx.mac ok.wat hx.rc (by omega) hx.bel.size).mono ?_
  rintro e w' ⟨rfl,rv',q1,q2,q3⟩
  exact⟨rfl,rv',q1,q2,q3⟩
 ·rintro e w1 ⟨gr,tr,wk,rfl,hgr,hth,hwk,rv1,q1,q2,q3⟩
  have hxk:=h.later ok hwk
  have hx1:UX w0 K w1 tk (xs++[⟨4,0,⟨#[]⟩⟩]) 0 (a:Int) ((a:Int)+1) rs [(gn,(hdl:Int))] rv1 gv:=hxk.recd ok q3 q1 q2
  have hth1:w1.heap[gr]?=some (ThG nothing tr):=hxk.keep ok (hxk.sub q3 (fun g hg=>by
   simp only[List.mem_cons,Option.mem_toList]at hg
   simp only[twr,List.mem_cons,List.mem_append,Option.mem_toList]
   rcases hg with e | e
   ·exact .inl e
   ·exact .inr (.inr (.inr e)))) hth (by decide) (by decide) (by decide) (by decide)
  refine⟨gr,rfl,?_⟩
  obtain⟨ga,cap,hgv,hga,_,hsl,_,hcap⟩:=hx1.gu.open vC_len (by simp)
  have hgc:w1.cell? ⟨ga,0,none⟩=some (caV gn):=by
   obtain⟨b9,o9,e9,_,hc9⟩:=hsl 0 _ rfl
   have e3:ga=b9∧0=o9:=by injection e9 with e9;injection e9 with e9 e2;exact⟨e9,e2⟩
   obtain⟨rfl,rfl⟩:=e3
   exact hc9 0 _ rfl
  have hgv1:gv=.slice (some ⟨ga,0,none⟩) 1 cap:=hgv
  have hgu0:ORow w1 w0.heap.size 322 1 vC (.slice (some ⟨ga,0,none⟩) 0 cap) []:=by
   have hq:ORow w1 w0.heap.size 322 1 vC (.slice (some ⟨ga,0,none⟩) [caV gn].length cap) [caV gn]:=by have h9:=hx1.gu;rw[hgv1]at h9;exact h9
   exact vrow_shrink hq (m:=0) (by omega)
  have hcap1:1≤cap:=by
   have h9:=hx1.gu
   rw[hgv1]at h9
   rcases h9.2 with ⟨e9,_⟩ | ⟨g9,c9,cur,e9,_,_,hl9,_⟩
   ·cases e9
   ·have e8:cap=c9:=by injection e9 with _ _ e9
    have h8:1≤c9:=by simpa using hl9
    omega
  have hgnb:=hx1.gb (gn,(hdl:Int)) (by simp)
  have hlow:Low (K.c 0 a ((a:Int)+1) (.slice (some ⟨ga,0,none⟩) 0 cap) rs):=⟨h.lr,H.rp.low hr4 hr5⟩
  refine (leave_catch K.gm K.gf gn gr ga cap (some K.ov) (K.c 0 a ((a:Int)+1) gv rs) .nilIface (fun w2 w'=>∃wk w5,ButL [K.gf] w2 wk∧CallAt wk K.gf (K.c 0 hdl hdl (.slice (some ⟨ga,0,none⟩) 0 cap) rs)∧(∃rv2,MachAt w5 K.gm (K.m tk rv2)∧ORow w5 w0.heap.size 113 5 rgC rv2 ((xs++[⟨4,0,⟨#[]⟩⟩])++[⟨5,0,⟨#[]⟩⟩])∧ButL (K.gm :: rv1.ownBlock.toList) wk w5)∧CallAt w' K.gf (K.c 0 hdl hdl (.slice (some ⟨ga,0,none⟩) 0 cap) ((rs.set 4 (sdV nothing)).set 5 (sdV (strD tr))))∧ButL [K.gf] w5 w') w1 hx1.cal hgv1 hcap1 hgc (hx1.ov ok) (fun w2 hb2 hc2=>?_)).mono ?_
  ·have hgu2:ORow w2 w0.heap.size 322 1 vC (.slice (some ⟨ga,0,none⟩) 0 cap) []:=ORow.butn hgu0 hb2 (fun g e hg=>by simp at hg;subst hg;exact own_ne hgu0 hx1.cal (by decide) e)
   have hx2:UX w0 K w2 tk (xs++[⟨4,0,⟨#[]⟩⟩]) 0 (a:Int) ((a:Int)+1) rs [] rv1 (.slice (some ⟨ga,0,none⟩) 0 cap):=hx1.guard ok (hb2.mono (fun g hg=>.inl (by simp at hg;subst hg;simp))) hc2 hgu2 (fun g hg=>by cases hg)
   have hth2:w2.heap[gr]?=some (ThG nothing tr):=hb2.blk hth1 (by simp;exact ne_ty hth1 hx1.cal (by decide))
   have hgn2:w2.heap[gn]?=some (CtO (hdl:Int) 0):=hb2.blk hgnb (by simp;exact ne_ty hgnb hx1.cal (by decide))
   refine (handleg_go K.gm K.gt K.gc K.gf gn gr (hdl:Int) nothing ⟨#[]⟩ tr (K.m tk rv1) (K.c 0 a ((a:Int)+1) (.slice (some ⟨ga,0,none⟩) 0 cap) rs) _ _ (K.gm :: rv1.ownBlock.toList) (fun wk w5=>∃rv2,MachAt w5 K.gm (K.m tk rv2)∧ORow w5 w0.heap.size 113 5 rgC rv2 ((xs++[⟨4,0,⟨#[]⟩⟩])++[⟨5,0,⟨#[]⟩⟩])∧ButL (K.gm :: rv1.ownBlock.toList) wk w5) w2 hx2.mac ok.run (hx2.tka ok) hx2.tsk hx2.cro hx2.cal hlow ok.pro hgn2 hth2 ?_ ?_ ?_ (fun W _=>told0 _ W) (fun wk hbk hck=>?_)).mono ?_
   ·simp only[List.mem_cons,Option.mem_toList,not_or]
    exact⟨hx2.mf.symm,own_ne hx2.rc hx2.cal (by decide)⟩
   ·simp only[List.mem_cons,Option.mem_toList,not_or]
    exact⟨ne_ty hgn2 hx2.mac (by decide),own_ne hx2.rc hgn2 (by decide)⟩
   ·simp only[List.mem_cons,Option.mem_toList,not_or]
    exact⟨ne_ty hth2 hx2.mac (by decide),own_ne hx2.rc hth2 (by decide)⟩
   ·rw[hcD_eq]at hck
    have hxk2:=hx2.call ok hbk hck h.lr
    refine (recg_go w0.heap.size K.gm ⟨5,0,⟨#[]⟩⟩ (K.m tk rv1) (xs++[(⟨4,0,⟨#[]⟩⟩:RcD)]) wk hxk2.mac ok.wat hxk2.rc (by simp;omega) hxk2.bel.size).mono ?_
    rintro e w' ⟨rfl,rv',p1,p2,p3⟩
    exact⟨rfl,p3,rv',p1,p2,p3⟩
   ·rintro e w' ⟨rfl,wk2,w5,p1,p2,p3,p4,p5,p6⟩
    rw[hcD_eq]at p2
    have p5':CallAt w' K.gf { K.c 0 hdl hdl (.slice (some ⟨ga,0,none⟩) 0 cap) rs with regs:=(rs.set 4 (sdV nothing)).set 5 (sdV (strD tr)) }:=by rw[hcD_eq]at p5;exact p5
    exact⟨rfl,wk2,w5,p1,p2,p4,p5',p6⟩
  ·rintro e w' ⟨rfl,w2,hb2,hc2,wk2,w5,p1,p2,⟨rv2,p3,p4,p5⟩,p6,p7⟩
   have hgu2:ORow w2 w0.heap.size 322 1 vC (.slice (some ⟨ga,0,none⟩) 0 cap) []:=ORow.butn hgu0 hb2 (fun g e hg=>by simp at hg;subst hg;exact own_ne hgu0 hx1.cal (by decide) e)
   have hx2:UX w0 K w2 tk (xs++[⟨4,0,⟨#[]⟩⟩]) 0 (a:Int) ((a:Int)+1) rs [] rv1 (.slice (some ⟨ga,0,none⟩) 0 cap):=hx1.guard ok (hb2.mono (fun g hg=>.inl (by simp at hg;subst hg;simp))) hc2 hgu2 (fun g hg=>by cases hg)
   have hx3:=hx2.call ok p1 p2 h.lr
   have hx4:UX w0 K w5 tk ((xs++[⟨4,0,⟨#[]⟩⟩])++[⟨5,0,⟨#[]⟩⟩]) 0 (hdl:Int) (hdl:Int) rs [] rv2 (.slice (some ⟨ga,0,none⟩) 0 cap):=hx3.recd ok p5 p3 p4
   have hx5:=hx4.call ok p7 p6 (by rw[List.length_set,List.length_set];exact h.lr)
   exact GoP.of H hx5 rfl rfl H.htk (by simp) ((H.rp.set (by omega) (r:=.emp) rfl).set (by omega) ⟨tr,rfl⟩) (fun _=>rfl) rfl
end
end Go.Proofs.YtkajknidfoelcaaGreatDoor.U
namespace Go.Proofs.YtkajknidfoelcaaGreatDoor.M
open Go.RowKit
theorem MX.next {w0:World} {K:MK} {w:World} {nt:Nat} {at' next:Int} {regs:List RD} {vs:List Value} {gs:List Nat} {tv gv:Value} (h:MX w0 K w nt at' next regs vs gs tv gv) (o:Obj) (z:Int):MX w0 K ((w.setCell ⟨K.gf,10,none⟩ (.int .i64 z)).alloc o) nt at' z regs vs gs tv gv:=by
 have hb:ButL [K.gf] w ((w.setCell ⟨K.gf,10,none⟩ (.int .i64 z)).alloc o):=((ButL.refl _ _).set (by simp) _ _).alloc o
 refine h.call hb ?_ h.lr
 have h9:=blk_set h.cal 10 (.int .i64 z)
 rw[CallD.set_next]at h9
 exact CallAt.later (c:=K.c at' z gv (regs.map RD.sd)) h9 (bw1 _ o)
theorem MachD.inst (m:MachD) {op:Nat} (hop:op<43):m.arr[14+op]?=instT[op]?:=by
 unfold MachD.arr
 have hl:instT.length=43:=rfl
 rw[List.getElem?_toArray,List.getElem?_append_left (by simp only[List.length_append,hl,List.length_cons,List.length_nil];omega),List.getElem?_append_left (by simp only[List.length_append,hl,List.length_cons,List.length_nil];omega),List.getElem?_append_right (by simp only[List.length_cons,List.length_nil];omega)]
 congr 1
 simp only[List.length_cons,List.length_nil]
 omega
end Go.Proofs.YtkajknidfoelcaaGreatDoor.M
namespace Go.Proofs.YtkajknidfoelcaaGreatDoor.U
open Go.RowKit M T
theorem uf1 (args:Array Value) (W:World):(callFunc 80 args).run Tryz.prog W=.ok (.enter 80 args) W:=by kernel_rfl
theorem uf3 (args:Array Value) (W:World):(callFunc 82 args).run Tryz.prog W=.ok (.enter 82 args) W:=by kernel_rfl
theorem uf4 (args:Array Value) (W:World):(callFunc 83 args).run Tryz.prog W=.ok (.enter 83 args) W:=by kernel_rfl
theorem uf18 (args:Array Value) (W:World):(callFunc 94 args).run Tryz.prog W=.ok (.enter 94 args) W:=by kernel_rfl
theorem uf28 (args:Array Value) (W:World):(callFunc 99 args).run Tryz.prog W=.ok (.enter 99 args) W:=by kernel_rfl
theorem uf30 (args:Array Value) (W:World):(callFunc 101 args).run Tryz.prog W=.ok (.enter 101 args) W:=by kernel_rfl
theorem uf41 (args:Array Value) (W:World):(callFunc 111 args).run Tryz.prog W=.ok (.enter 111 args) W:=by kernel_rfl
section
variable {w0:World} {K:UK} {kind n t a tk nr:Nat} {ln:Int} {rs:List M.SD} {gl:List (Nat × Int)} {i:ID} {s s':AS} {k:Nat} {w:World} {xs:List RcD} {rv gv:Value}
theorem do_u (ok:UKok w0 K) (con:Con w0 K) (hT:K.m0.ticks=(t:Int)) (H:Here kind n t a tk xs.length ln rs gl i s s' k) (h:UX w0 K w tk xs ln (a:Int) ((a:Int)+1) rs gl rv gv) :
  ∃(op fid:Nat),i.op=op∧op<43∧instT[op]?=some (.func (.func fid) #[] #[])∧(∀args W,(callFunc fid args).run Tryz.prog W=.ok (.enter fid args) W)∧Out w0 K kind n t a tk fid i w:=by
 by_cases h4:i.op=4
 ·exact⟨4,_,h4,by omega,rfl,uf4,.inl (u4 ok con H h4 h)⟩
 by_cases h5:i.op=5
 ·exact⟨5,_,h5,by omega,rfl,uf4,.inl (u5 ok H h5 h)⟩
 by_cases h40:i.op=40
 ·exact⟨40,_,h40,by omega,rfl,cf40,.inl (u40 ok H h40 h)⟩
 by_cases h1:i.op=1
 ·exact⟨1,_,h1,by omega,rfl,uf1,u1 ok hT H h1 h⟩
 by_cases h3:i.op=3
 ·exact⟨3,_,h3,by omega,rfl,uf3,u3 ok hT H h3 h⟩
 by_cases h22:i.op=22
 ·exact⟨22,_,h22,by omega,rfl,cf22,.inl (u22 ok H h22 h)⟩
 by_cases h28:i.op=28
 ·exact⟨28,_,h28,by omega,rfl,uf28,u28 ok hT H h28 h⟩
 by_cases h42:i.op=42
 ·exact⟨42,_,h42,by omega,rfl,cf42,.inl (u42 ok H h42 h)⟩
 by_cases h18:i.op=18
 ·exact⟨18,_,h18,by omega,rfl,uf18,u18 ok hT H h18 h⟩
 by_cases h31:i.op=31
 ·exact⟨31,_,h31,by omega,rfl,cf31,.inl (u31 ok H h31 h)⟩
 by_cases h30:i.op=30
 ·exact⟨30,_,h30,by omega,rfl,uf30,.inr (.inl (u30 ok H h30 h))⟩
 by_cases h41:i.op=41
 ·exact⟨41,_,h41,by omega,rfl,uf41,u41 ok hT H h41 h⟩
 by_cases h19:i.op=19
 ·exact⟨19,_,h19,by omega,rfl,cf19,.inl (u19 ok H h19 h)⟩
 ·exfalso
  have hd:=H.hd
  unfold absD at hd
  rw[if_neg h4,if_neg h5,if_neg h40,if_neg h1,if_neg h3,if_neg h22,if_neg h28,if_neg h42,if_neg h18,if_neg h31,if_neg h30,if_neg h41,if_neg h19]at hd
  cases hd
theorem UX.next {ax nx:Int} (ok:UKok w0 K) (h:UX w0 K w tk xs ln ax nx rs gl rv gv) (o:Obj) (z:Int):UX w0 K ((w.setCell ⟨K.gf,10,none⟩ (.int .i64 z)).alloc o).drew tk xs ln ax z rs gl rv gv:=by
 have hb:ButL [K.gf] w ((w.setCell ⟨K.gf,10,none⟩ (.int .i64 z)).alloc o).drew:=(((ButL.refl _ _).set (by simp) _ _).alloc o).drew
 refine h.call ok hb ?_ h.lr
 have h9:=blk_set h.cal 10 (.int .i64 z)
 rw[CallD.set_next]at h9
 exact CallAt.later (c:=K.c ln ax z gv rs) h9 (bw1 _ o).drew
theorem UX.drew {ax nx:Int} (ok:UKok w0 K) (h:UX w0 K w tk xs ln ax nx rs gl rv gv):UX w0 K w.drew tk xs ln ax nx rs gl rv gv:=h.call ok (ButL.refl _ _).drew h.cal h.lr
theorem UX.atW {ax nx:Int} (ok:UKok w0 K) (h:UX w0 K w tk xs ln ax nx rs gl rv gv) (z:Int):UX w0 K (w.setCell ⟨K.gf,9,none⟩ (.int .i64 z)) tk xs ln z nx rs gl rv gv:=by
 have hb:ButL [K.gf] w (w.setCell ⟨K.gf,9,none⟩ (.int .i64 z)):=(ButL.refl _ _).set (by simp) _ _
 refine h.call ok hb ?_ h.lr
 have:=blk_set h.cal 9 (.int .i64 z)
 rw[CallD.set_at]at this
 exact this
end
theorem run_u (w0:World) (K:UK) (ok:UKok w0 K) (con:Con w0 K) (kind n t:Nat) (tab:Tab kind n) (hct:cirT kind=true) (ht2:t≤200) (ht:K.m0.ticks=(t:Int)) (b off ci:Nat) (w:World) (hins:K.c0.ins=.slice (some ⟨b,off,none⟩) (cirI kind n).length ci) (hsl:SlA w0 5 ID.cells (some ⟨b,off,none⟩) (cirI kind n)) (nx:Int) (rv0 gv0:Value) (h:UX w0 K w 0 [] 0 0 nx R0 [] rv0 gv0) :
  Calls Tryz.prog 52 #[.pointer (some ⟨K.gm,0,none⟩),.pointer (some ⟨K.gf,0,none⟩)] w (OvP w0 K t):=by
 obtain⟨L,hL⟩:∃L,(cirI kind n).length=L:=⟨_,rfl⟩
 rw[hL]at hins
 have HL:Hid ((cirI kind n).length=L):=hL
 have HP0:Hid (Ph kind n t 0 0 0 0 R0 []):=by
  refine⟨by omega,by omega,?_,as0 kind,tab.st0,Reps.start kind,fun _=>rfl,rfl⟩
  have h1:=cirW_le kind n 0 hct
  have h2:=tab.jl
  unfold mu
  omega
 have HX0:Hid (UX w0 K w 0 [] 0 0 nx R0 [] rv0 gv0):=h
 have HSL:Hid (SlA w0 5 ID.cells (some ⟨b,off,none⟩) (cirI kind n)):=hsl
 have HOK:Hid (UKok w0 K):=ok
 have HCN:Hid (Con w0 K):=con
 have HT:Hid (K.m0.ticks=(t:Int)):=ht
 have HTB:Hid (Tab kind n∧cirT kind=true):=⟨tab,hct⟩
 clear h hsl ok con ht hL tab hct
 go_enter Tryz.func52,Tryz.ntmps52
 go_wp2_with fail
 go_loopw [] (fun wr=>∃(tk:Nat) (xs:List RcD) (at':Nat) (ln nx:Int) (rs:List M.SD) (gl:List (Nat × Int)) (rv gv:Value),Hid (UX w0 K wr tk xs ln at' nx rs gl rv gv)∧Hid (Ph kind n t at' tk xs.length ln rs gl)) (fun wr=>mu kind n t (intOf ((wr.cell? ⟨K.gm,12,none⟩).getD undef)).toNat (intOf ((wr.cell? ⟨K.gf,9,none⟩).getD undef)).toNat)
 case atStart=>exact⟨0,[],0,0,nx,R0,[],rv0,gv0,HX0,HP0⟩
 case round =>
  clear HX0 HP0
  obtain⟨tk,xs,at',ln,nx,rs,gl,rv,gv,HX,HP⟩:=hrel
  have hx:=HX.out
  obtain⟨i,s,s',k,hH⟩:=here_of HTB.out.1 HTB.out.2 HP.out
  obtain⟨nop,na,nb,nc,nd⟩:=i
  have hat:at'<L:=by rw[←HL.out];exact (List.getElem?_eq_some_iff.1 hH.hi).1
  have hJ:at'≤60:=Nat.le_trans hH.ha hH.tab.jl
  obtain⟨b',off',e0,hbl,hc⟩:=HSL.out at' ⟨nop,na,nb,nc,nd⟩ hH.hi
  have e1:b=b'∧off=off':=by injection e0 with e0;injection e0 with e1 e2;exact⟨e1,e2⟩
  obtain⟨rfl,rfl⟩:=e1
  have c6:wr.cell? ⟨K.gf,6,none⟩=some (.slice (some ⟨b,off,none⟩) L ci):=by rw[hx.cal.cell 6 (by omega),←hins];rfl
  have c9:wr.cell? ⟨K.gf,9,none⟩=some (.int .i64 (at':Int)):=by rw[hx.cal.cell 9 (by omega)];rfl
  have c10:wr.cell? ⟨K.gf,10,none⟩=some (.int .i64 nx):=by rw[hx.cal.cell 10 (by omega)];rfl
  have HM12:Hid (wr.cell? ⟨K.gm,12,none⟩=some (.int .i64 (tk:Int))):=by show _=_;rw[hx.mac.cell];rfl
  have i0:wr.cell? ⟨b,off+at'*5,none⟩=some (.int .i64 nop):=by have:=cell_later hx.bel (hc 0 _ rfl);simpa using this
  have i1:wr.cell? ⟨b,off+at'*5+1,none⟩=some (.int .i64 na):=cell_later hx.bel (hc 1 _ rfl)
  have i2:wr.cell? ⟨b,off+at'*5+2,none⟩=some (.int .i64 nb):=cell_later hx.bel (hc 2 _ rfl)
  have i3:wr.cell? ⟨b,off+at'*5+3,none⟩=some (.int .i64 nc):=cell_later hx.bel (hc 3 _ rfl)
  have i4:wr.cell? ⟨b,off+at'*5+4,none⟩=some (.int .i64 nd):=cell_later hx.bel (hc 4 _ rfl)
  have hfl:=blk_lt hx.cal
  have hbl2:b<wr.heap.size:=Nat.lt_of_lt_of_le hbl hx.bel.size
  have b1:(0:Int)≤(at':Int):=by omega
  have b2:(at':Int)<(L:Int):=by omega
  have b3:(at':Int)≤10000:=by omega
  have z9:=blk_frozen hx.cal
  have HC9:Hid _:=c9
  obtain⟨W2,hW2⟩:∃W2,((wr.setCell ⟨K.gf,10,none⟩ (.int .i64 ((at':Int)+1))).alloc (InO ⟨nop,na,nb,nc,nd⟩)).drew=W2:=⟨_,rfl⟩
  have hx2:UX w0 K W2 tk xs ln at' (at'+1) rs gl rv gv:=by rw[←hW2];exact hx.next HOK.out _ _
  have hx2d:=hx2.drew HOK.out
  have hbi:W2.heap[wr.heap.size]?=some (InO ⟨nop,na,nb,nc,nd⟩):=by rw[←hW2];exact blk_newn (by simp) _
  have d0:W2.cell? ⟨wr.heap.size,0,none⟩=some (.int .i64 nop):=by rw[blk_cell hbi];rfl
  have d1:W2.cell? ⟨wr.heap.size,1,none⟩=some (.int .i64 na):=by rw[blk_cell hbi];rfl
  have d2:W2.cell? ⟨wr.heap.size,2,none⟩=some (.int .i64 nb):=by rw[blk_cell hbi];rfl
  have d3:W2.cell? ⟨wr.heap.size,3,none⟩=some (.int .i64 nc):=by rw[blk_cell hbi];rfl
  have d4:W2.cell? ⟨wr.heap.size,4,none⟩=some (.int .i64 nd):=by rw[blk_cell hbi];rfl
  obtain⟨op,fid,hop,hop43,hT,hcf,hcall⟩:=do_u HOK.out HCN.out HT.out hH hx2d
  dsimp only at hop
  subst hop
  have mT:W2.cell? ⟨K.gm,14+op,none⟩=some (.func (.func fid) #[] #[]):=by rw[hx2.mac.cell,MachD.inst _ hop43,hT]
  have o1:(0:Int)≤(op:Int):=by omega
  have o2:(op:Int)<43:=by omega
  clear hx hx2 hx2d hc e0 hbi hT hop43 hH hJ
  rcases hcall with hcall | hcall | hcall
  ·have HCA:Hid (Calls Tryz.prog fid #[.pointer (some ⟨K.gm,0,none⟩),.pointer (some ⟨K.gf,0,none⟩),.agg #[.int .i64 (op:Int),.int .i64 na,.int .i64 nb,.int .i64 nc,.int .i64 nd]] W2.drew (GoP w0 K kind n t (mu kind n t tk at'))):=hcall
   clear hcall
   go_wp2_with fail
   go_region
   go_wp2_with fail
   clear hW2 c6 c9 c10 i0 i1 i2 i3 i4 z9
   go_region_with (refine (HCA.out).mono ?_;rintro e w3 ⟨rfl,tk',xs',at2,ln',ax,rs',gl',rv',gv',hx3,hp3,hmu⟩)
   all_goals
    have c10:w3.cell? ⟨K.gf,10,none⟩=some (.int .i64 (at2:Int)):=by rw[hx3.cal.cell 10 (by omega)];rfl
    have c9:w3.cell? ⟨K.gf,9,none⟩=some (.int .i64 ax):=by rw[hx3.cal.cell 9 (by omega)];rfl
    have z9:=blk_frozen hx3.cal
    have HX3:Hid (UX w0 K (w3.setCell ⟨K.gf,9,none⟩ (.int .i64 (at2:Int))) tk' xs' ln' at2 at2 rs' gl' rv' gv'):=hx3.atW HOK.out _
    have HP3:Hid (Ph kind n t at2 tk' xs'.length ln' rs' gl'):=hp3
    have HMU:Hid (mu kind n t tk' at2<mu kind n t tk at'):=hmu
    clear hx3 hp3 hmu
    go_wp2_with fail
    go_roundw
    case rel=>exact⟨tk',xs',at2,ln',_,rs',gl',rv',gv',HX3,HP3⟩
    case measure =>
     have h9:(w3.setCell ⟨K.gf,9,none⟩ (.int .i64 (at2:Int))).cell? ⟨K.gf,9,none⟩=some (.int .i64 (at2:Int)):=by rw[HX3.out.cal.cell 9 (by omega)];rfl
     have h12:(w3.setCell ⟨K.gf,9,none⟩ (.int .i64 (at2:Int))).cell? ⟨K.gm,12,none⟩=some (.int .i64 (tk':Int)):=by rw[HX3.out.mac.cell];rfl
     rw[h9,h12,HC9.out,HM12.out]
     simp only[Option.getD_some,intOf,Int.toNat_natCast]
     exact HMU.out
  ·have HCA:Hid (Calls Tryz.prog fid #[.pointer (some ⟨K.gm,0,none⟩),.pointer (some ⟨K.gf,0,none⟩),.agg #[.int .i64 (op:Int),.int .i64 na,.int .i64 nb,.int .i64 nc,.int .i64 nd]] W2.drew (ThP w0 K kind n t (mu kind n t tk at'))):=hcall
   clear hcall
   go_wp2_with fail
   go_region
   go_wp2_with fail
   clear hW2 c6 c9 c10 i0 i1 i2 i3 i4 z9
   go_region_with (refine (HCA.out).mono ?_;rintro e w3 ⟨gr,rfl,hlv⟩)
   all_goals
    have HLV:Hid (Calls Tryz.prog 132 #[.pointer (some ⟨K.gm,0,none⟩),.pointer (some ⟨K.gf,0,none⟩),.iface 146 (.pointer (some ⟨gr,0,none⟩))] w3 (GoP w0 K kind n t (mu kind n t tk at'))):=hlv
    clear hlv
    go_wp2_with fail
    refine (HLV.out).mono ?_
    rintro e w4 ⟨rfl,tk',xs',at2,ln',ax,rs',gl',rv',gv',hx3,hp3,hmu⟩
    have c10:w4.cell? ⟨K.gf,10,none⟩=some (.int .i64 (at2:Int)):=by rw[hx3.cal.cell 10 (by omega)];rfl
    have c9:w4.cell? ⟨K.gf,9,none⟩=some (.int .i64 ax):=by rw[hx3.cal.cell 9 (by omega)];rfl
    have z9:=blk_frozen hx3.cal
    have HX3:Hid (UX w0 K (w4.setCell ⟨K.gf,9,none⟩ (.int .i64 (at2:Int))) tk' xs' ln' at2 at2 rs' gl' rv' gv'):=hx3.atW HOK.out _
    have HP3:Hid (Ph kind n t at2 tk' xs'.length ln' rs' gl'):=hp3
    have HMU:Hid (mu kind n t tk' at2<mu kind n t tk at'):=hmu
    clear hx3 hp3 hmu
    go_wp2_with fail
    go_roundw
    case rel=>exact⟨tk',xs',at2,ln',_,rs',gl',rv',gv',HX3,HP3⟩
    case measure =>
     have h9:(w4.setCell ⟨K.gf,9,none⟩ (.int .i64 (at2:Int))).cell? ⟨K.gf,9,none⟩=some (.int .i64 (at2:Int)):=by rw[HX3.out.cal.cell 9 (by omega)];rfl
     have h12:(w4.setCell ⟨K.gf,9,none⟩ (.int .i64 (at2:Int))).cell? ⟨K.gm,12,none⟩=some (.int .i64 (tk':Int)):=by rw[HX3.out.mac.cell];rfl
     rw[h9,h12,HC9.out,HM12.out]
     simp only[Option.getD_some,intOf,Int.toNat_natCast]
     exact HMU.out
  ·have HCA:Hid (Calls Tryz.prog fid #[.pointer (some ⟨K.gm,0,none⟩),.pointer (some ⟨K.gf,0,none⟩),.agg #[.int .i64 (op:Int),.int .i64 na,.int .i64 nb,.int .i64 nc,.int .i64 nd]] W2.drew (OvP w0 K t)):=hcall
   clear hcall
   go_wp2_with fail
   go_region
   go_wp2_with fail
   clear hW2 c6 c9 c10 i0 i1 i2 i3 i4 z9
   go_region_with (refine (HCA.out).mono ?_;rintro e w3 ⟨rfl,hov⟩)
   all_goals
    have HOV:Hid (∃(xs:List RcD) (ln ax nx:Int) (rs:List M.SD) (gl:List (Nat × Int)) (rv gv:Value),UX w0 K w3 t xs ln ax nx rs gl rv gv):=hov
    have HLV:Hid (Calls Tryz.prog 132 #[.pointer (some ⟨K.gm,0,none⟩),.pointer (some ⟨K.gf,0,none⟩),.iface 487 (.pointer (some K.ov))] w3 fun e w'=>e=.returned (.iface 487 (.pointer (some K.ov)))∧w'=w3):=by
     obtain⟨_,_,_,_,_,_,_,_,hx9⟩:=hov
     exact leave_over _ K.gf K.ov w3 (hx9.ov HOK.out)
    clear hov
    unfold ovI
    go_wp2_with fail
    refine (HLV.out).mono ?_
    rintro e w4 ⟨rfl,rfl⟩
    go_wp2_with fail
    go_ret
    exact⟨rfl,HOV.out⟩
end Go.Proofs.YtkajknidfoelcaaGreatDoor.U
