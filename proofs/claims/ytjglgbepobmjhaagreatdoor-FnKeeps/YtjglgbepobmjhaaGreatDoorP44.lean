import Derived.Test.YtjglgbepobmjhaaGreatDoorP43
import Derived.Test.YtjglgbepobmjhaaGreatDoorP41
import Derived.Laws.LoneSync
import Derived.Conc.EventLaws
set_option linter.unusedVariables false
set_option linter.unusedSimpArgs false
set_option maxRecDepth 20000
set_option maxHeartbeats 8000000
namespace Go.Proofs.YtjglgbepobmjhaaGreatDoor.M
open Go.RowKit
def OvAt (w:World):Prop:=∃v,w.cell? ⟨2,0,none⟩=some (.iface 484 v)
theorem neq_ro (p:Option Addr) (v:Value) (w:World):(binOp BinOp.neq 60 (.iface 154 (.pointer p)) (.iface 484 v)).run Tryz.prog w=.ok (.bool true) w:=by kernel_rfl
theorem leave_ret (pm:Value) (g cap:Nat) (a p:Option Addr) (c:CallD) (w:World) (h:CallAt w g c) (hg:c.guards=.slice a 0 cap) (ho:OvAt w) :
  Calls Tryz.prog 130 #[pm,.pointer (some ⟨g,0,none⟩),.iface 154 (.pointer p)] w fun e w'=>e=.returned (.iface 154 (.pointer p))∧w'=w:=by
 obtain⟨v,hv⟩:=ho
 have c12:w.cell? ⟨g,12,none⟩=some (.slice a 0 cap):=by rw[h.cell 12 (by omega),←hg];rfl
 have hne:=neq_ro p v
 clear h
 go_enter Tryz.func130,Tryz.ntmps130
 go_wp2_with fail
 go_loopw [2] (fun s wr=>s=.iface 154 (.pointer p)∧wr=w) (fun _ _=>0)
 case atStart=>exact⟨rfl,rfl⟩
 case round =>
  obtain⟨rfl,rfl⟩:=hrel
  go_wp2_with fail
  go_ret
  exact⟨rfl,rfl⟩
theorem stepN_facts {n:ID} {s s':PS} (h:stepN n s=some s'):s.at'<s'.at'∧(s.nt≤9→s'.nt≤9)∧(s.ng≤50→s'.ng≤50):=by
 unfold stepN at h
 split at h
 ·split at h
  ·rename_i hc;cases h;exact⟨by simp,fun _=>by have:=hc.2.2;simp;omega,id⟩
  ·cases h
 split at h
 ·split at h
  ·rename_i hc;cases h;exact⟨by simp,id,fun _=>by simp;omega⟩
  ·cases h
 split at h
 ·split at h
  ·cases h;exact⟨by simp,id,id⟩
  ·cases h
 split at h
 ·split at h
  ·cases h;exact⟨by simp,id,id⟩
  ·cases h
 split at h
 ·split at h
  ·cases h;exact⟨by simp,id,fun _=>by simp;omega⟩
  ·cases h
 split at h
 ·split at h
  ·rename_i hc;cases h;exact⟨by have:=hc.1;simp;omega,id,id⟩
  ·cases h
 split at h
 ·split at h
  ·cases h;exact⟨by simp,id,id⟩
  ·cases h
 cases h
theorem MX.drew {w0:World} {K:MK} {w:World} {nt:Nat} {at' next:Int} {regs:List RD} {vs:List Value} {gs:List Nat} {tv gv:Value} (h:MX w0 K w nt at' next regs vs gs tv gv):MX w0 K w.drew nt at' next regs vs gs tv gv :=
 ⟨h.bel.drew,h.geM,h.geF,h.mac,h.cal,h.tsk,h.row,h.cha,h.gu,h.tb,h.sh,h.lg,h.lr⟩
theorem MX.next {w0:World} {K:MK} {w:World} {nt:Nat} {at' next:Int} {regs:List RD} {vs:List Value} {gs:List Nat} {tv gv:Value} (h:MX w0 K w nt at' next regs vs gs tv gv) (o:Obj) (z:Int):MX w0 K ((w.setCell ⟨K.gf,10,none⟩ (.int .i64 z)).alloc o) nt at' z regs vs gs tv gv:=by
 have hb:ButL [K.gf] w ((w.setCell ⟨K.gf,10,none⟩ (.int .i64 z)).alloc o):=((ButL.refl _ _).set (by simp) _ _).alloc o
 refine h.call hb ?_ h.lr
 have h9:=blk_set h.cal 10 (.int .i64 z)
 rw[CallD.set_next]at h9
 exact CallAt.later (c:=K.c at' z gv (regs.map RD.sd)) h9 (bw1 _ o)
theorem MachD.inst (m:MachD) {op:Nat} (hop:op<43):m.arr[14+op]?=instT[op]?:=by
 unfold MachD.arr
 have hl:instT.length=43:=rfl
 rw[List.getElem?_toArray,List.getElem?_append_left (by simp only[List.length_append,hl,List.length_cons,List.length_nil];omega),List.getElem?_append_left (by simp only[List.length_append,hl,List.length_cons,List.length_nil];omega),List.getElem?_append_right (by simp only[List.length_cons,List.length_nil];omega)]
 congr 1
 simp only[List.length_cons,List.length_nil]
 omega
theorem MX.atW {w0:World} {K:MK} {w:World} {nt:Nat} {at' next:Int} {regs:List RD} {vs:List Value} {gs:List Nat} {tv gv:Value} (h:MX w0 K w nt at' next regs vs gs tv gv) (z:Int):MX w0 K (w.setCell ⟨K.gf,9,none⟩ (.int .i64 z)) nt z next regs vs gs tv gv:=by
 have hb:ButL [K.gf] w (w.setCell ⟨K.gf,9,none⟩ (.int .i64 z)):=(ButL.refl _ _).set (by simp) _ _
 refine h.call hb ?_ h.lr
 have:=blk_set h.cal 9 (.int .i64 z)
 rw[CallD.set_at]at this
 exact this
theorem run_ok (w0:World) (K:MK) (ok:MKok K) (ins:List ID) (b off ci:Nat) (w:World) (hins:K.c0.ins=.slice (some ⟨b,off,none⟩) ins.length ci) (hsl:SlA w0 5 ID.cells (some ⟨b,off,none⟩) ins) (hov:OvAt w0) (hlen:ins.length≤100) (nx:Int) (tv0 gv0:Value) (h:MX w0 K w 0 0 nx ps0.regs [] [] tv0 gv0) (hrun:runP ins 12 ps0=true) :
  Calls Tryz.prog 50 #[.pointer (some ⟨K.gm,0,none⟩),.pointer (some ⟨K.gf,0,none⟩)] w fun e w'=>∃gr nt at' nx regs vs gs tv gv,e=.returned (.iface 154 (.pointer (some ⟨gr,0,none⟩)))∧w'.heap[gr]?=some (.cells #[.slice none 0 0] 156)∧MX w0 K w' nt at' nx regs vs gs tv gv:=by
 have HX0:Hid (MX w0 K w 0 0 nx ps0.regs [] [] tv0 gv0):=h
 have HR0:Hid (runP ins 12 ps0=true):=hrun
 have HSL:Hid (SlA w0 5 ID.cells (some ⟨b,off,none⟩) ins):=hsl
 have HOV:Hid (OvAt w0):=hov
 clear h hrun hsl hov
 go_enter Tryz.func50,Tryz.ntmps50
 go_wp2_with fail
 go_loopw [] (fun wr=>∃(k:Nat) (s:PS) (nx:Int) (vs:List Value) (gs:List Nat) (tv gv:Value),Hid (MX w0 K wr s.nt s.at' nx s.regs vs gs tv gv)∧Hid (vs.length=s.ng)∧Hid (runP ins k s=true)∧Hid (s.nt≤9∧s.ng≤50)) (fun wr=>100-(intOf ((wr.cell? ⟨K.gf,9,none⟩).getD undef)).toNat)
 case atStart=>exact⟨12,ps0,nx,[],[],tv0,gv0,HX0,rfl,HR0,by decide,by decide⟩
 case round =>
  clear HX0 HR0
  obtain⟨k,s,nx,vs,gs,tv,gv,HX,HV,HR,HN⟩:=hrel
  cases k with
  | zero=>exact absurd HR.out (by simp[runP])
  | succ k =>
   cases hn:ins[s.at']? with
   | none=>exact absurd HR.out (by simp[runP,hn])
   | some n =>
    have hx:=HX.out
    obtain⟨b',off',e0,hbl,hc⟩:=HSL.out s.at' n hn
    have e1:b=b'∧off=off':=by injection e0 with e0;injection e0 with e1 e2;exact⟨e1,e2⟩
    obtain⟨rfl,rfl⟩:=e1
    have hat:s.at'<ins.length:=(List.getElem?_eq_some_iff.1 hn).1
    have c6:wr.cell? ⟨K.gf,6,none⟩=some (.slice (some ⟨b,off,none⟩) ins.length ci):=by rw[hx.cal.cell 6 (by omega),←hins];rfl
    have c9:wr.cell? ⟨K.gf,9,none⟩=some (.int .i64 (s.at':Int)):=by rw[hx.cal.cell 9 (by omega)];rfl
    have c10:wr.cell? ⟨K.gf,10,none⟩=some (.int .i64 nx):=by rw[hx.cal.cell 10 (by omega)];rfl
    have i0:wr.cell? ⟨b,off+s.at'*5,none⟩=some (.int .i64 n.op):=by have:=cell_later hx.bel (hc 0 _ rfl);simpa using this
    have i1:wr.cell? ⟨b,off+s.at'*5+1,none⟩=some (.int .i64 n.a):=cell_later hx.bel (hc 1 _ rfl)
    have i2:wr.cell? ⟨b,off+s.at'*5+2,none⟩=some (.int .i64 n.b):=cell_later hx.bel (hc 2 _ rfl)
    have i3:wr.cell? ⟨b,off+s.at'*5+3,none⟩=some (.int .i64 n.c):=cell_later hx.bel (hc 3 _ rfl)
    have i4:wr.cell? ⟨b,off+s.at'*5+4,none⟩=some (.int .i64 n.d):=cell_later hx.bel (hc 4 _ rfl)
    have hfl:=blk_lt hx.cal
    have hbl2:b<wr.heap.size:=Nat.lt_of_lt_of_le hbl hx.bel.size
    have b1:(0:Int)≤(s.at':Int):=by omega
    have b2:(s.at':Int)<(ins.length:Int):=by omega
    have z9:=blk_frozen hx.cal
    have HC9:Hid _:=c9
    obtain⟨nop,na,nb,nc,nd⟩:=n
    obtain⟨W2,hW2⟩:∃W2,((wr.setCell ⟨K.gf,10,none⟩ (.int .i64 ((s.at':Int)+1))).alloc (InO ⟨nop,na,nb,nc,nd⟩)).drew=W2:=⟨_,rfl⟩
    have hx2:MX w0 K W2 s.nt s.at' (s.at'+1) s.regs vs gs tv gv:=by rw[←hW2];exact (hx.next _ _).drew
    have HX2:Hid (MX w0 K W2.drew s.nt s.at' (s.at'+1) s.regs vs gs tv gv):=hx2.drew
    have hbi:W2.heap[wr.heap.size]?=some (InO ⟨nop,na,nb,nc,nd⟩):=by rw[←hW2];exact blk_newn (by simp) _
    have d0:W2.cell? ⟨wr.heap.size,0,none⟩=some (.int .i64 nop):=by rw[blk_cell hbi];rfl
    have d1:W2.cell? ⟨wr.heap.size,1,none⟩=some (.int .i64 na):=by rw[blk_cell hbi];rfl
    have d2:W2.cell? ⟨wr.heap.size,2,none⟩=some (.int .i64 nb):=by rw[blk_cell hbi];rfl
    have d3:W2.cell? ⟨wr.heap.size,3,none⟩=some (.int .i64 nc):=by rw[blk_cell hbi];rfl
    have d4:W2.cell? ⟨wr.heap.size,4,none⟩=some (.int .i64 nd):=by rw[blk_cell hbi];rfl
    have HMc:Hid (MachAt W2 K.gm (K.m s.nt tv)):=hx2.mac
    have HRN:Hid (retN ⟨nop,na,nb,nc,nd⟩ s=true∨∃s',stepN ⟨nop,na,nb,nc,nd⟩ s=some s'∧runP ins k s'=true):=by
     have h1:=HR.out
     unfold runP at h1
     rw[hn]at h1
     simp only[Bool.or_eq_true]at h1
     rcases h1 with h1 | h1
     ·exact .inl h1
     ·cases hq:stepN ⟨nop,na,nb,nc,nd⟩ s with
      | none=>rw[hq]at h1;cases h1
      | some s'=>rw[hq]at h1;exact .inr ⟨s',rfl,h1⟩
    clear hx hx2 hc e0 hbi
    rcases HRN.out with hret | ⟨s',hst,hrn⟩
    ·have hcf:=cf29
     have hca:=do29 HX2.out hret
     have hop:nop=29:=by unfold retN at hret;simp only[Bool.and_eq_true,decide_eq_true_eq]at hret;exact hret.1.1.1.1
     have hng:s.ng=0:=by unfold retN at hret;simp only[Bool.and_eq_true,decide_eq_true_eq]at hret;exact hret.2
     subst hop
     have HCA:Hid (Calls Tryz.prog 98 #[.pointer (some ⟨K.gm,0,none⟩),.pointer (some ⟨K.gf,0,none⟩),.agg #[.int .i64 29,.int .i64 na,.int .i64 nb,.int .i64 nc,.int .i64 nd]] W2.drew (RetP w0 K s.nt s.at' vs gs tv gv)):=hca
     clear hca
     have mT:W2.cell? ⟨K.gm,43,none⟩=some (.func (.func 98) #[] #[]):=by rw[HMc.out.cell];rfl
     clear HRN
     go_wp2_with fail
     go_region
     go_wp2_with fail
     clear hW2 c6 c9 c10 i0 i1 i2 i3 i4 z9
     go_region_with (refine (HCA.out).mono ?_;rintro e w3 ⟨gr,regs',rfl,hgr,hb3,hx3⟩)
     all_goals
      have HB3:Hid _:=hb3
      have HX3:Hid _:=hx3
      obtain⟨ag,cg,hgv⟩:=hx3.gu.val
      have hv0:vs.length=0:=HV.out.trans hng
      rw[hv0]at hgv
      have hov:OvAt w3:=by
       obtain⟨v,hv⟩:=HOV.out
       exact⟨v,cell_later hx3.bel hv⟩
      have HL:Hid (Calls Tryz.prog 130 #[.pointer (some ⟨K.gm,0,none⟩),.pointer (some ⟨K.gf,0,none⟩),.iface 154 (.pointer (some ⟨gr,0,none⟩))] w3 fun e w'=>e=.returned (.iface 154 (.pointer (some ⟨gr,0,none⟩)))∧w'=w3):=leave_ret (.pointer (some ⟨K.gm,0,none⟩)) K.gf cg ag (some ⟨gr,0,none⟩) _ w3 hx3.cal hgv hov
      clear hb3 hx3 hov hgv
      go_wp2_with fail
      refine (HL.out).mono ?_
      rintro e w4 ⟨rfl,rfl⟩
      go_wp2_with fail
      go_ret
      exact⟨gr,_,_,_,_,_,_,_,_,rfl,HB3.out,HX3.out⟩
    ·have HST:Hid _:=hst
     have HRN':Hid (runP ins k s'=true):=hrn
     obtain⟨op,fid,hop,hop43,hT,hcf,hcall⟩:=do_any ok HX2.out HV.out HN.out.1 HN.out.2 hst
     dsimp only at hop
     subst hop
     have mT:W2.cell? ⟨K.gm,14+op,none⟩=some (.func (.func fid) #[] #[]):=by rw[HMc.out.cell,MachD.inst _ hop43,hT]
     have HCA:Hid (Calls Tryz.prog fid #[.pointer (some ⟨K.gm,0,none⟩),.pointer (some ⟨K.gf,0,none⟩),.agg #[.int .i64 (op:Int),.int .i64 na,.int .i64 nb,.int .i64 nc,.int .i64 nd]] W2.drew (DoP w0 K s.at' s')):=hcall
     have o1:(0:Int)≤(op:Int):=by omega
     have o2:(op:Int)<43:=by omega
     clear hcall hst hrn hT HRN
     go_wp2_with fail
     go_region
     go_wp2_with fail
     clear hW2 c6 c9 c10 i0 i1 i2 i3 i4 z9
     go_region_with (refine (HCA.out).mono ?_;rintro e w3 ⟨rfl,nx',vs',gs',tv',gv',hx3,hv3,hn3⟩;subst hn3)
     all_goals
      have c10:w3.cell? ⟨K.gf,10,none⟩=some (.int .i64 (s'.at':Int)):=by rw[hx3.cal.cell 10 (by omega)];rfl
      have c9:w3.cell? ⟨K.gf,9,none⟩=some (.int .i64 (s.at':Int)):=by rw[hx3.cal.cell 9 (by omega)];rfl
      have z9:=blk_frozen hx3.cal
      have HX3:Hid (MX w0 K (w3.setCell ⟨K.gf,9,none⟩ (.int .i64 (s'.at':Int))) s'.nt s'.at' s'.at' s'.regs vs' gs' tv' gv'):=hx3.atW _
      have HV3:Hid (vs'.length=s'.ng):=hv3
      clear hx3 hv3
      go_wp2_with fail
      go_roundw
      case rel =>
       have hf:=stepN_facts HST.out
       exact⟨k,s',_,vs',gs',tv',gv',HX3,HV3,HRN',hf.2.1 HN.out.1,hf.2.2 HN.out.2⟩
      case measure =>
       have hf:=(stepN_facts HST.out).1
       have h9:(w3.setCell ⟨K.gf,9,none⟩ (.int .i64 (s'.at':Int))).cell? ⟨K.gf,9,none⟩=some (.int .i64 (s'.at':Int)):=by rw[HX3.out.cal.cell 9 (by omega)];rfl
       rw[h9,HC9.out]
       simp[intOf]
       omega
end Go.Proofs.YtjglgbepobmjhaaGreatDoor.M
namespace Go.Proofs.YtjglgbepobmjhaaGreatDoor.M
open Go.RowKit
attribute [local go_sem] run_store_float
theorem textValues_nil (w:World):Calls Tryz.prog 49 #[.slice none 0 0] w fun e w'=>e=.returned (.slice none 0 0)∧Below w.heap.size w w':=by
 go_enter Tryz.func49,Tryz.ntmps49
 go_wp2_with fail
 go_loopw [3,8] (fun v i wr=>v=.slice none 0 0∧i=.int .i64 0∧wr=w) (fun _ _ _=>0)
 case atStart=>exact⟨rfl,rfl,rfl⟩
 case round =>
  obtain⟨rfl,rfl,rfl⟩:=hrel
  go_wp2_with fail
  go_ret
  exact⟨rfl,Below.refl _ _⟩
theorem ta_ret (v:Value) (w:World):(Instr.typeAssert (.iface 154 v) 60 154 true).run Tryz.prog w=.ok (.tuple #[v,.bool true]) w:=by kernel_rfl
def machT (pv:Value) (gk gt cap':Nat):MachD:={ mach0 pv 9 1 9 with tasks:=.slice (some ⟨gk,0,none⟩) 1 cap',running:=.pointer (some ⟨gt,0,none⟩) }
theorem runText_ok (w0 w:World) (gm gt gk gch cap' bp op capP b off:Nat) (ka:Array Value) (f:FC) (ins:List ID) (hm:MachAt w gm (machT (.slice (some ⟨bp,op,none⟩) 1 capP) gk gt cap')) (ht:w.heap[gt]?=some (.cells (taskA (.slice none 0 0) gch 2) 145)) (hc:w.heap[gch]?=some (.chan 0 #[] false 0 0 false)) (hk:w.heap[gk]?=some (.cells ka 97))
  (hbel:Below w0.heap.size w0 w) (g1:w0.heap.size≤gm) (g2:w0.heap.size≤gt) (hf:∀j v,f.cells[j]?=some v→w0.cell? ⟨bp,op+j,none⟩=some v) (hpar:f.d.params=0) (hrest:f.d.rest=false) (hi:f.d.ins=ins) (hai:f.ai=some ⟨b,off,none⟩) (hsl:SlA w0 5 ID.cells (some ⟨b,off,none⟩) ins) (hov:OvAt w0) (hlen:ins.length≤100) (hrun:runP ins 12 ps0=true) :
  Calls Tryz.prog 25 #[.pointer (some ⟨gm,0,none⟩)] w fun e w'=>e=.returned (.tuple #[])∧∃(m:MachD) (cv:Value),MachAt w' gm m∧m.code=0∧m.recs=.slice none 0 0∧m.vals=.slice none 0 0∧m.tasks=.slice (some ⟨gk,0,none⟩) 1 cap'∧w'.heap[gt]?=some (.cells (taskA cv gch 2) 145)∧w'.heap[gch]?=some (.chan 0 #[] false 0 0 false)∧w'.heap[gk]?=some (.cells ka 97)∧Below w0.heap.size w0 w':=by
 obtain⟨W,hW⟩:∃W,w.alloc (.cells #[.int .i64 0,.int .i64 0,.slice none 0 0] 151)=W:=⟨_,rfl⟩
 have hb:Below w.heap.size w W:=by rw[←hW];exact bw1 _ _
 have hfn:W.heap[w.heap.size]?=some (.cells #[.int .i64 0,.int .i64 0,.slice none 0 0] 151):=by rw[←hW];exact blk_new _ _
 have c1:W.cell? ⟨gm,1,none⟩=some (.slice none 0 0):=by rw[(hm.later hb).cell];rfl
 have HB:Hid (Below w.heap.size w W):=hb
 have HFN:Hid (W.heap[w.heap.size]?=some (.cells #[.int .i64 0,.int .i64 0,.slice none 0 0] 151)):=hfn
 have HM:Hid (MachAt w gm (machT (.slice (some ⟨bp,op,none⟩) 1 capP) gk gt cap')):=hm
 have HT:Hid (w.heap[gt]?=some (.cells (taskA (.slice none 0 0) gch 2) 145)):=ht
 have HC:Hid (w.heap[gch]?=some (.chan 0 #[] false 0 0 false)):=hc
 have HK:Hid (w.heap[gk]?=some (.cells ka 97)):=hk
 have HW0:Hid (Below w0.heap.size w0 w):=hbel
 have HF:Hid (∀j v,f.cells[j]?=some v→w0.cell? ⟨bp,op+j,none⟩=some v):=hf
 clear hb hfn hm ht hc hk hbel hf
 go_enter Tryz.func25,Tryz.ntmps25
 go_wp2_with fail
 refine (textValues_nil _).mono ?_
 rintro e w1 ⟨rfl,hx⟩
 have hb1:Below w.heap.size w w1:=HB.out.trans (hx.mono HB.out.size)
 have HB1:Hid (Below w.heap.size w w1):=hb1
 have HFN1:Hid _:=blk_later hx HFN.out
 clear hx c1
 go_wp2_with fail
 refine (open_any gm gt w.heap.size bp op gch 0 capP _ f w1 (MachAt.later HM.out HB1.out) rfl rfl (blk_later HB1.out HT.out) HFN1.out (fun j v hv=>cell_later (HW0.out.trans (HB1.out.mono HW0.out.size)) (HF.out j v hv)) hpar hrest).mono ?_
 rintro e w2 ⟨gf,gc,capc,rfl,hgf,hcal,ht2,hb2⟩
 have hmw1:MachAt w1 gm (machT (.slice (some ⟨bp,op,none⟩) 1 capP) gk gt cap'):=MachAt.later HM.out HB1.out
 have htw1:=blk_later HB1.out HT.out
 have hcw1:=blk_later HB1.out HC.out
 have hkw1:=blk_later HB1.out HK.out
 have hm2:MachAt w2 gm (machT (.slice (some ⟨bp,op,none⟩) 1 capP) gk gt cap'):=hmw1.but hb2 (by simp;exact ne_ty hmw1 htw1 (by decide))
 have hc2:=hb2.blk hcw1 (by simp;exact ne_chan htw1 hcw1)
 have hk2:=hb2.blk hkw1 (by simp;exact fun e=>ne_ty htw1 hkw1 (by decide) e.symm)
 have hbel2:Below w0.heap.size w0 w2:=hb2.below (HW0.out.trans (HB1.out.mono HW0.out.size)) (fun g hg=>by simp at hg;subst hg;exact g2) (by have:=HW0.out.size;have:=HB1.out.size;omega)
 have hX:MX w0 ⟨gm,gf,gt,gk,gch,taskA (.slice (some ⟨gc,0,none⟩) 1 capc) gch 2,ka,machT (.slice (some ⟨bp,op,none⟩) 1 capP) gk gt cap',call0 (.slice f.ai f.d.ins.length f.ci) (.slice f.ac f.d.consts.length f.cc)⟩ w2 0 0 0 ps0.regs [] [] (.slice none 0 0) (.slice none 0 0) :=
  ⟨hbel2,g1,(by have:=HW0.out.size;have:=HB1.out.size;show w0.heap.size≤gf;omega),hm2,(by
   show CallAt w2 gf _
   have e:(ps0.regs.map RD.sd)=List.replicate 250 sd0:=by show (List.replicate 250 RD.no).map RD.sd=_;rw[List.map_replicate];rfl
   rw[e]
   exact hcal),ht2,hk2,hc2,ORow.nil _ _ _ _ _,ORow.nil _ _ _ _ _,(fun g hg=>by cases hg),rfl,by simp[ps0]⟩
 have HR:Hid (Calls Tryz.prog 50 #[.pointer (some ⟨gm,0,none⟩),.pointer (some ⟨gf,0,none⟩)] w2 fun e w'=>∃gr nt at' nx regs vs gs tv gv,e=.returned (.iface 154 (.pointer (some ⟨gr,0,none⟩)))∧w'.heap[gr]?=some (.cells #[.slice none 0 0] 156)∧MX w0 ⟨gm,gf,gt,gk,gch,taskA (.slice (some ⟨gc,0,none⟩) 1 capc) gch 2,ka,machT (.slice (some ⟨bp,op,none⟩) 1 capP) gk gt cap',call0 (.slice f.ai f.d.ins.length f.ci) (.slice f.ac f.d.consts.length f.cc)⟩ w' nt at' nx regs vs gs tv gv) :=
  run_ok w0 _ ⟨rfl,rfl⟩ ins b off f.ci w2 (by show Value.slice f.ai f.d.ins.length f.ci=_;rw[hai,hi]) hsl hov hlen 0 _ _ hX hrun
 clear hX hcal ht2 hb2 hmw1 htw1 hcw1 hkw1 hm2 hc2 hk2 hbel2
 go_wp2_with fail
 refine HR.out.mono ?_
 rintro e w3 ⟨gr,nt,at',nx,regs,vs,gs,tv,gv,rfl,hgr,hX3⟩
 have c7:w3.cell? ⟨gm,7,none⟩=some (.int .i64 0):=by rw[hX3.mac.cell];rfl
 have z3:=blk_frozen hX3.mac
 have r0:w3.cell? ⟨gr,0,none⟩=some (.slice none 0 0):=by rw[blk_cell hgr];rfl
 have HX3:Hid _:=hX3
 have HGR:Hid _:=hgr
 have hta:=ta_ret
 have hmE:MachAt (w3.setCell ⟨gm,7,none⟩ (.int .i64 0)) gm { (MK.m ⟨gm,gf,gt,gk,gch,taskA (.slice (some ⟨gc,0,none⟩) 1 capc) gch 2,ka,machT (.slice (some ⟨bp,op,none⟩) 1 capP) gk gt cap',call0 (.slice f.ai f.d.ins.length f.ci) (.slice f.ac f.d.consts.length f.cc)⟩ nt tv) with code:=0 }:=by
  have h9:=blk_set HX3.out.mac 7 (.int .i64 0)
  rw[MachD.set_code]at h9
  exact h9
 have HE:Hid (∃(m:MachD) (cv:Value),MachAt (w3.setCell ⟨gm,7,none⟩ (.int .i64 0)) gm m∧m.code=0∧m.recs=.slice none 0 0∧m.vals=.slice none 0 0∧m.tasks=.slice (some ⟨gk,0,none⟩) 1 cap'∧(w3.setCell ⟨gm,7,none⟩ (.int .i64 0)).heap[gt]?=some (.cells (taskA cv gch 2) 145)∧(w3.setCell ⟨gm,7,none⟩ (.int .i64 0)).heap[gch]?=some (.chan 0 #[] false 0 0 false)∧(w3.setCell ⟨gm,7,none⟩ (.int .i64 0)).heap[gk]?=some (.cells ka 97)∧Below w0.heap.size w0 (w3.setCell ⟨gm,7,none⟩ (.int .i64 0))):=by
  refine⟨_,_,hmE,rfl,rfl,rfl,rfl,blk_other HX3.out.tsk (ne_ty HX3.out.mac HX3.out.tsk (by decide)) _ _,blk_other HX3.out.cha (fun e=>ne_chan HX3.out.mac HX3.out.cha e.symm) _ _,blk_other HX3.out.row (ne_ty HX3.out.mac HX3.out.row (by decide)) _ _,?_⟩
  exact HX3.out.bel.setCell (p:=⟨gm,7,none⟩) g1 _
 have HGR2:Hid ((w3.setCell ⟨gm,7,none⟩ (.int .i64 0)).heap[gr]?=some (.cells #[.slice none 0 0] 156)):=blk_other HGR.out (ne_ty HX3.out.mac HGR.out (by decide)) _ _
 obtain⟨W4,hW4⟩:∃W4,w3.setCell ⟨gm,7,none⟩ (.int .i64 0)=W4:=⟨_,rfl⟩
 rw[hW4]at HE HGR2
 have r1:W4.cell? ⟨gr,0,none⟩=some (.slice none 0 0):=by rw[blk_cell HGR2.out];rfl
 clear hX3 hgr HR hmE
 go_wp2_with fail
 go_loopw [38] (fun i wr=>i=.int .i64 0∧wr=W4) (fun _ _=>0)
 case atStart=>exact⟨rfl,rfl⟩
 case round =>
  obtain⟨rfl,rfl⟩:=hrel
  go_wp2_with fail
  exact bodyPost_end (v:=.tuple #[]) (by simp[results,Tryz.results25,go_sem]) rfl ⟨rfl,HE.out⟩
end Go.Proofs.YtjglgbepobmjhaaGreatDoor.M
namespace Go.Proofs.YtjglgbepobmjhaaGreatDoor.M
open Go.RowKit
attribute [local go_sem] run_store_float
theorem x_dis (W:World):(callFunc 133 #[]).run Tryz.prog W=.ok (.value (.tuple #[])) W:=by kernel_rfl
theorem x_ena (W:World):(callFunc 135 #[]).run Tryz.prog W=.ok (.value (.tuple #[])) W:=by kernel_rfl
theorem x_acq (g o:Nat) (W:World):(callFunc 136 #[.pointer (some ⟨g,o,none⟩)]).run Tryz.prog W=.ok (.value (.tuple #[])) W:=by kernel_rfl
theorem loadT_one (t:Extern.Atomic.T) (v:Value):Extern.Atomic.loadT t #[v]=(do Extern.Atomic.read t (←asAddr v)):=rfl
theorem x_ld (g o:Nat) (z:Int) (W:World) (h:W.cell? ⟨g,o,none⟩=some (.int .u64 z)):(callFunc 211 #[.pointer (some ⟨g,o,none⟩)]).run Tryz.prog W=.ok (.value (.int .u64 z)) W:=by
 have hf:=Tryz.func211
 have hn:(Tryz.f211.name == "runtime.NumGoroutine")=false:=by kernel_rfl
 have hb:Tryz.f211.body.isNone=true:=by kernel_rfl
 have h1:(Extern.findNext Tryz.f211).isNone=true:=by kernel_rfl
 have h1':Extern.findNext Tryz.f211=none:=Option.isNone_iff_eq_none.1 h1
 have h2:Extern.find Tryz.f211=some (Extern.Atomic.loadT (.int .u64)):=by kernel_rfl
 have hl:(Extern.Atomic.loadT (.int .u64) #[.pointer (some ⟨g,o,none⟩)]).run Tryz.prog W=.ok (.int .u64 z) W:=by
  rw[loadT_one]
  simp[Extern.Atomic.read,asAddr,go_sem,h]
 unfold callFunc
 have hmk:(Sem.mark (Mark.extern 211) (Sem.pure ())).run Tryz.prog W=.ok () W:=rfl
 simp[go_sem,hf,h1',h2,mark]
 rw[if_neg (by simpa using hn),if_pos (by simpa using hb),hmk]
 simp only[Result.andThen_ok]
 rw[hl]
 rfl
theorem uload_any (g o:Nat) (z:Int) (w:World) (h:w.cell? ⟨g,o,none⟩=some (.int .u64 z)) :
  Calls Tryz.prog 134 #[.pointer (some ⟨g,o,none⟩)] w fun e w'=>e=.returned (.int .u64 z)∧w'=w:=by
 have hx:=x_ld g o z w h
 go_enter Tryz.func134,Tryz.ntmps134
 go_wp2_with fail
 go_ret
 exact⟨rfl,rfl⟩
theorem wait_zero (g o:Nat) (w:World) (h:w.cell? ⟨g,o,none⟩=some (.int .u64 0)) :
  Calls Tryz.prog 53 #[.pointer (some ⟨g,o,none⟩)] w fun e w'=>e=.returned (.tuple #[])∧w'=w:=by
 have h1:=x_dis
 have h2:=x_ena
 have h3:=x_acq g o
 have h4:(convert 221 122 (.pointer (some ⟨g,o,none⟩))).run Tryz.prog w=.ok (.pointer (some ⟨g,o,none⟩)) w:=run_convert_to_unsafe (t:=107) Tryz.underlying221 Tryz.underlying122 (by kernel_rfl) h
 have h5:bits BinOp.and IntKind.u64 0 2147483647=0:=by kernel_rfl
 have h6:bits BinOp.and IntKind.u64 0 2147483648=0:=by kernel_rfl
 have HL:Hid (Calls Tryz.prog 134 #[.pointer (some ⟨g,o,none⟩)] w fun e w'=>e=.returned (.int .u64 0)∧w'=w):=uload_any g o 0 w h
 go_enter Tryz.func53,Tryz.ntmps53
 go_wp2_with fail
 go_loopw [] (fun wr=>wr=w) (fun _=>0)
 case atStart=>rfl
 case round =>
  obtain rfl:=hrel
  go_wp2_with fail
  refine HL.out.mono ?_
  rintro e w1 ⟨rfl,rfl⟩
  go_wp2_with fail
  exact bodyPost_ret (v:=.tuple #[]) (by simp[results,Tryz.results53,go_sem]) rfl ⟨rfl,rfl⟩
theorem stop_any (gm gt gk gch cap':Nat) (m:MachD) (cv:Value) (ka:Array Value) (w:World) (hm:MachAt w gm m) (hts:m.tasks=.slice (some ⟨gk,0,none⟩) 1 cap') (hk:w.heap[gk]?=some (.cells ka 97)) (hk0:ka[0]?=some (.pointer (some ⟨gt,0,none⟩))) (ht:w.heap[gt]?=some (.cells (taskA cv gch 2) 145)) (hc:w.heap[gch]?=some (.chan 0 #[] false 0 0 false)) :
  Calls Tryz.prog 26 #[.pointer (some ⟨gm,0,none⟩)] w fun e w'=>e=.returned (.tuple #[])∧MachAt w' gm m∧ButL [gch] w w':=by
 have c74:w.cell? ⟨gm,74,none⟩=some (.slice (some ⟨gk,0,none⟩) 1 cap'):=by rw[hm.cell,←hts];rfl
 have k0:w.cell? ⟨gk,0,none⟩=some (.pointer (some ⟨gt,0,none⟩)):=by rw[blk_cell hk];exact hk0
 have t9:w.cell? ⟨gt,9,none⟩=some (.chan (some gch)):=by rw[blk_cell ht];rfl
 have HM:Hid (MachAt w gm m):=hm
 have hcl:=blk_lt hc
 clear hm hk ht
 go_enter Tryz.func26,Tryz.ntmps26
 go_wp2_with fail
 go_loopw [9] (fun i wr=>(i=.int .i64 0∧wr=w)∨(i=.int .i64 1∧Hid (MachAt wr gm m)∧Hid (ButL [gch] w wr))) (fun i _=>1-(intOf i).toNat)
 case atStart=>exact .inl ⟨rfl,rfl⟩
 case round =>
  rcases hrel with ⟨rfl,rfl⟩ | ⟨rfl,HM2,HB2⟩
  ·have hcr:=run_close_open (P:=Tryz.prog) (w:=wr) #[141] 0 hc
   have HC:Hid (wr.heap[gch]?=some (.chan 0 #[] false 0 0 false)):=hc
   have HB2:Hid (ButL [gch] wr { wr with heap:=wr.heap.setIfInBounds gch (.chan 0 #[] true 0 0 false) }):=⟨rfl,rfl,rfl,by simp,fun k hk hn=>by
    show (wr.heap.setIfInBounds gch _)[k]?=_
    rw[Array.getElem?_setIfInBounds_ne (fun e=>hn (by simp[e]))]⟩
   have HM2:Hid (MachAt { wr with heap:=wr.heap.setIfInBounds gch (.chan 0 #[] true 0 0 false) } gm m):=MachAt.but HM.out HB2.out (by simp;exact fun e=>ne_chan HM.out HC.out e.symm)
   obtain⟨W2,hW2⟩:∃W2,({ wr with heap:=wr.heap.setIfInBounds gch (.chan 0 #[] true 0 0 false) }:World)=W2:=⟨_,rfl⟩
   rw[hW2]at HB2 HM2 hcr
   clear hW2 hc
   go_wp2_with fail
   go_roundw
   case rel=>exact .inr ⟨rfl,HM2,HB2⟩
   case measure=>simp[intOf]
  ·have c81:wr.cell? ⟨gm,81,none⟩=some (.int .u64 0):=by rw[MachAt.cell HM2.out];rfl
   have HWt:Hid (Calls Tryz.prog 53 #[.pointer (some ⟨gm,81,none⟩)] wr fun e w'=>e=.returned (.tuple #[])∧w'=wr):=wait_zero gm 81 wr c81
   clear c74 k0 t9 hc
   go_wp2_with fail
   refine HWt.out.mono ?_
   rintro e w1 ⟨rfl,rfl⟩
   go_wp2_with fail
   exact bodyPost_end (v:=.tuple #[]) (by simp[results,Tryz.results26,go_sem]) rfl ⟨rfl,HM2.out,HB2.out⟩
end Go.Proofs.YtjglgbepobmjhaaGreatDoor.M
